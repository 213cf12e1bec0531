import PyProof.Rows.All
import Wide.All
import OpenK.AllK
import Wide.FinOn
import HandS.ForMost
import HandS.Flow
import HandS.Wide
import HandS.StrMore
import HandS.StrSplit
import HandS.Codes
import PyProof.ReprRoads
import HandS.ExcInit
import HandS.IsInst
import KE.KExcInit
import HandS.MakeKw
import HandS.TryMany
import HandS.ExcField
import HandS.ExcIs
import KE.KExcIs
import HandS.ExcOwn
import HandS.ExcValue
import KE.KxText
import HandS.Walk
import KE.KDictZip
import KE.GoesZip
import KE.GoesMore
import KE.GoesNew
import HandS.Zip
import HandS.Style
import PyProof.StrBlock2
import HandS.Replace
import HandS.ReplaceDef
import PyProof.StrReplace2
import KE.KxField
import PyProof.FString
import PyProof.Rows.StrFirst
import HandS.RaiseMore
import PySem.Challenge.RW_cleanedtables_k03_days_read_and_written
set_option Elab.async false
set_option linter.all false
set_option maxRecDepth 100000
set_option maxHeartbeats 4000000
/-! Bs: what all our texts lean on: defs that ask for reprs (no guard stands on the stack), reprs of data, draws. -/
namespace Bs
open PySem PySem.Spec PyProof.Rows L2

/-! ### defs under an empty stack of guards -/
/-- a def's promise where no guard stands on the stack -/
structure FG (P : Program) (w : World) (K : PySem.W.Frag) (mg : Str → Option Value) (base : Heap) (k : Nat) (f : Addr) (fd : FuncData) (ps : List Str) (sp : Sp) : Prop where
  many : ∀ vs H Q E, sp vs H Q E → vs.length = ps.length
  goes : ∀ (A : Around) (outer : List Env) (s : Shared) (H : Hp) (args : Args) (us : List Value) (vs : List V) (Q : VK) (E : XK),
    A.guards = some [] → Room k A → Env0 P w K mg base A outer s H → BindsTo s fd args (ps.zip us) → Vals vs us → sp vs H Q E →
    codeAny (model P w) A (.call (.ref f) args) (CR CX0 outer P w H s Q E) s
theorem FG.of {P : Program} {w : World} {K : PySem.W.Frag} {mg : Str → Option Value} {base : Heap} {k : Nat} {f : Addr} {fd : FuncData} {ps : List Str} {sp : Sp}
    (F : FnOk P w K mg base CX0 k f fd ps sp) : FG P w K mg base k f fd ps sp :=
  ⟨F.len, fun A outer s H args us vs Q E _ => F.run A outer s H args us vs Q E⟩

section
variable {P : Program} {w : World} {K : PySem.W.Frag} {mg : Str → Option Value} {base : Heap} {x qual : Str} {st : Stmt} {f : Addr} {fd : FuncData} {N ps : List Str} {k : Nat} {sp : Sp}
theorem okG (F : Fun K x qual st f fd) (S : FnScope N ps (defScope st)) (many : ∀ vs H Q E, sp vs H Q E → vs.length = ps.length)
    (body : ∀ (cdv : Value) (A : Around) (outer : List Env) (s : Shared) (H : Hp) (vs : List V) (Q : VK) (E : XK), A.guards = some [] →
      Room k (A.deeper (envOfC qual (defScope st) s.heap.objs.size f cdv)) → sp vs H Q E →
      ∃ t, PSs (cxOf CX0 P w K mg base N qual (defScope st) f cdv A outer s H E).nox (defBody st) t ∧ t { nx := fun _ H' => Q .non H', rt := Q } (start N vs) H) :
    FG P w K mg base (k + 1) f fd ps sp := by
  obtain ⟨oc, od, kV, doc, pm, an, cdv, ct, osl, rfl, lk, hcd⟩ := F.ex
  constructor
  · exact many
  · intro A outer s H args us vs Q E ng hr e0 hb rv hsp
    have inK : K.In s.heap := e0.mod.kin.keeps fun b o q => (e0.bs b o q).1
    have noL : s.heap.NoLimit := e0.mod.nolimit.keeps fun b o q => (e0.bs b o q).1
    have kinds : ∀ y ∈ ps.zip us, (defScope st).names.lookup y.1 = some .local ∨ ((defScope st).names.lookup y.1 = some .cell ∧ ((cellsFrom (s.heap.objs.size + 1) (defScope st).names []).lookup y.1).isSome = true) := by
      rintro ⟨n, v⟩ hy
      cases S.par n (List.of_mem_zip hy).1 with
      | inl q => exact .inl q
      | inr q => exact .inr ⟨q, PySem.W.cellsFrom_some _ _ _ (.inl q)⟩
    apply codeAny_call_function hr.depth (inK _ _ lk) rfl S.co S.gen rfl (PySem.W.codeRec_of inK hcd)
    apply hb
    apply wpAny_newFunctionEnv_cells S.kind kinds
    intro env he s1 xx
    subst he
    refine ⟨noL.keeps xx.toInCall.keep, ?_⟩
    apply codeAny_func
    obtain ⟨t, ht, hq⟩ := body cdv A outer s H vs Q E ng (hr.deeper _) hsp
    have J : Inv (cxOf CX0 P w K mg base N qual (defScope st) f cdv A outer s H E) [] (start N vs) H s1 := inv_start S hr.hd e0 (many _ _ _ _ hsp) rv xx
    refine wpAny_mono (ht.nox.run [] s1 (start N vs) H _ J hq) ?_ (fun _ _ z => z)
    intro fl s' hs
    cases fl with
    | ret u =>
      obtain ⟨v, σ', H', J', r', q⟩ := hs
      exact ⟨v, H', J'.os, J'.bare, J'.base, J'.hok, r', q⟩
    | next =>
      obtain ⟨σ', H', J', q⟩ := hs
      exact ⟨V.non, H', J'.os, J'.bare, J'.base, J'.hok, (rfl : RelV V.non Value.none), q⟩
    | brk => exact hs.elim fun _ z => z.elim fun _ z => z.2.elim
    | cont => exact hs.elim fun _ z => z.elim fun _ z => z.2.elim
end

section
variable {X : Cx} {k : Nat} {f : Addr} {fd : FuncData} {ps : List Str} {sp : Sp} {dvs : List V} {ds : List Value} {x : Str} {p pos : Pos} {e : Expr} {es : List Expr} {t : TA}
/-- a call of such a def, where no guard stands -/
theorem callG (F : FG X.prog X.w X.K X.mg X.base k f fd ps sp) (ng : X.A.guards = some []) (hr : Room k X.A) (hg : Gl X x) (hm : X.mg x = some (.ref f)) (hk : PySem.W.keepIn X.K (.ref f) = true) (hb : Binds X.K fd ps ds) (hd : Vals dvs ds)
    (ha : PA X (e :: es) t) (hdb : (x == ("__debug__" : Str)) = false := by decide) (he : starEach (e :: es) X.env = (false, eval e X.env) :: starEach es X.env := by rfl) (hpl : (backTo pos (starEach es X.env)).any (·.1) = false := by rfl) :
    PE X (.Call (.Name x p) (e :: es) [] pos) (tCall sp dvs E0 t) := by
  constructor
  intro pins s σ H Q I h
  apply wpAny_Call_Name_kw
  apply ld_glob I hg hm _ hdb
  apply PySem.W.callWith_K (h₀ := X.base) I.ok.mod.kin hk _ he hpl
  apply thn (ha.run pos pins s σ H _ I h)
  rintro us s1 ⟨vs, H1, I1, r, q⟩
  refine ⟨I1.kIn, ?_⟩
  have r2 : Vals (vs ++ dvs) (us ++ ds) := r.append hd
  have hl : (us ++ ds).length = ps.length := by rw [← r2.length]; exact F.many _ _ _ _ q
  apply wpAny_call
  apply codeAny_mono (F.goes X.A X.stack s1 H1 ⟨us, []⟩ (us ++ ds) (vs ++ dvs) Q E0 ng hr I1.env0 (hb s1 us I1.kIn hl) r2 q)
  intro res s' hq
  match res, hq with
  | .error _, hq => exact hq.elim
  | .ok (.ret u), hq => exact I1.after hq
  | .ok .next, hq => exact hq.elim
  | .ok .brk, hq => exact hq.elim
  | .ok .cont, hq => exact hq.elim
end

/-! ### the end of a row over such a law -/
theorem endG {P : Program} {w : World} {K : PySem.W.Frag} {mg mb : Str → Option Value} {k : Nat} {fa a : Addr} {fd : FuncData} {x : Str} {sp : Sp} {s : Shared} {us : List Value} {ns : List Int}
    (inK : K.In s.heap) (gl : s.heap.Ns mainGlobals mg) (bu : s.heap.Ns builtinsNs mb) (buE : ∀ x : Str, x ≠ "__name__" → mb x = bootBuiltins x) (noL : s.heap.NoLimit) (noG : s.gens = #[])
    (at_ : s.heap.get? a = some { cls := .type "list", data := .seq us.toArray }) (iA : IntsAre us ns) (len : ns.length ≤ sizeLine) (room : Room k callerA)
    (F : ∀ base : Heap, K.In base → base.Ns mainGlobals mg → FG P w K mg base k fa fd [x] sp) (bnd : ∀ (s : Shared) (u : Value), BindsTo s fd ⟨[u], []⟩ [(x, u)])
    (want : ∀ H : Hp, Only H → SqL K H a (ns.map V.int) → sp [.ref a] H (fun v _ => v = .bl true) E0) :
    codeAny (model P w) callerA (.call (.ref fa) ⟨[.ref a], []⟩) (fun r s' => r = .ok (.ret (.bool true)) ∧ OldK s.heap s'.heap ∧ s'.os = s.os ∧ AllBare s'.gens) s := by
  have rv := vals_ints iA
  have lenV := iA.length
  have key : ∀ H : Hp, Only H → SqL K H a (ns.map V.int) → HOk P w H s.heap → (∀ b, b ≠ a → H b = none) → (K.lookup a ≠ none → H a = none) →
      codeAny (model P w) callerA (.call (.ref fa) ⟨[.ref a], []⟩) (fun r s' => r = .ok (.ret (.bool true)) ∧ OldK s.heap s'.heap ∧ s'.os = s.os ∧ AllBare s'.gens) s := by
    intro H oH sH okH one hK
    have nd : ∀ {b : Addr} {o : Obj} {es : Array DictEntry} {ep : Nat}, s.heap.get? b = some o → o.data = .dict es ep → H b = none := by
      intro b o es ep e d
      by_cases eb : b = a
      · rw [eb, at_] at e
        cases e
        exact nomatch (show Data.seq us.toArray _ = Data.dict es ep from d)
      · exact one b eb
    have nsH : ∀ {b : Addr} {m : Str → Option Value}, s.heap.Ns b m → (hidT s.heap H).Ns b m := by
      rintro b m ⟨o, es, ep, e, d, r⟩
      exact ⟨o, es, ep, hidT_get e (nd e d), d, r⟩
    have kH : K.In (hidT s.heap H) := by
      intro b o e
      apply hidT_get (inK b o e)
      by_cases eb : b = a
      · rw [eb]
        exact hK (by rw [← eb, e]; simp)
      · exact one b eb
    have md : Mod K mg (hidT s.heap H) := ⟨kH, nsH gl, ⟨mb, nsH bu, buE⟩, noL.elim fun mc q => ⟨mc, nsH q.1, q.2⟩⟩
    have e0 : Env0 P w K mg (hidT s.heap H) callerA [] s H :=
      { frames := rfl, mod := md, bs := fun b o e => of_hidT e, bsz := Nat.le_of_eq (hidT_size _ _), funs := trivial, frf := fun b hb => (nomatch (show b ∈ ([] : List Addr) from hb)), hok := okH, bare := .of_eq noG }
    apply codeAny_mono ((F _ kH (nsH gl)).goes callerA [] s H ⟨[.ref a], []⟩ [.ref a] [.ref a] _ _ rfl room e0 (bnd s (.ref a)) (.cons rfl .nil) (want H oH sH))
    intro r s' h
    match r, h with
    | .error e, h => exact h.elim
    | .ok .next, h => exact h.elim
    | .ok .brk, h => exact h.elim
    | .ok .cont, h => exact h.elim
    | .ok (.ret u), ⟨v, H', os, bare, un, ok', r', q⟩ =>
      have q' : v = .bl true := q
      subst q'
      have eu : u = Value.bool true := r'
      subst eu
      refine ⟨rfl, OldK.of_keep ?_, os, bare⟩
      intro b o e
      cases eb : H b with
      | none => exact un.keep b o e eb (fun z => (nomatch (show b ∈ ([] : List Addr) from z))) (by simp)
      | some u =>
        cases oH b with
        | inl z => rw [eb] at z; cases z
        | inr z =>
          obtain ⟨ob, xs, z⟩ := z
          have e1 := (okH b _ z).1
          have e2 := (ok' b _ (un.frzs b ob _ z)).1
          rw [e] at e1
          cases e1
          exact e2
  cases hk : K.lookup a with
  | some o =>
    have e := inK a o hk
    rw [at_] at e
    cases e
    apply key (fun _ => none) (fun _ => .inl rfl) _ (fun b u z => nomatch (show (none : Option HO) = some u from z)) (fun _ _ => rfl) (fun _ => rfl)
    exact .inr ⟨_, us.toArray, _, hk, rfl, rfl, rfl, by rw [List.size_toArray, lenV]; exact len, by simpa using rv⟩
  | none =>
    let fz : HO := .frz { cls := .type "list", data := .seq us.toArray } (.lst (ns.map V.int))
    apply key (fun b => if b = a then some fz else none)
    · intro b
      by_cases hb : b = a
      · exact .inr ⟨_, _, if_pos hb⟩
      · exact .inl (if_neg hb)
    · exact .inl (.inr ⟨_, if_pos rfl⟩)
    · intro b u z
      by_cases hb : b = a
      · have z' := (if_pos hb).symm.trans z
        cases z'
        subst hb
        exact ⟨at_, by rw [List.length_map]; exact len, us, _, rv, at_⟩
      · have z' := (if_neg hb).symm.trans z
        cases z'
    · intro b hb
      exact if_neg hb
    · intro z
      exact absurd hk z
theorem walkG {l : PySem.W.OpenLaw} {n k : Nat} {q : Program} {loose : List Str} {XP : (Str → Option Value) → Heap → Prop} {YP : World → Heap → Prop} {d : DefRec} {K : Params → PySem.W.Frag} {sp : PySem.W.Frag → Sp} {x : Str}
    (most : l.most = some n) (small : n ≤ sizeLine) (plain : d.params.defaults = []) (room : Room k callerA) (hY : ∀ (w : World) (h : Heap), YP w h → (K w.params).In h)
    (F : ∀ (w : World) (mg : Str → Option Value) (fa : Addr) (h : Heap), (K w.params).In h → h.Ns mainGlobals mg → mg d.name = some (.ref fa) →
      ∃ fd : FuncData, (∀ (s : Shared) (u : Value), BindsTo s fd ⟨[u], []⟩ [(x, u)]) ∧
        ∀ base : Heap, (K w.params).In base → base.Ns mainGlobals mg → FG l.prog w (K w.params) mg base k fa fd [x] (sp (K w.params)))
    (want : ∀ (K : PySem.W.Frag) (H : Hp) (a : Addr) (ns : List Int), ns.length ≤ n → Only H → SqL K H a (ns.map V.int) → sp K [.ref a] H (fun v _ => v = .bl true) E0) :
    PySem.W.WalkO q loose XP YP l.row.toRowW d [] (fun f vs => PySem.call f vs) := by
  apply Att.attach_call most plain
  intro w s₀ s₁ mg mb fa o pm cd doc a us ns G Y ho hd hcd hmg at_ iA len noG
  obtain ⟨fd, hb, hF⟩ := F w mg fa _ (hY w _ Y) G.T.g hmg
  exact endG (hY w _ Y) G.T.g G.T.b G.T.builtins G.T.nolimit noG at_ iA (Nat.le_trans len small) room hF hb fun H hO hS => want (K w.params) H a ns len hO hS

/-! ### a value is told by what is wanted of it, then what follows is shown once -/
theorem cutA {te : TE} {g : TG} {u : TS} {D : Ends} {σ : L2.St} {H : Hp} (W : V → Hp → Prop) (h1 : ∀ Q : VK, (∀ v H', W v H' → Q v H') → te σ H Q) (h2 : ∀ v H', W v H' → g v σ H' (u D)) : tSeq (tAsg te g) u D σ H := h1 _ h2
theorem cutT {t u : TS} {D : Ends} {σ : L2.St} {H : Hp} (W : L2.St → Hp → Prop) (h1 : ∀ N : L2.St → Hp → Prop, (∀ σ' H', W σ' H' → N σ' H') → t { D with nx := N } σ H) (h2 : ∀ σ' H', W σ' H' → u D σ' H') : tSeq t u D σ H := h1 _ h2

/-- a store; then «dsimp only» -/
theorem gN {i : Nat} {v : V} {σ : L2.St} {H : Hp} {N : L2.St → Hp → Prop} (h : N (σ.set i (some v)) H) : gName i v σ H N := h
/-- a comprehension without a test -/
theorem yes {σ : L2.St} {H : Hp} {F G : Hp → Prop} (h : F H) : tYes σ H (fun b H3 => if b = true then F H3 else G H3) := by
  show (if true = true then F H else G H)
  rw [if_pos rfl]
  exact h

/-! ### reprs of data -/
section
variable {X : Cx}
/-- repr(x), x a list or a tuple of data -/
theorem call_repr (ng : X.A.guards = some []) (hu : X.A.units + 64 < cLine) :
    CallR X (.builtin "repr") (fun xs H Q => ∃ x d, xs = [x] ∧ Dp X.K H x d ∧ isDisplay d = true ∧ d.showable = true ∧ d.hasDict = false ∧ d.depth < 60 ∧ d.shown.length ≤ sizeLine ∧ Q (.str d.shown) H) := by
  intro pins s σ H xs us Q I r h
  obtain ⟨x, d, rfl, dp, dis, sho, nod, dep, len, q⟩ := h
  cases r with
  | cons r1 r2 =>
    cases r2
    obtain ⟨as, rd⟩ := Dp.reads I d x _ dp r1
    obtain ⟨a, rfl⟩ := isRef_of_reads rd dis
    apply repr_of_reads' rd sho (PyData.noDict_hsm nod) ng (by omega) (fun _ _ e => e) _ len
    intro h' u tk kp
    exact ⟨.str d.shown, H, I.kept (h' := h') (t' := tk) kp, ⟨u, rfl⟩, q⟩
/-- x.ljust(i, c) -/
theorem mt_ljustF : MtR X "str.ljust" (fun x xs H Q => ∃ (a : Str) (i : Int) (c : Nat), x = .str a ∧ xs = [.int i, .str ⟨#[c]⟩] ∧ PadOk i = true ∧ Q (.str (Txt.ljustF a i c)) H) := by
  intro pins s σ H x xs v us Q I rx rs h
  obtain ⟨a, i, c, rfl, rfl, pad, q⟩ := h
  obtain ⟨t, rfl⟩ := rx
  cases rs with
  | cons r1 rs =>
    cases rs with
    | cons r2 rs =>
      cases rs
      obtain ⟨u, rfl⟩ := r1
      obtain ⟨z, rfl⟩ := r2
      apply ljust_fill pad rfl
      intro t' k
      exact ⟨.str _, H, I.tok k, ⟨t', rfl⟩, q⟩
end

/-! ### calls by names alone -/
section
variable {X : Cx} {CX : CXT} {k : Nat} {f : Addr} {fd : FuncData} {ps ks : List Str} {sp : Sp} {E : XK} {x : Str} {p pos : Pos} {kws : List Keyword} {tk : TA} {g : List Value → List Value → List Value} {gV : List V → List V → List V}
/-- f(k = v, ..) -/
theorem callK0 (F : FnOk X.prog X.w X.K X.mg X.base CX k f fd ps sp) (hr : Room k X.A) (hg : Gl X x) (hm : X.mg x = some (.ref f)) (hk : PySem.W.keepIn X.K (.ref f) = true) (hb : KBinds X.K fd ps ks g gV) (hx : Passes CX X E) (hkw : PK X kws tk)
    (hall : (backToKw pos (keywordEach kws X.env)).all (·.1.isSome) = true := by rfl) (hks : (backToKw pos (keywordEach kws X.env)).filterMap (·.1) = ks := by rfl) (hdb : (x == ("__debug__" : Str)) = false := by decide)
    (hpl : ((backTo pos (starEach [] X.env)).any (·.1) || (backToKw pos (keywordEach kws X.env)).any (·.1.isNone)) = false := by rfl) :
    PE X (.Call (.Name x p) [] kws pos) (tCallK sp gV E tNil tk) := by
  constructor
  intro pins s σ H Q I h
  apply wpAny_Call_Name_kw
  apply ld_glob I hg hm _ hdb
  apply PySem.W.callWith_KW0 (h₀ := X.base) I.ok.mod.kin hk hall _ hpl
  apply thn (hkw.run pos pins s σ H _ I h)
  rintro ws s2 ⟨zs, H2, I2, rz, q2⟩
  refine ⟨I2.kIn, ?_⟩
  rw [hks]
  exact run_fnk (us := []) (vs := []) F hr hb hx I2 .nil rz q2
end
/-- two parameters, told by their names the other way about -/
def swp {α : Type} : List α → List α → List α
  | [], [a, b] => [b, a]
  | _, _ => []
theorem kb_swp {K : PySem.W.Frag} {x qual : Str} {st : Stmt} {f : Addr} {fd : FuncData} {p1 p2 : Str} (F : Fun K x qual st f fd)
    (h : ∀ (kV doc pm : Value) (an : Option Addr) (cdv ct : Value) (a b : Value), bindArgs (PySem.W.fnOf x qual (defArgs st) (defBody st) (defScope st) .none kV doc pm an cdv ct) ⟨[], [(p2, a), (p1, b)]⟩ = pure [(p1, b), (p2, a)]) :
    KBinds K fd [p1, p2] [p2, p1] swp swp := by
  obtain ⟨oc, od, kV, doc, pm, an, cdv, ct, osl, rfl, lk, hcd⟩ := F.ex
  constructor
  · intro s us ws _ hl
    match us, ws, hl with
    | [], [a, b], _ => exact .of_eq (h kV doc pm an cdv ct a b)
    | [], [], hl => exact absurd hl (by simp [swp])
    | [], [_], hl => exact absurd hl (by simp [swp])
    | [], _ :: _ :: _ :: _, hl => exact absurd hl (by simp [swp])
    | _ :: _, _, hl => exact absurd hl (by simp [swp])
  · intro vs us zs ws h1 h2
    cases h1 with
    | nil =>
      cases h2 with
      | nil => exact .nil
      | cons a h2 =>
        cases h2 with
        | nil => exact .nil
        | cons b h2 =>
          cases h2 with
          | nil => exact .cons b (.cons a .nil)
          | cons c h2 => exact .nil
    | cons a h1 =>
      cases h2 with
      | nil => exact .nil
      | cons b h2 => exact .nil
/-! ### the text of a list of two -/
theorem two_text (t u : Str) : (listText [t, u]).length = t.length + u.length + 4 := by
  have e : listText [t, u] = ((((Str.ofString "[" ++ Str.ofString "") ++ t) ++ Str.ofString ", ") ++ u) ++ Str.ofString "]" := rfl
  rw [e, TL.len_tl]
  simp only [TL.tl_append, List.length_append]
  rw [show (TL.tl (Str.ofString "[")).length = 1 by decide +kernel, show (TL.tl (Str.ofString "")).length = 0 by decide +kernel, show (TL.tl (Str.ofString ", ")).length = 2 by decide +kernel, show (TL.tl (Str.ofString "]")).length = 1 by decide +kernel, ← TL.len_tl, ← TL.len_tl]
  omega
theorem two_small {t : Str} {d : PyData} (e : d.shown = t) (h : t.length ≤ 1000) : (PyData.list [d, d]).shown.length ≤ sizeLine := by
  simp only [PyData.shown, PyData.shownAll, e]
  rw [two_text]
  exact Nat.le_trans (show _ ≤ 3000 by omega) (by decide)
end Bs
set_option Elab.async false
set_option linter.all false
set_option maxRecDepth 100000
set_option maxHeartbeats 4000000
/-! Xc: exceptions of the program's own, over ValueError, LookupError or RuntimeError, with own classes between, made and held as values: stored into by their own __init__, read, asked for their class. -/
namespace PySem
namespace XcW
open PySem.W PySem.Calls PyProof.Rows Builtin Builtin.ObjectAttr
section
variable {prog : Program} {w : World} {A : Around} {R : Result → Shared → Prop} {hp : Heap} {g : Array GenState} {d : Drawn} {t : Nat} {os : OsState} {K : Frag} {x C : Addr} {fv : Array Value} {name : Str} {tk : Tok} {v : Value} {B : String} {bmB : List Value}
/-- the first field -/
theorem store1 (SF : StoreFacts B bmB "object.__setattr__" "object") (inK : K.In hp) (hx : hp.get? x = some { cls := .ref C, data := .fields fv }) (ov : excOver K C bmB = true) (tn : takerIn K C name = some none) (hd : hasDictIn K C = true)
    (go : ∀ h' tk' dx, (∀ b o, b ≠ x → hp.get? b = some o → h'.get? b = some o) → hp.objs.size ≤ dx → dx ≠ x → h'.get? x = some { cls := .ref C, dict := some dx, data := .fields fv } →
      h'.Ns1 dx (fun y => if y = name then some v else none) → R (.ok (.ret .none)) ⟨h', g, d, tk', os⟩) :
    codeAny (model prog w) A (.call (.builtin "object.__setattr__") ⟨[.ref x, .str name tk, v], []⟩) R ⟨hp, g, d, t, os⟩ := by
  apply osa_openX (od := none) SF inK ⟨hx, rfl, rfl, trivial⟩ ov tn
  intro b
  obtain ⟨cd, hc, hd'⟩ := any_some hd
  have away : x ≠ hp.objs.size := Nat.ne_of_lt (Heap.lt_size hx)
  have cls : Looks (model prog w) hp (classData C) cd := looks_clsIn inK hc
  show wpAny _ _ (storeInOwnDict (.ref x) (.ref C) (.str name tk) name v b) _ _ _
  obtain ⟨nm, bs, mro, ns, qn, hdd, sn, sb, ab, col, del⟩ := cd
  have e : hdd = true := hd'
  subst e
  unfold storeInOwnDict ownDictForStores
  repeat (first | with_reducible refine HandSPX.store_in_new ?_ ?_ | with_reducible refine wpAny_loadPart_at hx ?_ | with_reducible refine cls.at ?_ | wp_step)
  · exact ⟨_, #[], _, (Heap.get?_update_ne _ _ _ _ away.symm).trans (Heap.get?_push_at rfl rfl), rfl, (fun e he => absurd he (by simp)), (fun _ => rfl)⟩
  · intro h' tk' hn' hs
    have hx1 : (hp.push { cls := .type "dict", data := .dict #[] }).get? x = some { cls := .ref C, data := .fields fv } := Heap.get?_push_of_some _ hx
    apply go h' tk' hp.objs.size _ (Nat.le_refl _) away.symm _ hn'
    · intro b o hb ho
      exact (hs.2 b (Nat.ne_of_lt (Heap.lt_size ho))).trans ((Heap.get?_update_ne _ _ _ _ hb).trans (Heap.get?_push_of_some _ ho))
    · exact (hs.2 x away).trans (Heap.get?_update_self _ hx1 rfl)
/-- a further field -/
theorem store2 {dx : Addr} {m0 : Str → Option Value} {nl : List Str} (SF : StoreFacts B bmB "object.__setattr__" "object") (inK : K.In hp) (hx : hp.get? x = some { cls := .ref C, dict := some dx, data := .fields fv }) (hns : hp.Ns1 dx m0) (hw : Within m0 nl) (few : nl.length ≤ 1000)
    (ov : excOver K C bmB = true) (tn : takerIn K C name = some none) (hd : hasDictIn K C = true)
    (go : ∀ h' tk', (∀ b o, b ≠ dx → hp.get? b = some o → h'.get? b = some o) → h'.Ns1 dx (fun y => if y = name then some v else m0 y) → R (.ok (.ret .none)) ⟨h', g, d, tk', os⟩) :
    codeAny (model prog w) A (.call (.builtin "object.__setattr__") ⟨[.ref x, .str name tk, v], []⟩) R ⟨hp, g, d, t, os⟩ := by
  obtain ⟨oD, _, _, hoD, _, _⟩ := hns.count hw
  apply osa_openX (od := some oD) SF inK ⟨hx, rfl, rfl, hoD⟩ ov tn
  intro b
  obtain ⟨cd, hc, hd'⟩ := any_some hd
  have cls : Looks (model prog w) hp (classData C) cd := looks_clsIn inK hc
  show wpAny _ _ (storeInOwnDict (.ref x) (.ref C) (.str name tk) name v b) _ _ _
  obtain ⟨nm, bs, mro, ns, qn, hdd, sn, sb, ab, col, del⟩ := cd
  have e : hdd = true := hd'
  subst e
  unfold storeInOwnDict ownDictForStores
  repeat (first | with_reducible refine OEX.store_in_old hns hw few ?_ | with_reducible refine wpAny_loadPart_at hx ?_ | with_reducible refine cls.at ?_ | wp_step)
  intro h' tk' hn' hs
  exact go h' tk' (fun b o hb ho => (hs.2 b hb).trans ho) hn'
end
end XcW
end PySem
namespace Xc
open PySem PySem.Spec PyProof.Rows L2 Bs
/-- what the written part says of such a class -/
structure Cl (K : PySem.W.Frag) (C : Addr) (B newId initId : String) (bmB : List Value) : Prop where
  F : ExcBaseFacts B newId initId bmB
  SF : StoreFacts B bmB "object.__setattr__" "object"
  ini : PySem.W.excInitIn K C bmB newId = true
  ov : PySem.W.excOver K C bmB = true
  hd : PySem.W.hasDictIn K C = true
  sa : PySem.W.findIn K (.ref C) "__setattr__" = some (some (.builtin "object.__setattr__"))
  ga : PySem.W.findIn K (.ref C) "__getattribute__" = some (some (.builtin "BaseException.__getattribute__"))
  gg : PySem.W.findIn K (.ref C) "__getattr__" = some none
  ex : PySem.W.subIn K (.ref C) (.type "BaseException") = some true
  ty : PySem.W.typeIn K (.ref C) = some (.type "type")
  kp : PySem.W.keepIn K (.ref C) = true
section
variable {X : Cx} {pins : List (Addr × Obj)} {σ : L2.St} {H : Hp} {s : Shared} {a C dx : Addr} {f : Str} {y : V} {u : Value} {fs : List (Str × V)} {Q : Unit → Shared → Prop} {E : Value → Shared → Prop} {A : Around} {B newId initId : String} {bmB : List Value}
theorem put1 (T : Cl X.K C B newId initId bmB) (I : Inv X pins σ H s) (e : H a = some (exo a C none)) (tn : PySem.W.takerIn X.K C f = some none) (ry : RelV y u)
    (go : ∀ dx s', H dx = none → dx ≠ a → Inv X pins σ (upd (upd H dx (exd dx [(f, y)])) a (exo a C (some dx))) s' → Q () s') : wpAny (model X.prog X.w) A (setAttr (.ref a) f u) Q E s := by
  obtain ⟨t1, ho⟩ := exo_at I.hok e
  obtain ⟨hp, g, d, t, os⟩ := s
  apply PySem.W.set_plain I.kIn (ox := { cls := .ref C, dict := none, data := .fields #[.ref t1, .none, .none, .none, .bool false, .none] }) (od := none) ⟨ho, rfl, rfl, trivial⟩ T.sa
  apply PySem.XcW.store1 T.SF I.kIn ho T.ov tn T.hd
  intro h' tk' dx k dn dne hx hn
  have fresh : H dx = none := I.hok.fresh dn
  have offd : ∀ {b : Addr} {o : Obj}, hp.get? b = some o → b ≠ dx := fun {b o} q => Nat.ne_of_lt (Nat.lt_of_lt_of_le (Heap.lt_size q) dn)
  have offa : ∀ {b : Addr}, H b = none → b ≠ a := by
    intro b n z
    rw [z, e] at n
    cases n
  have un : Un X.fs [] H (upd (upd H dx (exd dx [(f, y)])) a (exo a C (some dx))) hp h' := by
    constructor
    · exact fun b o q n _ _ => k b o (offa n) q
    · exact fun b o q n _ _ => ⟨o.slots, k b o (offa n) q⟩
    · intro b o q n _
      rw [upd_ne (offa n), upd_ne (offd q)]
      exact n
    · intro b o q _
      by_cases hb : b = a
      · exact ⟨_, by rw [hb]; exact hx⟩
      · exact ⟨o, k b o hb q⟩
    · intro b xs q
      rw [upd_ne (at_ne e q exo_tup), upd_ne (ne_of_none q fresh)]
      exact q
    · intro b o v q
      rw [upd_ne (at_ne e q exo_frz), upd_ne (ne_of_none q fresh)]
      exact q
    · intro b ps q
      exact ⟨#[], by rw [upd_ne (at_ne e q exo_tbl), upd_ne (ne_of_none q fresh), q]; simp⟩
  apply go dx _ fresh dne
  apply I.un (t' := tk') un
  intro b o q
  by_cases hb : b = a
  · subst hb
    rw [upd_same] at q
    cases q
    exact exo_ok hx
  · rw [upd_ne hb] at q
    by_cases hd : b = dx
    · subst hd
      rw [upd_same] at q
      cases q
      exact exd_ok hn (relO_put (fs := []) ry fun g => True.intro)
    · rw [upd_ne hd] at q
      apply (I.hok b o q).stay
      · intro c v hc z
        apply k c v _ z
        cases hc with
        | inl hc =>
          rw [hc]
          exact hb
        | inr hc => exact at_ne e hc exo_own
      · intro c hc
        rw [upd_ne (at_ne e hc exo_own), upd_ne (ne_of_none hc fresh)]
        exact hc
      · intro c xs hc
        rw [upd_ne (at_ne e hc exo_tup), upd_ne (ne_of_none hc fresh)]
        exact hc
theorem put2 (T : Cl X.K C B newId initId bmB) (I : Inv X pins σ H s) (e : H a = some (exo a C (some dx))) (ed : H dx = some (exd dx fs)) (few : fs.length ≤ 900) (tn : PySem.W.takerIn X.K C f = some none) (ry : RelV y u)
    (go : ∀ s', Inv X pins σ (upd H dx (exd dx ((f, y) :: fs))) s' → Q () s') : wpAny (model X.prog X.w) A (setAttr (.ref a) f u) Q E s := by
  obtain ⟨t1, ho⟩ := exo_at I.hok e
  obtain ⟨mA, hns, rel⟩ := exd_at I.hok ed
  have hw := within_of rel
  obtain ⟨hp, g, d, t, os⟩ := s
  obtain ⟨oD, _, _, hoD, _, _⟩ := hns.count hw
  apply PySem.W.set_plain I.kIn (ox := { cls := .ref C, dict := some dx, data := .fields #[.ref t1, .none, .none, .none, .bool false, .none] }) (od := some oD) ⟨ho, rfl, rfl, hoD⟩ T.sa
  apply PySem.XcW.store2 T.SF I.kIn ho hns hw (by rw [List.length_map]; omega) T.ov tn T.hd
  intro h' tk' k hn
  have hd : ∃ o, h'.get? dx = some o := by
    obtain ⟨o, _, _, e', _⟩ := hn
    exact ⟨o, e'⟩
  apply go
  exact I.write (t' := tk') (x := dx) (e := dx) (o := exd dx ((f, y) :: fs)) (by rw [ed]; exact True.intro) (.inl rfl) k hd (exd_ok hn (relO_put ry rel))
end
end Xc
set_option Elab.async false
set_option linter.all false
set_option maxRecDepth 100000
set_option maxHeartbeats 4000000
/-! Xd: such exceptions made by places and by names. -/
namespace PySem
namespace XcW
open PySem.W PySem.Calls PyProof.Rows Builtin Builtin.ObjectAttr
section
variable {M : Model} {A : Around} {E : Value → Shared → Prop} {hp : Heap} {g : Array GenState} {d : Drawn} {t : Nat} {os : OsState}
variable {nm qn : Str} {C N : Addr} {bs bm bmB : List Value} {hdct : Bool} {sn : List Str} {sub : List Value} {ab : Bool} {col : Option Bool} {dd : Option Addr} {k0 k1 k2 k3 k5 : Option Value} {B newId initId : String} {us : List Value} {kw : List (Str × Value)}
theorem newCheck (F : ExcBaseFacts B newId initId bmB) (alike : ∀ Y : String, bm.contains (.type Y) = bmB.contains (.type Y)) {Q : Unit → Shared → Prop}
    (atC : hp.get? C = some (excClassObj nm qn C N bs bm hdct sn sub ab col dd k0 k1 k2 k3 k5 newId)) (go : Q () ⟨hp, g, d, t, os⟩) :
    wpAny M A (checkBuiltinCall newId ⟨.ref C :: us, kw⟩) Q E ⟨hp, g, d, t, os⟩ := by
  have below : (Value.ref C :: bm).contains (.type B) = true := by
    rw [List.contains_cons, alike, F.hasB]
    exact Bool.or_true _
  have star := F.noStar
  simp only [checkBuiltinCall, F.newRow, F.newSplit, F.newKind]
  repeat (first | refine wpAny_staticBase_exc atC ?_ | refine wpAny_madeBy_exc atC ?_ | refine wpAny_loadPart_at atC ?_ | (refine wpAny_isSubtype_exc atC ?_; rw [below]) | simp only [bne_self_eq_false, Bool.false_eq_true, if_false] | wp_step)
  exact go
theorem tcCheck {Q : Unit → Shared → Prop} (atC : hp.get? C = some (excClassObj nm qn C N bs bm hdct sn sub ab col dd k0 k1 k2 k3 k5 newId))
    (go : Q () ⟨hp, g, d, t, os⟩) : wpAny M A (checkBuiltinCall "type.__call__" ⟨.ref C :: us, kw⟩) Q E ⟨hp, g, d, t, os⟩ := by
  have g3 := tc_sub
  have isT : (⟨hp, g, d, t, os⟩ : Shared).TypeIs (.ref C) "type" := ⟨_, atC, rfl⟩
  simp only [checkBuiltinCall, tc_split, tc_kind]
  repeat (any_goals (first | assumption | with_reducible refine wpAny_map ?_ | with_reducible refine wpAny_onRaise ?_ | with_reducible refine wpAny_loadPart_at atC ?_ | wp_step))
end
section
variable {prog : Program} {w : World} {A : Around} {E : Value → Shared → Prop} {R : Result → Shared → Prop} {hp : Heap} {g : Array GenState} {d : Drawn} {t : Nat} {os : OsState}
variable {nm qn : Str} {C N fI : Addr} {bs bm bmB : List Value} {hdct : Bool} {sn : List Str} {sub : List Value} {ab : Bool} {col : Option Bool} {dd : Option Addr} {k0 k1 k2 k3 k5 : Option Value} {B newId initId : String} {us : List Value} {kw : List (Str × Value)}
/-- the heap with the new one, not yet filled -/
abbrev bornH (hp : Heap) (C : Addr) (us : List Value) : Heap := (hp.push (kdv_tup us)).push (HandSPX.excO C hp.objs.size)
theorem newMade (F : ExcBaseFacts B newId initId bmB) (alike : ∀ Y : String, bm.contains (.type Y) = bmB.contains (.type Y))
    (atC : hp.get? C = some (excClassObj nm qn C N bs bm hdct sn sub ab col dd k0 k1 k2 k3 k5 newId)) (few : us.length ≤ sizeLine)
    (go : R (.ok (.ret (.ref (hp.objs.size + 1)))) ⟨bornH hp C us, g, d, t, os⟩) :
    codeAny (model prog w) A (.builtin newId ⟨.ref C :: us, kw⟩) R ⟨hp, g, d, t, os⟩ := by
  have fe := F.ends
  have isB : (Value.ref C :: bm).contains (.type B) = true := by
    rw [List.contains_cons, alike, F.hasB]
    exact Bool.or_true _
  have notA : (Value.ref C :: bm).contains (.type "AttributeError") = false := by
    rw [List.contains_cons, alike, F.noAttr]
    rfl
  have notN : (Value.ref C :: bm).contains (.type "NameError") = false := by
    rw [List.contains_cons, alike, F.noName]
    rfl
  apply codeAny_builtinAt F.entry
  unfold Builtin.«BaseException.__new__»
  apply wpAt_bind
  show wpAt _ _ _ (stack >>= _) _ _ _
  apply wpAt_bind
  apply wpAt_stack
  intro p below
  apply wpAt_of_wpAny
  wp_walk
  apply wpAt_of_wpAny
  rw [F.owner]
  repeat (first | with_reducible refine wpAny_loadPart_at atC ?_ | (with_reducible refine wpAny_isSubtype_exc atC ?_; first | rw [isB] | rw [notA] | rw [notN]) | with_reducible refine wpAny_madeHere_exc F.canon atC ?_ | wp_step)
  show R _ _
  rw [Heap.size_push]
  exact go
theorem tcMade (F : ExcBaseFacts B newId initId bmB) (alike : ∀ Y : String, bm.contains (.type Y) = bmB.contains (.type Y)) {Q : Fin → Shared → Prop}
    (atC : hp.get? C = some (excClassObj nm qn C N bs bm hdct sn sub ab col dd k0 k1 k2 k3 k5 newId)) (few : us.length ≤ sizeLine)
    (li : Looks (model prog w) hp (typeLookup (.ref C) "__init__") (some (.ref fI))) (lb : ∀ self, Looks (model prog w) hp (bindSpecial (.ref fI) self) (.ref fI, [self]))
    (go : codeAny (model prog w) A (.call (.ref fI) ⟨.ref (hp.objs.size + 1) :: us, kw⟩)
      (fun r s' => match r with | .error e => E e s' | .ok (.ret v) => v = .none ∧ Q (.done (.ret (.ref (hp.objs.size + 1)))) s' | .ok _ => False) ⟨bornH hp C us, g, d, t, os⟩) :
    wpAny (model prog w) A (Builtin.«type.__call__» ⟨.ref C :: us, kw⟩) Q E ⟨hp, g, d, t, os⟩ := by
  repeat (first | with_reducible refine wpAny_madeBy_exc atC ?_ | with_reducible refine wpAny_loadPart_at atC ?_ | wp_step)
  apply codeAny_call_builtin_code (Code.quiet_builtin _ F.quiet) (newCheck F alike atC _)
  apply newMade F alike atC few
  show wpAny _ _ _ _ _ _
  have keeps : ∀ b o, hp.get? b = some o → (bornH hp C us).get? b = some o := by
    intro b o e
    exact Heap.get?_push_of_some _ (Heap.get?_push_of_some _ e)
  have atC' := keeps _ _ atC
  have born : (bornH hp C us).get? (hp.objs.size + 1) = some (HandSPX.excO C hp.objs.size) := by heap_get
  have self : (Value.ref C :: bm).contains (.ref C) = true := by simp
  have li' := li.keeps keeps
  have lb' := (lb (.ref (hp.objs.size + 1))).keeps keeps
  unfold isInstance
  repeat (first | (with_reducible refine wpAny_isSubtype_exc atC' ?_; rw [self]) | with_reducible refine wpAny_loadPart_at born ?_ | wp_step)
  show wpAny _ _ (typeLookup (.ref C) _) _ _ _
  apply li'.at
  apply wpAny_holding
  apply wpAny_bind
  apply lb'.at
  apply wpAny_bind
  apply wpAny_call
  apply codeAny_mono go
  intro r s' z
  match r, z with
  | .error e, z => exact z
  | .ok .next, z => exact z.elim
  | .ok .brk, z => exact z.elim
  | .ok .cont, z => exact z.elim
  | .ok (.ret v), z =>
    obtain ⟨rfl, z⟩ := z
    first
      | exact wpAny_pure (wpAny_pure z)
      | (wp_walk; exact z)
theorem callMade (F : ExcBaseFacts B newId initId bmB) (alike : ∀ Y : String, bm.contains (.type Y) = bmB.contains (.type Y))
    (atC : hp.get? C = some (excClassObj nm qn C N bs bm hdct sn sub ab col dd k0 k1 k2 k3 k5 newId)) (few : us.length ≤ sizeLine)
    (li : Looks (model prog w) hp (typeLookup (.ref C) "__init__") (some (.ref fI))) (lb : ∀ self, Looks (model prog w) hp (bindSpecial (.ref fI) self) (.ref fI, [self]))
    (go : codeAny (model prog w) (A.under (.builtin "type.__call__" ⟨.ref C :: us, kw⟩)) (.call (.ref fI) ⟨.ref (hp.objs.size + 1) :: us, kw⟩) (InitBack (hp.objs.size + 1) R) ⟨bornH hp C us, g, d, t, os⟩) :
    codeAny (model prog w) A (.call (.ref C) ⟨us, kw⟩) R ⟨hp, g, d, t, os⟩ := by
  have g1 := tc_lookup
  have g2 := tc_bind (.ref C)
  have isT : (⟨hp, g, d, t, os⟩ : Shared).TypeIs (.ref C) "type" := ⟨_, atC, rfl⟩
  apply codeAny_of_tree
  show wpAny _ _ (callAny (.ref C) _) _ _ _
  repeat (any_goals (first | with_reducible refine wpAny_loadPart_at atC ?_ | assumption | wp_step))
  constructor
  · rfl
  apply codeAny_call_builtin_at (Code.quiet_builtin _ (by decide +kernel)) entry_typeCall
  apply tcCheck atC
  apply tcMade F alike atC few li lb
  apply codeAny_mono go
  intro r s' z
  match r, z with
  | .error _, z => exact z
  | .ok .next, z => exact z
  | .ok .brk, z => exact z
  | .ok .cont, z => exact z
  | .ok (.ret _), z => exact z
end
end XcW
end PySem
set_option Elab.async false
set_option linter.all false
set_option maxRecDepth 100000
set_option maxHeartbeats 4000000
/-! Xe: such exceptions as values: made, stored into, read. -/
namespace Xc
open PySem PySem.Spec PyProof.Rows L2 Bs
/-! ### self.f = e -/
def tPut (K : PySem.W.Frag) (f : Str) (to te : TE) : TS := fun D σ H => te σ H fun y H1 => to σ H1 fun x H2 =>
  ∃ (a C : Addr) (B n i : String) (bm : List Value), x = .ref a ∧ Cl K C B n i bm ∧ PySem.W.takerIn K C f = some none ∧
    ((H2 a = some (exo a C none) ∧ ∀ dx, H2 dx = none → dx ≠ a → D.nx σ (upd (upd H2 dx (exd dx [(f, y)])) a (exo a C (some dx)))) ∨
      ∃ (dx : Addr) (fs : List (Str × V)), H2 a = some (exo a C (some dx)) ∧ H2 dx = some (exd dx fs) ∧ fs.length ≤ 900 ∧ D.nx σ (upd H2 dx (exd dx ((f, y) :: fs))))
theorem ps_put {X : Cx} {o e : Expr} {f : Str} {to te : TE} {p' pos : Pos} (ho : PE X o to) (he : PE X e te) (hs : swapsWith e (some (.Attribute o f p')) pos.line X.env = pure false := by rfl) :
    PS X (.Assign [.Attribute o f p'] e pos) (tPut X.K f to te) := by
  constructor
  intro pins s σ H D I h
  apply plainObj_wpAny_Assign_Attribute _ hs
  apply thn (he.run pins s σ H _ I h)
  rintro v s1 ⟨y, H1, I1, r1, q1⟩
  apply thn (ho.run pins s1 σ H1 _ I1 q1)
  rintro u s2 ⟨x, H2, I2, r2, a, C, B, n, i, bm, rfl, T, tn, q⟩
  obtain rfl : u = Value.ref a := r2
  cases q with
  | inl q => exact put1 T I2 q.1 tn r1 fun dx s' h1 h2 J => ⟨σ, _, J, q.2 dx h1 h2⟩
  | inr q =>
    obtain ⟨dx, fs, ea, ed, few, q⟩ := q
    exact put2 T I2 ea ed few tn r1 fun s' J => ⟨σ, _, J, q⟩

/-! ### __init__'s own promise -/
def spIn (C : Addr) (n : Nat) (mk : List V → List (Str × V)) : Sp := fun vs H Q _ => ∃ (a : Addr) (xs : List V), vs = .ref a :: xs ∧ xs.length = n ∧ H a = some (exo a C none) ∧
  ∀ (dx : Addr) (H' : Hp), H dx = none → dx ≠ a → H' a = some (exo a C (some dx)) → H' dx = some (exd dx (mk xs)) → (∀ b, b ≠ a → b ≠ dx → H' b = H b) → Q .non H'

/-! ### C(..) -/
/-- what the class has: its own __init__ -/
structure Ini (K : PySem.W.Frag) (C fI : Addr) : Prop where
  at_ : PySem.W.findIn K (.ref C) "__init__" = some (some (.ref fI))
  ty : PySem.W.typeIn K (.ref fI) = some (.type "function")
section
variable {X : Cx} {pins : List (Addr × Obj)} {σ : L2.St} {H : Hp} {s : Shared} {Q : VK} {us ws : List Value} {vs zs : List V} {B newId initId : String} {bmB : List Value} {C fI : Addr} {k n : Nat} {fd : FuncData} {ps ks : List Str} {sp : Sp} {g : List Value → List Value → List Value} {gV : List V → List V → List V}
theorem runMade (T : Cl X.K C B newId initId bmB) (N : Ini X.K C fI) (F1 : FnOk X.prog X.w X.K X.mg X.base CX0 k fI fd ps sp) (hr : Room (k + 1) X.A) (hb : KBn X.K fd ps (n + 1) ks g gV) (few : n ≤ 1000)
    (I : Inv X pins σ H s) (r : Vals vs us) (rz : Vals zs ws) (l1 : vs.length = n) (l2 : zs.length = ks.length)
    (h : ∀ a, H a = none → sp (gV (.ref a :: vs) zs) (upd H a (exo a C none)) (fun v H2 => v = .non ∧ Q (.ref a) H2) E0) :
    wpAny (model X.prog X.w) X.A (call (.ref C) us (ks.zip ws)) (EP X pins σ Q) X.xe s := by
  obtain ⟨nm, N', qn, bs, bm, hdct, sn, sub, ab, col, dd, k0, k1, k2, k3, k5, hC, alike⟩ := PySem.W.excInit_of I.kIn T.ini
  have li := PySem.W.looks_findIn (M := model X.prog X.w) I.kIn N.at_
  have lb : ∀ self, PySem.W.Looks (model X.prog X.w) s.heap (bindSpecial (.ref fI) self) (.ref fI, [self]) := fun self => PySem.W.bind_fn I.kIn self N.ty
  have fresh : s.heap.objs.size ≤ s.heap.objs.size + 1 := Nat.le_succ _
  have hn : H (s.heap.objs.size + 1) = none := I.hok.fresh fresh
  have q0 := h _ hn
  have ul : us.length ≤ sizeLine := by
    have e := r.length
    rw [sizeLine_eq]
    omega
  obtain ⟨hp, gg, d, t, os⟩ := s
  have keeps : ∀ b o, hp.get? b = some o → (PySem.XcW.bornH hp C us).get? b = some o := by
    intro b o e
    exact Heap.get?_push_of_some _ (Heap.get?_push_of_some _ e)
  have born : (PySem.XcW.bornH hp C us).get? (hp.objs.size + 1) = some (PySem.HandSPX.excO C hp.objs.size) := by heap_get
  have I2 : Inv X pins σ (upd H (hp.objs.size + 1) (exo (hp.objs.size + 1) C none)) ⟨PySem.XcW.bornH hp C us, gg, d, t, os⟩ :=
    I.laid (h' := PySem.XcW.bornH hp C us) (t' := t) (o := exo (hp.objs.size + 1) C none) (a := hp.objs.size + 1) keeps fresh (exo_ok born)
  have r2 : Vals (V.ref (hp.objs.size + 1) :: vs) (Value.ref (hp.objs.size + 1) :: us) := .cons rfl r
  have e1 : (Value.ref (hp.objs.size + 1) :: us).length = n + 1 := r2.length.symm.trans (congrArg Nat.succ l1)
  have e2 : ws.length = ks.length := rz.length.symm.trans l2
  apply wpAny_call
  apply PySem.XcW.callMade T.F alike hC ul li lb
  apply codeAny_mono (F1.run _ X.stack _ _ ⟨Value.ref (hp.objs.size + 1) :: us, ks.zip ws⟩ _ _ _ E0 (hr.make C us (ks.zip ws)) (I2.env0.make C us (ks.zip ws)) (hb.to _ _ ws I2.kIn e1 e2) (hb.rel r2 rz) q0)
  intro res s' z
  match res, z with
  | .error _, z => exact z.elim
  | .ok .next, z => exact z.elim
  | .ok .brk, z => exact z.elim
  | .ok .cont, z => exact z.elim
  | .ok (.ret u), z =>
    obtain ⟨v, H3, I3, rv, ev, q3⟩ := I2.after z
    subst ev
    exact ⟨rv, V.ref (hp.objs.size + 1), H3, I3, rfl, q3⟩
/-- C(e, .., k = v, ..) as a value -/
def tMkX (C : Addr) (n m : Nat) (sp : Sp) (gV : List V → List V → List V) (t tk : TA) : TE := fun σ H Q => t σ H fun vs H1 => tk σ H1 fun zs H2 => vs.length = n ∧ zs.length = m ∧
  ∀ a, H2 a = none → sp (gV (.ref a :: vs) zs) (upd H2 a (exo a C none)) (fun v H3 => v = .non ∧ Q (.ref a) H3) E0
variable {x : Str} {p pos : Pos} {e : Expr} {es : List Expr} {kws : List Keyword} {ta tk : TA}
theorem pe_mkx (T : Cl X.K C B newId initId bmB) (N : Ini X.K C fI) (F1 : FnOk X.prog X.w X.K X.mg X.base CX0 k fI fd ps sp) (hr : Room (k + 1) X.A) (hb : KBn X.K fd ps (n + 1) ks g gV) (few : n ≤ 1000) (hg : Gl X x) (hm : X.mg x = some (.ref C))
    (ha : PA X (e :: es) ta) (hkw : PK X kws tk) (hall : (backToKw pos (keywordEach kws X.env)).all (·.1.isSome) = true := by rfl) (hks : (backToKw pos (keywordEach kws X.env)).filterMap (·.1) = ks := by rfl)
    (hdb : (x == ("__debug__" : Str)) = false := by decide) (he : starEach (e :: es) X.env = (false, eval e X.env) :: starEach es X.env := by rfl)
    (hpl : ((backTo pos (starEach (e :: es) X.env)).any (·.1) || (backToKw pos (keywordEach kws X.env)).any (·.1.isNone)) = false := by rfl) :
    PE X (.Call (.Name x p) (e :: es) kws pos) (tMkX C n ks.length sp gV ta tk) := by
  constructor
  intro pins s σ H Q I h
  apply wpAny_Call_Name_kw
  apply ld_glob I hg hm _ hdb
  apply PySem.W.callWith_KW (h₀ := X.base) I.ok.mod.kin T.kp hall _ hpl he
  apply thn (ha.run pos pins s σ H _ I h)
  rintro us s1 ⟨vs, H1, I1, r, q⟩
  apply thn (hkw.run pos pins s1 σ H1 _ I1 q)
  rintro ws s2 ⟨zs, H2, I2, rz, l1, l2, q2⟩
  refine ⟨I2.kIn, ?_⟩
  rw [hks]
  exact runMade T N F1 hr hb few I2 r rz l1 l2 q2
theorem pe_mkx0 (T : Cl X.K C B newId initId bmB) (N : Ini X.K C fI) (F1 : FnOk X.prog X.w X.K X.mg X.base CX0 k fI fd ps sp) (hr : Room (k + 1) X.A) (hb : KBn X.K fd ps 1 ks g gV) (hg : Gl X x) (hm : X.mg x = some (.ref C))
    (hkw : PK X kws tk) (hall : (backToKw pos (keywordEach kws X.env)).all (·.1.isSome) = true := by rfl) (hks : (backToKw pos (keywordEach kws X.env)).filterMap (·.1) = ks := by rfl)
    (hdb : (x == ("__debug__" : Str)) = false := by decide)
    (hpl : ((backTo pos (starEach [] X.env)).any (·.1) || (backToKw pos (keywordEach kws X.env)).any (·.1.isNone)) = false := by rfl) :
    PE X (.Call (.Name x p) [] kws pos) (tMkX C 0 ks.length sp gV tNil tk) := by
  constructor
  intro pins s σ H Q I h
  apply wpAny_Call_Name_kw
  apply ld_glob I hg hm _ hdb
  apply PySem.W.callWith_KW0 (h₀ := X.base) I.ok.mod.kin T.kp hall _ hpl
  apply thn (hkw.run pos pins s σ H _ I h)
  rintro ws s2 ⟨zs, H2, I2, rz, l1, l2, q2⟩
  refine ⟨I2.kIn, ?_⟩
  rw [hks]
  exact runMade (us := []) (vs := []) T N F1 hr hb (Nat.zero_le _) I2 .nil rz rfl l2 q2
end
/-! ### what such a call binds -/
section
variable {K : PySem.W.Frag} {x qual : Str} {st : Stmt} {f : Addr} {fd : FuncData} {ps ks : List Str} {n : Nat}
def gS {α : Type} (xs ys : List α) : List α := xs ++ ys
def gR {α : Type} (xs ys : List α) : List α := xs ++ ys.reverse
theorem kbS (F : Fun K x qual st f fd) (h : ∀ (kV doc pm : Value) (an : Option Addr) (cdv ct : Value) (us ws : List Value), us.length = n → ws.length = ks.length → bindArgs (PySem.W.fnOf x qual (defArgs st) (defBody st) (defScope st) .none kV doc pm an cdv ct) ⟨us, ks.zip ws⟩ = pure (ps.zip (gS us ws))) :
    KBn K fd ps n ks gS gS := by
  obtain ⟨oc, od, kV, doc, pm, an, cdv, ct, osl, rfl, lk, hcd⟩ := F.ex
  exact ⟨fun s us ws _ h1 h2 => .of_eq (h kV doc pm an cdv ct us ws h1 h2), fun r1 r2 => r1.append r2⟩
theorem kbR (F : Fun K x qual st f fd) (h : ∀ (kV doc pm : Value) (an : Option Addr) (cdv ct : Value) (us ws : List Value), us.length = n → ws.length = ks.length → bindArgs (PySem.W.fnOf x qual (defArgs st) (defBody st) (defScope st) .none kV doc pm an cdv ct) ⟨us, ks.zip ws⟩ = pure (ps.zip (gR us ws))) :
    KBn K fd ps n ks gR gR := by
  obtain ⟨oc, od, kV, doc, pm, an, cdv, ct, osl, rfl, lk, hcd⟩ := F.ex
  exact ⟨fun s us ws _ h1 h2 => .of_eq (h kV doc pm an cdv ct us ws h1 h2), fun r1 r2 => r1.append r2.reverse⟩
end
end Xc
set_option Elab.async false
set_option linter.all false
set_option maxRecDepth 100000
set_option maxHeartbeats 4000000
/-! Xf: such exceptions read and asked for their class; one without an __init__ of its own. -/
namespace Xc
open PySem PySem.Spec PyProof.Rows L2 Bs
/-- an exception at a, of the class at C, with these fields -/
def Ex (H : Hp) (a C : Addr) (fs : List (Str × V)) : Prop := (fs = [] ∧ H a = some (exo a C none)) ∨ ∃ dx, H a = some (exo a C (some dx)) ∧ H dx = some (exd dx fs)
/-- what asking for its class needs -/
structure As (K : PySem.W.Frag) (C : Addr) : Prop where
  cl : (PySem.W.clsIn K C).isSome = true
  cc : PySem.W.findIn K (.ref C) "__class__" = some (some (.builtin "object.__class__"))
  gs : PySem.W.specialIn K (.builtin "object.__class__") "__get__" = some (some (.builtin "getset_descriptor.__get__"))
  tk : PySem.W.takesIn K (.builtin "object.__class__") = some true
  ob : PySem.W.mroIn K C (.type "object") = some true
section
variable {X : Cx} {pins : List (Addr × Obj)} {σ : L2.St} {H : Hp} {s : Shared} {a C : Addr} {fs : List (Str × V)} {B newId initId : String} {bmB : List Value}
theorem Ex.inst (I : Inv X pins σ H s) (e : Ex H a C fs) : ∃ (ox : Obj) (od : Option Obj), PySem.W.InstAt s.heap a ox C od := by
  cases e with
  | inl e =>
    obtain ⟨t, ho⟩ := exo_at I.hok e.2
    exact ⟨_, none, ho, rfl, rfl, True.intro⟩
  | inr e =>
    obtain ⟨dx, e1, e2⟩ := e
    obtain ⟨t, ho⟩ := exo_at I.hok e1
    obtain ⟨mA, hns, _⟩ := exd_at I.hok e2
    obtain ⟨od, hd, _⟩ := lookIn_ns hns
    exact ⟨_, some od, ho, rfl, rfl, hd⟩
/-- isinstance(x, c), x such an exception -/
def rIsX (K : PySem.W.Frag) : List V → Hp → VK → Prop := fun xs H Q => ∃ (a C : Addr) (fs : List (Str × V)) (c : V) (u : Value) (b : Bool), xs = [.ref a, c] ∧ Ex H a C fs ∧ (∃ B n i bm, Cl K C B n i bm) ∧ As K C ∧ ClsV c u ∧
  PySem.W.kitOne K (.ref C) u = some b ∧ Q (.bl b) H
theorem call_isX : CallR X (.builtin "isinstance") (rIsX X.K) := by
  intro pins s σ H xs us Q I r h
  obtain ⟨a, C, fs, c, u, b, rfl, ex, ⟨B, n, i, bm, T⟩, S, cv, e, q⟩ := h
  cases r with
  | cons r1 r =>
    cases r with
    | cons r2 r =>
      cases r
      have e2 := cv.eq r2
      subst e2
      obtain rfl := (show _ = Value.ref a from r1)
      obtain ⟨ox, od, J⟩ := ex.inst I
      exact PySem.W.kia_one (PySem.W.kitx_exc S.cl T.ga T.gg T.ex S.cc S.gs S.tk S.ob) I.kIn J e (fun z => nomatch z) fun tk => ⟨.bl b, H, I.tok tk, rfl, q⟩
/-- e.f -/
def tFld (K : PySem.W.Frag) (f : Str) (te : TE) : TE := fun σ H Q => te σ H fun x H1 => ∃ (a C : Addr) (fs : List (Str × V)) (v : V), x = .ref a ∧ Ex H1 a C fs ∧ (∃ B n i bm, Cl K C B n i bm) ∧ PySem.W.findIn K (.ref C) f = some none ∧ fs.lookup f = some v ∧ Q v H1
theorem pe_fld {e : Expr} {te : TE} {pos : Pos} {f : Str} (he : PE X e te) (hb : attributeBase e f X.env (eval e X.env) = eval e X.env := by rfl) : PE X (.Attribute e f pos) (tFld X.K f te) := by
  constructor
  intro pins s σ H Q I h
  apply attr_of hb
  apply thn (he.run pins s σ H _ I h)
  rintro u s1 ⟨x, H1, I1, rx, a, C, fs, v, rfl, ex, ⟨B, n, i, bm, T⟩, fn, l, q⟩
  obtain rfl : u = Value.ref a := rx
  cases ex with
  | inl e =>
    rw [e.1] at l
    exact nomatch l
  | inr e =>
    obtain ⟨dx, e1, e2⟩ := e
    obtain ⟨t, ho⟩ := exo_at I1.hok e1
    obtain ⟨mA, hns, rel⟩ := exd_at I1.hok e2
    obtain ⟨od, hd, look⟩ := lookIn_ns hns
    have rf := rel f
    rw [l] at rf
    obtain ⟨w, hw, rw'⟩ := RelO.some_of rf
    have J : PySem.W.InstAt s1.heap a _ C (some od) := ⟨ho, rfl, rfl, hd⟩
    apply PySem.HandSPX.exc_get I1.kIn J T.ga T.gg T.ex (PySem.W.findObj_own T.hd fn rfl _) (handed_of rw') ⟨v, H1, I1.tok _, rw', q⟩
    rw [look, hw]
/-- C(), without an __init__ of its own -/
def tMk0 (C : Addr) : TE := fun σ H Q => ∀ a, H a = none → Q (.ref a) (upd H a (exo a C none))
theorem pe_mk00 {x : Str} {p pos : Pos} (F : ExcBaseFacts B newId initId bmB) (q : PySem.W.excIn X.K C bmB newId = true) (kC : PySem.W.keepIn X.K (.ref C) = true) (hg : Gl X x) (hm : X.mg x = some (.ref C)) (hdb : (x == ("__debug__" : Str)) = false := by decide)
    (hpl : ((backTo pos (starEach [] X.env)).any (·.1) || (backToKw pos (keywordEach [] X.env)).any (·.1.isNone)) = false := by rfl) :
    PE X (.Call (.Name x p) [] [] pos) (tMk0 C) := by
  constructor
  intro pins s σ H Q I h
  apply wpAny_Call_Name_kw
  apply ld_glob I hg hm _ hdb
  apply PySem.W.callWith_KW0 (h₀ := X.base) I.ok.mod.kin kC (by rfl) _ hpl
  apply thn (pk_nil.run pos pins s σ H (fun vs H1 => vs = [] ∧ H1 = H) I ⟨rfl, rfl⟩)
  rintro ws s2 ⟨zs, H2, I2, rz, rfl, rfl⟩
  cases rz
  refine ⟨I2.kIn, ?_⟩
  show wpAny _ _ (call (.ref C) []) _ _ _
  obtain ⟨bm, N, nm, qn, bs, hdct, sn, sub, ab, col, dd, k0, k1, k2, k3, k5, mN, hC, hN, none, T⟩ := exc_obj I2.kIn q
  apply wpAny_call_exc_subT F T hC hN none _ (Nat.zero_le _)
  intro h' a made
  have hn := I2.hok.gone made.new
  obtain ⟨t, ht, _, _⟩ := made.there
  exact ⟨.ref a, _, I2.laidN made.keeps made.new hn (exo_ok ht), rfl, h a hn⟩
end
/-! ### all of it by one look -/
def clB (K : PySem.W.Frag) (C : Addr) (newId : String) (bmB : List Value) : Bool :=
  PySem.W.excInitIn K C bmB newId && (PySem.W.excOver K C bmB && (PySem.W.hasDictIn K C && (decide (PySem.W.findIn K (.ref C) "__setattr__" = some (some (.builtin "object.__setattr__"))) &&
  (decide (PySem.W.findIn K (.ref C) "__getattribute__" = some (some (.builtin "BaseException.__getattribute__"))) && (decide (PySem.W.findIn K (.ref C) "__getattr__" = some none) && (decide (PySem.W.subIn K (.ref C) (.type "BaseException") = some true) &&
  (decide (PySem.W.typeIn K (.ref C) = some (.type "type")) && PySem.W.keepIn K (.ref C))))))))
theorem Cl.of {K : PySem.W.Frag} {C : Addr} {B newId initId : String} {bmB : List Value} (F : ExcBaseFacts B newId initId bmB) (SF : StoreFacts B bmB "object.__setattr__" "object") (h : clB K C newId bmB = true) : Cl K C B newId initId bmB := by
  unfold clB at h
  simp only [Bool.and_eq_true, decide_eq_true_eq] at h
  obtain ⟨h1, h2, h3, h4, h5, h6, h7, h8, h9⟩ := h
  exact ⟨F, SF, h1, h2, h3, h4, h5, h6, h7, h8, h9⟩
def asB (K : PySem.W.Frag) (C : Addr) : Bool := (PySem.W.clsIn K C).isSome && (decide (PySem.W.findIn K (.ref C) "__class__" = some (some (.builtin "object.__class__"))) &&
  (decide (PySem.W.specialIn K (.builtin "object.__class__") "__get__" = some (some (.builtin "getset_descriptor.__get__"))) && (decide (PySem.W.takesIn K (.builtin "object.__class__") = some true) && decide (PySem.W.mroIn K C (.type "object") = some true))))
theorem As.of {K : PySem.W.Frag} {C : Addr} (h : asB K C = true) : As K C := by
  unfold asB at h
  simp only [Bool.and_eq_true, decide_eq_true_eq] at h
  obtain ⟨h1, h2, h3, h4, h5⟩ := h
  exact ⟨h1, h2, h3, h4, h5⟩
/-- of which classes it is -/
def kitB' (K : PySem.W.Frag) (C : Addr) (us : List Value) (bs : List Bool) : Bool := decide (us.map (PySem.W.kitOne K (.ref C)) = bs.map some)
theorem kitB'_at {K : PySem.W.Frag} {C : Addr} {us : List Value} {bs : List Bool} (h : kitB' K C us bs = true) {j : Nat} {u : Value} {b : Bool} (e1 : us[j]? = some u) (e2 : bs[j]? = some b) : PySem.W.kitOne K (.ref C) u = some b := by
  have e := congrArg (fun l => l[j]?) (of_decide_eq_true h)
  simp only [List.getElem?_map, e1, e2, Option.map_some] at e
  exact Option.some.inj e
end Xc
set_option Elab.async false
set_option linter.all false
set_option maxRecDepth 100000
set_option maxHeartbeats 4000000
/-! Xg: data with a dict of one row in it, shown; the end of a row over a law that shows it. -/
namespace Xg
open PySem PySem.Spec PyProof.Rows L2 Bs
/-- data at any depth, with dicts of one text and one number -/
inductive Dq (K : PySem.W.Frag) (H : Hp) : V → PyData → Prop
  | non : Dq K H .non .none
  | bl (b : Bool) : Dq K H (.bl b) (.bool b)
  | int (i : Int) : Dq K H (.int i) (.int i)
  | str (x : Str) : Dq K H (.str x) (.str x)
  | dk {a : Addr} (x : Str) (i : Int) : H a = some (.dK [(.inr x, .int i)]) → Dq K H (.ref a) (.dict [(.str x, .int i)])
  | d0 {a : Addr} : H a = some (.dK []) → Dq K H (.ref a) (.dict [])
  | lst {a : Addr} (ps : List (V × PyData)) : SqL K H a (ps.map (·.1)) → (∀ p ∈ ps, Dq K H p.1 p.2) → Dq K H (.ref a) (.list (ps.map (·.2)))
  | tup {a : Addr} (ps : List (V × PyData)) : SqT K H a (ps.map (·.1)) → (∀ p ∈ ps, Dq K H p.1 p.2) → Dq K H (.ref a) (.tuple (ps.map (·.2)))
theorem sameL {K : PySem.W.Frag} {H H' : Hp} {a : Addr} {xs : List V} (s : Same H H') (q : SqL K H a xs) : SqL K H' a xs := by
  rcases q with (q | ⟨o, q⟩) | q
  · exact .inl (.inl (s _ _ q))
  · exact .inl (.inr ⟨o, s _ _ q⟩)
  · exact .inr q
theorem sameT {K : PySem.W.Frag} {H H' : Hp} {a : Addr} {xs : List V} (s : Same H H') (q : SqT K H a xs) : SqT K H' a xs := by
  rcases q with (q | ⟨o, q⟩) | q
  · exact .inl (.inl (s _ _ q))
  · exact .inl (.inr ⟨o, s _ _ q⟩)
  · exact .inr q
theorem Dq.same {K : PySem.W.Frag} {H H' : Hp} {x : V} {d : PyData} (h : Dq K H x d) (s : Same H H') : Dq K H' x d := by
  induction h with
  | non => exact .non
  | bl b => exact .bl b
  | int i => exact .int i
  | str x => exact .str x
  | dk x i e => exact .dk x i (s _ _ e)
  | d0 e => exact .d0 (s _ _ e)
  | lst ps e _ ih => exact .lst ps (sameL s e) ih
  | tup ps e _ ih => exact .tup ps (sameT s e) ih
section
variable {X : Cx} {pins : List (Addr × Obj)} {σ : L2.St} {H : Hp} {s : Shared}
theorem readsAll_of {h : Heap} : ∀ {ps : List (V × PyData)} {us : List Value}, (∀ p ∈ ps, ∀ u, RelV p.1 u → ∃ as, Reads h u p.2 as ∧ sysModules ∉ as) → Vals (ps.map (·.1)) us → ∃ as, ReadsAll h us (ps.map (·.2)) as ∧ sysModules ∉ as
  | [], _, _, r => by
    cases r
    exact ⟨_, .nil, by simp⟩
  | p :: ps, _, h, r => by
    cases r with
    | cons r1 r2 =>
      obtain ⟨as, q1, n1⟩ := h p List.mem_cons_self _ r1
      obtain ⟨bs, q2, n2⟩ := readsAll_of (fun q hq => h q (List.mem_cons_of_mem _ hq)) r2
      refine ⟨_, .cons q1 q2, ?_⟩
      intro z
      cases List.mem_append.mp z with
      | inl z => exact n1 z
      | inr z => exact n2 z
theorem Dq.reads (I : Inv X pins σ H s) (sm : ∃ mm, X.base.Ns sysModules mm) {x : V} {d : PyData} (h : Dq X.K H x d) : ∀ u, RelV x u → ∃ as, Reads s.heap u d as ∧ sysModules ∉ as := by
  obtain ⟨mm, om, es, ep, hm, hdm, _⟩ := sm
  have hm' : s.heap.get? sysModules = some om := I.bk _ _ hm
  induction h with
  | non =>
    intro u r
    cases r
    exact ⟨_, .none, by simp⟩
  | bl b =>
    intro u r
    cases r
    exact ⟨_, .bool b, by simp⟩
  | int i =>
    intro u r
    obtain ⟨t, rfl⟩ := r
    exact ⟨_, .int i t, by simp⟩
  | str x =>
    intro u r
    obtain ⟨t, rfl⟩ := r
    exact ⟨_, .str x t, by simp⟩
  | @dk a x i e =>
    intro u r
    cases r
    obtain ⟨_, ns, vs, kv, o, es, ep, ho, hc, hd, _, pr, _⟩ := (show ObjOk X.prog X.w H s.heap a (.dK [(.inr x, .int i)]) from I.hok a _ e)
    cases kv with
    | @cons _ b _ _ k1 k2 =>
      cases k2
      obtain ⟨qk, qv⟩ := b
      obtain ⟨e1, e2⟩ := k1
      dsimp only at e1 e2
      subst e1
      obtain ⟨t, rfl⟩ := e2
      generalize hl : es.toList = l at pr
      cases pr with
      | cons p1 p2 p3 =>
        rename_i en _
        cases p3
        obtain ⟨t2, hk⟩ := Value.isStrOf_shape (x := x) (v := en.key) p1
        dsimp only at p2
        have rk : ReadsAll s.heap (es.toList.map (·.key)) [PyData.str x] ([] ++ []) := by
          rw [hl]
          show ReadsAll s.heap [en.key] _ _
          rw [hk]
          exact .cons (.str x t2) .nil
        have rv : ReadsAll s.heap (es.toList.map (·.val)) [PyData.int i] ([] ++ []) := by
          rw [hl]
          show ReadsAll s.heap [en.val] _ _
          rw [p2]
          exact .cons (.int i t) .nil
        refine ⟨_, Reads.dict (kvs := [(PyData.str x, PyData.int i)]) ho hc.1 hd rk rv, ?_⟩
        have ne : a ≠ sysModules := by
          intro z
          rw [z] at ns
          exact absurd ns (by decide)
        intro z
        simp at z
        exact ne z.symm
  | @d0 a e =>
    intro u r
    cases r
    obtain ⟨_, ns, vs, kv, o, es, ep, ho, hc, hd, _, pr, _⟩ := (show ObjOk X.prog X.w H s.heap a (.dK []) from I.hok a _ e)
    cases kv
    generalize hl : es.toList = l at pr
    cases pr
    have rk : ReadsAll s.heap (es.toList.map (·.key)) [] [] := by
      rw [hl]
      exact .nil
    have rv : ReadsAll s.heap (es.toList.map (·.val)) [] [] := by
      rw [hl]
      exact .nil
    refine ⟨_, Reads.dict (kvs := []) ho hc.1 hd rk rv, ?_⟩
    have ne : a ≠ sysModules := by
      intro z
      rw [z] at ns
      exact absurd ns (by decide)
    intro z
    simp at z
    exact ne z.symm
  | @lst a ps e _ ih =>
    intro u r
    cases r
    obtain ⟨its, rv, ⟨o, n, ho, hc, _, hd⟩, _⟩ := I.list e
    obtain ⟨as, hr, na⟩ := readsAll_of ih rv
    refine ⟨_, .list ho hc hd hr, ?_⟩
    intro z
    cases List.mem_cons.mp z with
    | inl z =>
      rw [← z, hm'] at ho
      cases ho
      rw [hdm] at hd
      cases hd
    | inr z => exact na z
  | @tup a ps e _ ih =>
    intro u r
    cases r
    obtain ⟨its, rv, ⟨o, ho, hc, n, hd⟩, _⟩ := I.tuple e
    obtain ⟨as, hr, na⟩ := readsAll_of ih rv
    exact ⟨_, .tuple ho hc hd hr, na⟩
end
section
variable {X : Cx}
/-- repr(x), x such a list, tuple or dict -/
theorem call_reprQ (ng : X.A.guards = some []) (hu : X.A.units + 64 < cLine) (sm : ∃ mm, X.base.Ns sysModules mm) :
    CallR X (.builtin "repr") (fun xs H Q => ∃ x d, xs = [x] ∧ Dq X.K H x d ∧ isDisplay d = true ∧ d.showable = true ∧ d.depth < 60 ∧ d.shown.length ≤ sizeLine ∧ Q (.str d.shown) H) := by
  intro pins s σ H xs us Q I r h
  obtain ⟨x, d, rfl, dp, dis, sho, dep, len, q⟩ := h
  cases r with
  | cons r1 r2 =>
    cases r2
    obtain ⟨as, rd, no⟩ := dp.reads I sm _ r1
    obtain ⟨a, rfl⟩ := isRef_of_reads rd dis
    apply repr_of_reads' rd sho (fun _ => no) ng (by omega) (fun _ _ e => e) _ len
    intro h' u tk kp
    exact ⟨.str d.shown, H, I.kept (h' := h') (t' := tk) kp, ⟨u, rfl⟩, q⟩
end
end Xg
set_option Elab.async false
set_option linter.all false
set_option maxRecDepth 100000
set_option maxHeartbeats 4000000
/-! Xh: the end of a row over a law that shows dicts. -/
namespace Xg
open PySem PySem.Spec PyProof.Rows L2 Bs
theorem endS {P : Program} {w : World} {K : PySem.W.Frag} {mg mb : Str → Option Value} {k : Nat} {fa a : Addr} {fd : FuncData} {x : Str} {sp : Sp} {s : Shared} {us : List Value} {ns : List Int}
    (inK : K.In s.heap) (gl : s.heap.Ns mainGlobals mg) (bu : s.heap.Ns builtinsNs mb) (buE : ∀ x : Str, x ≠ "__name__" → mb x = bootBuiltins x) (noL : s.heap.NoLimit) (sm : ∃ mm, s.heap.Ns sysModules mm) (noG : s.gens = #[])
    (at_ : s.heap.get? a = some { cls := .type "list", data := .seq us.toArray }) (iA : IntsAre us ns) (len : ns.length ≤ sizeLine) (room : Room k callerA)
    (F : ∀ base : Heap, K.In base → base.Ns mainGlobals mg → (∃ mm, base.Ns sysModules mm) → FG P w K mg base k fa fd [x] sp) (bnd : ∀ (s : Shared) (u : Value), BindsTo s fd ⟨[u], []⟩ [(x, u)])
    (want : ∀ H : Hp, Only H → SqL K H a (ns.map V.int) → sp [.ref a] H (fun v _ => v = .bl true) E0) :
    codeAny (model P w) callerA (.call (.ref fa) ⟨[.ref a], []⟩) (fun r s' => r = .ok (.ret (.bool true)) ∧ OldK s.heap s'.heap ∧ s'.os = s.os ∧ AllBare s'.gens) s := by
  have rv := vals_ints iA
  have lenV := iA.length
  have key : ∀ H : Hp, Only H → SqL K H a (ns.map V.int) → HOk P w H s.heap → (∀ b, b ≠ a → H b = none) → (K.lookup a ≠ none → H a = none) →
      codeAny (model P w) callerA (.call (.ref fa) ⟨[.ref a], []⟩) (fun r s' => r = .ok (.ret (.bool true)) ∧ OldK s.heap s'.heap ∧ s'.os = s.os ∧ AllBare s'.gens) s := by
    intro H oH sH okH one hK
    have nd : ∀ {b : Addr} {o : Obj} {es : Array DictEntry} {ep : Nat}, s.heap.get? b = some o → o.data = .dict es ep → H b = none := by
      intro b o es ep e d
      by_cases eb : b = a
      · rw [eb, at_] at e
        cases e
        exact nomatch (show Data.seq us.toArray _ = Data.dict es ep from d)
      · exact one b eb
    have nsH : ∀ {b : Addr} {m : Str → Option Value}, s.heap.Ns b m → (hidT s.heap H).Ns b m := by
      rintro b m ⟨o, es, ep, e, d, r⟩
      exact ⟨o, es, ep, hidT_get e (nd e d), d, r⟩
    have kH : K.In (hidT s.heap H) := by
      intro b o e
      apply hidT_get (inK b o e)
      by_cases eb : b = a
      · rw [eb]
        exact hK (by rw [← eb, e]; simp)
      · exact one b eb
    have md : Mod K mg (hidT s.heap H) := ⟨kH, nsH gl, ⟨mb, nsH bu, buE⟩, noL.elim fun mc q => ⟨mc, nsH q.1, q.2⟩⟩
    have e0 : Env0 P w K mg (hidT s.heap H) callerA [] s H :=
      { frames := rfl, mod := md, bs := fun b o e => of_hidT e, bsz := Nat.le_of_eq (hidT_size _ _), funs := trivial, frf := fun b hb => (nomatch (show b ∈ ([] : List Addr) from hb)), hok := okH, bare := .of_eq noG }
    apply codeAny_mono ((F _ kH (nsH gl) (sm.elim fun mm q => ⟨mm, nsH q⟩)).goes callerA [] s H ⟨[.ref a], []⟩ [.ref a] [.ref a] _ _ rfl room e0 (bnd s (.ref a)) (.cons rfl .nil) (want H oH sH))
    intro r s' h
    match r, h with
    | .error e, h => exact h.elim
    | .ok .next, h => exact h.elim
    | .ok .brk, h => exact h.elim
    | .ok .cont, h => exact h.elim
    | .ok (.ret u), ⟨v, H', os, bare, un, ok', r', q⟩ =>
      have q' : v = .bl true := q
      subst q'
      have eu : u = Value.bool true := r'
      subst eu
      refine ⟨rfl, OldK.of_keep ?_, os, bare⟩
      intro b o e
      cases eb : H b with
      | none => exact un.keep b o e eb (fun z => (nomatch (show b ∈ ([] : List Addr) from z))) (by simp)
      | some u =>
        cases oH b with
        | inl z => rw [eb] at z; cases z
        | inr z =>
          obtain ⟨ob, xs, z⟩ := z
          have e1 := (okH b _ z).1
          have e2 := (ok' b _ (un.frzs b ob _ z)).1
          rw [e] at e1
          cases e1
          exact e2
  cases hk : K.lookup a with
  | some o =>
    have e := inK a o hk
    rw [at_] at e
    cases e
    apply key (fun _ => none) (fun _ => .inl rfl) _ (fun b u z => nomatch (show (none : Option HO) = some u from z)) (fun _ _ => rfl) (fun _ => rfl)
    exact .inr ⟨_, us.toArray, _, hk, rfl, rfl, rfl, by rw [List.size_toArray, lenV]; exact len, by simpa using rv⟩
  | none =>
    let fz : HO := .frz { cls := .type "list", data := .seq us.toArray } (.lst (ns.map V.int))
    apply key (fun b => if b = a then some fz else none)
    · intro b
      by_cases hb : b = a
      · exact .inr ⟨_, _, if_pos hb⟩
      · exact .inl (if_neg hb)
    · exact .inl (.inr ⟨_, if_pos rfl⟩)
    · intro b u z
      by_cases hb : b = a
      · have z' := (if_pos hb).symm.trans z
        cases z'
        subst hb
        exact ⟨at_, by rw [List.length_map]; exact len, us, _, rv, at_⟩
      · have z' := (if_neg hb).symm.trans z
        cases z'
    · intro b hb
      exact if_neg hb
    · intro z
      exact absurd hk z
theorem walkS {l : PySem.W.OpenLaw} {n k : Nat} {q : Program} {loose : List Str} {XP : (Str → Option Value) → Heap → Prop} {YP : World → Heap → Prop} {d : DefRec} {K : Params → PySem.W.Frag} {sp : PySem.W.Frag → Sp} {x : Str}
    (calm : importsNone q = true) (most : l.most = some n) (small : n ≤ sizeLine) (plain : d.params.defaults = []) (room : Room k callerA) (hY : ∀ (w : World) (h : Heap), YP w h → (K w.params).In h)
    (F : ∀ (w : World) (mg : Str → Option Value) (fa : Addr) (h : Heap), (K w.params).In h → h.Ns mainGlobals mg → mg d.name = some (.ref fa) →
      ∃ fd : FuncData, (∀ (s : Shared) (u : Value), BindsTo s fd ⟨[u], []⟩ [(x, u)]) ∧
        ∀ base : Heap, (K w.params).In base → base.Ns mainGlobals mg → (∃ mm, base.Ns sysModules mm) → FG l.prog w (K w.params) mg base k fa fd [x] (sp (K w.params)))
    (want : ∀ (K : PySem.W.Frag) (H : Hp) (a : Addr) (ns : List Int), ns.length ≤ n → Only H → SqL K H a (ns.map V.int) → sp K [.ref a] H (fun v _ => v = .bl true) E0) :
    PySem.W.WalkO q loose XP YP l.row.toRowW d [] (fun f vs => PySem.call f vs) := by
  apply Att.attach_call most plain
  intro w s₀ s₁ mg mb fa o pm cd doc a us ns G Y ho hd hcd hmg at_ iA len noG
  obtain ⟨fd, hb, hF⟩ := F w mg fa _ (hY w _ Y) G.T.g hmg
  exact endS (hY w _ Y) G.T.g G.T.b G.T.builtins G.T.nolimit ((G.T.seer calm).mods.elim fun mm q => ⟨mm, q.1⟩) noG at_ iA (Nat.le_trans len small) room hF hb fun H hO hS => want (K w.params) H a ns len hO hS

end Xg
set_option Elab.async false
set_option linter.all false
set_option maxRecDepth 100000
set_option maxHeartbeats 4000000
/-! Xi: repr of data of any form; such exceptions raised; a try with several named clauses. -/
namespace Xg
open PySem PySem.Spec PyProof.Rows L2 Bs Xc
section
variable {X : Cx}
/-- repr(x), x data of any form -/
theorem call_reprA (ng : X.A.guards = some []) (hu : X.A.units + 64 < cLine) (sm : ∃ mm, X.base.Ns sysModules mm) :
    CallR X (.builtin "repr") (fun xs H Q => ∃ x d, xs = [x] ∧ Dq X.K H x d ∧ d.showable = true ∧ d.depth < 60 ∧ d.shown.length ≤ sizeLine ∧ Q (.str d.shown) H) := by
  intro pins s σ H xs us Q I r h
  obtain ⟨x, d, rfl, dp, sho, dep, len, q⟩ := h
  cases r with
  | cons r1 r2 =>
    cases r2
    obtain ⟨as, rd, no⟩ := dp.reads I sm _ r1
    have far : ∀ {a : Addr} {u : Value}, u = .ref a → Reads s.heap u d as → wpAny (model X.prog X.w) X.A (call (.builtin "repr") [u]) (EP X pins σ Q) X.xe s := by
      rintro a u rfl rd
      apply repr_of_reads' rd sho (fun _ => no) ng (by omega) (fun _ _ e => e) _ len
      intro h' u tk kp
      exact ⟨.str d.shown, H, I.kept (h' := h') (t' := tk) kp, ⟨u, rfl⟩, q⟩
    cases dp with
    | non =>
      cases r1
      simp only [PyData.shown] at q
      exact PySem.P.repr_of_none ⟨.str _, H, I.tok _, ⟨_, rfl⟩, q⟩
    | bl b =>
      cases r1
      simp only [PyData.shown] at q
      exact PySem.P.repr_of_bool ⟨.str _, H, I.tok _, ⟨_, rfl⟩, q⟩
    | int i =>
      obtain ⟨t, rfl⟩ := r1
      simp only [PyData.shown] at q
      simp only [PyData.showable, decide_eq_true_eq] at sho
      exact PySem.P.repr_of_int sho ⟨.str _, H, I.tok _, ⟨_, rfl⟩, q⟩
    | str x =>
      obtain ⟨t, rfl⟩ := r1
      rw [PyData.shown_str] at q len
      exact PySem.P.repr_of_str ⟨.str _, H, I.tok _, ⟨_, rfl⟩, q⟩ len
    | dk x i e => exact far r1 rd
    | d0 e => exact far r1 rd
    | lst ps e k => exact far r1 rd
    | tup ps e k => exact far r1 rd
end
/-- .. the written part told -/
def rRp (K : PySem.W.Frag) : List V → Hp → VK → Prop := fun xs H Q => ∃ x d, xs = [x] ∧ Dq K H x d ∧ d.showable = true ∧ d.depth < 60 ∧ d.shown.length ≤ sizeLine ∧ Q (.str d.shown) H
theorem call_reprK {X : Cx} {K : PySem.W.Frag} (hK : X.K = K) (ng : X.A.guards = some []) (hu : X.A.units + 64 < cLine) (sm : ∃ mm, X.base.Ns sysModules mm) : CallR X (.builtin "repr") (rRp K) := by
  subst hK
  exact call_reprA ng hu sm
/-! ### raise C(e, .., k = v, ..) -/
section
variable {X : Cx} {pins : List (Addr × Obj)} {σ : L2.St} {H : Hp} {s : Shared} {us ws : List Value} {vs zs : List V} {B newId initId : String} {bmB : List Value} {C fI : Addr} {k n : Nat} {fd : FuncData} {ps ks : List Str} {sp : Sp} {g : List Value → List Value → List Value} {gV : List V → List V → List V}
/-- what is wanted of it, behind its __init__ -/
def flew (C a : Addr) (H : Hp) (Q : XK) : VK := fun v H3 => v = .non ∧ ∃ (d : Addr) (fs : List (Str × V)), H3 a = some (exo a C (some d)) ∧ H3 d = some (exd d fs) ∧ H d = none ∧ Q (.ref C) (some d) (upd (del H3 a) d (.xd fs))
theorem runRaise {Q : XK} (T : Cl X.K C B newId initId bmB) (N : Ini X.K C fI) (F1 : FnOk X.prog X.w X.K X.mg X.base CX0 k fI fd ps sp) (hr : Room (k + 1) X.A) (hb : KBn X.K fd ps (n + 1) ks g gV) (few : n ≤ 1000)
    (I : Inv X pins σ H s) (r : Vals vs us) (rz : Vals zs ws) (l1 : vs.length = n) (l2 : zs.length = ks.length)
    (h : ∀ a, H a = none → sp (gV (.ref a :: vs) zs) (upd H a (exo a C none)) (flew C a H Q) E0) :
    wpAny (model X.prog X.w) X.A (call (.ref C) us (ks.zip ws)) (MkP X pins σ Q) X.xe s := by
  obtain ⟨nm, N', qn, bs, bm, hdct, sn, sub, ab, col, dd, k0, k1, k2, k3, k5, hC, alike⟩ := PySem.W.excInit_of I.kIn T.ini
  have li := PySem.W.looks_findIn (M := model X.prog X.w) I.kIn N.at_
  have lb : ∀ self, PySem.W.Looks (model X.prog X.w) s.heap (bindSpecial (.ref fI) self) (.ref fI, [self]) := fun self => PySem.W.bind_fn I.kIn self N.ty
  have fresh : s.heap.objs.size ≤ s.heap.objs.size + 1 := Nat.le_succ _
  have hn : H (s.heap.objs.size + 1) = none := I.hok.fresh fresh
  have q0 := h _ hn
  have ul : us.length ≤ sizeLine := by
    have e := r.length
    rw [sizeLine_eq]
    omega
  obtain ⟨hp, gg, d, t, os⟩ := s
  have keeps : ∀ b o, hp.get? b = some o → (PySem.XcW.bornH hp C us).get? b = some o := by
    intro b o e
    exact Heap.get?_push_of_some _ (Heap.get?_push_of_some _ e)
  have born : (PySem.XcW.bornH hp C us).get? (hp.objs.size + 1) = some (PySem.HandSPX.excO C hp.objs.size) := by heap_get
  have I2 : Inv X pins σ (upd H (hp.objs.size + 1) (exo (hp.objs.size + 1) C none)) ⟨PySem.XcW.bornH hp C us, gg, d, t, os⟩ :=
    I.laid (h' := PySem.XcW.bornH hp C us) (t' := t) (o := exo (hp.objs.size + 1) C none) (a := hp.objs.size + 1) keeps fresh (exo_ok born)
  have r2 : Vals (V.ref (hp.objs.size + 1) :: vs) (Value.ref (hp.objs.size + 1) :: us) := .cons rfl r
  have e1 : (Value.ref (hp.objs.size + 1) :: us).length = n + 1 := r2.length.symm.trans (congrArg Nat.succ l1)
  have e2 : ws.length = ks.length := rz.length.symm.trans l2
  apply wpAny_call
  apply PySem.XcW.callMade T.F alike hC ul li lb
  apply codeAny_mono (F1.run _ X.stack _ _ ⟨Value.ref (hp.objs.size + 1) :: us, ks.zip ws⟩ _ _ _ E0 (hr.make C us (ks.zip ws)) (I2.env0.make C us (ks.zip ws)) (hb.to _ _ ws I2.kIn e1 e2) (hb.rel r2 rz) q0)
  intro res s' z
  match res, z with
  | .error _, z => exact z.elim
  | .ok .next, z => exact z.elim
  | .ok .brk, z => exact z.elim
  | .ok .cont, z => exact z.elim
  | .ok (.ret u), z =>
    obtain ⟨v, H3, os3, bare3, un3, hok3, rv, ev, dx, fs, ea, ed, n1, q3⟩ := z
    subst ev
    obtain ⟨h3, g3, d3, t3, os'⟩ := s'
    exact ⟨rv, mk_end (raises_own T.ex T.ty) I fresh keeps un3 hok3 os3 bare3 ea ed n1 q3⟩
def tRs (C : Addr) (n m : Nat) (sp : Sp) (gV : List V → List V → List V) (t tk : TA) : L2.St → Hp → XK → Prop := fun σ H Q => t σ H fun vs H1 => tk σ H1 fun zs H2 => vs.length = n ∧ zs.length = m ∧
  ∀ a, H2 a = none → sp (gV (.ref a :: vs) zs) (upd H2 a (exo a C none)) (flew C a H2 Q) E0
variable {x : Str} {p pos : Pos} {e : Expr} {es : List Expr} {kws : List Keyword} {ta tk : TA}
theorem pmk_x (T : Cl X.K C B newId initId bmB) (N : Ini X.K C fI) (F1 : FnOk X.prog X.w X.K X.mg X.base CX0 k fI fd ps sp) (hr : Room (k + 1) X.A) (hb : KBn X.K fd ps (n + 1) ks g gV) (few : n ≤ 1000) (hg : Gl X x) (hm : X.mg x = some (.ref C))
    (ha : PA X (e :: es) ta) (hkw : PK X kws tk) (hall : (backToKw pos (keywordEach kws X.env)).all (·.1.isSome) = true := by rfl) (hks : (backToKw pos (keywordEach kws X.env)).filterMap (·.1) = ks := by rfl)
    (hdb : (x == ("__debug__" : Str)) = false := by decide) (he : starEach (e :: es) X.env = (false, eval e X.env) :: starEach es X.env := by rfl)
    (hpl : ((backTo pos (starEach (e :: es) X.env)).any (·.1) || (backToKw pos (keywordEach kws X.env)).any (·.1.isNone)) = false := by rfl) :
    PMk X (.Call (.Name x p) (e :: es) kws pos) (tRs C n ks.length sp gV ta tk) := by
  intro pins s σ H Q I h
  apply wpAny_Call_Name_kw
  apply ld_glob I hg hm _ hdb
  apply PySem.W.callWith_KW (h₀ := X.base) I.ok.mod.kin T.kp hall _ hpl he
  apply thn (ha.run pos pins s σ H _ I h)
  rintro us s1 ⟨vs, H1, I1, r, q⟩
  apply thn (hkw.run pos pins s1 σ H1 _ I1 q)
  rintro ws s2 ⟨zs, H2, I2, rz, l1, l2, q2⟩
  refine ⟨I2.kIn, ?_⟩
  rw [hks]
  exact runRaise T N F1 hr hb few I2 r rz l1 l2 q2
theorem pmk_x0 (T : Cl X.K C B newId initId bmB) (N : Ini X.K C fI) (F1 : FnOk X.prog X.w X.K X.mg X.base CX0 k fI fd ps sp) (hr : Room (k + 1) X.A) (hb : KBn X.K fd ps 1 ks g gV) (hg : Gl X x) (hm : X.mg x = some (.ref C))
    (hkw : PK X kws tk) (hall : (backToKw pos (keywordEach kws X.env)).all (·.1.isSome) = true := by rfl) (hks : (backToKw pos (keywordEach kws X.env)).filterMap (·.1) = ks := by rfl)
    (hdb : (x == ("__debug__" : Str)) = false := by decide)
    (hpl : ((backTo pos (starEach [] X.env)).any (·.1) || (backToKw pos (keywordEach kws X.env)).any (·.1.isNone)) = false := by rfl) :
    PMk X (.Call (.Name x p) [] kws pos) (tRs C 0 ks.length sp gV tNil tk) := by
  intro pins s σ H Q I h
  apply wpAny_Call_Name_kw
  apply ld_glob I hg hm _ hdb
  apply PySem.W.callWith_KW0 (h₀ := X.base) I.ok.mod.kin T.kp hall _ hpl
  apply thn (hkw.run pos pins s σ H _ I h)
  rintro ws s2 ⟨zs, H2, I2, rz, l1, l2, q2⟩
  refine ⟨I2.kIn, ?_⟩
  rw [hks]
  exact runRaise (us := []) (vs := []) T N F1 hr hb (Nat.zero_le _) I2 .nil rz rfl l2 q2
end
/-- such an __init__, and it flies -/
theorem flies {H : Hp} {a C : Addr} {n : Nat} {mk : List V → List (Str × V)} {l xs : List V} {Q : XK} (el : l = .ref a :: xs) (hl : xs.length = n) (ha : H a = none)
    (k : ∀ (d : Addr) (H' : Hp), (∀ b o, H b = some o → H' b = some o) → H' d = some (.xd (mk xs)) → Q (.ref C) (some d) H') :
    spIn C n mk l (upd H a (exo a C none)) (flew C a H Q) E0 := by
  refine ⟨a, xs, el, hl, upd_same, fun dx H' n1 n2 e1 e2 keep => ?_⟩
  have nd : H dx = none := by
    rw [upd_ne n2] at n1
    exact n1
  refine ⟨rfl, dx, _, e1, e2, nd, k dx _ ?_ upd_same⟩
  intro b o e
  have b1 : b ≠ a := ne_of_none e ha
  have b2 : b ≠ dx := ne_of_none e nd
  rw [upd_ne b2, del_ne b1, keep b b1 b2, upd_ne b1]
  exact e
end Xg
set_option Elab.async false
set_option linter.all false
set_option maxRecDepth 100000
set_option maxHeartbeats 4000000
/-! Xj: a try with several named clauses, one of which takes what flies. -/
namespace Xg
open PySem PySem.Spec PyProof.Rows L2 Bs Xc
/-- the wishes behind a clause's suite: the name is gone -/
def gone (i : Nat) (D : Ends) : Ends := { nx := fun σ H => D.nx (σ.set i none) H, rt := D.rt, bk := fun σ H => D.bk (σ.set i none) H, ct := fun σ H => D.ct (σ.set i none) H }
/-- the clauses' wish: the first that names the class -/
def wN (K : PySem.W.Frag) (i : Nat) (D : Ends) : List (Value × (Addr → Value → Option Addr → TS)) → WX
  | [] => fun _ _ _ _ => False
  | (c, ts) :: r => fun cls d σ H => ∃ b, PySem.W.exmOne K cls c = some b ∧ (if b = true then ∀ a, H a = none → ts a cls d (gone i D) (σ.set i (some (.ref a))) H else wN K i D r cls d σ H)
inductive HdsN (X : Cx) (n : Str) : List ExceptHandler → List (Value × (Addr → Value → Option Addr → TS)) → Prop
  | nil : HdsN X n [] []
  | cons {x : Str} {c : Value} {ts : Addr → Value → Option Addr → TS} {b₀ : Stmt} {suite : List Stmt} {np pos' : Pos} {hds : List ExceptHandler} {l : List (Value × (Addr → Value → Option Addr → TS))} (hc : Names X x c)
      (su : ∀ (a : Addr) (oe : Obj) (cls : Value) (d : Option Addr) (pn : List (Addr × Obj)), Zc cls d oe → (∃ vs, oe.data = .fields vs) → PSs (X.suite a ((a, oe) :: pn)) (b₀ :: suite) (ts a cls d)) (r : HdsN X n hds l) :
      HdsN X n (.ExceptHandler (some (.Name x np)) (some n) (b₀ :: suite) pos' :: hds) ((c, ts) :: l)
/-- what is wanted of what the body lets fly -/
def sought (X : Cx) (pins : List (Addr × Obj)) (D : Ends) (hds : List ExceptHandler) (e : Value) (s1 : Shared) : Prop :=
  wpAny (model X.prog X.w) X.A (noteFrame e X.env) (fun _ s2 => wpAny (model X.prog X.w) X.A (setFlight e none) (fun _ s3 => wpAny (model X.prog X.w) X.A (handleBy e X.env hds) (SP X pins D) X.xe s3) X.xe s2) X.xe s1
section
variable {X : Cx} {n : Str} {i : Nat} {body : List Stmt} {h₀ : ExceptHandler} {hds : List ExceptHandler} {l : List (Value × (Addr → Value → Option Addr → TS))} {pos : Pos} {tb : WX → TS}
theorem ps_tryN (hs : X.stack = X.env :: X.outer) (hf : X.env.frame = some X.env.locals) (hN : X.N.Nodup) (hi : X.N[i]? = some n) (ln : X.env.kindOf n = some .local)
    (hb : ∀ (W : WX) (pn : List (Addr × Obj)) (xe : Value → Shared → Prop), Takes (X.tr pn xe) W → PSs (X.tr pn xe) body (tb W))
    (hh : HdsN X n (h₀ :: hds) l) : PS X (.Try body (h₀ :: hds) [] [] pos) (fun D σ H => tb (wN X.K i D l) D σ H) := by
  constructor
  intro pins s σ H D I h
  have ok := I.ok
  have fr : X.A.frames = some (X.env :: X.outer) := by
    rw [ok.frames, hs]
  have place : Loc X.env.scope n := .inl ln
  have caught : Takes (X.tr (X.pn ++ pins) (sought X pins D (h₀ :: hds))) (wN X.K i D l) := by
    rintro u s' ⟨a, B, sI, pins', σ', H', cls, d, rfl, J', nb, up, sky, na, os, ag, wish⟩
    have J : Inv X pins σ' H' sI := J'.ofTry ok
    have sky' : Sky B (X.env :: X.outer) a (Zc cls d) X.env.locals s'.heap := by
      rw [← hs]
      exact sky
    show wpAny _ _ (noteFrame (.ref a) X.env) _ _ _
    apply Sky.land Zc.steady fr hf sky'
    intro h3 fly up3
    have J3 : Inv X pins σ' H' { s' with heap := h3 } := J.landed nb fly.1 (up.trans up3) os ag
    obtain ⟨oe3, vs3, at3, z3, d3⟩ := fly.there
    have off : a ∉ frs (X.env :: X.outer) := by
      intro hm
      obtain ⟨_, o', e', notF⟩ := fly.2.2.1.mem hm
      rw [at3] at e'
      cases e'
      exact notF _ d3
    have offL : a ≠ X.env.locals := by
      intro z
      exact off (List.mem_filterMap.mpr ⟨X.env, List.mem_cons_self, by rw [hf, z]⟩)
    have offF : a ∉ X.fs := by
      intro hm
      obtain ⟨e, he, q⟩ := List.mem_filterMap.mp hm
      exact off (List.mem_filterMap.mpr ⟨e, List.mem_cons_of_mem _ he, q⟩)
    have S3 := J3.suite at3 d3 na offL offF
    have turn : ∀ {hds' : List ExceptHandler} {l' : List (Value × (Addr → Value → Option Addr → TS))}, HdsN X n hds' l' → wN X.K i D l' cls d σ' H' →
        wpAny (model X.prog X.w) X.A (handleBy (.ref a) X.env hds') (SP X pins D) X.xe { s' with heap := h3 } := by
      intro hds' l' hk
      induction hk with
      | nil =>
        intro z
        exact z.elim
      | @cons x c ts b₀ suite np pos' hds2 l2 hc su r ih =>
        rintro ⟨b, is, go⟩
        apply wpAny_handleBy_cons (codeAny_handlers_test _) (by intro q; cases q)
        have lt : PySem.W.Looks (model X.prog X.w) h3 (typeOf (.ref a)) cls := by
          intro A Q E s k q
          apply wpAny_typeOf_ref (k _ _ at3)
          rw [z3.1]
          exact q
        have lm := PySem.W.exm_one (M := model X.prog X.w) J3.kIn lt is
        have named : ∀ {Q : Value → Shared → Prop} {E : Value → Shared → Prop}, Q c { s' with heap := h3 } → wpAny (model X.prog X.w) (X.A.mark (some (.ref a))) (eval (.Name x np) X.env) Q E { s' with heap := h3 } := by
          intro Q E q
          obtain ⟨hg, hd, hm | ⟨hm, hv, nn⟩⟩ := hc
          · exact ld_glob (X := X.suite a ((a, oe3) :: (X.pn ++ pins))) S3 hg hm q hd
          · exact ld_blt (X := X.suite a ((a, oe3) :: (X.pn ++ pins))) S3 hg hm hv q nn hd
        apply named
        apply lm.here
        cases b with
        | false =>
          show wpAny _ X.A (handleBy (.ref a) X.env hds2) _ _ _
          exact ih go
        | true =>
          apply codeAny_handlers_suite_as
          apply HandSPX.lands_againZ fly
          intro h4 fly4 up4
          have J4 : Inv X pins σ' H' { s' with heap := h4 } := J.landed nb fly4.1 ((up.trans up3).trans up4) os ag
          obtain ⟨oe4, vs4, at4, z4, d4⟩ := fly4.there
          have S4 := J4.suite at4 d4 na offL offF
          refine store_ok (X := X.suite a ((a, oe4) :: (X.pn ++ pins))) (v := .ref a) S4 hN hi place rfl ?_ (.inr ln)
          intro s5 S5
          refine wpAny_mono ((su a oe4 cls d (X.pn ++ pins) z4 ⟨_, d4⟩).run [] s5 _ H' _ S5 (go a na)) ?_ (fun _ _ z => z.elim)
          intro f s6 sp
          have fin : ∀ {σ6 : L2.St} {H6 : Hp} {Q : Shared → Prop}, Inv (X.suite a ((a, oe4) :: (X.pn ++ pins))) [] σ6 H6 s6 → (∀ s7, Inv X pins (σ6.set i none) H6 s7 → Q s7) →
              wpAny (model X.prog X.w) X.A (do bindName X.env n .none; unbindBehindTheSuite X.env n pos') (fun _ s7 => Q s7) X.xe s6 := by
            intro σ6 H6 Q S6 q
            exact gone_ok (S6.unsuite ok) hN hi ln q
          match f, sp with
          | .next, ⟨σ6, H6, S6, q6⟩ => exact fin S6 fun s7 J7 => ⟨_, _, J7, q6⟩
          | .brk, ⟨σ6, H6, S6, q6⟩ => exact fin S6 fun s7 J7 => ⟨_, _, J7, q6⟩
          | .cont, ⟨σ6, H6, S6, q6⟩ => exact fin S6 fun s7 J7 => ⟨_, _, J7, q6⟩
          | .ret u, ⟨v6, σ6, H6, S6, r6, q6⟩ => exact fin S6 fun s7 J7 => ⟨_, _, _, J7, r6, q6⟩
    exact turn hh wish
  apply wpAny_Try_except
  refine wpAny_mono ((hb _ _ _ caught).run [] s σ H D (I.toTry _) h) ?_ (fun e s1 z => z)
  intro f s1 sp
  match f, sp with
  | .next, ⟨σ', H', J', q⟩ => exact wpAny_execs_nil ⟨σ', H', J'.ofTry ok, q⟩
  | .brk, ⟨σ', H', J', q⟩ => exact ⟨σ', H', J'.ofTry ok, q⟩
  | .cont, ⟨σ', H', J', q⟩ => exact ⟨σ', H', J'.ofTry ok, q⟩
  | .ret u, ⟨v, σ', H', J', r, q⟩ => exact ⟨v, σ', H', J'.ofTry ok, r, q⟩
end
end Xg
set_option Elab.async false
set_option linter.all false
set_option maxRecDepth 100000
set_option maxHeartbeats 4000000
namespace K21
open PySem PySem.Spec PyProof.Rows L2 Bs Xg TL
def top (i : Nat) : Stmt := PySem.Challenge.pw_cleanedtables_k03_days_read_and_written.main.body.getD i (.Pass ⟨0, 0, 0, 0⟩)
abbrev sHand : Stmt := top 24
abbrev sTake : Stmt := top 25
abbrev sPick : Stmt := top 26
/-! ### a hand: its three numbers -/
def HandAt (H : Hp) (h : Addr) (n : Nat) : Prop := ∃ g s c : Int, H h = some (.lst [.int g, .int s, .int c]) ∧ 0 ≤ s ∧ s < 2305843009213693951 ∧ 0 ≤ c ∧ c ≤ n
/-- all but h as it was -/
def But (h : Addr) (H H' : Hp) : Prop := ∀ b o, b ≠ h → H b = some o → H' b = some o
theorem But.refl (h : Addr) (H : Hp) : But h H H := fun _ _ _ e => e
theorem But.trans {h : Addr} {H H1 H2 : Hp} (a : But h H H1) (b : But h H1 H2) : But h H H2 := fun c o n e => b c o n (a c o n e)
theorem But.upd {h : Addr} {H : Hp} {o : HO} : But h H (upd H h o) := fun c p n e => by rw [upd_ne n]; exact e
theorem But.of {h : Addr} {H H' : Hp} (s : Same H H') : But h H H' := fun b o _ e => s b o e
theorem But.seq {K : PySem.W.Frag} {h a : Addr} {H H' : Hp} {xs : List V} (e : But h H H') (n : a ≠ h) (q : SqL K H a xs) : SqL K H' a xs := by
  rcases q with (q | ⟨o, q⟩) | q
  · exact .inl (.inl (e _ _ n q))
  · exact .inl (.inr ⟨o, e _ _ n q⟩)
  · exact .inr q
theorem Same.new {H : Hp} {p : Addr} {o : HO} (n : H p = none) : Same H (upd H p o) := fun b u e => by rw [upd_ne (ne_of_none e n)]; exact e
theorem HandAt.mono {H H' : Hp} {h : Addr} {n m : Nat} (a : HandAt H h n) (s : Same H H') (l : n ≤ m) : HandAt H' h m := by
  obtain ⟨g, t, c, e, h1, h2, h3, h4⟩ := a
  exact ⟨g, t, c, s _ _ e, h1, h2, h3, by omega⟩
theorem HandAt.up {H : Hp} {h : Addr} {n m : Nat} (a : HandAt H h n) (l : n ≤ m) : HandAt H h m := a.mono (Same.refl H) l

/-! ### the promises -/
def spTake : Sp := fun vs H Q _ => ∃ (h : Addr) (n : Nat) (m : Int), vs = [.ref h, .int m] ∧ HandAt H h n ∧ n < 1000000 ∧ 0 < m ∧ m < 1000000000 ∧
  ∀ (r : Int) (H' : Hp), 0 ≤ r → r < m → HandAt H' h (n + 1) → But h H H' → Q (.int r) H'
/-- pick from a text, from a list -/
def spPick (K : PySem.W.Frag) : Sp := fun vs H Q _ => ∃ (h : Addr) (n : Nat) (x : V) (ys : List V), vs = [.ref h, x] ∧ HandAt H h n ∧ n < 1000000 ∧ 0 < ys.length ∧ ys.length ≤ 1000 ∧
  ((∃ z : Str, x = .str z ∧ ys = z.cps.toList.map fun c => V.str ⟨#[c]⟩) ∨ (∃ p, x = .ref p ∧ p ≠ h ∧ SqL K H p ys)) ∧
  ∀ (y : V) (H' : Hp), y ∈ ys → HandAt H' h (n + 1) → But h H H' → Q y H'
/-- names not told otherwise -/
structure Free (mg : Str → Option Value) : Prop where
  isinstance : mg "isinstance" = none
  int : mg "int" = none
  bool : mg "bool" = none
  str : mg "str" = none
  tuple : mg "tuple" = none
  dict : mg "dict" = none
  len : mg "len" = none
  abs : mg "abs" = none
  range : mg "range" = none
  all : mg "all" = none
  sum : mg "sum" = none
  zip : mg "zip" = none
  list : mg "list" = none
  sorted : mg "sorted" = none
  repr : mg "repr" = none
  max : mg "max" = none
  min : mg "min" = none
section
variable {P : Program} {w : World} {K : PySem.W.Frag} {mg : Str → Option Value} {base : Heap}
theorem scT : FnScope ["_law_hand_here", "_law_many", "_law_digit", "_law_turn", "_law_one", "_law_two", "_law_mixed", "_law_last"] ["_law_hand_here", "_law_many"] (defScope sTake) := ⟨rfl, rfl, rfl, by decide +kernel, rfl, by decide +kernel, by decide +kernel⟩
theorem at3 {a b c : V} : ∀ j : Nat, j < 3 → ∃ v, ([a, b, c] : List V)[j]? = some v := fun j h => ⟨_, List.getElem?_eq_getElem (l := [a, b, c]) (by simpa using h)⟩
theorem ok_take {f : Addr} {fd : FuncData} (F : Fun K "_law_take" "_law_take" sTake f fd) : FnOk P w K mg base CX0 1 f fd ["_law_hand_here", "_law_many"] spTake := by
  refine F.ok scT (fun vs H Q E h => ?_) (fun cdv A outer s H vs Q E hr h => ?_)
  · obtain ⟨h, n, m, rfl, _⟩ := h
    rfl
  · obtain ⟨h, n, m, rfl, ⟨g, t, c, e, t0, t1, c0, c1⟩, nb, m0, m1, k⟩ := h
    have at0 : atI ([V.int g, V.int t, V.int c]) 0 = some (V.int g) := atI_nat (j := 0) rfl
    have at1 : atI ([V.int g, V.int t, V.int c]) 1 = some (V.int t) := atI_nat (j := 1) rfl
    have at2 : atI ([V.int g, V.int t, V.int c]) 2 = some (V.int c) := atI_nat (j := 2) rfl
    refine ⟨_, pss_cons (ps_if (pt_cmpR op_gt (pe_ix ix_list (pv 0) pe_int (fun _ _ => rfl)) pe_int (nomark _))
        (pss_cons (ps_set (i := 2) scT.nd rfl (Or.inl rfl) (pe_op op_mod (pe_ix ix_list (pv 0) pe_int (fun _ _ => rfl)) (pv 1)))
          (pss_cons (ps_asg (pe_op op_fdiv (pe_ix ix_list (pv 0) pe_int (fun _ _ => rfl)) (pv 1)) (pg_sub (pv 0) pe_int set_list))
            (pss_one (ps_ret (pv 2))))) pss_nil)
      (pss_cons (ps_set (i := 3) scT.nd rfl (Or.inl rfl) (pe_op op_add (pe_ix ix_list (pv 0) pe_int (fun _ _ => rfl)) pe_int))
      (pss_cons (ps_asg (pv 3) (pg_sub (pv 0) pe_int set_list))
      (pss_cons (ps_set (i := 4) scT.nd rfl (Or.inl rfl) (pe_op op_add (pe_ix ix_list (pv 0) pe_int (fun _ _ => rfl)) (pe_op op_mul pe_int (pv 3))))
      (pss_cons (ps_set (i := 5) scT.nd rfl (Or.inl rfl) (pe_op op_add (pe_op op_add (pe_op op_mod (pe_ix ix_list (pv 0) pe_int (fun _ _ => rfl)) pe_int) (pe_op op_mul pe_int (pv 3))) pe_int))
      (pss_cons (ps_set (i := 6) scT.nd rfl (Or.inl rfl) (pe_op op_mod (pe_op op_mul (pv 4) (pv 5)) pe_int))
      (pss_cons (ps_set (i := 7) scT.nd rfl (Or.inl rfl) (pe_op op_add (pe_op op_add (pe_op op_mod (pv 6) pe_int) (pe_op op_mul pe_int (pv 3))) pe_int))
      (pss_one (ps_ret (pe_op op_mod (pe_op op_fdiv (pe_op op_mod (pe_op op_mul (pe_op op_add (pv 6) pe_int) (pv 7)) pe_int) pe_int) (pv 1)))))))))), ?_⟩
    refine ⟨_, rfl, h, _, _, _, rfl, rfl, SqL.of e, at0, _, _, rfl, rfl, _, rfl, ?_⟩
    by_cases hc : (0 : Int) < g
    · rw [decide_eq_true hc]
      refine iteT ?_
      refine ⟨_, rfl, h, _, _, _, rfl, rfl, SqL.of e, at0, _, rfl, _, _, rfl, rfl, m0, ?_⟩
      refine ⟨_, rfl, h, _, _, _, rfl, rfl, SqL.of e, at0, _, rfl, _, _, rfl, rfl, ⟨m0, by omega⟩, ?_⟩
      refine ⟨_, rfl, h, _, _, 0, rfl, rfl, e, rfl, ?_⟩
      refine ⟨_, rfl, ?_⟩
      exact k _ _ (Int.emod_nonneg _ (by omega)) (Int.emod_lt_of_pos _ m0) ⟨g / m, t, c, upd_same, t0, t1, c0, by omega⟩ But.upd
    · rw [decide_eq_false hc]
      refine iteF ?_
      refine ⟨_, rfl, h, _, _, _, rfl, rfl, SqL.of e, at2, _, _, rfl, rfl, ?_⟩
      refine ⟨_, rfl, _, rfl, h, _, _, 2, rfl, rfl, e, rfl, ?_⟩
      have e1 : upd H h (.lst [.int g, .int t, .int (c + 1)]) h = some (.lst [.int g, .int t, .int (c + 1)]) := upd_same
      have b1 : atI ([V.int g, V.int t, V.int (c + 1)]) 1 = some (V.int t) := atI_nat (j := 1) rfl
      refine ⟨_, rfl, h, _, _, _, rfl, rfl, SqL.of e1, b1, _, rfl, _, _, rfl, rfl, .inl ⟨by decide, by decide⟩, _, _, rfl, rfl, ?_⟩
      refine ⟨_, rfl, h, _, _, _, rfl, rfl, SqL.of e1, b1, _, _, rfl, rfl, (by decide : (0 : Int) < 7919), _, rfl, _, _, rfl, rfl, .inl ⟨by decide, by decide⟩, _, _, rfl, rfl, _, _, rfl, rfl, ?_⟩
      have oneB : -(2 ^ 64) < t + 104729 * (c + 1) ∧ t + 104729 * (c + 1) < 2 ^ 64 := by omega
      refine ⟨_, rfl, _, rfl, _, _, rfl, rfl, .inl oneB, _, _, rfl, rfl, (by decide : (0 : Int) < 2305843009213693951), ?_⟩
      generalize (t + 104729 * (c + 1)) * (t % 7919 + 15485863 * (c + 1) + 17) = big
      have m0' : 0 ≤ big % 2305843009213693951 := Int.emod_nonneg _ (by decide)
      have m1' : big % 2305843009213693951 < 2305843009213693951 := Int.emod_lt_of_pos _ (by decide)
      refine ⟨_, rfl, _, _, rfl, rfl, (by decide : (0 : Int) < 1000003), _, rfl, _, _, rfl, rfl, .inl ⟨by decide, by decide⟩, _, _, rfl, rfl, _, _, rfl, rfl, ?_⟩
      have mB : -(2 ^ 64) < big % 2305843009213693951 + 13 ∧ big % 2305843009213693951 + 13 < 2 ^ 64 := by omega
      refine ⟨_, rfl, _, _, rfl, rfl, _, rfl, _, _, rfl, rfl, .inl mB, _, _, rfl, rfl, (by decide : (0 : Int) < 2305843009213693907), _, _, rfl, rfl, ⟨by decide, by decide⟩, _, rfl, _, _, rfl, rfl, m0, ?_⟩
      exact k _ _ (Int.emod_nonneg _ (by omega)) (Int.emod_lt_of_pos _ m0) ⟨g, t, c + 1, upd_same, t0, t1, by omega, by omega⟩ But.upd

/-! ### the hand, a pick, figures, signs -/
theorem scH : FnScope ["_law_script", "_law_k", "_law_cell", "_law_great"] ["_law_script", "_law_k"] (defScope sHand) := ⟨rfl, rfl, rfl, by decide +kernel, rfl, by decide +kernel, by decide +kernel⟩
def spHand (K : PySem.W.Frag) : Sp := fun vs H Q _ => ∃ (a : Addr) (ns : List Int) (j : Nat), vs = [.ref a, .int (j : Int)] ∧ SqL K H a (ns.map V.int) ∧ ns.length ≤ 63 ∧ j < 64 ∧
  ∀ (p : Addr) (H' : Hp), H p = none → Same H H' → HandAt H' p 0 → Q (.ref p) H'
theorem ok_hand {f : Addr} {fd : FuncData} (F : Fun K "_law_hand" "_law_hand" sHand f fd) (T : Free mg) : FnOk P w K mg base CX0 1 f fd ["_law_script", "_law_k"] (spHand K) := by
  refine F.ok scH (fun vs H Q E h => ?_) (fun cdv A outer s H vs Q E hr h => ?_)
  · obtain ⟨a, ns, j, rfl, _⟩ := h
    rfl
  · obtain ⟨a, ns, j, rfl, hS, hl, hj, k⟩ := h
    have hr1 := hr
    refine ⟨_, pss_cons (ps_set (i := 2) scH.nd rfl (Or.inl rfl) (pe_ifExp (pt_cmpR op_lt (pv 1) (pe_callB call_len_seq (by rfl) T.len PySem.boot_len (pa_cons (pv 0) pa_nil)) (nomark _)) (pe_ix ix_list (pv 0) (pv 1) (fun _ _ => rfl)) pe_int))
      (pss_cons (ps_set (i := 3) scH.nd rfl (Or.inl rfl) (pe_ifExp (pt_cmpR op_ge (pe_callB call_abs (by rfl) T.abs (by decide +kernel) (pa_cons (pv 2) pa_nil)) (pe_op op_pow pe_int pe_int) (nomark _))
        (pe_op op_mod (pe_callB call_abs (by rfl) T.abs (by decide +kernel) (pa_cons (pv 2) pa_nil)) (pe_op op_mulW (pe_op op_mulW (pe_op op_pow pe_int pe_int) (pe_op op_pow pe_int pe_int)) (pe_op op_pow pe_int pe_int))) pe_int))
      (pss_one (ps_ret (pe_lst (pa_cons (pv 3) (pa_cons (pe_op op_mod (pe_op op_add (pe_op op_add (pe_op op_mul (pe_op op_mod (pv 2) pe_int) pe_int) (pe_op op_mul pe_int (pv 1))) pe_int) pe_int) (pa_cons pe_int pa_nil))))))), ?_⟩
    refine cutA (fun v H' => (∃ cell : Int, v = .int cell) ∧ H' = H) (fun Q' q => ?_) ?_
    · refine ⟨_, rfl, _, rfl, a, _, rfl, .inl hS, _, _, rfl, rfl, _, rfl, ?_⟩
      by_cases c : (j : Int) < ((ns.map V.int).length : Nat)
      · rw [decide_eq_true c]
        refine iteT ?_
        rw [List.length_map] at c
        have hj' : j < ns.length := by omega
        refine ⟨_, rfl, _, rfl, a, _, _, .int ns[j], rfl, rfl, hS, atI_nat (by rw [List.getElem?_map, List.getElem?_eq_getElem hj']; rfl), ?_⟩
        exact q _ _ ⟨⟨_, rfl⟩, rfl⟩
      · rw [decide_eq_false c]
        refine iteF ?_
        exact q _ _ ⟨⟨_, rfl⟩, rfl⟩
    · rintro v H' ⟨⟨cell, rfl⟩, rfl⟩
      refine cutA (fun v H2 => (∃ great : Int, v = .int great) ∧ H2 = H') (fun Q' q => ?_) ?_
      · refine ⟨_, rfl, _, rfl, _, _, rfl, rfl, ⟨by decide, by decide, by decide⟩, _, _, rfl, rfl, _, rfl, ?_⟩
        refine ite2 (fun _ => ?_) (fun _ => ?_)
        · refine ⟨_, rfl, _, rfl, _, _, rfl, rfl, ⟨by decide, by decide, by decide⟩, _, _, rfl, rfl, ⟨by decide, by decide, by decide⟩, _, _, rfl, rfl, wide_mul (a := 300) (b := 300) (by decide +kernel) (by decide +kernel) (by decide) (by decide) (by decide), _, _, rfl, rfl, ⟨by decide, by decide, by decide⟩,
            _, _, rfl, rfl, wide_mul (a := 600) (b := 300) (by decide +kernel) (by decide +kernel) (by decide) (by decide) (by decide), _, _, rfl, rfl, (by show (0 : Int) < 10 ^ Int.toNat 60 * 10 ^ Int.toNat 60 * 10 ^ Int.toNat 60; decide +kernel), ?_⟩
          exact q _ _ ⟨⟨_, rfl⟩, rfl⟩
        · exact q _ _ ⟨⟨_, rfl⟩, rfl⟩
      · rintro v H2 ⟨⟨great, rfl⟩, rfl⟩
        have mB : -(2 ^ 64) < cell % 2305843009213693951 ∧ cell % 2305843009213693951 < 2 ^ 64 := by omega
        refine ⟨_, rfl, _, rfl, _, _, rfl, rfl, (by decide : (0 : Int) < 2305843009213693951), _, _, rfl, rfl, .inl mB, _, rfl, _, _, rfl, rfl, .inl ⟨by decide, by decide⟩, _, _, rfl, rfl, _, _, rfl, rfl, _, _, rfl, rfl, (by decide : (0 : Int) < 2305843009213693921), (by show 3 ≤ sizeLine; decide), fun p hp => ?_⟩
        exact k p _ hp (Same.new hp) ⟨_, _, _, upd_same, Int.emod_nonneg _ (by decide), Int.lt_trans (Int.emod_lt_of_pos _ (by decide)) (by decide), Int.le_refl _, Int.le_refl _⟩

theorem scP : FnScope ["_law_hand_here", "_law_some"] ["_law_hand_here", "_law_some"] (defScope sPick) := ⟨rfl, rfl, rfl, by decide +kernel, rfl, by decide +kernel, by decide +kernel⟩
theorem ok_pick {f fT : Addr} {fd fdT : FuncData} (F : Fun K "_law_pick" "_law_pick" sPick f fd) (T : Free mg) (FT : Fun K "_law_take" "_law_take" sTake fT fdT) (bT : Binds K fdT ["_law_hand_here", "_law_many"] []) (gT : mg "_law_take" = some (.ref fT)) :
    FnOk P w K mg base CX0 2 f fd ["_law_hand_here", "_law_some"] (spPick K) := by
  have GT : FnOk P w K mg base CX0 1 fT fdT ["_law_hand_here", "_law_many"] spTake := ok_take FT
  refine F.ok scP (fun vs H Q E h => ?_) (fun cdv A outer s H vs Q E hr h => ?_)
  · obtain ⟨h, n, x, ys, rfl, _⟩ := h
    rfl
  · obtain ⟨h, n, x, ys, rfl, hd, nb, l0, l1, sh, k⟩ := h
    rcases sh with ⟨z, rfl, rfl⟩ | ⟨p, rfl, ne, hp⟩
    · have zl : z.length = (z.cps.toList.map fun c => V.str ⟨#[c]⟩).length := by rw [List.length_map]; simp [Str.length]
      refine ⟨_, pss_one (ps_ret (pe_ix ix_str (pv 1) (pe_call GT hr (by rfl) gT FT.kp bT .nil pass0 (pa_cons (pv 0) (pa_cons (pe_callB call_len_str (by rfl) T.len PySem.boot_len (pa_cons (pv 1) pa_nil)) pa_nil))) (fun _ _ => rfl))), ?_⟩
      refine ⟨_, rfl, _, rfl, _, rfl, z, rfl, Nat.le_trans (by omega) (show 1000 ≤ sizeLine by decide), h, n, _, rfl, hd, nb, by omega, by omega, fun r H' r0 r1 hd' bt => ?_⟩
      have rl : r.toNat < z.cps.toList.length := by rw [List.length_map] at zl; omega
      refine ⟨z, r, z.cps.toList[r.toNat], rfl, rfl, Nat.le_trans (by omega) (show 1000 ≤ sizeLine by decide), ?_, ?_⟩
      · have e := atI_nat (xs := z.cps.toList) (j := r.toNat) (List.getElem?_eq_getElem rl)
        rw [Int.toNat_of_nonneg r0] at e
        exact e
      · exact k _ _ (List.mem_map.mpr ⟨_, List.getElem_mem rl, rfl⟩) hd' bt
    · refine ⟨_, pss_one (ps_ret (pe_ix ix_list (pv 1) (pe_call GT hr (by rfl) gT FT.kp bT .nil pass0 (pa_cons (pv 0) (pa_cons (pe_callB call_len_seq (by rfl) T.len PySem.boot_len (pa_cons (pv 1) pa_nil)) pa_nil))) (fun _ _ => rfl))), ?_⟩
      refine ⟨_, rfl, _, rfl, _, rfl, p, _, rfl, .inl hp, h, n, _, rfl, hd, nb, by omega, by omega, fun r H' r0 r1 hd' bt => ?_⟩
      have rl : r.toNat < ys.length := by omega
      refine ⟨p, _, r, ys[r.toNat], rfl, rfl, bt.seq ne hp, ?_, ?_⟩
      · have e := atI_nat (xs := ys) (j := r.toNat) (List.getElem?_eq_getElem rl)
        rw [Int.toNat_of_nonneg r0] at e
        exact e
      · exact k _ _ (List.getElem_mem rl) hd' bt
/-! texts of plain signs -/
def Good (L : Nat) (z : Str) : Prop := z.length ≤ L ∧ ∀ c ∈ z.cps.toList, 32 ≤ c ∧ c < 127
theorem Good.app {a b : Nat} {x y : Str} (h : Good a x) (g : Good b y) : Good (a + b) (x ++ y) := by
  refine ⟨?_, fun c hc => ?_⟩
  · have e := congrArg List.length (tl_append x y)
    rw [List.length_append] at e
    rw [len_tl, e, ← len_tl, ← len_tl]
    exact Nat.add_le_add h.1 g.1
  · have e : c ∈ tl x ++ tl y := by rw [← tl_append]; exact hc
    rcases List.mem_append.mp e with e | e
    · exact h.2 c e
    · exact g.2 c e
theorem Good.cut {L : Nat} {z : Str} (h : Good L z) (lo hi : Option Int) : Good L (cutS z lo hi) :=
  ⟨Nat.le_trans (cutS_length z lo hi) h.1, fun c hc => h.2 c (List.mem_of_mem_drop (List.mem_of_mem_take hc))⟩
theorem Good.le {a b : Nat} {z : Str} (h : Good a z) (l : a ≤ b) : Good b z := ⟨Nat.le_trans h.1 l, h.2⟩
end
end K21
set_option Elab.async false
set_option linter.all false
set_option maxRecDepth 100000
set_option maxHeartbeats 4000000
/-! the mathematics of numbers read and written: lists of signs -/
namespace K02
open PySem TL
def dg (c : Nat) : Bool := decide (48 ≤ c) && decide (c ≤ 57)
def figs (k : Nat) (l : List Nat) : Bool := decide (1 ≤ l.length) && decide (l.length ≤ k) && l.all dg
def val (l : List Nat) : Nat := NumText.digitsVal l
def body (l : List Nat) : List Nat := if l.take 1 = [43] ∨ l.take 1 = [45] then l.drop 1 else l
def sgn (l : List Nat) (n : Nat) : Int := if l.take 1 = [45] then -(n : Int) else n
def cap (m : Nat) : Nat := if m = 0 then 9 else 8
def zs (k : Nat) : List Nat := List.replicate k 48
def due (m : Nat) (l : List Nat) : Option Int :=
  match par [46] [] (body l) with
  | none => if figs (cap m) (body l) = true then some (sgn l (val (body l ++ zs m))) else none
  | some (p, q) => if figs (cap m) p = true ∧ figs m q = true then some (sgn l (val (p ++ (q ++ zs (m - q.length))))) else none
theorem due_plain {m : Nat} {l : List Nat} (h : 46 ∉ body l) : due m l = if figs (cap m) (body l) = true then some (sgn l (val (body l ++ zs m))) else none := by
  unfold due
  rw [par_none1 h]
theorem due_dot {m : Nat} {l p q : List Nat} (e : body l = p ++ 46 :: q) (h : 46 ∉ p) : due m l = if figs (cap m) p = true ∧ figs m q = true then some (sgn l (val (p ++ (q ++ zs (m - q.length))))) else none := by
  unfold due
  have z : par [46] [] (body l) = some (p, q) := by
    rw [e]
    exact par_part1 (S := []) (acc := []) (rest := q) h
  rw [z]
theorem two_ways (l : List Nat) : (46 ∉ l) ∨ ∃ p q, l = p ++ 46 :: q ∧ 46 ∉ p := by
  by_cases h : 46 ∈ l
  · exact .inr (List.eq_append_cons_of_mem h)
  · exact .inl h
theorem dg_iff {c : Nat} : dg c = true ↔ 48 ≤ c ∧ c ≤ 57 := by simp [dg]
theorem figs_iff {k : Nat} {l : List Nat} : figs k l = true ↔ (1 ≤ l.length ∧ l.length ≤ k) ∧ NumText.AllDigits l := by
  unfold figs NumText.AllDigits
  rw [Bool.and_eq_true, Bool.and_eq_true, decide_eq_true_eq, decide_eq_true_eq, List.all_eq_true]
  constructor
  · rintro ⟨h, g⟩
    exact ⟨h, fun c hc => dg_iff.mp (g c hc)⟩
  · rintro ⟨h, g⟩
    exact ⟨h, fun c hc => dg_iff.mpr (g c hc)⟩
/-! values -/
theorem foldl_val : ∀ (l : List Nat) (a : Nat), l.foldl (fun acc c => acc * 10 + (c - 48)) a = a * 10 ^ l.length + val l
  | [], a => by simp [val, NumText.digitsVal]
  | c :: r, a => by
    have h1 := foldl_val r (a * 10 + (c - 48))
    have h2 := foldl_val r (0 * 10 + (c - 48))
    have h3 : val (c :: r) = r.foldl (fun acc c => acc * 10 + (c - 48)) (0 * 10 + (c - 48)) := rfl
    rw [List.foldl_cons, h1, h3, h2, List.length_cons, Nat.pow_succ]
    simp only [Nat.zero_mul, Nat.zero_add, Nat.add_mul, Nat.mul_assoc, Nat.add_assoc, Nat.mul_comm 10]
theorem val_app (a b : List Nat) : val (a ++ b) = val a * 10 ^ b.length + val b := by
  have e : val (a ++ b) = b.foldl (fun acc c => acc * 10 + (c - 48)) (val a) := by
    unfold val NumText.digitsVal
    rw [List.foldl_append]
  rw [e, foldl_val]
theorem val_zs : ∀ k, val (zs k) = 0
  | 0 => rfl
  | k + 1 => by
    have e : zs (k + 1) = zs k ++ [48] := by unfold zs; rw [List.replicate_succ']
    rw [e, val_app, val_zs k]
    rfl
theorem val_lt : ∀ {l : List Nat}, NumText.AllDigits l → val l < 10 ^ l.length
  | [], _ => by simp [val, NumText.digitsVal]
  | c :: r, h => by
    have e : val (c :: r) = val [c] * 10 ^ r.length + val r := val_app [c] r
    have i := val_lt (l := r) h.tail
    have hc := h.head
    have v1 : val [c] = c - 48 := by simp [val, NumText.digitsVal]
    rw [e, v1, List.length_cons, Nat.pow_succ]
    have : (c - 48) * 10 ^ r.length ≤ 9 * 10 ^ r.length := Nat.mul_le_mul_right _ (by omega)
    omega
theorem zs_len (k : Nat) : (zs k).length = k := List.length_replicate
theorem zs_digits (k : Nat) : NumText.AllDigits (zs k) := fun c hc => by
  have e := List.eq_of_mem_replicate hc
  omega
theorem digits_app {a b : List Nat} (h : NumText.AllDigits a) (g : NumText.AllDigits b) : NumText.AllDigits (a ++ b) := fun c hc => by
  rcases List.mem_append.mp hc with q | q
  · exact h c q
  · exact g c q
theorem due_small {m : Nat} {l : List Nat} {n : Int} (h : due m l = some n) : n.natAbs < 10 ^ (cap m + m) := by
  have sg : ∀ k : Nat, (sgn l k).natAbs = k := fun k => by
    unfold sgn
    split <;> omega
  have up : ∀ {x : List Nat}, NumText.AllDigits x → x.length ≤ cap m + m → val x < 10 ^ (cap m + m) := fun h g => Nat.lt_of_lt_of_le (val_lt h) (Nat.pow_le_pow_right (by decide) g)
  rcases two_ways (body l) with w | ⟨p, q, e, w⟩
  · rw [due_plain w] at h
    split at h
    · rename_i f
      obtain ⟨⟨_, f2⟩, f3⟩ := figs_iff.mp f
      rw [← Option.some.inj h, sg]
      exact up (digits_app f3 (zs_digits m)) (by rw [List.length_append, zs_len]; omega)
    · cases h
  · rw [due_dot e w] at h
    split at h
    · rename_i f
      obtain ⟨f, g⟩ := f
      obtain ⟨⟨_, f2⟩, f3⟩ := figs_iff.mp f
      obtain ⟨⟨_, g2⟩, g3⟩ := figs_iff.mp g
      rw [← Option.some.inj h, sg]
      exact up (digits_app f3 (digits_app g3 (zs_digits _))) (by rw [List.length_append, List.length_append, zs_len]; omega)
    · cases h
/-! figures of a number -/
def padL (k n : Nat) : List Nat := zs (k - (numL n).length) ++ numL n
def dig : Nat → Nat → List Nat
  | 0, _ => []
  | k + 1, n => dig k (n / 10) ++ [48 + n % 10]
theorem dig_len : ∀ k n, (dig k n).length = k
  | 0, _ => rfl
  | k + 1, n => by rw [dig, List.length_append, dig_len k]; rfl
theorem dig_cons : ∀ k n, dig (k + 1) n = (48 + n / 10 ^ k % 10) :: dig k n
  | 0, n => by simp [dig]
  | k + 1, n => by
    have i := dig_cons k (n / 10)
    rw [dig, i, dig]
    have e : n / 10 / 10 ^ k = n / 10 ^ (k + 1) := by rw [Nat.div_div_eq_div_mul, Nat.pow_succ, Nat.mul_comm 10]
    rw [e]
    rfl
theorem dig_zero : ∀ k, dig k 0 = zs k
  | 0 => rfl
  | k + 1 => by
    rw [dig, Nat.zero_div, dig_zero k]
    show zs k ++ [48] = zs (k + 1)
    unfold zs
    rw [List.replicate_succ']
theorem numL_pos (n : Nat) : 0 < (numL n).length := List.length_pos_iff.mpr (numL_ne n)
theorem dig_pad : ∀ k n, n < 10 ^ k → 0 < k → dig k n = padL k n
  | 0, _, _, h => by omega
  | k + 1, n, h, _ => by
    by_cases c : n < 10
    · have e : n / 10 = 0 := by omega
      have e2 : n % 10 = n := by omega
      rw [dig, e, e2, dig_zero]
      unfold padL
      rw [numL_lt c]
      show zs k ++ [48 + n] = zs (k + 1 - 1) ++ [48 + n]
      rw [Nat.add_sub_cancel]
    · have k0 : 0 < k := by
        cases k with
        | zero => simp at h; omega
        | succ k => omega
      have d : n / 10 < 10 ^ k := by
        rw [Nat.pow_succ] at h
        omega
      have i := dig_pad k (n / 10) d k0
      rw [dig, i]
      unfold padL
      rw [numL_step (n := n) (by omega), List.length_append]
      show (zs _ ++ numL (n / 10)) ++ [48 + n % 10] = zs (k + 1 - ((numL (n / 10)).length + 1)) ++ (numL (n / 10) ++ [48 + n % 10])
      rw [Nat.add_sub_add_right, List.append_assoc]
theorem numL_ge : ∀ k n, 10 ^ k ≤ n → k < (numL n).length
  | 0, n, _ => numL_pos n
  | k + 1, n, h => by
    rw [Nat.pow_succ] at h
    have p : 0 < 10 ^ k := Nat.pow_pos (by decide)
    have i := numL_ge k (n / 10) (by omega)
    rw [numL_step (n := n) (by omega), List.length_append]
    show k + 1 < (numL (n / 10)).length + 1
    omega
theorem loop_end {m k n : Nat} (h1 : n < 10 ^ k) (h2 : m + 1 ≤ k) (h3 : k = m + 1 ∨ 10 ^ (k - 1) ≤ n) : dig k n = padL (m + 1) n := by
  rw [dig_pad k n h1 (by omega)]
  rcases h3 with rfl | h3
  · rfl
  · have l1 := numL_ge (k - 1) n h3
    unfold padL
    rw [show k - (numL n).length = 0 by omega, show m + 1 - (numL n).length = 0 by omega]
theorem padL_val (k n : Nat) : val (padL k n) = n := by
  unfold padL
  rw [val_app, val_zs]
  show 0 * _ + NumText.digitsVal (numL n) = n
  rw [numL_val]
  omega
theorem padL_digits (k n : Nat) : NumText.AllDigits (padL k n) := digits_app (zs_digits _) (numL_digits n)
theorem padL_len (k n : Nat) : k ≤ (padL k n).length := by
  unfold padL
  rw [List.length_append, zs_len]
  omega
theorem padL_le {k n j : Nat} (h : n < 10 ^ j) (j0 : 0 < j) (kj : k ≤ j) : (padL k n).length ≤ j := by
  have := numL_len j0 h
  unfold padL
  rw [List.length_append, zs_len]
  omega
def shownL (m : Nat) (n : Int) : List Nat :=
  (if n < 0 then [45] else []) ++ (if m = 0 then padL 1 n.natAbs else (padL (m + 1) n.natAbs).take ((padL (m + 1) n.natAbs).length - m) ++ 46 :: (padL (m + 1) n.natAbs).drop ((padL (m + 1) n.natAbs).length - m))
theorem body_shown {m : Nat} {n : Int} {x : List Nat} {d : Nat} {r : List Nat} (hx : x = d :: r) (hd : 48 ≤ d ∧ d ≤ 57) : body ((if n < 0 then [45] else []) ++ x) = x ∧ ∀ k, sgn ((if n < 0 then [45] else []) ++ x) k = if n < 0 then -(k : Int) else k := by
  subst hx
  by_cases c : n < 0
  · rw [if_pos c]
    refine ⟨?_, fun k => ?_⟩
    · unfold body
      rw [if_pos (.inr rfl)]
      rfl
    · unfold sgn
      rw [if_pos c, if_pos (show List.take 1 ([45] ++ d :: r) = [45] from rfl)]
  · rw [if_neg c]
    refine ⟨?_, fun k => ?_⟩
    · unfold body
      rw [if_neg]
      · rfl
      · simp
        omega
    · unfold sgn
      rw [if_neg c, if_neg]
      simp
      omega
theorem dot_free {x : List Nat} (h : NumText.AllDigits x) : 46 ∉ x := fun q => by
  have := h 46 q
  omega
theorem back {m : Nat} {n : Int} (h : n.natAbs < 10 ^ (cap m + m)) : due m (shownL m n) = some n := by
  have cp : 0 < cap m := by unfold cap; split <;> omega
  have fin : ∀ k : Nat, k = n.natAbs → (if n < 0 then -(k : Int) else (k : Int)) = n := fun k e => by
    subst e
    split <;> omega
  by_cases m0 : m = 0
  · subst m0
    unfold shownL
    rw [if_pos rfl]
    have dgs := padL_digits 1 n.natAbs
    have len := padL_len 1 n.natAbs
    have le : (padL 1 n.natAbs).length ≤ 9 := padL_le h (by decide) (by decide)
    cases e : padL 1 n.natAbs with
    | nil =>
      rw [e] at len
      simp at len
    | cons d r =>
      have b := body_shown (m := 0) (n := n) (x := d :: r) rfl (dgs d (by rw [e]; exact List.mem_cons_self))
      rw [due_plain (by rw [b.1, ← e]; exact dot_free dgs), b.1, b.2, if_pos]
      · rw [← e, show zs 0 = [] from rfl, List.append_nil, padL_val, fin _ rfl]
      · rw [← e]
        exact figs_iff.mpr ⟨⟨len, le⟩, dgs⟩
  · unfold shownL
    rw [if_neg m0]
    have dgs := padL_digits (m + 1) n.natAbs
    have len := padL_len (m + 1) n.natAbs
    have le : (padL (m + 1) n.natAbs).length ≤ cap m + m := padL_le h (by omega) (by omega)
    have v := padL_val (m + 1) n.natAbs
    generalize padL (m + 1) n.natAbs = x at dgs len le v
    have dA : NumText.AllDigits (x.take (x.length - m)) := fun c hc => dgs c (List.mem_of_mem_take hc)
    have dB : NumText.AllDigits (x.drop (x.length - m)) := fun c hc => dgs c (List.mem_of_mem_drop hc)
    have lA : (x.take (x.length - m)).length = x.length - m := by rw [List.length_take]; omega
    have lB : (x.drop (x.length - m)).length = m := by rw [List.length_drop]; omega
    have AB : x.take (x.length - m) ++ x.drop (x.length - m) = x := List.take_append_drop _ _
    generalize x.take (x.length - m) = A at dA lA AB
    generalize x.drop (x.length - m) = B at dB lB AB
    cases A with
    | nil =>
      simp at lA
      omega
    | cons d r =>
      have b := body_shown (m := m) (n := n) (x := (d :: r) ++ 46 :: B) rfl (dA d List.mem_cons_self)
      rw [due_dot b.1 (dot_free dA), b.2, if_pos]
      · rw [lB, Nat.sub_self, show zs 0 = [] from rfl, List.append_nil, AB, v, fin _ rfl]
      · exact ⟨figs_iff.mpr ⟨⟨by simp, by omega⟩, dA⟩, figs_iff.mpr ⟨⟨by omega, by omega⟩, dB⟩⟩
end K02
set_option Elab.async false
set_option linter.all false
set_option maxRecDepth 100000
set_option maxHeartbeats 8000000
namespace K21
open PySem PySem.Spec PyProof.Rows L2 Bs Xg TL K02
abbrev sReadAs : Stmt := top 15
abbrev sIsFig : Stmt := top 16
abbrev sReadAm : Stmt := top 17
def S (l : List Nat) : Str := ⟨l.toArray⟩
theorem tl_S (l : List Nat) : tl (S l) = l := rfl
theorem S_len (l : List Nat) : (S l).length = l.length := by simp [S, Str.length]
theorem S_tl (z : Str) : S (tl z) = z := mk_tl z
def ov : Option Int → V
  | none => .non
  | some i => .int i
theorem asc_dig : ∀ c, c < 128 → Unicode.isDigit c = dg c := by decide +kernel
theorem is_figs {z : Str} {k : Nat} : (decide (1 ≤ z.length) && decide (z.length ≤ k) && (Txt.isascii z && Txt.isdigit z)) = figs k (tl z) := by
  unfold Txt.isascii Txt.isdigit figs
  have e1 : z.cps.all (· < 128) = (tl z).all (fun c => decide (c < 128)) := by simp [tl]
  have e2 : z.cps.all Unicode.isDigit = (tl z).all Unicode.isDigit := by simp [tl]
  rw [e1, e2, len_tl]
  by_cases h : 1 ≤ (tl z).length ∧ (tl z).length ≤ k
  · have p : decide ((tl z).length > 0) = true := decide_eq_true (by omega)
    rw [decide_eq_true h.1, decide_eq_true h.2, p]
    simp only [Bool.true_and]
    generalize tl z = l
    induction l with
    | nil => rfl
    | cons c r ih =>
      simp only [List.all_cons]
      by_cases a : c < 128
      · rw [asc_dig c a, decide_eq_true a]
        cases dg c
        · simp
        · simp only [Bool.true_and]
          exact ih
      · have n : dg c = false := by
          unfold dg
          rw [decide_eq_false (show ¬ c ≤ 57 by omega), Bool.and_false]
        rw [decide_eq_false a, n]
        rfl
  · have n : (decide (1 ≤ (tl z).length) && decide ((tl z).length ≤ k)) = false := by
      rw [Bool.and_eq_false_iff, decide_eq_false_iff_not, decide_eq_false_iff_not]
      omega
    rw [n]
    rfl
section
variable {P : Program} {w : World} {K : PySem.W.Frag} {mg : Str → Option Value} {base : Heap}
theorem scIF : FnScope ["text", "most"] ["text", "most"] (defScope sIsFig) := ⟨rfl, rfl, rfl, by decide +kernel, rfl, by decide +kernel, by decide +kernel⟩
def spIsFig : Sp := fun vs H Q _ => ∃ (z : Str) (k : Nat), vs = [.str z, .int (k : Int)] ∧ z.length ≤ 1000 ∧ Q (.bl (figs k (tl z))) H
theorem ok_isfig {f : Addr} {fd : FuncData} (F : Fun K "is_figures" "is_figures" sIsFig f fd) (T : Free mg) : FnOk P w K mg base CX0 1 f fd ["text", "most"] spIsFig := by
  refine F.ok scIF (fun vs H Q E h => ?_) (fun cdv A outer s H vs Q E hr h => ?_)
  · obtain ⟨z, k, rfl, _⟩ := h
    rfl
  · obtain ⟨z, k, rfl, zl, q⟩ := h
    refine ⟨_, pss_one (ps_ret (pe_and (pe_chain op_le op_le pe_int (pe_callB call_len_str (by rfl) T.len PySem.boot_len (pa_cons (pv 0) pa_nil)) (pv 1)) (pe_and (pe_m0 PySem.F.slot_str_isascii PySem.F.type_str_isascii mt_isascii (pv 0)) (pe_one (pe_m0 PySem.F.slot_str_isdigit PySem.F.type_str_isdigit mt_isdigit (pv 0)))))), ?_⟩
    have line : z.length ≤ sizeLine := Nat.le_trans zl (by decide)
    rw [← is_figs] at q
    refine ⟨_, rfl, _, rfl, line, _, _, rfl, rfl, _, rfl, ?_⟩
    by_cases c1 : (1 : Int) ≤ (z.length : Nat)
    · rw [decide_eq_true c1]
      refine iteT ?_
      refine ⟨_, rfl, _, _, rfl, rfl, _, rfl, ?_⟩
      rw [decide_eq_true (show 1 ≤ z.length by omega), Bool.true_and] at q
      by_cases c2 : ((z.length : Nat) : Int) ≤ (k : Int)
      · rw [decide_eq_true c2]
        refine iteT ?_
        rw [decide_eq_true (show z.length ≤ k by omega), Bool.true_and] at q
        refine ⟨_, rfl, ⟨_, rfl⟩, _, rfl, rfl, trivial, _, rfl, ?_⟩
        cases ea : Txt.isascii z with
        | true =>
          refine iteT ?_
          rw [ea, Bool.true_and] at q
          exact ⟨_, rfl, ⟨_, rfl⟩, _, rfl, rfl, trivial, q⟩
        | false =>
          refine iteF ?_
          rw [ea] at q
          exact q
      · rw [decide_eq_false c2]
        refine iteF ?_
        rw [decide_eq_false (show ¬ z.length ≤ k by omega)] at q
        exact q
    · rw [decide_eq_false c1]
      refine iteF ?_
      rw [decide_eq_false (show ¬ 1 ≤ z.length by omega)] at q
      exact ⟨_, rfl, q⟩
end
/-! slices, starts, pads as lists -/
theorem tl_cut_to (z : Str) (k : Nat) : tl (cutS z none (some (k : Int))) = (tl z).take k := by
  show ((tl z).drop (HT.sIx z.length 0 none)).take (HT.sIx z.length z.length (some (k : Int)) - HT.sIx z.length 0 none) = (tl z).take k
  rw [HT.sIx_none, HT.sIx_nat, List.drop_zero, Nat.sub_zero, len_tl]
  by_cases h : k ≤ (tl z).length
  · rw [Nat.min_eq_left h]
  · rw [Nat.min_eq_right (by omega), List.take_of_length_le (Nat.le_refl _), List.take_of_length_le (by omega)]
theorem tl_cut_from (z : Str) (k : Nat) : tl (cutS z (some (k : Int)) none) = (tl z).drop k := by
  show ((tl z).drop (HT.sIx z.length 0 (some (k : Int)))).take (HT.sIx z.length z.length none - HT.sIx z.length 0 (some (k : Int))) = (tl z).drop k
  rw [HT.sIx_none, HT.sIx_nat, len_tl]
  by_cases h : k ≤ (tl z).length
  · rw [Nat.min_eq_left h, List.take_of_length_le (by rw [List.length_drop]; omega)]
  · rw [Nat.min_eq_right (by omega), Nat.sub_self, List.take_zero, List.drop_of_length_le (by omega)]
theorem starts_minus (z : Str) : Txt.startswith z (Str.ofString "-") = decide ((tl z).take 1 = [45]) := by
  have hy : tl (Str.ofString "-") ≠ [] := by decide +kernel
  have key : Txt.startswith z (Str.ofString "-") = true ↔ pre (tl (Str.ofString "-")) ((tl z).drop 0) = true := by
    rw [← at_iff hy 0]
    unfold Txt.startswith
    rw [Bool.and_eq_true, decide_eq_true_eq]
    rfl
  have pe : (pre (tl (Str.ofString "-")) ((tl z).drop 0) = true) ↔ (tl z).take 1 = [45] := by
    have e : tl (Str.ofString "-") = [45] := by decide +kernel
    rw [e, List.drop_zero]
    unfold pre
    exact beq_iff_eq
  cases e : Txt.startswith z (Str.ofString "-") with
  | true => exact (decide_eq_true (pe.mp (key.mp e))).symm
  | false =>
    refine (decide_eq_false fun q => ?_).symm
    rw [key.mpr (pe.mpr q)] at e
    cases e
theorem tl_ljust (z : Str) (m : Nat) : tl (Txt.ljustF z (m : Int) 48) = tl z ++ zs (m - (tl z).length) := by
  unfold Txt.ljustF
  by_cases h : (m : Int) ≤ (z.length : Nat)
  · rw [if_pos h]
    rw [len_tl] at h
    rw [show m - (tl z).length = 0 by omega]
    exact (List.append_nil _).symm
  · rw [if_neg h, Int.toNat_natCast, len_tl]
    simp [Builtin.Str.padded, zs, tl]
theorem pad_ok (m : Nat) (h : m ≤ 1000) : PadOk (m : Int) = true := by
  have key : ∀ m : Nat, m ≤ 1000 → PadOk (m : Int) = true := by decide +kernel
  exact key m h
theorem part_plain {z : Str} (h : 46 ∉ tl z) : Txt.partition z (Str.ofString ".") = (z, Str.empty, Str.empty) := partition_none (s := 46) (S := []) (by decide +kernel) h
theorem part_dot {z : Str} {p q : List Nat} (e : tl z = p ++ 46 :: q) (h : 46 ∉ p) : Txt.partition z (Str.ofString ".") = (S p, Str.ofString ".", S q) := by
  have d : tl (Str.ofString ".") = [46] := by decide +kernel
  have e2 : z = S p ++ Str.ofString "." ++ S q := by
    apply ext_tl
    rw [tl_append, tl_append, d, e, tl_S, tl_S]
    simp
  rw [e2]
  exact partition_app (s := 46) (S := []) d h
theorem tl_empty : tl Str.empty = [] := by decide +kernel
theorem str_ne {x y : Str} (h : tl x ≠ tl y) : V.str x ≠ V.str y := fun q => h (by rw [V.str.inj q])
theorem intTextD {z : Str} (h : NumText.AllDigits (tl z)) (n : tl z ≠ []) (l : z.length ≤ 600) : intText? z = some ((val (tl z) : Nat) : Int) := intText_digits h n (Nat.le_trans l (by decide))
section
variable {P : Program} {w : World} {K : PySem.W.Frag} {mg : Str → Option Value} {base : Heap}
abbrev nRA : List Str := ["text", "most", "places", "unsigned", "whole", "point", "behind", "number"]
theorem scRA : FnScope nRA ["text", "most", "places"] (defScope sReadAm) := ⟨rfl, rfl, rfl, by decide +kernel, rfl, by decide +kernel, by decide +kernel⟩
def spReadAm : Sp := fun vs H Q _ => ∃ (z : Str) (m : Nat), vs = [.str z, .int (cap m : Nat), .int (m : Int)] ∧ z.length ≤ 500 ∧ m ≤ 4 ∧ ∀ H', Same H H' → Q (ov (due m (tl z))) H'
theorem ok_readam {f fI : Addr} {fd fdI : FuncData} (F : Fun K "read_amount" "read_amount" sReadAm f fd) (T : Free mg) (FI : Fun K "is_figures" "is_figures" sIsFig fI fdI) (bI : Binds K fdI ["text", "most"] []) (gI : mg "is_figures" = some (.ref fI)) :
    FnOk P w K mg base CX0 2 f fd ["text", "most", "places"] spReadAm := by
  have GI : FnOk P w K mg base CX0 1 fI fdI ["text", "most"] spIsFig := ok_isfig FI T
  refine F.ok scRA (fun vs H Q E h => ?_) (fun cdv A outer s H vs Q E hr h => ?_)
  · obtain ⟨z, m, rfl, _⟩ := h
    rfl
  · obtain ⟨z, m, rfl, zl, ml, q⟩ := h
    have line : z.length ≤ sizeLine := Nat.le_trans zl (by decide)
    refine ⟨_,pss_cons (ps_set (i := 3) scRA.nd rfl (Or.inl rfl) (pe_ifExp (pt_cmpR op_in_seq (pe_slice sl_str (pv 0) po_none (po_some pe_int)) (pe_tup (pa_cons pe_str (pa_cons pe_str pa_nil))) (by rfl)) (pe_slice sl_str (pv 0) (po_some pe_int) po_none) (pv 0)))
      (pss_cons (ps_asg (pe_partition (pv 3) pe_str) (pg_tup rfl (pgs_cons (pg_name (i := 4) scRA.nd rfl (Or.inl rfl)) (pgs_cons (pg_name (i := 5) scRA.nd rfl (Or.inl rfl)) (pgs_cons (pg_name (i := 6) scRA.nd rfl (Or.inl rfl)) pgs_nil)))))
      (pss_cons (ps_if (pt_not (pt_val (pe_call GI hr (by rfl) gI FI.kp bI .nil pass0 (pa_cons (pv 4) (pa_cons (pv 1) pa_nil))))) (pss_one (ps_ret pe_non)) pss_nil)
      (pss_cons (ps_if (PW.pt (pw_and (pt_cmpR op_ne (pv 5) pe_str (nomark _)) (pw_and1 (pt_not (pt_val (pe_call GI hr (by rfl) gI FI.kp bI .nil pass0 (pa_cons (pv 6) (pa_cons (pv 2) pa_nil)))))))) (pss_one (ps_ret pe_non)) pss_nil)
      (pss_cons (ps_set (i := 7) scRA.nd rfl (Or.inl rfl) (pe_callTy call_int_str (by rfl) T.int (by decide +kernel) (pa_cons (pe_op op_add_str (pv 4) (pe_bm PySem.F.plainAttrs_str PySem.F.slot_str_ljust PySem.F.type_str_ljust mt_ljustF (pv 6) (pa_cons (pv 2) (pa_cons pe_str pa_nil)))) pa_nil)))
      (pss_one (ps_ret (pe_ifExp (pt_val (pe_m1 PySem.F.slot_str_startswith PySem.F.type_str_startswith mt_startswith (pv 0) pe_str)) (pe_un un_neg (pv 7)) (pv 7)))))))), ?_⟩
    refine cutA (fun v H' => v = .str (S (body (tl z))) ∧ Same H H') (fun Q' q' => ?_) ?_
    · refine ⟨_, rfl, _, rfl, z, rfl, line, (by show 2 ≤ sizeLine; decide), fun t ht => ⟨t, _, rfl, .inr (SqT.of upd_same), rfl, rfl, _, rfl, ?_⟩⟩
      have e1 : (if false = true then !inV (.str (cutS z none (some 1))) [V.str (Str.ofString "+"), V.str (Str.ofString "-")] else inV (.str (cutS z none (some 1))) [V.str (Str.ofString "+"), V.str (Str.ofString "-")]) = decide (List.take 1 (tl z) = [43] ∨ List.take 1 (tl z) = [45]) := by
        have c1 : tl (cutS z none (some 1)) = (tl z).take 1 := tl_cut_to z 1
        have b : ∀ y : Str, (y == cutS z none (some 1)) = decide ((tl z).take 1 = tl y) := by
          intro y
          rw [← c1]
          by_cases e : y = cutS z none (some 1)
          · rw [← e]
            simp
          · rw [decide_eq_false (fun q => e (ext_tl q.symm))]
            exact beq_eq_false_iff_ne.mpr e
        show (((Str.ofString "+") == cutS z none (some 1)) || (((Str.ofString "-") == cutS z none (some 1)) || false)) = _
        rw [b, b, show tl (Str.ofString "+") = [43] by decide +kernel, show tl (Str.ofString "-") = [45] by decide +kernel, Bool.or_false]
        simp
      rw [e1]
      refine ite2 (fun c => ?_) (fun c => ?_)
      · have c' := of_decide_eq_true c
        refine ⟨_, rfl, _, rfl, z, rfl, line, ?_⟩
        refine q' _ _ ⟨?_, Same.new ht⟩
        have e : body (tl z) = (tl z).drop 1 := if_pos c'
        rw [e, ← tl_cut_from z 1, S_tl]
        rfl
      · have c' : ¬ (List.take 1 (tl z) = [43] ∨ List.take 1 (tl z) = [45]) := fun x => c (decide_eq_true x)
        refine ⟨_, rfl, ?_⟩
        refine q' _ _ ⟨?_, Same.new ht⟩
        have e : body (tl z) = tl z := if_neg c'
        rw [e, S_tl]
    · rintro v H1 ⟨rfl, s1⟩
      have bl : (body (tl z)).length ≤ 500 := by
        rw [len_tl] at zl
        unfold body
        split
        · rw [List.length_drop]; omega
        · exact zl
      have bline : (S (body (tl z))).length ≤ sizeLine := by rw [S_len]; exact Nat.le_trans bl (by decide)
      refine ⟨_, rfl, ⟨_, rfl⟩, _, _, rfl, rfl, rfl, bline, fun t ht => ?_⟩
      rcases two_ways (body (tl z)) with w | ⟨p, r, e, w⟩
      · rw [due_plain w] at q
        refine ⟨t, _, rfl, SqT.of upd_same, rfl, _, _, rfl, _, _, rfl, _, _, rfl, rfl, ?_⟩
        rw [part_plain (z := S (body (tl z))) w]
        have s2 : Same H (upd H1 t (.tup [.str (S (body (tl z))), .str Str.empty, .str Str.empty])) := s1.trans (Same.new ht)
        refine ⟨_, rfl, _, rfl, S (body (tl z)), cap m, rfl, by rw [S_len]; omega, _, rfl, ?_⟩
        show (if (!figs (cap m) (body (tl z))) = true then _ else _)
        cases hf : figs (cap m) (body (tl z)) with
        | false =>
          refine iteT ?_
          rw [hf] at q
          exact q _ s2
        | true =>
          refine iteF ?_
          rw [if_pos hf] at q
          have e0 : V.str Str.empty = V.str (Str.ofString "") := rfl
          refine ⟨_, rfl, rfl, _, rfl, ?_⟩
          rw [decide_eq_true e0]
          refine iteF ?_
          refine iteF ?_
          obtain ⟨⟨f1, f2⟩, f3⟩ := figs_iff.mp hf
          have jl : tl (Txt.ljustF Str.empty (m : Int) 48) = zs m := by
            rw [tl_ljust, tl_empty]
            rfl
          have nl : tl (S (body (tl z)) ++ Txt.ljustF Str.empty (m : Int) 48) = body (tl z) ++ zs m := by rw [tl_append, tl_S, jl]
          have ll : (Txt.ljustF Str.empty (m : Int) 48).length = m := by rw [len_tl, jl, zs_len]
          refine ⟨_, rfl, _, rfl, rfl, _, rfl, _, _, 48, rfl, rfl, pad_ok m (by omega), _, _, rfl, rfl, ?_, _, ((val (body (tl z) ++ zs m) : Nat) : Int), rfl, ?_, ?_, ?_⟩
          · rw [S_len, ll]
            exact Nat.le_trans (show _ ≤ 600 by omega) (by decide)
          · have g := intTextD (z := S (body (tl z)) ++ Txt.ljustF Str.empty (m : Int) 48) (by rw [nl]; exact digits_app f3 (zs_digits m)) (by rw [nl]; intro x; have y := congrArg List.length x; rw [List.length_append, List.length_nil] at y; omega) (by rw [len_tl, nl, List.length_append, zs_len]; omega)
            rw [nl] at g
            exact g
          · rw [len_tl, nl, List.length_append, zs_len]
            omega
          · refine ⟨_, rfl, ⟨_, rfl⟩, _, _, rfl, rfl, _, rfl, ?_⟩
            rw [starts_minus]
            have q2 := q _ s2
            unfold sgn at q2
            refine ite2 (fun c => ?_) (fun c => ?_)
            · rw [if_pos (of_decide_eq_true c)] at q2
              exact ⟨_, rfl, _, rfl, q2⟩
            · rw [if_neg (fun x => c (decide_eq_true x))] at q2
              exact ⟨_, rfl, q2⟩
      · rw [due_dot e w] at q
        have pl : p.length + r.length + 1 ≤ 500 := by
          rw [e, List.length_append, List.length_cons] at bl
          omega
        refine ⟨t, _, rfl, SqT.of upd_same, rfl, _, _, rfl, _, _, rfl, _, _, rfl, rfl, ?_⟩
        rw [part_dot (z := S (body (tl z))) e w]
        have s2 : Same H (upd H1 t (.tup [.str (S p), .str (Str.ofString "."), .str (S r)])) := s1.trans (Same.new ht)
        refine ⟨_, rfl, _, rfl, S p, cap m, rfl, by rw [S_len]; omega, _, rfl, ?_⟩
        show (if (!figs (cap m) p) = true then _ else _)
        cases hf : figs (cap m) p with
        | false =>
          refine iteT ?_
          rw [if_neg (by rw [hf]; simp)] at q
          exact q _ s2
        | true =>
          refine iteF ?_
          have e0 : V.str (Str.ofString ".") ≠ V.str (Str.ofString "") := str_ne (by decide +kernel)
          refine ⟨_, rfl, rfl, _, rfl, ?_⟩
          rw [decide_eq_false e0]
          refine iteT ?_
          refine ⟨_, rfl, _, rfl, S r, m, rfl, by rw [S_len]; omega, _, rfl, ?_⟩
          show (if (!figs m r) = true then _ else _)
          cases hg : figs m r with
          | false =>
            refine iteT ?_
            rw [if_neg (by rw [hg]; simp)] at q
            exact q _ s2
          | true =>
            refine iteF ?_
            rw [if_pos ⟨hf, hg⟩] at q
            obtain ⟨⟨f1, f2⟩, f3⟩ := figs_iff.mp hf
            obtain ⟨⟨g1, g2⟩, g3⟩ := figs_iff.mp hg
            have jl : tl (Txt.ljustF (S r) (m : Int) 48) = r ++ zs (m - r.length) := tl_ljust (S r) m
            have nl : tl (S p ++ Txt.ljustF (S r) (m : Int) 48) = p ++ (r ++ zs (m - r.length)) := by rw [tl_append, tl_S, jl]
            have ll : (Txt.ljustF (S r) (m : Int) 48).length ≤ m := by rw [len_tl, jl, List.length_append, zs_len]; omega
            refine ⟨_, rfl, _, rfl, rfl, _, rfl, _, _, 48, rfl, rfl, pad_ok m (by omega), _, _, rfl, rfl, ?_, _, ((val (p ++ (r ++ zs (m - r.length))) : Nat) : Int), rfl, ?_, ?_, ?_⟩
            · show (S p).length + (Txt.ljustF (S r) (m : Int) 48).length ≤ sizeLine
              rw [S_len]
              exact Nat.le_trans (show _ ≤ 600 by omega) (by decide)
            · have g := intTextD (z := S p ++ Txt.ljustF (S r) (m : Int) 48) (by rw [nl]; exact digits_app f3 (digits_app g3 (zs_digits _))) (by rw [nl]; intro x; have y := congrArg List.length x; rw [List.length_append, List.length_nil] at y; omega) (by rw [len_tl, nl, List.length_append, List.length_append, zs_len]; omega)
              rw [nl] at g
              exact g
            · rw [len_tl, nl, List.length_append, List.length_append, zs_len]
              omega
            · refine ⟨_, rfl, ⟨_, rfl⟩, _, _, rfl, rfl, _, rfl, ?_⟩
              rw [starts_minus]
              have q2 := q _ s2
              unfold sgn at q2
              refine ite2 (fun c => ?_) (fun c => ?_)
              · rw [if_pos (of_decide_eq_true c)] at q2
                exact ⟨_, rfl, _, rfl, q2⟩
              · rw [if_neg (fun x => c (decide_eq_true x))] at q2
                exact ⟨_, rfl, q2⟩
end
end K21
set_option Elab.async false
set_option linter.all false
set_option maxRecDepth 100000
set_option maxHeartbeats 4000000
namespace K21
open PySem PySem.Spec PyProof.Rows L2 Bs Xg TL
theorem HandAt.old {H : Hp} {h D : Addr} {n : Nat} {l : List V} (a : HandAt H h n) (ne : h ≠ D) : HandAt (upd H D (.lst l)) h n := by
  obtain ⟨g, t, c, e, q⟩ := a
  exact ⟨g, t, c, by rw [upd_ne ne]; exact e, q⟩
theorem HandAt.fresh {H : Hp} {h D : Addr} {n : Nat} (a : HandAt H h n) (nD : H D = none) : h ≠ D := by
  obtain ⟨g, t, c, e, _⟩ := a
  exact ne_of_none e nD
/-! ### a comprehension that makes one value a turn, by a hand or without -/
section
variable {J : It} {n : Nat} {Gd : Hp → Prop} {Y : Nat → Hp → V → Hp → Prop}
theorem lc_map (w : Walk J n Gd Y) {i : Nat} {te : TE} {σ : L2.St} {H : Hp} {D h : Addr} {Q : Hp → Prop} {Z : Nat → V → Prop} (I : Nat → Hp → Prop) (W : Nat → V → Hp → Prop)
    (nD : H D = none) (nh : D ≠ h) (hY : ∀ j G x G', Y j G x G' → G' = G ∧ Z j x) (hG : ∀ G, But h H G → Gd G)
    (st : ∀ j y G G', (∀ b o, b ≠ D → b ≠ h → G b = some o → G' b = some o) → (∃ l, G D = some (.lst l)) → W j y G → W j y G')
    (small : n < 100000) (wp : ∀ x, wipe ((wipe σ [i]).set i (some x)) [i] = wipe σ [i]) (I0 : I 0 H) (ID : ∀ j G l, I j G → I j (upd G D (.lst l)))
    (turn : ∀ j x G (Q' : VK), j < n → Z j x → But h H G → I j G → (∃ l, G D = some (.lst l)) → (∀ y G', But h G G' → I (j + 1) G' → W j y G' → Q' y G') → te ((wipe σ [i]).set i (some x)) G Q')
    (fin : ∀ G ys, But h H G → I n G → G D = some (.lst ys) → ys.length = n → (∀ j y, ys[j]? = some y → W j y G) → Q G) :
    ∃ W' : Nat → Nat → Hp → Prop, (∃ m, W' 0 m (upd H D (.lst []))) ∧ ∀ j m G, W' j m G →
      (J.stop j G ∧ Q G) ∨ (J.go j G ∧ ∃ Nx : Hp → Prop, (∀ G', Nx G' → ∃ m', m' < m ∧ W' (j + 1) m' G') ∧ ∀ x G', J.yld j G x G' → gName i x (wipe σ [i]) G' fun σ2 H2 => wipe σ2 [i] = wipe σ [i] ∧ tYes σ2 H2 fun b H3 =>
        if b = true then te σ2 H3 fun y H4 => ∃ acc, H4 D = some (.lst acc) ∧ acc.length < sizeLine ∧ Nx (upd H4 D (.lst (acc ++ [y]))) else Nx H3) := by
  have oldD : ∀ G l, But h H G → But h H (upd G D (.lst l)) := by
    intro G l b c o nc e
    rw [upd_ne (ne_of_none e nD)]
    exact b c o nc e
  refine lc_it w (fun j G => But h H G ∧ I j G ∧ ∃ ys, G D = some (.lst ys) ∧ ys.length = j ∧ ∀ m y, ys[m]? = some y → W m y G) ⟨oldD _ _ (But.refl h H), ID _ _ _ I0, [], upd_same, rfl, fun m y e => by simp at e⟩ (fun j G _ q => hG G q.1) ?_ ?_
  · rintro j x G G' hj ⟨bt, ij, ys, eD, ly, hw⟩ hy
    obtain ⟨rfl, z⟩ := hY _ _ _ _ hy
    refine ⟨wp x, yes ?_⟩
    refine turn j x G' _ hj z bt ij ⟨_, eD⟩ fun y G2 bt2 ij2 wy => ?_
    have eD2 : G2 D = some (.lst ys) := bt2 D _ nh eD
    have kp : ∀ b o, b ≠ D → G2 b = some o → upd G2 D (.lst (ys ++ [y])) b = some o := fun b o nb e => by rw [upd_ne nb]; exact e
    refine ⟨ys, eD2, ?_, oldD _ _ (bt.trans bt2), ID _ _ _ ij2, ys ++ [y], upd_same, by rw [List.length_append, ly]; rfl, fun m y' e => ?_⟩
    · rw [ly, sizeLine_eq]
      omega
    · by_cases hm : m < ys.length
      · rw [List.getElem?_append_left hm] at e
        exact st _ _ _ _ (fun b o nb nb2 eb => kp b o nb (bt2 b o nb2 eb)) ⟨_, eD⟩ (hw m y' e)
      · have hm' : m = ys.length := by
          have := (List.getElem?_eq_some_iff.mp e).1
          rw [List.length_append] at this
          simp at this
          omega
        subst hm'
        rw [List.getElem?_append_right (Nat.le_refl _)] at e
        simp at e
        subst e
        rw [ly]
        exact st _ _ _ _ (fun b o nb _ eb => kp b o nb eb) ⟨_, eD2⟩ wy
  · rintro G ⟨bt, ij, ys, eD, ly, hw⟩
    exact fin G ys bt ij eD ly hw
end
section
variable {J : It} {n : Nat} {Gd : Hp → Prop} {Y : Nat → Hp → V → Hp → Prop}
/-- a comprehension whose turns change nothing that was there -/
theorem lc_val (w : Walk J n Gd Y) {i : Nat} {te : TE} {σ : L2.St} {H : Hp} {D : Addr} {Q : Hp → Prop} {Z : Nat → V → Prop} (f : Nat → V)
    (nD : H D = none) (hY : ∀ j G x G', Y j G x G' → G' = G ∧ Z j x) (hG : ∀ G, Same H G → Gd G) (small : n < 100000) (wp : ∀ x, wipe ((wipe σ [i]).set i (some x)) [i] = wipe σ [i])
    (turn : ∀ j x G (Q' : VK), j < n → Z j x → Same H G → (∀ G', Same G G' → Q' (f j) G') → te ((wipe σ [i]).set i (some x)) G Q')
    (fin : ∀ G, Same H G → G D = some (.lst ((List.range n).map f)) → Q G) :
    ∃ W' : Nat → Nat → Hp → Prop, (∃ m, W' 0 m (upd H D (.lst []))) ∧ ∀ j m G, W' j m G →
      (J.stop j G ∧ Q G) ∨ (J.go j G ∧ ∃ Nx : Hp → Prop, (∀ G', Nx G' → ∃ m', m' < m ∧ W' (j + 1) m' G') ∧ ∀ x G', J.yld j G x G' → gName i x (wipe σ [i]) G' fun σ2 H2 => wipe σ2 [i] = wipe σ [i] ∧ tYes σ2 H2 fun b H3 =>
        if b = true then te σ2 H3 fun y H4 => ∃ acc, H4 D = some (.lst acc) ∧ acc.length < sizeLine ∧ Nx (upd H4 D (.lst (acc ++ [y]))) else Nx H3) := by
  refine lc_it w (fun j G => Same H G ∧ G D = some (.lst ((List.range j).map f))) ⟨Same.new nD, upd_same⟩ (fun j G _ q => hG G q.1) ?_ ?_
  · rintro j x G G' hj ⟨sG, eD⟩ hy
    obtain ⟨rfl, z⟩ := hY _ _ _ _ hy
    refine ⟨wp x, yes ?_⟩
    refine turn j x G' _ hj z sG fun G2 s2 => ⟨_, s2 _ _ eD, ?_, fun b o eo => ?_, ?_⟩
    · rw [List.length_map, List.length_range, sizeLine_eq]
      omega
    · rw [upd_ne (ne_of_none eo nD)]
      exact s2 _ _ (sG b o eo)
    · rw [upd_same, List.range_succ, List.map_append]
      rfl
  · rintro G ⟨sG, eD⟩
    exact fin G sG eD
end
theorem range_at {α β : Type} (xs : List α) (f : α → β) (g : Nat → β) (h : ∀ j x, xs[j]? = some x → g j = f x) : (List.range xs.length).map g = xs.map f := by
  apply List.ext_getElem
  · simp
  · intro j h1 h2
    rw [List.getElem_map, List.getElem_map, List.getElem_range]
    exact h j _ (List.getElem?_eq_getElem _)
theorem yat {xs : List V} : ∀ j G x G', YAt xs j G x G' → G' = G ∧ xs[j]? = some x := fun _ _ _ _ h => h
theorem But.sub {h : Addr} {H H' : Hp} (b : But h H H') (n : H h = none) : Same H H' := fun c o e => b c o (ne_of_none e n) e
/-! ### a comprehension that makes new things -/
section
variable {J : It} {n : Nat} {Gd : Hp → Prop} {Y : Nat → Hp → V → Hp → Prop}
theorem lc_new (w : Walk J n Gd Y) {i : Nat} {te : TE} {σ : L2.St} {H : Hp} {D : Addr} {Q : Hp → Prop} {Z : Nat → V → Prop} (W : Nat → V → Hp → Prop)
    (nD : H D = none) (hY : ∀ j G x G', Y j G x G' → G' = G ∧ Z j x) (hG : ∀ G, Same H G → Gd G)
    (st : ∀ j y G G', (∀ b o, b ≠ D → G b = some o → G' b = some o) → (∃ l, G D = some (.lst l)) → W j y G → W j y G')
    (small : n < 100000) (wp : ∀ x, wipe ((wipe σ [i]).set i (some x)) [i] = wipe σ [i])
    (turn : ∀ j x G (Q' : VK), j < n → Z j x → Same H G → (∀ y G', Same G G' → W j y G' → Q' y G') → te ((wipe σ [i]).set i (some x)) G Q')
    (fin : ∀ G ys, Same H G → G D = some (.lst ys) → ys.length = n → (∀ j y, ys[j]? = some y → W j y G) → Q G) :
    ∃ W' : Nat → Nat → Hp → Prop, (∃ m, W' 0 m (upd H D (.lst []))) ∧ ∀ j m G, W' j m G →
      (J.stop j G ∧ Q G) ∨ (J.go j G ∧ ∃ Nx : Hp → Prop, (∀ G', Nx G' → ∃ m', m' < m ∧ W' (j + 1) m' G') ∧ ∀ x G', J.yld j G x G' → gName i x (wipe σ [i]) G' fun σ2 H2 => wipe σ2 [i] = wipe σ [i] ∧ tYes σ2 H2 fun b H3 =>
        if b = true then te σ2 H3 fun y H4 => ∃ acc, H4 D = some (.lst acc) ∧ acc.length < sizeLine ∧ Nx (upd H4 D (.lst (acc ++ [y]))) else Nx H3) := by
  refine lc_it w (fun j G => Same H G ∧ ∃ ys, G D = some (.lst ys) ∧ ys.length = j ∧ ∀ m y, ys[m]? = some y → W m y G) ⟨Same.new nD, [], upd_same, rfl, fun m y e => by simp at e⟩ (fun j G _ q => hG G q.1) ?_ ?_
  · rintro j x G G' hj ⟨sG, ys, eD, ly, hw⟩ hy
    obtain ⟨rfl, z⟩ := hY _ _ _ _ hy
    refine ⟨wp x, yes ?_⟩
    refine turn j x G' _ hj z sG fun y G2 s2 wy => ?_
    have eD2 : G2 D = some (.lst ys) := s2 _ _ eD
    have kp : ∀ b o, b ≠ D → G2 b = some o → upd G2 D (.lst (ys ++ [y])) b = some o := fun b o nb e => by rw [upd_ne nb]; exact e
    refine ⟨ys, eD2, ?_, fun b o e => ?_, ys ++ [y], upd_same, by rw [List.length_append, ly]; rfl, fun m y' e => ?_⟩
    · rw [ly, sizeLine_eq]
      omega
    · rw [upd_ne (ne_of_none e nD)]
      exact s2 _ _ (sG b o e)
    · by_cases hm : m < ys.length
      · rw [List.getElem?_append_left hm] at e
        exact st _ _ _ _ (fun b o nb eb => kp b o nb (s2 b o eb)) ⟨_, eD⟩ (hw m y' e)
      · have hm' : m = ys.length := by
          have := (List.getElem?_eq_some_iff.mp e).1
          rw [List.length_append] at this
          simp at this
          omega
        subst hm'
        rw [List.getElem?_append_right (Nat.le_refl _)] at e
        simp at e
        subst e
        rw [ly]
        exact st _ _ _ _ (fun b o nb eb => kp b o nb eb) ⟨_, eD2⟩ wy
  · rintro G ⟨sG, ys, eD, ly, hw⟩
    exact fin G ys sG eD ly hw
/-- [x for x in XS if x is not None] -/
theorem lc_keep {K : PySem.W.Frag} {i a D : Addr} {σ : L2.St} {H : Hp} {Q : Hp → Prop} {xs : List V} (e : SqL K H a xs) (nD : H D = none) (few : xs.length < 1000)
    (wp : ∀ x, wipe ((wipe σ [i]).set i (some x)) [i] = wipe σ [i]) (gt : ∀ x, ((wipe σ [i]).set i (some x))[i]? = some (some x)) {tt : TT}
    (ht : ∀ x G (F : Bool → Hp → Prop), x ∈ xs → F (!decide (x = .non)) G → tt ((wipe σ [i]).set i (some x)) G F)
    (fin : ∀ G, Same H G → G D = some (.lst (xs.filter fun x => !decide (x = .non))) → Q G) :
    ∃ W' : Nat → Nat → Hp → Prop, (∃ m, W' 0 m (upd H D (.lst []))) ∧ ∀ j m G, W' j m G →
      ((Itl K a).stop j G ∧ Q G) ∨ ((Itl K a).go j G ∧ ∃ Nx : Hp → Prop, (∀ G', Nx G' → ∃ m', m' < m ∧ W' (j + 1) m' G') ∧ ∀ x G', (Itl K a).yld j G x G' → gName i x (wipe σ [i]) G' fun σ2 H2 => wipe σ2 [i] = wipe σ [i] ∧ tt σ2 H2 fun b H3 =>
        if b = true then tVar i σ2 H3 fun y H4 => ∃ acc, H4 D = some (.lst acc) ∧ acc.length < sizeLine ∧ Nx (upd H4 D (.lst (acc ++ [y]))) else Nx H3) := by
  refine lc_it (walk_list (K := K) (a := a) (xs := xs)) (fun j G => Same H G ∧ G D = some (.lst ((xs.take j).filter fun x => !decide (x = .non)))) ⟨Same.new nD, by rw [List.take_zero]; exact upd_same⟩ (fun j G _ q => sameL q.1 e) ?_ ?_
  · rintro j x G G' hj ⟨sG, eD⟩ ⟨rfl, hx⟩
    refine ⟨wp x, ht x G' _ (List.mem_of_getElem? hx) ?_⟩
    have tk : xs.take (j + 1) = xs.take j ++ [x] := by rw [List.take_succ, hx]; rfl
    by_cases c : x = .non
    · rw [decide_eq_true c]
      show Same H G' ∧ _
      rw [tk, List.filter_append]
      refine ⟨sG, ?_⟩
      rw [eD, c]
      simp
    · rw [decide_eq_false c]
      refine ⟨x, gt x, _, eD, ?_, ?_, ?_⟩
      · have := List.length_filter_le (fun x => !decide (x = V.non)) (xs.take j)
        rw [List.length_take] at this
        rw [sizeLine_eq]
        omega
      · intro b o e
        rw [upd_ne (ne_of_none e nD)]
        exact sG b o e
      · rw [upd_same, tk, List.filter_append]
        simp [c]
  · rintro G ⟨sG, eD⟩
    rw [List.take_length] at eD
    exact fin G sG eD
end
end K21
set_option Elab.async false
set_option linter.all false
set_option maxRecDepth 100000
set_option maxHeartbeats 8000000
namespace K21
open PySem PySem.Spec PyProof.Rows L2 Bs Xg TL K02
abbrev sLeap : Stmt := top 4
abbrev sDin : Stmt := top 5
abbrev sAhead : Stmt := top 6
abbrev sNum : Stmt := top 7
/-! ### the calendar -/
def leapB (y : Nat) : Bool := decide (y % 4 = 0) && (!decide (y % 100 = 0) || decide (y % 400 = 0))
def monL : List Int := [31, 28, 31, 30, 31, 30, 31, 31, 30, 31, 30, 31]
def dinI (y m : Nat) : Int := monL.getD (m - 1) 0 + if m = 2 ∧ leapB y = true then 1 else 0
def aheadI (y : Nat) : Int := (((y - 1) * 365 + (y - 1) / 4 - (y - 1) / 100 + (y - 1) / 400 : Nat) : Int)
def sumI (y m : Nat) : Int := ((List.range (m - 1)).map fun j => dinI y (1 + j)).sum
def numI (y m d : Nat) : Option Int := if 1 ≤ y ∧ 1 ≤ m ∧ m ≤ 12 ∧ 1 ≤ d ∧ (d : Int) ≤ dinI y m then some (aheadI y + sumI y m + d - 1) else none
theorem mon_at : ∀ m : Nat, m < 13 → 1 ≤ m → atI (monL.map V.int) ((m : Int) - 1) = some (.int (monL.getD (m - 1) 0)) := by decide +kernel
section
variable {P : Program} {w : World} {K : PySem.W.Frag} {mg : Str → Option Value} {base : Heap}
theorem scLp : FnScope ["year"] ["year"] (defScope sLeap) := ⟨rfl, rfl, rfl, by decide +kernel, rfl, by decide +kernel, by decide +kernel⟩
def spLeap : Sp := fun vs H Q _ => ∃ y : Nat, vs = [.int (y : Int)] ∧ Q (.bl (leapB y)) H
theorem ok_leap {f : Addr} {fd : FuncData} (F : Fun K "is_leap" "is_leap" sLeap f fd) : FnOk P w K mg base CX0 1 f fd ["year"] spLeap := by
  refine F.ok scLp (fun vs H Q E h => ?_) (fun cdv A outer s H vs Q E hr h => ?_)
  · obtain ⟨y, rfl, _⟩ := h
    rfl
  · obtain ⟨y, rfl, q⟩ := h
    refine ⟨_, pss_one (ps_ret (pe_and (pe_cmpR op_eq (pe_op op_mod (pv 0) pe_int) pe_int (nomark _)) (pe_one (pe_or (pe_cmpR op_ne (pe_op op_mod (pv 0) pe_int) pe_int (nomark _)) (pe_one (pe_cmpR op_eq (pe_op op_mod (pv 0) pe_int) pe_int (nomark _))))))), ?_⟩
    have e4 : decide (V.int ((y : Int) % 4) = V.int 0) = decide (y % 4 = 0) := decide_eq_decide.mpr ⟨fun h => by have := V.int.inj h; omega, fun h => congrArg V.int (by omega)⟩
    have e100 : decide (V.int ((y : Int) % 100) = V.int 0) = decide (y % 100 = 0) := decide_eq_decide.mpr ⟨fun h => by have := V.int.inj h; omega, fun h => congrArg V.int (by omega)⟩
    have e400 : decide (V.int ((y : Int) % 400) = V.int 0) = decide (y % 400 = 0) := decide_eq_decide.mpr ⟨fun h => by have := V.int.inj h; omega, fun h => congrArg V.int (by omega)⟩
    unfold leapB at q
    refine ⟨_, rfl, _, _, rfl, rfl, (by decide : (0 : Int) < 4), rfl, _, rfl, ?_⟩
    rw [e4]
    cases c1 : decide (y % 4 = 0) with
    | false => rw [c1] at q; exact iteF q
    | true =>
      rw [c1, Bool.true_and] at q
      refine iteT ⟨_, rfl, _, _, rfl, rfl, (by decide : (0 : Int) < 100), rfl, _, rfl, ?_⟩
      rw [e100]
      cases c2 : decide (y % 100 = 0) with
      | false => rw [c2] at q; exact iteT q
      | true =>
        rw [c2] at q
        refine iteF ⟨_, rfl, _, _, rfl, rfl, (by decide : (0 : Int) < 400), rfl, ?_⟩
        rw [e400]
        exact q
theorem scDi : FnScope ["year", "month"] ["year", "month"] (defScope sDin) := ⟨rfl, rfl, rfl, by decide +kernel, rfl, by decide +kernel, by decide +kernel⟩
def spDin : Sp := fun vs H Q _ => ∃ y m : Nat, vs = [.int (y : Int), .int (m : Int)] ∧ 1 ≤ m ∧ m ≤ 12 ∧ Q (.int (dinI y m)) H
/-- the calendar's constants and defs -/
structure Cal (K : PySem.W.Frag) (mg : Str → Option Value) (cM fLp fDi fAh fNu : Addr) (dLp dDi dAh dNu : FuncData) : Prop where
  gM : mg "MONTHS" = some (.ref cM)
  sM : ∀ H, SqT K H cM (monL.map V.int)
  gF : ∃ t, mg "FEBRUARY" = some (.int 2 t)
  Lp : Fun K "is_leap" "is_leap" sLeap fLp dLp
  bLp : Binds K dLp ["year"] []
  gLp : mg "is_leap" = some (.ref fLp)
  Di : Fun K "days_in" "days_in" sDin fDi dDi
  bDi : Binds K dDi ["year", "month"] []
  gDi : mg "days_in" = some (.ref fDi)
  Ah : Fun K "days_ahead" "days_ahead" sAhead fAh dAh
  bAh : Binds K dAh ["year"] []
  gAh : mg "days_ahead" = some (.ref fAh)
  Nu : Fun K "number_of" "number_of" sNum fNu dNu
  bNu : Binds K dNu ["year", "month", "day"] []
  gNu : mg "number_of" = some (.ref fNu)
variable {cM fLp fDi fAh fNu : Addr} {dLp dDi dAh dNu : FuncData}
theorem ok_din (C : Cal K mg cM fLp fDi fAh fNu dLp dDi dAh dNu) : FnOk P w K mg base CX0 2 fDi dDi ["year", "month"] spDin := by
  have GLp : FnOk P w K mg base CX0 1 fLp dLp ["year"] spLeap := ok_leap C.Lp
  have FLp := C.Lp
  have bLp := C.bLp
  have gLp := C.gLp
  have gM := C.gM
  obtain ⟨tF, gF⟩ := C.gF
  refine C.Di.ok scDi (fun vs H Q E h => ?_) (fun cdv A outer s H vs Q E hr h => ?_)
  · obtain ⟨y, m, rfl, _⟩ := h
    rfl
  · obtain ⟨y, m, rfl, m1, m12, q⟩ := h
    refine ⟨_, pss_cons (ps_if (PW.pt (pw_and (pt_cmpR op_eq (pv 1) (pe_glob (v := V.int 2) rfl gF ⟨_, rfl⟩) (nomark _)) (pw_and1 (pt_val (pe_call GLp (hr.mono (by decide)) (by rfl) gLp FLp.kp bLp .nil pass0 (pa_cons (pv 0) pa_nil)))))) (pss_one (ps_ret (pe_op op_add (pe_ix ix_tup (pe_glob (v := V.ref cM) rfl gM rfl) (pe_op op_sub (pv 1) pe_int) (fun _ _ => rfl)) pe_int))) (pss_nil))
      (pss_one (ps_ret (pe_ix ix_tup (pe_glob (v := V.ref cM) rfl gM rfl) (pe_op op_sub (pv 1) pe_int) (fun _ _ => rfl)))), ?_⟩
    have e2 : decide (V.int (m : Int) = V.int 2) = decide (m = 2) := decide_eq_decide.mpr ⟨fun h => by have := V.int.inj h; omega, fun h => by rw [h]; rfl⟩
    have am := mon_at m (by omega) m1
    refine ⟨_, rfl, rfl, _, rfl, ?_⟩
    rw [e2]
    unfold dinI at q
    by_cases c2 : m = 2
    · rw [decide_eq_true c2]
      refine iteT ⟨_, rfl, y, rfl, _, rfl, ?_⟩
      cases cl : leapB y with
      | true =>
        rw [if_pos ⟨c2, cl⟩] at q
        exact iteT ⟨_, rfl, _, _, rfl, rfl, cM, _, _, _, rfl, rfl, C.sM H, am, _, _, rfl, rfl, q⟩
      | false =>
        rw [if_neg (fun h => by rw [cl] at h; exact nomatch h.2), Int.add_zero] at q
        exact iteF ⟨_, rfl, _, _, rfl, rfl, cM, _, _, _, rfl, rfl, C.sM H, am, q⟩
    · rw [decide_eq_false c2]
      rw [if_neg (fun h => c2 h.1), Int.add_zero] at q
      exact iteF ⟨_, rfl, _, _, rfl, rfl, cM, _, _, _, rfl, rfl, C.sM H, am, q⟩
theorem scAh : FnScope ["year", "past"] ["year"] (defScope sAhead) := ⟨rfl, rfl, rfl, by decide +kernel, rfl, by decide +kernel, by decide +kernel⟩
def spAhead : Sp := fun vs H Q _ => ∃ y : Nat, vs = [.int (y : Int)] ∧ 1 ≤ y ∧ y ≤ 100000 ∧ Q (.int (aheadI y)) H
theorem ok_ahead {f : Addr} {fd : FuncData} (F : Fun K "days_ahead" "days_ahead" sAhead f fd) : FnOk P w K mg base CX0 1 f fd ["year"] spAhead := by
  refine F.ok scAh (fun vs H Q E h => ?_) (fun cdv A outer s H vs Q E hr h => ?_)
  · obtain ⟨y, rfl, _⟩ := h
    rfl
  · obtain ⟨y, rfl, y1, y2, q⟩ := h
    refine ⟨_, pss_cons (ps_set (i := 1) scAh.nd rfl (Or.inl rfl) (pe_op op_sub (pv 0) pe_int))
      (pss_one (ps_ret (pe_op op_add (pe_op op_sub (pe_op op_add (pe_op op_mul (pv 1) pe_int) (pe_op op_fdiv (pv 1) pe_int)) (pe_op op_fdiv (pv 1) pe_int)) (pe_op op_fdiv (pv 1) pe_int)))), ?_⟩
    refine ⟨_, rfl, _, _, rfl, rfl, gN ?_⟩
    try dsimp only
    refine ⟨_, rfl, _, _, rfl, rfl, .inl ⟨by omega, by omega⟩, _, rfl, _, _, rfl, rfl, ⟨by decide, by decide⟩, _, _, rfl, rfl, _, rfl, _, _, rfl, rfl, ⟨by decide, by decide⟩, _, _, rfl, rfl, _, rfl, _, _, rfl, rfl, ⟨by decide, by decide⟩, _, _, rfl, rfl, ?_⟩
    have e : ((y : Int) - 1) * 365 + ((y : Int) - 1) / 4 - ((y : Int) - 1) / 100 + ((y : Int) - 1) / 400 = aheadI y := by
      unfold aheadI
      omega
    rw [← e] at q
    exact q
abbrev nNu : List Str := ["year", "month", "day", "months", "k"]
theorem scNu : FnScope nNu ["year", "month", "day"] (defScope sNum) := ⟨rfl, rfl, rfl, by decide +kernel, rfl, by decide +kernel, by decide +kernel⟩
def spNum : Sp := fun vs H Q _ => ∃ y m d : Nat, vs = [.int (y : Int), .int (m : Int), .int (d : Int)] ∧ y ≤ 9999 ∧ m ≤ 99 ∧ d ≤ 99 ∧ ∀ H', Same H H' → Q (ov (numI y m d)) H'
theorem ok_num (C : Cal K mg cM fLp fDi fAh fNu dLp dDi dAh dNu) (T : Free mg) : FnOk P w K mg base CX0 3 fNu dNu ["year", "month", "day"] spNum := by
  have GDi : FnOk P w K mg base CX0 2 fDi dDi ["year", "month"] spDin := ok_din C
  have GAh : FnOk P w K mg base CX0 1 fAh dAh ["year"] spAhead := ok_ahead C.Ah
  have FDi := C.Di
  have bDi := C.bDi
  have gDi := C.gDi
  have FAh := C.Ah
  have bAh := C.bAh
  have gAh := C.gAh
  have gM := C.gM
  refine C.Nu.ok scNu (fun vs H Q E h => ?_) (fun cdv A outer s H vs Q E hr h => ?_)
  · obtain ⟨y, m, d, rfl, _⟩ := h
    rfl
  · obtain ⟨y, m, d, rfl, yl, ml, dl, q⟩ := h
    refine ⟨_, pss_cons (ps_if (PW.pt (pw_or (pt_cmpR op_lt (pv 0) pe_int (nomark _)) (pw_or1 (pt_not (pt_chain op_le op_le pe_int (pv 1) (pe_callB call_len_seq (by rfl) T.len PySem.boot_len (pa_cons (pe_glob (v := V.ref cM) rfl gM rfl) pa_nil))))))) (pss_one (ps_ret pe_non)) (pss_nil))
      (pss_cons (ps_if (pt_not (pt_chain op_le op_le pe_int (pv 2) (pe_call GDi (hr.mono (by decide)) (by rfl) gDi FDi.kp bDi .nil pass0 (pa_cons (pv 0) (pa_cons (pv 1) pa_nil))))) (pss_one (ps_ret pe_non)) (pss_nil))
      (pss_cons (ps_setLc (i := 3) (own := [("k", 4)]) (g := gName 4) (tt := tYes) rfl scNu.nd rfl rfl (sw_true rfl rfl rfl rfl) (pi_range2 (by rfl) T.range (pa_cons pe_int (pa_cons (pv 1) pa_nil))) (blkOk_by (N := nNu) (sc := defScope sNum) (by decide +kernel)) (fun _ _ _ _ _ => pg_name (i := 4) scNu.nd rfl (Or.inl rfl)) (fun _ _ _ _ _ => pts_nil) (fun _ _ _ _ _ => (pe_call GDi (hr.mono (by decide)) (by rfl) gDi FDi.kp bDi .nil pass0 (pa_cons (pv 0) (pa_cons (pv 4) pa_nil)))))
      (pss_one (ps_ret (pe_op op_sub (pe_op op_add (pe_op op_add (pe_call GAh (hr.mono (by decide)) (by rfl) gAh FAh.kp bAh .nil pass0 (pa_cons (pv 0) pa_nil)) (pe_callB (cr_sum rfl) (by rfl) T.sum (by decide +kernel) (pa_cons (pv 3) pa_nil))) (pv 2)) pe_int))))), ?_⟩
    have qn : ¬ (1 ≤ y ∧ 1 ≤ m ∧ m ≤ 12 ∧ 1 ≤ d ∧ (d : Int) ≤ dinI y m) → ∀ H', Same H H' → Q .non H' := fun n H' s => by
      have z := q H' s
      unfold numI at z
      rw [if_neg n] at z
      exact z
    refine ⟨_, rfl, _, _, rfl, rfl, _, rfl, ?_⟩
    by_cases y1 : 1 ≤ y
    · rw [decide_eq_false (show ¬ (y : Int) < 1 by omega)]
      refine iteF ⟨_, rfl, _, _, rfl, rfl, _, rfl, ?_⟩
      by_cases m1 : 1 ≤ m
      · rw [decide_eq_true (show (1 : Int) ≤ (m : Int) by omega)]
        refine iteT ⟨cM, _, rfl, .inr (C.sM H), _, _, rfl, rfl, ?_⟩
        refine ⟨_, rfl, ?_⟩
        have l12 : (((monL.map V.int).length : Nat) : Int) = 12 := by decide
        rw [l12]
        by_cases m12 : m ≤ 12
        · rw [decide_eq_true (show (m : Int) ≤ 12 by omega)]
          refine iteF ?_
          refine ⟨_, rfl, _, _, rfl, rfl, _, rfl, ?_⟩
          by_cases d1 : 1 ≤ d
          · rw [decide_eq_true (show (1 : Int) ≤ (d : Int) by omega)]
            refine iteT ⟨_, rfl, _, rfl, y, m, rfl, m1, m12, _, _, rfl, rfl, ?_⟩
            refine ⟨_, rfl, ?_⟩
            by_cases dd : (d : Int) ≤ dinI y m
            · rw [decide_eq_true dd]
              refine iteF ?_
              unfold tNext
              dsimp only
              refine ⟨_, rfl, 1, (m : Int), rfl, ⟨by decide, by decide, by omega, by omega⟩, fun D nD => ?_⟩
              refine lc_val (walk_range (lo := 1) (n := ((m : Int) - 1).toNat)) (Z := fun j x => x = .int (1 + (j : Nat))) (fun j => .int (dinI y (1 + j))) nD (fun _ _ _ _ e => e) (fun _ _ => trivial) (by omega) (fun _ => rfl) ?_ ?_
              · rintro j x G Q' hj rfl sG kG
                exact ⟨_, rfl, _, rfl, y, 1 + j, by rw [Int.natCast_add]; rfl, by omega, by omega, kG G (Same.refl _)⟩
              · intro G sG eG
                refine gN ?_
                try dsimp only
                have em : ((m : Int) - 1).toNat = m - 1 := by omega
                rw [em] at eG
                refine ⟨_, rfl, y, rfl, y1, by omega, _, rfl, D, (List.range (m - 1)).map fun j => dinI y (1 + j), rfl, SqL.of ?_, _, _, rfl, rfl, _, rfl, _, _, rfl, rfl, _, _, rfl, rfl, ?_⟩
                · rw [eG, List.map_map]
                  rfl
                · have z := q G sG
                  unfold numI at z
                  rw [if_pos ⟨y1, m1, m12, d1, dd⟩] at z
                  exact z
            · rw [decide_eq_false dd]
              exact iteT (qn (fun h => dd h.2.2.2.2) H (Same.refl _))
          · rw [decide_eq_false (show ¬ (1 : Int) ≤ (d : Int) by omega)]
            exact iteF ⟨_, rfl, iteT (qn (fun h => d1 h.2.2.2.1) H (Same.refl _))⟩
        · rw [decide_eq_false (show ¬ (m : Int) ≤ 12 by omega)]
          exact iteT (qn (fun h => m12 h.2.2.1) H (Same.refl _))
      · rw [decide_eq_false (show ¬ (1 : Int) ≤ (m : Int) by omega)]
        exact iteF ⟨_, rfl, iteT (qn (fun h => m1 h.2.1) H (Same.refl _))⟩
    · rw [decide_eq_true (show (y : Int) < 1 by omega)]
      exact iteT (qn (fun h => y1 h.1) H (Same.refl _))
end
end K21
set_option Elab.async false
set_option linter.all false
set_option maxRecDepth 100000
set_option maxHeartbeats 4000000
/-! Xz: dict(zip(a, b)), a and b a list, a tuple, a text each. -/
namespace Xz
open PySem PySem.Spec PyProof.Rows L2
section
variable {prog : Program} {w : World} {A : Around} {E : Value → Shared → Prop} {s : Shared} {zz ti to tt ia ib : Addr} {fa fb : List Addr} {na nb j : Nat} {Pa Pb : Nat → Value → Prop} {Sa Sb : Nat → Heap → Prop} {fl : Bool} {ot : Obj}
/-- the next pair, while the tuple given out before is still there -/
theorem held_item {Q : Value → Shared → Prop} (S : ZipSep2 zz ti to ia ib fa fb) (Da : Draws prog w A ia fa na Pa Sa) (Db : Draws prog w A ib fb nb Pb Sb) (hz : IsZipHeld s.heap zz ti to tt fl) (ht : s.heap.get? tt = some ot)
    (hti : IsTupOf2 s.heap ti (.ref ia) (.ref ib)) (sa : Sa j s.heap) (sb : Sb j s.heap) (la : j < na) (lb : j < nb)
    (fin : ∀ x y h' tk, Pa j x → Pb j y → IsZipHeld h' zz ti to tt true → Sa (j + 1) h' → Sb (j + 1) h' → IsTupOf2 h' s.heap.objs.size x y → h'.objs.size = s.heap.objs.size + 1 →
      (∀ c o, c ≠ zz → c ≠ ia → c ≠ ib → s.heap.get? c = some o → h'.get? c = some o) → Q (.ref s.heap.objs.size) { s with heap := h', toks := tk }) :
    wpAny (model prog w) A (Builtin.«zip.__next__» ⟨[.ref zz], []⟩) (fun r s' => ∃ v, r = .done (.ret v) ∧ Q v s') E s := by
  obtain ⟨hp, gg, dd, tk0, oo⟩ := s
  show wpAny _ _ (field (.ref zz) 2 >>= _) _ _ _
  refine wpAny_bind (wpAny_field hz rfl (x := Value.bool false) rfl ?_)
  show wpAny _ _ (field (.ref zz) 3 >>= _) _ _ _
  refine wpAny_bind (wpAny_field hz rfl (x := Value.ref ti) rfl ?_)
  refine wpAny_bind (wpAny_seqItems hti rfl ?_)
  show wpAny _ _ (Builtin.SmallTypes.ownedTupleIsFree (.ref zz) >>= _) _ _ _
  refine wpAny_bind (wpAny_tupleHeld_zip hz ht fun h1 hz1 s1 => ?_)
  replace s1 : Heap.SameBut zz hp h1 := s1
  simp only [Bool.false_eq_true, if_false]
  refine wpAny_bind ?_
  rw [← Array.forIn_toList]
  simp only [List.forIn_cons, List.forIn_nil]
  refine wpAny_bind (wpAny_bind (wpAny_holding ?_))
  show wpAny _ _ (Builtin.SmallTypes.nextOf (.ref ia) >>= _) _ _ ⟨h1, gg, dd, tk0, oo⟩
  refine wpAny_bind (Da.item j _ _ _ la (Da.over sa s1 S.zf1) fun x h2 tk2 px sa2 s2 => wpAny_pure (wpAny_pure ?_))
  replace s2 : Heap.SameBut ia h1 h2 := s2
  refine wpAny_bind (wpAny_bind (wpAny_holding ?_))
  show wpAny _ _ (Builtin.SmallTypes.nextOf (.ref ib) >>= _) _ _ ⟨h2, gg, dd, tk2, oo⟩
  refine wpAny_bind (Db.item j _ _ _ lb (Db.over (Db.over sb s1 S.zf2) s2 S.sep1_2) fun y h3 tk3 py sb3 s3 => wpAny_pure (wpAny_pure (wpAny_pure ?_)))
  replace s3 : Heap.SameBut ib h2 h3 := s3
  show wpAny _ _ (newTuple [x, y] >>= _) _ _ ⟨h3, gg, dd, tk3, oo⟩
  refine wpAny_bind (wpAny_newTuple ?_)
  have size : h3.objs.size = hp.objs.size := by rw [s3.1, s2.1, s1.1]
  have hz3 : IsZipHeld h3 zz ti to tt true := s3.extBut _ _ S.zi2 (s2.extBut _ _ S.zi1 hz1)
  have old : ∀ c o, c ≠ zz → c ≠ ia → c ≠ ib → hp.get? c = some o → h3.get? c = some o := fun c o c1 c2 c3 e => s3.extBut _ _ c3 (s2.extBut _ _ c2 (s1.extBut _ _ c1 e))
  have sa3 : Sa (j + 1) h3 := Da.over sa2 s3 S.sep2_1
  have pu : ∀ b ∈ fa, ∀ o, h3.get? b = some o → (h3.push { cls := .type "tuple", data := .seq #[x, y] }).get? b = some o := fun b _ o e => Heap.get?_push_of_some _ e
  have pu2 : ∀ b ∈ fb, ∀ o, h3.get? b = some o → (h3.push { cls := .type "tuple", data := .seq #[x, y] }).get? b = some o := fun b _ o e => Heap.get?_push_of_some _ e
  have two : IsTupOf2 (h3.push { cls := .type "tuple", data := .seq #[x, y] }) h3.objs.size x y := Heap.get?_push_size _ rfl
  have more : (h3.push { cls := .type "tuple", data := .seq #[x, y] }).objs.size = h3.objs.size + 1 := Heap.size_push ..
  refine wpAny_pure ⟨_, rfl, ?_⟩
  show Q (.ref h3.objs.size) _
  rw [size] at two more ⊢
  exact fin x y _ tk3 px py (Heap.get?_push_of_some _ hz3) (Da.frame _ _ _ sa3 pu) (Db.frame _ _ _ sb3 pu2) two more fun c o c1 c2 c3 e => Heap.get?_push_of_some _ (old c o c1 c2 c3 e)
/-- the end, likewise -/
theorem held_end {Q : Fin → Shared → Prop} (S : ZipSep2 zz ti to ia ib fa fb) (Da : Draws prog w A ia fa na Pa Sa) (Db : Draws prog w A ib fb nb Pb Sb) (hz : IsZipHeld s.heap zz ti to tt fl) (ht : s.heap.get? tt = some ot)
    (hti : IsTupOf2 s.heap ti (.ref ia) (.ref ib)) (sa : Sa j s.heap) (sb : Sb j s.heap) (la : j ≤ na) (lb : j ≤ nb) (e0 : j = na ∨ j = nb)
    (fin : ∀ h' e tk, (∀ c o, c ≠ zz → c ≠ ia → c ≠ ib → s.heap.get? c = some o → h'.get? c = some o) → (∃ o, h'.get? e = some o ∧ o.cls = .type "StopIteration") → E (.ref e) { s with heap := h', toks := tk }) :
    wpAny (model prog w) A (Builtin.«zip.__next__» ⟨[.ref zz], []⟩) Q E s := by
  obtain ⟨hp, gg, dd, tk0, oo⟩ := s
  show wpAny _ _ (field (.ref zz) 2 >>= _) _ _ _
  refine wpAny_bind (wpAny_field hz rfl (x := Value.bool false) rfl ?_)
  show wpAny _ _ (field (.ref zz) 3 >>= _) _ _ _
  refine wpAny_bind (wpAny_field hz rfl (x := Value.ref ti) rfl ?_)
  refine wpAny_bind (wpAny_seqItems hti rfl ?_)
  show wpAny _ _ (Builtin.SmallTypes.ownedTupleIsFree (.ref zz) >>= _) _ _ _
  refine wpAny_bind (wpAny_tupleHeld_zip hz ht fun h1 hz1 s1 => ?_)
  replace s1 : Heap.SameBut zz hp h1 := s1
  simp only [Bool.false_eq_true, if_false]
  refine wpAny_bind ?_
  rw [← Array.forIn_toList]
  simp only [List.forIn_cons, List.forIn_nil]
  refine wpAny_bind (wpAny_bind (wpAny_holding ?_))
  show wpAny _ _ (Builtin.SmallTypes.nextOf (.ref ia) >>= _) _ _ ⟨h1, gg, dd, tk0, oo⟩
  by_cases ea : j = na
  · subst ea
    exact wpAny_bind (Da.done _ _ _ (Da.over sa s1 S.zf1) fun h2 e k2 st => fin h2 e _ (fun c o c1 c2 _ q => k2 _ _ c2 (s1.extBut _ _ c1 q)) st)
  · have eb : j = nb := e0.elim (fun q => absurd q ea) id
    refine wpAny_bind (Da.item j _ _ _ (by omega) (Da.over sa s1 S.zf1) fun x h2 tk2 px sa2 s2 => wpAny_pure (wpAny_pure ?_))
    replace s2 : Heap.SameBut ia h1 h2 := s2
    refine wpAny_bind (wpAny_bind (wpAny_holding ?_))
    show wpAny _ _ (Builtin.SmallTypes.nextOf (.ref ib) >>= _) _ _ ⟨h2, gg, dd, tk2, oo⟩
    subst eb
    exact wpAny_bind (Db.done _ _ _ (Db.over (Db.over sb s1 S.zf2) s2 S.sep1_2) fun h3 e k3 st => fin h3 e _ (fun c o c1 c2 c3 q => k3 _ _ c3 (s2.extBut _ _ c2 (s1.extBut _ _ c1 q))) st)
end
end Xz
set_option Elab.async false
set_option linter.all false
set_option maxRecDepth 100000
set_option maxHeartbeats 4000000
/-! Xk: dict(zip(a, b)), a and b a list, a tuple, a text each: the rule. -/
namespace Xk
open PySem PySem.Spec PyProof.Rows L2 Xz
section
variable {prog : Program} {w : World} {A : Around} {E : Value → Shared → Prop} {s : Shared} {zz ti to tt ia ib : Addr} {fa fb : List Addr} {na nb j : Nat} {Pa Pb : Nat → Value → Prop} {Sa Sb : Nat → Heap → Prop} {fl : Bool} {ot : Obj}
theorem turn_item {Q : Option Value → Shared → Prop} (S : ZipSep2 zz ti to ia ib fa fb) (Da : Draws prog w A.in1 ia fa na Pa Sa) (Db : Draws prog w A.in1 ib fb nb Pb Sb) (hz : IsZipHeld s.heap zz ti to tt fl) (ht : s.heap.get? tt = some ot)
    (hti : IsTupOf2 s.heap ti (.ref ia) (.ref ib)) (sa : Sa j s.heap) (sb : Sb j s.heap) (la : j < na) (lb : j < nb)
    (fin : ∀ x y h' tk, Pa j x → Pb j y → IsZipHeld h' zz ti to tt true → Sa (j + 1) h' → Sb (j + 1) h' → IsTupOf2 h' s.heap.objs.size x y → h'.objs.size = s.heap.objs.size + 1 →
      (∀ c o, c ≠ zz → c ≠ ia → c ≠ ib → s.heap.get? c = some o → h'.get? c = some o) → Q (some (.ref s.heap.objs.size)) { s with heap := h', toks := tk }) :
    wpAny (model prog w) A (pyNext (.ref zz)) Q E s := by
  have ty : s.TypeIs (.ref zz) "zip" := ⟨_, hz, rfl⟩
  unfold pyNext
  refine wpAny_bind (wpAny_attempt (wpAny_callSpecial?_slot (name := Str.ofString "__next__") ty F.slot_zip_next ?_))
  refine wpAny_call_entry F.slot_zip_next ty F.entry_zip_next ?_ (F.args_zip_next_1 _)
  exact held_item S Da Db hz ht hti sa sb la lb fun x y h' tk p1 p2 p3 p4 p5 p6 p7 p8 => wpAny_pure (fin x y h' tk p1 p2 p3 p4 p5 p6 p7 p8)
theorem turn_end {Q : Option Value → Shared → Prop} (S : ZipSep2 zz ti to ia ib fa fb) (Da : Draws prog w A.in1 ia fa na Pa Sa) (Db : Draws prog w A.in1 ib fb nb Pb Sb) (hz : IsZipHeld s.heap zz ti to tt fl) (ht : s.heap.get? tt = some ot)
    (hti : IsTupOf2 s.heap ti (.ref ia) (.ref ib)) (sa : Sa j s.heap) (sb : Sb j s.heap) (la : j ≤ na) (lb : j ≤ nb) (e0 : j = na ∨ j = nb)
    (fin : ∀ h' tk, (∀ c o, c ≠ zz → c ≠ ia → c ≠ ib → s.heap.get? c = some o → h'.get? c = some o) → Q none { s with heap := h', toks := tk }) :
    wpAny (model prog w) A (pyNext (.ref zz)) Q E s := by
  have ty : s.TypeIs (.ref zz) "zip" := ⟨_, hz, rfl⟩
  unfold pyNext
  refine wpAny_bind (wpAny_attempt (wpAny_callSpecial?_slot (name := Str.ofString "__next__") ty F.slot_zip_next ?_))
  refine wpAny_call_entry F.slot_zip_next ty F.entry_zip_next ?_ (F.args_zip_next_1 _)
  refine held_end S Da Db hz ht hti sa sb la lb e0 fun h' e tk kp st => ?_
  obtain ⟨o, ho, hc⟩ := st
  exact wpAny_bind (wpAny_isInstance (T := "StopIteration") (b := true) ⟨o, ho, hc⟩ isSubtype_stop (wpAny_pure (fin h' tk kp)))
/-- a zip of any two as the pairs of a dict -/
theorem pairs2 (S : ZipSep2 zz ti to ia ib fa fb) (Da : ∀ A : Around, A.handled = none → Draws prog w A ia fa na Pa Sa) (Db : ∀ A : Around, A.handled = none → Draws prog w A ib fb nb Pb Sb)
    (ta : ∀ i h, Sa i h → ∀ b ∈ fa, ∃ o, h.get? b = some o) (tb : ∀ i h, Sb i h → ∀ b ∈ fb, ∃ o, h.get? b = some o) :
    PairArg prog w "zip" zz (zz :: ti :: to :: (fa ++ fb)) [zz, to, ia, ib] (min na nb) (fun i k v => Pa i k ∧ Pb i v)
      (fun h => IsZip h zz ti to .none ∧ IsTupOf2 h ti (.ref ia) (.ref ib) ∧ (∃ x y, IsTupOf2 h to x y) ∧ Sa 0 h ∧ Sb 0 h) where
  type := fun s q => ⟨_, q.1, rfl⟩
  notDict := by decide
  keep := fun h h' q kp => by
    obtain ⟨q1, q2, ⟨x, y, q3⟩, q4, q5⟩ := q
    exact ⟨kp _ _ q1, kp _ _ q2, ⟨x, y, kp _ _ q3⟩, (Da {} rfl).frame _ _ _ q4 fun b _ o e => kp b o e, (Db {} rfl).frame _ _ _ q5 fun b _ o e => kp b o e⟩
  there := fun h q b hb => by
    obtain ⟨q1, q2, ⟨x, y, q3⟩, q4, q5⟩ := q
    rcases List.mem_cons.mp hb with rfl | hb
    · exact ⟨_, q1⟩
    rcases List.mem_cons.mp hb with rfl | hb
    · exact ⟨_, q2⟩
    rcases List.mem_cons.mp hb with rfl | hb
    · exact ⟨_, q3⟩
    rcases List.mem_append.mp hb with hb | hb
    · exact ta _ _ q4 _ hb
    · exact tb _ _ q5 _ hb
  sub := fun b hb => by
    have e : b = zz ∨ b = to ∨ b = ia ∨ b = ib := by simpa using hb
    have m1 := S.mem1
    have m2 := S.mem2
    rcases e with rfl | rfl | rfl | rfl <;> simp [m1, m2]
  noKeys := fun A s Q E hA q fin => getAttrOr_miss_zip q.1 rfl rfl rfl zip_no_keys (by decide +kernel) hA fin
  iter := fun A s d Q E hA q hd nd fin => by
    obtain ⟨q1, q2, ⟨x, y, q3⟩, q4, q5⟩ := q
    have d0 : d ≠ zz := fun e => nd (by simp [e])
    have d1 : d ≠ ti := fun e => nd (by simp [e])
    have d2 : d ≠ to := fun e => nd (by simp [e])
    have d3 : d ∉ fa := fun e => nd (by simp [e])
    have d4 : d ∉ fb := fun e => nd (by simp [e])
    have d5 : d ≠ ia := fun e => d3 (by rw [e]; exact S.mem1)
    have d6 : d ≠ ib := fun e => d4 (by rw [e]; exact S.mem2)
    refine wpAny_pyIter_zip q1 (fin zz [zz, to, ia, ib] (fun i h => IsTupOf2 h ti (.ref ia) (.ref ib) ∧ Sa i h ∧ Sb i h ∧
      ((IsZip h zz ti to .none ∧ ∃ x y, IsTupOf2 h to x y) ∨ ∃ tt fl ot, IsZipHeld h zz ti to tt fl ∧ h.get? tt = some ot ∧ tt ≠ zz ∧ tt ≠ ia ∧ tt ≠ ib ∧ tt ≠ d)) s.heap s.toks ?_
      ⟨q2, q4, q5, .inl ⟨q1, x, y, q3⟩⟩ (fun _ _ e => e) fun b hb => .inl hb)
    have inA : A.in1.handled = none := by simp [hA]
    exact {
      off := fun hm => by
        have e : d = zz ∨ d = to ∨ d = ia ∨ d = ib := by simpa using hm
        rcases e with e | e | e | e
        · exact d0 e
        · exact d2 e
        · exact d5 e
        · exact d6 e
      frame := fun i h1 h2 st kp => by
        obtain ⟨p2, p4, p5, p1⟩ := st
        refine ⟨kp _ _ (Ne.symm d1) p2, (Da {} rfl).frame _ _ _ p4 fun b hb o e => kp b o (fun z => d3 (z ▸ hb)) e, (Db {} rfl).frame _ _ _ p5 fun b hb o e => kp b o (fun z => d4 (z ▸ hb)) e, ?_⟩
        rcases p1 with ⟨p1, x, y, p3⟩ | ⟨tt, fl, ot, p1, p3, r1, r2, r3, r4⟩
        · exact .inl ⟨kp _ _ (Ne.symm d0) p1, x, y, kp _ _ (Ne.symm d2) p3⟩
        · exact .inr ⟨tt, fl, ot, kp _ _ (Ne.symm d0) p1, kp _ _ r4 p3, r1, r2, r3, r4⟩
      item := fun i s1 Q1 E1 hi st hds fin1 => by
        obtain ⟨p2, p4, p5, p1⟩ := st
        have ja : i < na := by omega
        have jb : i < nb := by omega
        have up : ∀ {c o}, s1.heap.get? c = some o → s1.heap.objs.size ≠ c := fun e => Nat.ne_of_gt (Heap.lt_size e)
        have u1 : s1.heap.objs.size ≠ ia := let ⟨_, e⟩ := (Da {} rfl).live _ _ p4; up e
        have u2 : s1.heap.objs.size ≠ ib := let ⟨_, e⟩ := (Db {} rfl).live _ _ p5; up e
        rcases p1 with ⟨p1, x, y, p3⟩ | ⟨tt, fl, ot, p1, p3, r1, r2, r3, r4⟩
        · refine wpAny_pyNext_zipD2_item S (Da _ inA) (Db _ inA) p1 p2 p3 p4 p5 ja jb fun x1 x2 h' tk y1 y2 z1 z2 z3 z4 z5 z6 kp => ?_
          exact fin1 s1.heap.objs.size _ _ h' tk ⟨y1, y2⟩ (.inl ⟨_, z5, rfl, _, rfl⟩)
            ⟨kp _ _ S.TIz S.TITO S.TIi1 S.TIi2 p2, z3, z4, .inr ⟨s1.heap.objs.size, false, _, z1, z5, up p1, u1, u2, Nat.ne_of_gt hds⟩⟩
            fun c o hc e => kp c o (fun z => hc (by simp [z])) (fun z => hc (by simp [z])) (fun z => hc (by simp [z])) (fun z => hc (by simp [z])) e
        · refine turn_item S (Da _ inA) (Db _ inA) p1 p3 p2 p4 p5 ja jb fun x1 x2 h' tk y1 y2 z1 z3 z4 z5 z6 kp => ?_
          exact fin1 s1.heap.objs.size _ _ h' tk ⟨y1, y2⟩ (.inl ⟨_, z5, rfl, _, rfl⟩)
            ⟨kp _ _ S.TIz S.TIi1 S.TIi2 p2, z3, z4, .inr ⟨tt, true, ot, z1, kp _ _ r1 r2 r3 p3, r1, r2, r3, r4⟩⟩
            fun c o hc e => kp c o (fun z => hc (by simp [z])) (fun z => hc (by simp [z])) (fun z => hc (by simp [z])) e
      done := fun s1 Q1 E1 st fin1 => by
        obtain ⟨p2, p4, p5, p1⟩ := st
        rcases p1 with ⟨p1, x, y, p3⟩ | ⟨tt, fl, ot, p1, p3, r1, r2, r3, r4⟩
        · exact wpAny_pyNext_zipD2_end S (Da _ inA) (Db _ inA) p1 p2 p3 p4 p5 (by omega) (by omega) (by omega) fun h' tk kp => fin1 h' tk fun c o hc e =>
            kp c o (fun z => hc (by simp [z])) (fun z => hc (by simp [z])) (fun z => hc (by simp [z])) (fun z => hc (by simp [z])) e
        · exact turn_end S (Da _ inA) (Db _ inA) p1 p3 p2 p4 p5 (by omega) (by omega) (by omega) fun h' tk kp => fin1 h' tk fun c o hc e =>
            kp c o (fun z => hc (by simp [z])) (fun z => hc (by simp [z])) (fun z => hc (by simp [z])) e }
end
/-- what a value gives, item by item, where it stands -/
structure Gives (prog : Program) (w : World) (h : Heap) (u : Value) (n : Nat) (Pv : Nat → Value → Prop) : Prop where
  ex : ∃ (o : Obj) (Hh : Heap → Prop) (fo : List Addr), Begins u o Hh ∧ Hh h ∧ (∀ b ∈ fo, ∃ q, h.get? b = some q) ∧
    ∀ it, it ∉ fo → ∃ S : Nat → Heap → Prop, (∀ A : Around, A.handled = none → Draws prog w A it (it :: fo) n Pv S) ∧ (∀ h', h'.get? it = some o → (∀ b q, h.get? b = some q → h'.get? b = some q) → S 0 h') ∧
      (∀ i h', S i h' → ∀ b ∈ it :: fo, ∃ q, h'.get? b = some q)
section
variable {prog : Program} {w : World} {h : Heap}
theorem gives_list {p : Addr} {items : Array Value} (q : h.IsList p items) : Gives prog w h (.ref p) items.size fun i v => items[i]? = some v :=
  ⟨_, _, [p], begins_list p items, q, fun b hb => by
    rw [List.mem_singleton.mp hb]
    exact let ⟨o, e, _⟩ := q; ⟨o, e⟩,
   fun it hn => ⟨_, fun A hA => Draws.list hA it p (fun e => hn (by simp [e])) items, fun h' e kp => ⟨⟨_, e, rfl, rfl⟩, q.at fun o z => kp p o z⟩, fun i h' st b hb => by
    rcases List.mem_cons.mp hb with rfl | hb
    · exact let ⟨o, e, _⟩ := st.1; ⟨o, e⟩
    · rw [List.mem_singleton.mp hb]
      exact let ⟨o, e, _⟩ := st.2; ⟨o, e⟩⟩⟩
theorem gives_tuple {p : Addr} {items : Array Value} (q : h.IsTuple p items) : Gives prog w h (.ref p) items.size fun i v => items[i]? = some v :=
  ⟨_, _, [p], begins_tuple p items, q, fun b hb => by
    rw [List.mem_singleton.mp hb]
    exact let ⟨o, e, _⟩ := q; ⟨o, e⟩,
   fun it hn => ⟨_, fun A hA => Draws.tuple hA it p (fun e => hn (by simp [e])) items, fun h' e kp => ⟨⟨_, e, rfl, rfl⟩, q.at fun o z => kp p o z⟩, fun i h' st b hb => by
    rcases List.mem_cons.mp hb with rfl | hb
    · exact let ⟨o, e, _⟩ := st.1; ⟨o, e⟩
    · rw [List.mem_singleton.mp hb]
      exact let ⟨o, e, _⟩ := st.2; ⟨o, e⟩⟩⟩
theorem gives_text (x : Str) (t : Tok) : Gives prog w h (.str x t) x.cps.size fun i v => ∃ c u, x.cps[i]? = some c ∧ v = .str ⟨#[c]⟩ u :=
  ⟨_, _, [], begins_text x t, trivial, fun b hb => (List.not_mem_nil hb).elim,
   fun it hn => ⟨_, fun A hA => Draws.text hA it x t, fun h' e kp => ⟨_, e, rfl, rfl⟩, fun i h' st b hb => by
    rw [List.mem_singleton.mp hb]
    exact let ⟨o, e, _⟩ := st; ⟨o, e⟩⟩⟩
end
section
variable {prog : Program} {w : World} {A : Around} {E : Value → Shared → Prop} {s : Shared}
/-- dict of a zip of two values -/
theorem call_zip_dict {u1 u2 : Value} {n1 n2 : Nat} {P1 P2 : Nat → Value → Prop} {K : Type} [DecidableEq K] {knd : KeyKind prog w K} {kvs : List (K × Value)} {Q : Value → Shared → Prop} (g1 : Gives prog w s.heap u1 n1 P1) (g2 : Gives prog w s.heap u2 n2 P2) (calm : A.handled = none)
    (len : kvs.length = min n1 n2) (few : min n1 n2 ≤ sizeLine) (are : ∀ i k v, P1 i k → P2 i v → ∃ q, kvs[i]? = some (q, v) ∧ knd.is q k = true)
    (fin : ∀ (a : Addr) h' tk, s.heap.objs.size ≤ a → h'.DictOf knd a (merged [] kvs) → (∀ b o, s.heap.get? b = some o → h'.get? b = some o) → Q (.ref a) { s with heap := h', toks := tk }) :
    wpAny (model prog w) A (call (.type "zip") [u1, u2]) (fun v s1 => wpAny (model prog w) A (call (.type "dict") [v]) Q E s1) E s := by
  obtain ⟨o1, H1, f1, b1, x1, l1, r1⟩ := g1.ex
  obtain ⟨o2, H2, f2, b2, x2, l2, r2⟩ := g2.ex
  refine zip_begins2 b1 b2 x1 x2 fun h' hz hti hto e1 e2 sz kp => ?_
  have lo : ∀ b ∈ f1, b < s.heap.objs.size := fun b hb => let ⟨_, e⟩ := l1 b hb; Heap.lt_size e
  have lo2 : ∀ b ∈ f2, b < s.heap.objs.size := fun b hb => let ⟨_, e⟩ := l2 b hb; Heap.lt_size e
  have off : ∀ k, s.heap.objs.size + k ∉ f1 := fun k hm => absurd (lo _ hm) (Nat.not_lt.mpr (Nat.le_add_right _ _))
  have off2 : ∀ k, s.heap.objs.size + k ∉ f2 := fun k hm => absurd (lo2 _ hm) (Nat.not_lt.mpr (Nat.le_add_right _ _))
  obtain ⟨S1, D1, z1, t1⟩ := r1 s.heap.objs.size (off 0)
  obtain ⟨S2, D2, z2, t2⟩ := r2 (s.heap.objs.size + 1) (off2 1)
  have ap : ZipSep2 (s.heap.objs.size + 4) (s.heap.objs.size + 2) (s.heap.objs.size + 3) s.heap.objs.size (s.heap.objs.size + 1) (s.heap.objs.size :: f1) ((s.heap.objs.size + 1) :: f2) := by
    constructor
    · exact Nat.ne_of_lt (by omega)
    · exact Nat.ne_of_lt (by omega)
    · exact Nat.ne_of_lt (by omega)
    · exact Nat.ne_of_gt (by omega)
    · exact List.mem_cons_self
    · exact fun q => (List.mem_cons.mp q).elim (fun e => absurd e (Nat.ne_of_gt (by omega))) (off 4)
    · exact fun q => (List.mem_cons.mp q).elim (fun e => absurd e (Nat.ne_of_gt (by omega))) (off 3)
    · exact Nat.ne_of_gt (by omega)
    · exact List.mem_cons_self
    · exact fun q => (List.mem_cons.mp q).elim (fun e => absurd e (Nat.ne_of_gt (by omega))) (off2 4)
    · exact fun q => (List.mem_cons.mp q).elim (fun e => absurd e (Nat.ne_of_gt (by omega))) (off2 3)
    · exact fun q => (List.mem_cons.mp q).elim (fun e => absurd e (Nat.ne_of_lt (by omega))) (off2 0)
    · exact fun q => (List.mem_cons.mp q).elim (fun e => absurd e (Nat.ne_of_gt (by omega))) (off 1)
  refine call_dict_pairs (s := { s with heap := h' }) (pairs2 ap D1 D2 t1 t2) calm ⟨hz, hti, ⟨_, _, hto⟩, z1 h' e1 kp, z2 h' e2 kp⟩ ⟨len, fun i k v q => are i k v q.1 q.2⟩ few fun h2 tk hd kp2 => ?_
  refine fin h'.objs.size h2 tk (by rw [sz]; omega) hd fun b o e => kp2 b o (fun hm => ?_) (kp b o e)
  have q : b = s.heap.objs.size + 4 ∨ b = s.heap.objs.size + 3 ∨ b = s.heap.objs.size ∨ b = s.heap.objs.size + 1 := by simpa using hm
  have lt := Heap.lt_size e
  rcases q with q | q | q | q
  · rw [q] at lt; exact absurd lt (Nat.not_lt.mpr (Nat.le_add_right _ _))
  · rw [q] at lt; exact absurd lt (Nat.not_lt.mpr (Nat.le_add_right _ _))
  · rw [q] at lt; exact absurd lt (Nat.lt_irrefl _)
  · rw [q] at lt; exact absurd lt (Nat.not_lt.mpr (Nat.le_add_right _ _))
end
/-- the keys that a tuple, a list, a text gives -/
def KeysOf (K : PySem.W.Frag) (H : Hp) (x : V) (ks : List Key) : Prop :=
  (∃ p, x = .ref p ∧ (SqT K H p (ks.map kV) ∨ SqL K H p (ks.map kV))) ∨ ∃ t : Str, x = .str t ∧ t.cps.size ≤ sizeLine ∧ ks = t.cps.toList.map fun c => Sum.inr (⟨#[c]⟩ : Str)
theorem kv_zip : ∀ {ks : List Key} {ys : List V} {its : List Value}, Vals ys its → KV (ks.zip ys) (ks.zip its)
  | [], _, _, _ => by simp only [List.zip_nil_left]; exact .nil
  | _ :: _, _, _, .nil => by simp only [List.zip_nil_right]; exact .nil
  | k :: ks, _, _, .cons r t => by
    simp only [List.zip_cons_cons]
    exact .cons ⟨rfl, r⟩ (kv_zip t)
section
variable {X : Cx}
theorem keys_give {pins : List (Addr × Obj)} {σ : L2.St} {H : Hp} {s : Shared} {x : V} {u : Value} {ks : List Key} (I : Inv X pins σ H s) (r : RelV x u) (k : KeysOf X.K H x ks) :
    ∃ (n : Nat) (Pv : Nat → Value → Prop), Gives X.prog X.w s.heap u n Pv ∧ ks.length = n ∧ n ≤ sizeLine ∧ ∀ (i : Nat) (key : Value), Pv i key → ∃ q : Key, ks[i]? = some q ∧ (mixKind X.prog X.w).is q key = true := by
  have go : ∀ {its : List Value}, Vals (ks.map kV) its → ∀ (i : Nat) (key : Value), its.toArray[i]? = some key → ∃ q : Key, ks[i]? = some q ∧ (mixKind X.prog X.w).is q key = true := by
    intro its rv i key e
    have hl := rv.length
    rw [List.length_map] at hl
    have e' : its[i]? = some key := by simpa using e
    have hi : i < ks.length := by
      have := (List.getElem?_eq_some_iff.mp e').1
      omega
    have ek : (ks.map kV)[i]? = some (kV ks[i]) := by simp [hi]
    obtain ⟨u', e2, r2⟩ := rv.get ek
    rw [e'] at e2
    cases Option.some.inj e2
    exact ⟨ks[i], by simp [hi], kV_is r2⟩
  rcases k with ⟨p, rfl, hq⟩ | ⟨t, rfl, ht, rfl⟩
  · cases r
    rcases hq with hq | hq
    · obtain ⟨its, rv, pl, hz⟩ := I.tuple hq
      have hl := rv.length
      rw [List.length_map] at hl hz
      exact ⟨_, _, gives_tuple pl, by simp [hl], by simp; omega, go rv⟩
    · obtain ⟨its, rv, pl, hz⟩ := I.list hq
      have hl := rv.length
      rw [List.length_map] at hl hz
      exact ⟨_, _, gives_list pl.isList, by simp [hl], by simp; omega, go rv⟩
  · obtain ⟨tk, rfl⟩ := r
    refine ⟨_, _, gives_text t tk, by simp, ht, ?_⟩
    rintro i key ⟨c, u, e, rfl⟩
    refine ⟨Sum.inr (⟨#[c]⟩ : Str), ?_, kV_is (k := Sum.inr (⟨#[c]⟩ : Str)) ⟨u, rfl⟩⟩
    rw [List.getElem?_map, Array.getElem?_toList, e]
    rfl
def tDictZip (K : PySem.W.Frag) (ta : TA) : TE := fun σ H Q => ta σ H fun vs H1 => ∃ x b ks ys, vs = [x, .ref b] ∧ KeysOf K H1 x ks ∧ SqL K H1 b ys ∧ ∀ p, H1 p = none → Q (.ref p) (upd H1 p (.dK (mergeK [] (ks.zip ys))))
theorem pe_dictZip {e e2 : Expr} {ta : TA} {p p2 q pos : Pos} (hc : X.calm = true) (g1 : Gl X "dict") (m1 : X.mg "dict" = none) (g2 : Gl X "zip") (m2 : X.mg "zip" = none) (ha : PA X [e, e2] ta)
    (na : starEach [.Call (.Name "zip" p2) [e, e2] [] q] X.env = (false, eval (.Call (.Name "zip" p2) [e, e2] [] q) X.env) :: starEach [] X.env := by rfl)
    (hs : starEach [e, e2] X.env = (false, eval e X.env) :: starEach [e2] X.env := by rfl) (hpl : (backTo q (starEach [e2] X.env)).any (·.1) = false := by rfl) :
    PE X (.Call (.Name "dict" p) [.Call (.Name "zip" p2) [e, e2] [] q] [] pos) (tDictZip X.K ta) := by
  constructor
  intro pins s σ H Q I h
  refine Call_ (ld_blt I g1 m1 PyProof.Rows.boot_dict ?_)
  refine callWith_type1 (args_cons ?_ na) na (by rfl)
  refine Call_ (ld_blt I g2 m2 PyProof.Rows.boot_zip (PyProof.Rows.callWith_type1 (thn (ha.run q pins s σ H _ I h) fun us s1 ⟨vs, H1, I1, r1, q1⟩ => ?_) hs hpl))
  obtain ⟨x, b, ks, ys, ex, hk, hy, q1⟩ := q1
  subst ex
  obtain ⟨u1, u2, eu, ru1, ru2⟩ := vals2 r1
  subst eu
  cases ru2
  obtain ⟨n1, P1, gv1, l1, z1, is1⟩ := keys_give I1 ru1 hk
  obtain ⟨its, rv, pl, hz⟩ := I1.list hy
  have l2 : ys.length = its.toArray.size := by rw [List.size_toArray]; exact rv.length
  refine thn (call_zip_dict (kvs := ks.zip its) (knd := mixKind X.prog X.w) gv1 (gives_list pl.isList) (I1.ok.hd hc) (by simp [l1]) (by omega) (fun i k v p1 p2 => ?_) fun a h' tk la hd kp => ?_) fun v s2 q2 => PyProof.Rows.args_nil q2
  · obtain ⟨kk, e1, e2⟩ := is1 i k p1
    exact ⟨kk, List.getElem?_zip_eq_some.mpr ⟨e1, by simpa using p2⟩, e2⟩
  · have hm : (a == sysModules) = false := beq_eq_false_iff_ne.mpr (Nat.ne_of_gt (Nat.lt_of_lt_of_le I1.big la))
    have len : (mergeK [] (ks.zip ys)).length ≤ sizeLine := by
      refine Nat.le_trans (length_mergeK _ []) ?_
      simp only [List.length_nil, Nat.zero_add, List.length_zip]
      omega
    exact ⟨.ref a, _, I1.laid (t' := tk) kp la (show ObjOk X.prog X.w _ _ _ (.dK (mergeK [] (ks.zip ys))) from ⟨len, hm, merged [] (ks.zip its), KV.merge (kv_zip rv) .nil, hd⟩), rfl, q1 _ (I1.hok.fresh la)⟩
end
end Xk
set_option Elab.async false
set_option linter.all false
set_option maxRecDepth 100000
set_option maxHeartbeats 4000000
/-! Xl: for a, b in zip(t, l): a tuple and a list. -/
namespace Xl
open PySem PySem.Spec PyProof.Rows L2 Xz
/-- the tuple at a and the list at b as they stand at each turn -/
def ItTL (K : PySem.W.Frag) (a b : Addr) : It :=
  ⟨fun i H => ∃ (xs ys : List V) (x y : V), SqT K H a xs ∧ SqL K H b ys ∧ xs[i]? = some x ∧ ys[i]? = some y,
    fun i H v H' => ∃ T x y, v = .ref T ∧ H T = none ∧ H' = upd H T (.tup [x, y]) ∧ (∀ xs, SqT K H a xs → xs[i]? = some x) ∧ ∀ ys, SqL K H b ys → ys[i]? = some y,
    fun i H => ∃ xs ys : List V, SqT K H a xs ∧ SqL K H b ys ∧ ((i = xs.length ∧ i ≤ ys.length) ∨ (i ≤ xs.length ∧ i = ys.length))⟩
theorem offT {h : Heap} {a ia : Addr} {i : Nat} {items : Array Value} (p : h.IsTupleIter ia a i) (q : h.IsTuple a items) : a ≠ ia := by
  rintro rfl
  obtain ⟨o1, g1, c1, _⟩ := p
  obtain ⟨o2, g2, c2, _⟩ := q
  rw [g1] at g2
  cases g2
  rw [c1] at c2
  simp at c2
theorem offL {h : Heap} {a ia : Addr} {i : Nat} {items : Array Value} (p : h.IsListIter ia a i) (q : h.IsList a items) : a ≠ ia := by
  rintro rfl
  obtain ⟨o1, g1, c1, _⟩ := p
  obtain ⟨o2, g2, c2, _⟩ := q
  rw [g1] at g2
  cases g2
  rw [c1] at c2
  simp at c2
theorem turnTL {P : Program} {w : World} {K : PySem.W.Frag} {elts : List Expr} {kk : Nat} {tpos : Pos} {a b zz ti to ia ib : Addr} (S : ZipSep2 zz ti to ia ib [ia, a] [ib, b]) :
    Turn P w K (.Tuple elts kk tpos) (ItTL K a b) [zz, ti, to, ia, ib] zz (fun i h => IsZip h zz ti to .none ∧ IsTupOf2 h ti (.ref ia) (.ref ib) ∧ (∃ x y, IsTupOf2 h to x y) ∧ h.IsTupleIter ia a i ∧ h.IsListIter ib b i) where
  mem := by simp
  obj := fun i h st c hc => by
    obtain ⟨q1, q2, ⟨x, y, q3⟩, ⟨o1, e1, _, d1⟩, ⟨o2, e2, _, d2⟩⟩ := st
    have e : c = zz ∨ c = ti ∨ c = to ∨ c = ia ∨ c = ib := by simpa using hc
    rcases e with rfl | rfl | rfl | rfl | rfl
    · exact ⟨_, q1, fun v q => nomatch q⟩
    · exact ⟨_, q2, fun v q => nomatch q⟩
    · exact ⟨_, q3, fun v q => nomatch q⟩
    · exact ⟨o1, e1, fun v q => by rw [d1] at q; cases q⟩
    · exact ⟨o2, e2, fun v q => by rw [d2] at q; cases q⟩
  keep := fun i h h' st kp => by
    obtain ⟨q1, q2, ⟨x, y, q3⟩, q4, q5⟩ := st
    exact ⟨kp zz (by simp) _ q1, kp ti (by simp) _ q2, ⟨x, y, kp to (by simp) _ q3⟩, q4.at fun o q => kp ia (by simp) o q, q5.at fun o q => kp ib (by simp) o q⟩
  item := by
    intro X hP hw hK hc i pins s σ H E I hf st hg
    subst hP hw hK
    obtain ⟨q1, q2, ⟨x0, y0, q3⟩, q4, q5⟩ := st
    obtain ⟨xs, ys, x, y, hqx, hqy, hx, hy⟩ := hg
    obtain ⟨its, rv, p, _⟩ := I.tuple hqx
    obtain ⟨its2, rv2, p2, _⟩ := I.list hqy
    obtain ⟨u, hu, ru⟩ := rv.get hx
    obtain ⟨u2, hu2, ru2⟩ := rv2.get hy
    have zl : zz < s.heap.objs.size := Heap.lt_size q1
    have calm : X.A.in1.handled = none := by simpa using I.ok.hd hc
    have D1 := Draws.tuple (prog := X.prog) (w := X.w) calm ia a (offT q4 p) its.toArray
    have D2 := Draws.list (prog := X.prog) (w := X.w) calm ib b (offL q5 p2.isList) its2.toArray
    have lx : i < its.toArray.size := by
      have := (List.getElem?_eq_some_iff.mp hu).1
      simpa using this
    have ly : i < its2.toArray.size := by
      have := (List.getElem?_eq_some_iff.mp hu2).1
      simpa using this
    refine wpAny_pyNext_zipD2_item S D1 D2 q1 q2 q3 ⟨q4, p⟩ ⟨q5, p2.isList⟩ lx ly fun x1 x2 h' tk y1 y2 z1 z2 z3 z4 z5 z6 kp => ?_
    rw [List.getElem?_toArray, hu] at y1
    rw [List.getElem?_toArray, hu2] at y2
    cases y1
    cases y2
    refine ⟨_, rfl, wpAny_letOwnedTupleGo_zip (s := { s with heap := h', toks := tk }) z1 fun h'' z'' sb => ?_⟩
    have hT2 : h''.get? s.heap.objs.size = some { cls := .type "tuple", data := .seq #[u, u2] } := (sb.2 _ (Nat.ne_of_gt zl)).trans z5
    have new : ObjOk X.prog X.w (upd H s.heap.objs.size (.tup [x, y])) h'' s.heap.objs.size (.tup [x, y]) :=
      ⟨by show 2 ≤ sizeLine; decide, [u, u2], .cons ru (.cons ru2 .nil), ⟨_, hT2, rfl, _, rfl⟩⟩
    have I1 : Inv X pins σ (upd H s.heap.objs.size (.tup [x, y])) { s with heap := h'', toks := tk } :=
      I.turnedNew (t' := tk) (ch := [zz, ti, to, ia, ib]) (fun c o hb q => (sb.2 c (fun q' => hb (by simp [q']))).trans (kp c o (fun q' => hb (by simp [q'])) (fun q' => hb (by simp [q'])) (fun q' => hb (by simp [q'])) (fun q' => hb (by simp [q'])) q)) hf (Nat.le_refl _) new
    refine ⟨.ref s.heap.objs.size, _, I1, rfl, ⟨_, x, y, rfl, I.hok.fresh (Nat.le_refl _), rfl, fun l hl => by rw [I.tuple_inj hl hqx]; exact hx, fun l hl => by rw [I.list_inj hl hqy]; exact hy⟩, ⟨z'', ?_, ⟨u, u2, ?_⟩, ?_, ?_⟩, fun c hcm => ?_⟩
    · exact (sb.2 _ S.TIz).trans (kp _ _ S.TIz S.TITO S.TIi1 S.TIi2 q2)
    · exact (sb.2 _ S.TOz).trans z2
    · exact z3.1.at fun o q => (sb.2 _ (Ne.symm S.zi1)).trans q
    · exact z4.1.at fun o q => (sb.2 _ (Ne.symm S.zi2)).trans q
    · have hlt : c < s.heap.objs.size := by
        have e : c = zz ∨ c = ti ∨ c = to ∨ c = ia ∨ c = ib := by simpa using hcm
        rcases e with rfl | rfl | rfl | rfl | rfl
        · exact zl
        · exact Heap.lt_size q2
        · exact Heap.lt_size q3
        · obtain ⟨_, e1, _⟩ := q4; exact Heap.lt_size e1
        · obtain ⟨_, e2, _⟩ := q5; exact Heap.lt_size e2
      rw [upd_ne (Nat.ne_of_lt hlt)]
      exact (hf c hcm).1
  done := by
    intro X hP hw hK hc i pins s σ H E I hf st hg
    subst hP hw hK
    obtain ⟨q1, q2, ⟨x0, y0, q3⟩, q4, q5⟩ := st
    obtain ⟨xs, ys, hqx, hqy, hend⟩ := hg
    obtain ⟨its, rv, p, _⟩ := I.tuple hqx
    obtain ⟨its2, rv2, p2, _⟩ := I.list hqy
    have l1 := rv.length
    have l2 := rv2.length
    have calm : X.A.in1.handled = none := by simpa using I.ok.hd hc
    have D1 := Draws.tuple (prog := X.prog) (w := X.w) calm ia a (offT q4 p) its.toArray
    have D2 := Draws.list (prog := X.prog) (w := X.w) calm ib b (offL q5 p2.isList) its2.toArray
    exact wpAny_pyNext_zipD2_end S D1 D2 q1 q2 q3 ⟨q4, p⟩ ⟨q5, p2.isList⟩ (by simp; omega) (by simp; omega) (by simp; omega) fun h' tk kp => ⟨rfl, I.turnedL (t' := tk) (ch := [zz, ti, to, ia, ib]) (fun c o hb q =>
      kp c o (fun q' => hb (by simp [q'])) (fun q' => hb (by simp [q'])) (fun q' => hb (by simp [q'])) (fun q' => hb (by simp [q'])) q) hf⟩
  self := fun A i s Q E st h => wpAny_pyIter_zip st.1 h
def iZipTL (K : PySem.W.Frag) (ta : TA) : TI := fun σ H R => ta σ H fun vs H1 => ∃ a b xs ys, vs = [.ref a, .ref b] ∧ SqT K H1 a xs ∧ SqL K H1 b ys ∧ R (ItTL K a b) H1
theorem pi_zipTL {X : Cx} {e e2 : Expr} {ta : TA} {p pos tpos : Pos} {elts : List Expr} {kk : Nat} (hg : Gl X "zip") (hm : X.mg "zip" = none) (ha : PA X [e, e2] ta)
    (hs : starEach [e, e2] X.env = (false, eval e X.env) :: starEach [e2] X.env := by rfl) (hpl : (backTo pos (starEach [e2] X.env)).any (·.1) = false := by rfl) :
    PI X (.Tuple elts kk tpos) (.Call (.Name "zip" p) [e, e2] [] pos) (iZipTL X.K ta) := by
  refine ⟨fun pins s σ H R I h => ?_⟩
  refine Call_ (ld_blt I hg hm PyProof.Rows.boot_zip (PyProof.Rows.callWith_type1 (thn (ha.run pos pins s σ H _ I h) fun us s1 ⟨vs, H1, I1, r1, q1⟩ => ?_) hs hpl))
  obtain ⟨a, b, xs, ys, ex, hqx, hqy, q⟩ := q1
  subst ex
  obtain ⟨u1, u2, eu, r, r'⟩ := vals2 r1
  subst eu
  cases r
  cases r'
  obtain ⟨its, rv, p1, _⟩ := I1.tuple hqx
  obtain ⟨its2, rv2, p2, _⟩ := I1.list hqy
  have la : a < s1.heap.objs.size := let ⟨_, e, _⟩ := p1; Heap.lt_size e
  have lb : b < s1.heap.objs.size := p2.lt
  have oa : ∀ k, s1.heap.objs.size + k ≠ a := fun k e => absurd la (by rw [← e]; exact Nat.not_lt.mpr (Nat.le_add_right _ _))
  have ob : ∀ k, s1.heap.objs.size + k ≠ b := fun k e => absurd lb (by rw [← e]; exact Nat.not_lt.mpr (Nat.le_add_right _ _))
  have ap : ZipSep2 (s1.heap.objs.size + 4) (s1.heap.objs.size + 2) (s1.heap.objs.size + 3) s1.heap.objs.size (s1.heap.objs.size + 1) [s1.heap.objs.size, a] [s1.heap.objs.size + 1, b] := by
    constructor
    · exact Nat.ne_of_lt (by omega)
    · exact Nat.ne_of_lt (by omega)
    · exact Nat.ne_of_lt (by omega)
    · exact Nat.ne_of_gt (by omega)
    · exact List.mem_cons_self
    · simpa using oa 4
    · simpa using oa 3
    · exact Nat.ne_of_gt (by omega)
    · exact List.mem_cons_self
    · simpa using ob 4
    · simpa using ob 3
    · simpa using ob 0
    · simpa using oa 1
  refine zip_begins2 (begins_tuple a its.toArray) (begins_list b its2.toArray) p1 p2.isList fun h' hz hti hto e1 e2 sz kp => wpAny_pyIter_zip hz ?_
  have I2 : Inv X pins σ H1 { s1 with heap := h' } := I1.kept (t' := s1.toks) kp
  refine ⟨s1.heap.objs.size + 4, [s1.heap.objs.size + 4, s1.heap.objs.size + 2, s1.heap.objs.size + 3, s1.heap.objs.size, s1.heap.objs.size + 1], _, _, H1, rfl, I2, turnTL ap, ⟨hz, hti, ⟨_, _, hto⟩, ⟨_, e1, rfl, rfl⟩, ⟨_, e2, rfl, rfl⟩⟩, fun c hcm => ?_, q⟩
  have e : c = s1.heap.objs.size + 4 ∨ c = s1.heap.objs.size + 2 ∨ c = s1.heap.objs.size + 3 ∨ c = s1.heap.objs.size ∨ c = s1.heap.objs.size + 1 := by simpa using hcm
  have le : s1.heap.objs.size ≤ c := by
    rcases e with rfl | rfl | rfl | rfl | rfl
    · exact Nat.le_add_right _ _
    · exact Nat.le_add_right _ _
    · exact Nat.le_add_right _ _
    · exact Nat.le_refl _
    · exact Nat.le_add_right _ _
  exact I1.fpOk le (I1.hok.fresh le)
end Xl
set_option Elab.async false
set_option linter.all false
set_option maxRecDepth 100000
set_option maxHeartbeats 4000000
/-! k21: days, forms -/
namespace K21
open PySem PySem.Spec PyProof.Rows L2 Bs Xg TL Xk K02
theorem u1 {n : Nat} (h : n + 64 < cLine) : n + 1 < cLine := by omega
abbrev sRs : Stmt := top 15
abbrev sRD : Stmt := top 18
abbrev sDo : Stmt := top 19
def dayP (Y M D : List Nat) : Option Int := if Y.length = 4 ∧ figs 4 Y = true ∧ figs 2 M = true ∧ figs 2 D = true then numI (val Y) (val M) (val D) else none
/-- year, month, day of three parts as a text tells their order -/
def ord3 (o : Str) (p : List Str) : Str × Str × Str :=
  if o = Str.ofString "ymd" then (p.getD 0 Str.empty, p.getD 1 Str.empty, p.getD 2 Str.empty)
  else if o = Str.ofString "dmy" then (p.getD 2 Str.empty, p.getD 1 Str.empty, p.getD 0 Str.empty)
  else (p.getD 2 Str.empty, p.getD 0 Str.empty, p.getD 1 Str.empty)
def dayQ (o : Str) (p : List Str) : Option Int := dayP (tl (ord3 o p).1) (tl (ord3 o p).2.1) (tl (ord3 o p).2.2)
def dayS (o z : Str) : List Str → Option Int
  | [] => none
  | s :: r => if (Txt.split z s).length = 3 then dayQ o (Txt.split z s) else dayS o z r
def btw : List Str := [Str.ofString "-", Str.ofString ".", Str.ofString "/"]
def IsOrd (o : Str) : Prop := o = Str.ofString "ymd" ∨ o = Str.ofString "dmy" ∨ o = Str.ofString "mdy"
section
variable {P : Program} {w : World} {K : PySem.W.Frag} {mg : Str → Option Value} {base : Heap}
variable {cM fLp fDi fAh fNu : Addr} {dLp dDi dAh dNu : FuncData}
theorem scDo : FnScope ["parts", "year", "month", "day"] ["parts"] (defScope sDo) := ⟨rfl, rfl, rfl, by decide +kernel, rfl, by decide +kernel, by decide +kernel⟩
def spDo : Sp := fun vs H Q _ => ∃ (p : Addr) (kvs : List (Key × V)) (Y M D : Str), vs = [.ref p] ∧ H p = some (.dK kvs) ∧ valV kvs (Sum.inr (Str.ofString "y")) = some (.str Y) ∧ valV kvs (Sum.inr (Str.ofString "m")) = some (.str M) ∧ valV kvs (Sum.inr (Str.ofString "d")) = some (.str D) ∧
  Y.length ≤ 500 ∧ M.length ≤ 500 ∧ D.length ≤ 500 ∧ ∀ H', Same H H' → Q (ov (dayP (tl Y) (tl M) (tl D))) H'
structure Frm (K : PySem.W.Frag) (mg : Str → Option Value) (cB fIF fRA fRD fDo fRs : Addr) (dIF dRA dRD dDo dRs : FuncData) : Prop where
  gB : mg "BETWEEN" = some (.ref cB)
  sB : ∀ H, SqT K H cB (btw.map V.str)
  g9 : ∃ t, mg "WHOLE_FIGURES" = some (.int 9 t)
  g8 : ∃ t, mg "AMOUNT_FIGURES" = some (.int 8 t)
  gY : ∃ t, mg "YEAR_FIGURES" = some (.int 4 t)
  gD : ∃ t, mg "DAY_FIGURES" = some (.int 2 t)
  IF : Fun K "is_figures" "is_figures" sIsFig fIF dIF
  bIF : Binds K dIF ["text", "most"] []
  gIF : mg "is_figures" = some (.ref fIF)
  RA : Fun K "read_amount" "read_amount" sReadAm fRA dRA
  bRA : Binds K dRA ["text", "most", "places"] []
  gRA : mg "read_amount" = some (.ref fRA)
  RD : Fun K "read_day" "read_day" sRD fRD dRD
  bRD : Binds K dRD ["text", "order"] []
  gRD : mg "read_day" = some (.ref fRD)
  Do : Fun K "day_of" "day_of" sDo fDo dDo
  bDo : Binds K dDo ["parts"] []
  gDo : mg "day_of" = some (.ref fDo)
  Rs : Fun K "read_as" "read_as" sRs fRs dRs
  bRs : Binds K dRs ["form", "text"] []
  gRs : mg "read_as" = some (.ref fRs)
variable {cB fIF fRA fRD fDo fRs : Addr} {dIF dRA dRD dDo dRs : FuncData}
theorem ok_dayof (C : Cal K mg cM fLp fDi fAh fNu dLp dDi dAh dNu) (F : Frm K mg cB fIF fRA fRD fDo fRs dIF dRA dRD dDo dRs) (T : Free mg) : FnOk P w K mg base CX0 4 fDo dDo ["parts"] spDo := by
  have GIF : FnOk P w K mg base CX0 1 fIF dIF ["text", "most"] spIsFig := ok_isfig F.IF T
  have GNu : FnOk P w K mg base CX0 3 fNu dNu ["year", "month", "day"] spNum := ok_num C T
  have FIF := F.IF
  have bIF := F.bIF
  have gIF := F.gIF
  have FNu := C.Nu
  have bNu := C.bNu
  have gNu := C.gNu
  obtain ⟨t4, gY⟩ := F.gY
  obtain ⟨t2, gD⟩ := F.gD
  refine F.Do.ok scDo (fun vs H Q E h => ?_) (fun cdv A outer s H vs Q E hr h => ?_)
  · obtain ⟨p, kvs, Y, M, D, rfl, _⟩ := h
    rfl
  · obtain ⟨p, kvs, Y, M, D, rfl, hp, hY, hM, hD, lY, lM, lD, q⟩ := h
    refine ⟨_, pss_cons (ps_par3 (i := 1) (j := 2) (l := 3) rfl scDo.nd rfl rfl rfl (by decide) (by decide) (by decide) rfl rfl rfl (pa_cons (pe_dget (u1 hr.units) (pv 0) pe_str (fun _ _ => rfl)) (pa_cons (pe_dget (u1 hr.units) (pv 0) pe_str (fun _ _ => rfl)) (pa_cons (pe_dget (u1 hr.units) (pv 0) pe_str (fun _ _ => rfl)) pa_nil))) (by rfl))
      (pss_cons (ps_if (PW.pt (pw_or (pt_cmpR op_ne (pe_callB call_len_str (by rfl) T.len PySem.boot_len (pa_cons (pv 1) pa_nil)) (pe_glob (v := V.int 4) rfl gY ⟨_, rfl⟩) (nomark _)) (pw_or1 (pt_not (pt_val (pe_call GIF (hr.mono (by decide)) (by rfl) gIF FIF.kp bIF .nil pass0 (pa_cons (pv 1) (pa_cons (pe_glob (v := V.int 4) rfl gY ⟨_, rfl⟩) pa_nil)))))))) (pss_one (ps_ret pe_non)) (pss_nil))
      (pss_cons (ps_if (PW.pt (pw_or (pt_not (pt_val (pe_call GIF (hr.mono (by decide)) (by rfl) gIF FIF.kp bIF .nil pass0 (pa_cons (pv 2) (pa_cons (pe_glob (v := V.int 2) rfl gD ⟨_, rfl⟩) pa_nil))))) (pw_or1 (pt_not (pt_val (pe_call GIF (hr.mono (by decide)) (by rfl) gIF FIF.kp bIF .nil pass0 (pa_cons (pv 3) (pa_cons (pe_glob (v := V.int 2) rfl gD ⟨_, rfl⟩) pa_nil)))))))) (pss_one (ps_ret pe_non)) (pss_nil))
      (pss_one (ps_ret (pe_call GNu (hr.mono (by decide)) (by rfl) gNu FNu.kp bNu .nil pass0 (pa_cons (pe_callTy call_int_str (by rfl) T.int (by decide +kernel) (pa_cons (pv 1) pa_nil)) (pa_cons (pe_callTy call_int_str (by rfl) T.int (by decide +kernel) (pa_cons (pv 2) pa_nil)) (pa_cons (pe_callTy call_int_str (by rfl) T.int (by decide +kernel) (pa_cons (pv 3) pa_nil)) pa_nil)))))))), ?_⟩
    have no : ¬ ((tl Y).length = 4 ∧ figs 4 (tl Y) = true ∧ figs 2 (tl M) = true ∧ figs 2 (tl D) = true) → Q .non H := fun n => by
      have z := q H (Same.refl _)
      unfold dayP at z
      rw [if_neg n] at z
      exact z
    refine ⟨_, rfl, p, _, rfl, hY ▸ DGet.k hp, _, rfl, p, _, rfl, hM ▸ DGet.k hp, _, rfl, p, _, rfl, hD ▸ DGet.k hp, _, _, _, rfl, ?_⟩
    have line : ∀ {z : Str}, z.length ≤ 500 → z.length ≤ sizeLine := fun h => Nat.le_trans h (by decide)
    refine ⟨_, rfl, Y, rfl, line lY, ?_⟩
    refine ⟨rfl, _, rfl, ?_⟩
    have e4 : decide (V.int (Y.length : Nat) = V.int 4) = decide ((tl Y).length = 4) := decide_eq_decide.mpr ⟨fun h => by have := V.int.inj h; rw [len_tl] at this; omega, fun h => congrArg V.int (by rw [len_tl]; omega)⟩
    rw [e4]
    by_cases y4 : (tl Y).length = 4
    · rw [decide_eq_true y4]
      refine iteF ⟨_, rfl, Y, 4, rfl, by omega, _, rfl, ?_⟩
      cases fy : figs 4 (tl Y) with
      | false => exact iteT (no fun h => by rw [fy] at h; exact absurd h.2.1 (by decide))
      | true =>
        refine iteF ?_
        unfold tNext
        dsimp only
        refine ⟨_, rfl, M, 2, rfl, by omega, _, rfl, ?_⟩
        cases fm : figs 2 (tl M) with
        | false => exact iteT (no fun h => by rw [fm] at h; exact absurd h.2.2.1 (by decide))
        | true =>
          refine iteF ⟨_, rfl, D, 2, rfl, by omega, _, rfl, ?_⟩
          cases fd : figs 2 (tl D) with
          | false => exact iteT (no fun h => by rw [fd] at h; exact absurd h.2.2.2 (by decide))
          | true =>
            refine iteF ?_
            dsimp only
            have gy := figs_iff.mp fy
            have gm := figs_iff.mp fm
            have gd := figs_iff.mp fd
            have ne : ∀ {l : List Nat}, 1 ≤ l.length → l ≠ [] := fun h e => by rw [e] at h; simp at h
            have z := q
            unfold dayP at z
            simp only [if_pos (show (tl Y).length = 4 ∧ figs 4 (tl Y) = true ∧ figs 2 (tl M) = true ∧ figs 2 (tl D) = true from ⟨y4, fy, fm, fd⟩)] at z
            have vy := val_lt gy.2
            have vm := val_lt gm.2
            have vd := val_lt gd.2
            have py : 10 ^ (tl Y).length ≤ 10 ^ 4 := Nat.pow_le_pow_right (by decide) gy.1.2
            have pm : 10 ^ (tl M).length ≤ 10 ^ 2 := Nat.pow_le_pow_right (by decide) gm.1.2
            have pd : 10 ^ (tl D).length ≤ 10 ^ 2 := Nat.pow_le_pow_right (by decide) gd.1.2
            refine ⟨_, rfl, Y, _, rfl, intTextD gy.2 (ne gy.1.1) (by omega), by omega, _, rfl, M, _, rfl, intTextD gm.2 (ne gm.1.1) (by omega), by omega, _, rfl, D, _, rfl, intTextD gd.2 (ne gd.1.1) (by omega), by omega, val (tl Y), val (tl M), val (tl D), rfl, by omega, by omega, by omega, z⟩
    · rw [decide_eq_false y4]
      exact iteT (no fun h => y4 h.1)
end
end K21
set_option Elab.async false
set_option linter.all false
set_option maxRecDepth 100000
set_option maxHeartbeats 4000000
/-! k21: a text cut at a sign -/
namespace K21
open PySem PySem.Spec PyProof.Rows L2 Bs Xg TL K02
def cutAt (s : Nat) : List Nat → List (List Nat)
  | [] => [[]]
  | c :: r => if c = s then [] :: cutAt s r else (c :: (cutAt s r).headD []) :: (cutAt s r).tail
theorem cutAt_cons (s c : Nat) (r : List Nat) : cutAt s (c :: r) = if c = s then [] :: cutAt s r else (c :: (cutAt s r).headD []) :: (cutAt s r).tail := rfl
theorem cutAt_ne (s : Nat) : ∀ l, cutAt s l ≠ []
  | [] => by simp [cutAt]
  | c :: r => by
    unfold cutAt
    split <;> simp
theorem headTail {α : Type} {l : List α} (d : α) (h : l ≠ []) : l.headD d :: l.tail = l := by
  cases l with
  | nil => exact absurd rfl h
  | cons a r => rfl
theorem spl_cut (s : Nat) : ∀ (l acc : List Nat), spl [s] 0 acc l = (acc ++ (cutAt s l).headD []) :: (cutAt s l).tail
  | [], acc => by simp [spl_nil, cutAt]
  | c :: r, acc => by
    by_cases e : c = s
    · have h : pre [s] (c :: r) = true := by simp [pre, e]
      rw [spl_hit h]
      show acc :: spl [s] 0 [] r = _
      rw [spl_cut s r [], cutAt_cons, if_pos e, List.nil_append, headTail _ (cutAt_ne s r)]
      simp
    · have h : pre [s] (c :: r) = false := by simp [pre, e]
      rw [spl_miss h, spl_cut s r (acc ++ [c])]
      rw [cutAt_cons, if_neg e]
      simp
theorem split_cut (z : Str) {s : Nat} (hs : s < 256) : Txt.split z ⟨#[s]⟩ = (cutAt s (tl z)).map K21.S := by
  have h := SX.split_S (a := tl z) (b := [s]) (by simp) (by simp [hs])
  have ez : SX.S (tl z) = z := S_tl z
  rw [ez, spl_cut, List.nil_append, headTail _ (cutAt_ne _ _)] at h
  exact h
theorem cutAt_mem (s : Nat) : ∀ l, ∀ p ∈ cutAt s l, p.length ≤ l.length ∧ s ∉ p ∧ ∀ c ∈ p, c ∈ l
  | [], p, hp => by
    have e : p = [] := by simpa [cutAt] using hp
    subst e
    simp
  | c :: r, p, hp => by
    have ih := cutAt_mem s r
    rw [cutAt_cons] at hp
    by_cases e : c = s
    · rw [if_pos e] at hp
      rcases List.mem_cons.mp hp with rfl | hp
      · simp
      · obtain ⟨h1, h2, h3⟩ := ih p hp
        exact ⟨by simp; omega, h2, fun d hd => List.mem_cons_of_mem _ (h3 d hd)⟩
    · rw [if_neg e] at hp
      have hh := headTail [] (cutAt_ne s r)
      rcases List.mem_cons.mp hp with rfl | hp
      · obtain ⟨h1, h2, h3⟩ := ih ((cutAt s r).headD []) (by rw [← hh]; simp)
        refine ⟨by simpa using h1, ?_, ?_⟩
        · intro q
          rcases List.mem_cons.mp q with q | q
          · exact e q.symm
          · exact h2 q
        · intro d hd
          rcases List.mem_cons.mp hd with rfl | hd
          · exact List.mem_cons_self
          · exact List.mem_cons_of_mem _ (h3 d hd)
      · obtain ⟨h1, h2, h3⟩ := ih p (by rw [← hh]; exact List.mem_cons_of_mem _ hp)
        exact ⟨by simp; omega, h2, fun d hd => List.mem_cons_of_mem _ (h3 d hd)⟩
theorem cutAt_count (s : Nat) : ∀ l, (cutAt s l).length = l.count s + 1
  | [] => by simp [cutAt]
  | c :: r => by
    have ih := cutAt_count s r
    rw [cutAt_cons]
    by_cases e : c = s
    · rw [if_pos e, e]
      simp [ih]
    · rw [if_neg e, List.count_cons_of_ne e]
      simp [ih]
/-- the parts' signs are all but the sign -/
theorem cutAt_flat (s : Nat) : ∀ l, (cutAt s l).flatten = l.filter (fun c => !decide (c = s))
  | [] => by simp [cutAt]
  | c :: r => by
    have ih := cutAt_flat s r
    rw [cutAt_cons]
    by_cases e : c = s
    · rw [if_pos e]
      simp [ih, e]
    · rw [if_neg e, List.flatten_cons, List.filter_cons]
      have hh := headTail [] (cutAt_ne s r)
      rw [← hh, List.flatten_cons] at ih
      simp only [decide_eq_false e, Bool.not_false, if_true]
      rw [← ih]
      simp
theorem ofS1 : Str.ofString "-" = ⟨#[45]⟩ ∧ Str.ofString "." = ⟨#[46]⟩ ∧ Str.ofString "/" = ⟨#[47]⟩ := by decide +kernel
end K21
set_option Elab.async false
set_option linter.all false
set_option maxRecDepth 100000
set_option maxHeartbeats 4000000
/-! k21: a day read -/
namespace K21
open PySem PySem.Spec PyProof.Rows L2 Bs Xg TL Xk K02
def ky (c : String) : Key := Sum.inr (Str.ofString c)
theorem merge3 {k1 k2 k3 : Key} {a b c : V} (n12 : k1 ≠ k2) (n13 : k1 ≠ k3) (n23 : k2 ≠ k3) : mergeK [] [(k1, a), (k2, b), (k3, c)] = [(k1, a), (k2, b), (k3, c)] := by
  simp [mergeK, putK, n12, n13, n23]
theorem ord_vals {o : Str} (h : IsOrd o) (a b c : Str) : ∃ kvs, mergeK [] ((o.cps.toList.map fun c => (Sum.inr (⟨#[c]⟩ : Str) : Key)).zip ([a, b, c].map V.str)) = kvs ∧
    valV kvs (ky "y") = some (.str (ord3 o [a, b, c]).1) ∧ valV kvs (ky "m") = some (.str (ord3 o [a, b, c]).2.1) ∧ valV kvs (ky "d") = some (.str (ord3 o [a, b, c]).2.2) := by
  have nym : ky "y" ≠ ky "m" := by decide +kernel
  have nyd : ky "y" ≠ ky "d" := by decide +kernel
  have nmd : ky "m" ≠ ky "d" := by decide +kernel
  have n1 : Str.ofString "dmy" ≠ Str.ofString "ymd" := by decide +kernel
  have n2 : Str.ofString "mdy" ≠ Str.ofString "ymd" := by decide +kernel
  have n3 : Str.ofString "mdy" ≠ Str.ofString "dmy" := by decide +kernel
  rcases h with rfl | rfl | rfl
  · have e : ((Str.ofString "ymd").cps.toList.map fun c => (Sum.inr (⟨#[c]⟩ : Str) : Key)) = [ky "y", ky "m", ky "d"] := by decide +kernel
    rw [e]
    refine ⟨_, merge3 nym nyd nmd, ?_, ?_, ?_⟩ <;> simp [valV, ord3, nym, nyd, nmd]
  · have e : ((Str.ofString "dmy").cps.toList.map fun c => (Sum.inr (⟨#[c]⟩ : Str) : Key)) = [ky "d", ky "m", ky "y"] := by decide +kernel
    rw [e]
    refine ⟨_, merge3 nmd.symm nyd.symm nym.symm, ?_, ?_, ?_⟩ <;> simp [valV, ord3, nym, nyd, nmd, nym.symm, nyd.symm, nmd.symm, n1]
  · have e : ((Str.ofString "mdy").cps.toList.map fun c => (Sum.inr (⟨#[c]⟩ : Str) : Key)) = [ky "m", ky "d", ky "y"] := by decide +kernel
    rw [e]
    refine ⟨_, merge3 nmd nym.symm nyd.symm, ?_, ?_, ?_⟩ <;> simp [valV, ord3, nym, nyd, nmd, nym.symm, nyd.symm, nmd.symm, n2, n3]
theorem ord_len {o : Str} (h : IsOrd o) : o.length = 3 := by
  rcases h with rfl | rfl | rfl <;> decide +kernel
theorem btw_at {i : Nat} {x : V} (h : (btw.map V.str)[i]? = some x) : ∃ s, s < 256 ∧ x = .str ⟨#[s]⟩ ∧ btw.drop i = (⟨#[s]⟩ : Str) :: btw.drop (i + 1) := by
  have e : btw = [⟨#[45]⟩, ⟨#[46]⟩, ⟨#[47]⟩] := by unfold btw; rw [ofS1.1, ofS1.2.1, ofS1.2.2]
  rw [e] at h ⊢
  match i, h with
  | 0, h => exact ⟨45, by decide, by simpa using h.symm, rfl⟩
  | 1, h => exact ⟨46, by decide, by simpa using h.symm, rfl⟩
  | 2, h => exact ⟨47, by decide, by simpa using h.symm, rfl⟩
  | n + 3, h => simp at h
theorem parts_le {z : Str} {s : Nat} (hs : s < 256) : ∀ p ∈ Txt.split z ⟨#[s]⟩, p.length ≤ z.length := by
  intro p hp
  rw [split_cut z hs] at hp
  obtain ⟨l, hl, rfl⟩ := List.mem_map.mp hp
  rw [S_len, len_tl]
  exact (cutAt_mem s _ l hl).1
section
variable {P : Program} {w : World} {K : PySem.W.Frag} {mg : Str → Option Value} {base : Heap}
variable {cM fLp fDi fAh fNu : Addr} {dLp dDi dAh dNu : FuncData} {cB fIF fRA fRD fDo fRs : Addr} {dIF dRA dRD dDo dRs : FuncData}
theorem scRD : FnScope ["text", "order", "sign", "parts"] ["text", "order"] (defScope sRD) := ⟨rfl, rfl, rfl, by decide +kernel, rfl, by decide +kernel, by decide +kernel⟩
def spRD : Sp := fun vs H Q _ => ∃ (z o : Str), vs = [.str z, .str o] ∧ z.length ≤ 400 ∧ IsOrd o ∧ ∀ H', Same H H' → Q (ov (dayS o z btw)) H'
theorem ok_readday (C : Cal K mg cM fLp fDi fAh fNu dLp dDi dAh dNu) (F : Frm K mg cB fIF fRA fRD fDo fRs dIF dRA dRD dDo dRs) (T : Free mg) : FnOk P w K mg base CX0 5 fRD dRD ["text", "order"] spRD := by
  have GDo : FnOk P w K mg base CX0 4 fDo dDo ["parts"] spDo := ok_dayof C F T
  have FDo := F.Do
  have bDo := F.bDo
  have gDo := F.gDo
  have gB := F.gB
  refine F.RD.ok scRD (fun vs H Q E h => ?_) (fun cdv A outer s H vs Q E hr h => ?_)
  · obtain ⟨z, o, rfl, _⟩ := h
    rfl
  · obtain ⟨z, o, rfl, zl, io, q⟩ := h
    refine ⟨_, pss_cons (ps_for PassesOwn.never rfl (pi_tup (pe_glob (v := V.ref cB) rfl gB rfl)) (pg_name (i := 2) scRD.nd rfl (Or.inl rfl)) (pss_cons (ps_set (i := 3) scRD.nd rfl (Or.inl rfl) (pe_split (pv 0) (pv 2)))
      (pss_one (ps_if (pt_cmpR op_eq (pe_callB call_len_seq (by rfl) T.len PySem.boot_len (pa_cons (pv 3) pa_nil)) (pe_callB call_len_str (by rfl) T.len PySem.boot_len (pa_cons (pv 1) pa_nil)) (nomark _)) (pss_one (ps_ret (pe_call GDo (hr.mono (by decide)) (by rfl) gDo FDo.kp bDo .nil pass0 (pa_cons (pe_dictZip rfl rfl T.dict rfl T.zip (pa_cons (pv 1) (pa_cons (pv 3) pa_nil))) pa_nil)))) (pss_nil)))))
      (pss_one (ps_ret pe_non)), ?_⟩
    refine ⟨cB, rfl, ⟨_, F.sB _⟩, for_tup (xs := btw.map V.str) (fun j σ G => Same H G ∧ (∃ u3 u4, σ = [some (.str z), some (.str o), u3, u4]) ∧ dayS o z (btw.drop j) = dayS o z btw) ⟨Same.refl _, ⟨none, none, rfl⟩, rfl⟩ (fun j σ G _ pv => F.sB _) ?_ ?_⟩
    · rintro j x σ G hx ⟨sG, ⟨u3, u4, rfl⟩, hd⟩
      obtain ⟨s1, s1l, rfl, e1⟩ := btw_at hx
      refine gN ?_
      try dsimp only
      refine ⟨_, rfl, ⟨_, rfl⟩, _, rfl, z, ⟨#[s1]⟩, rfl, rfl, rfl, Nat.le_trans (Nat.add_le_add_right zl 2) (by decide), fun t ht => ?_⟩
      have lo := ord_len io
      refine ⟨_, rfl, t, _, rfl, .inl (SqL.of upd_same), _, rfl, o, rfl, by rw [lo]; decide, ?_⟩
      refine ⟨rfl, _, rfl, ?_⟩
      have e3 : decide (V.int (((Txt.split z ⟨#[s1]⟩).map V.str).length : Nat) = V.int (o.length : Nat)) = decide ((Txt.split z ⟨#[s1]⟩).length = 3) := decide_eq_decide.mpr ⟨fun h => by have := V.int.inj h; rw [List.length_map, lo] at this; omega, fun h => congrArg V.int (by rw [List.length_map, lo]; omega)⟩
      rw [e3]
      have sT : Same H (upd G t (.lst ((Txt.split z ⟨#[s1]⟩).map V.str))) := sG.trans (Same.new ht)
      by_cases l3 : (Txt.split z ⟨#[s1]⟩).length = 3
      · rw [decide_eq_true l3]
        refine iteT ?_
        have hd' : dayQ o (Txt.split z ⟨#[s1]⟩) = dayS o z btw := by
          rw [← hd, e1]
          exact (if_pos l3).symm
        have pl := parts_le (z := z) s1l
        generalize Txt.split z ⟨#[s1]⟩ = parts at *
        obtain ⟨a, b, c, rfl⟩ : ∃ a b c, parts = [a, b, c] := by
          match parts, l3 with
          | [a, b, c], _ => exact ⟨a, b, c, rfl⟩
        obtain ⟨kvs, ek, vy, vm, vd⟩ := ord_vals io a b c
        have la : a.length ≤ 500 := Nat.le_trans (pl a (by simp)) (by omega)
        have lb : b.length ≤ 500 := Nat.le_trans (pl b (by simp)) (by omega)
        have lc : c.length ≤ 500 := Nat.le_trans (pl c (by simp)) (by omega)
        refine ⟨_, rfl, _, rfl, .str o, t, _, _, rfl, .inr ⟨o, rfl, ?_, rfl⟩, SqL.of upd_same, fun p np => ?_⟩
        · have : o.cps.size = 3 := lo
          rw [this]
          decide
        · rw [ek]
          have l1 : (ord3 o [a, b, c]).1.length ≤ 500 ∧ (ord3 o [a, b, c]).2.1.length ≤ 500 ∧ (ord3 o [a, b, c]).2.2.length ≤ 500 := by
            unfold ord3
            split
            · exact ⟨la, lb, lc⟩
            · split
              · exact ⟨lc, lb, la⟩
              · exact ⟨lc, la, lb⟩
          refine ⟨p, kvs, _, _, _, rfl, upd_same, vy, vm, vd, l1.1, l1.2.1, l1.2.2, fun G2 s2 => ?_⟩
          have z1 := q G2 ((sT.trans (Same.new np)).trans s2)
          rw [← hd'] at z1
          exact z1
      · rw [decide_eq_false l3]
        refine iteF ?_
        unfold tNext
        dsimp only
        refine ⟨sT, ⟨_, _, rfl⟩, ?_⟩
        rw [← hd, e1]
        exact (if_neg l3).symm
    · rintro σ G ⟨sG, _, hd⟩
      have z1 := q G sG
      rw [← hd] at z1
      exact z1
end
end K21
set_option Elab.async false
set_option linter.all false
set_option maxRecDepth 100000
set_option maxHeartbeats 4000000
/-! k21: read as a form tells -/
namespace K21
open PySem PySem.Spec PyProof.Rows L2 Bs Xg TL Xk K02
inductive Fm where
  | whole | amount (m : Nat) | day (o : Str)
def Fm.vals : Fm → List V
  | .whole => [.str "whole"]
  | .amount m => [.str "amount", .int (m : Int)]
  | .day o => [.str "day", .str o]
def Fm.ok : Fm → Prop
  | .whole => True
  | .amount m => 1 ≤ m ∧ m ≤ 4
  | .day o => IsOrd o
def readP (f : Fm) (z : Str) : Option Int :=
  match f with
  | .whole => due 0 (tl z)
  | .amount m => due m (tl z)
  | .day o => dayS o z btw
section
variable {P : Program} {w : World} {K : PySem.W.Frag} {mg : Str → Option Value} {base : Heap}
variable {cM fLp fDi fAh fNu : Addr} {dLp dDi dAh dNu : FuncData} {cB fIF fRA fRD fDo fRs : Addr} {dIF dRA dRD dDo dRs : FuncData}
theorem scRs : FnScope ["form", "text"] ["form", "text"] (defScope sRs) := ⟨rfl, rfl, rfl, by decide +kernel, rfl, by decide +kernel, by decide +kernel⟩
def spRs (K : PySem.W.Frag) : Sp := fun vs H Q _ => ∃ (p : Addr) (f : Fm) (z : Str), vs = [.ref p, .str z] ∧ SqT K H p f.vals ∧ f.ok ∧ z.length ≤ 400 ∧ ∀ H', Same H H' → Q (ov (readP f z)) H'
theorem ok_readas (C : Cal K mg cM fLp fDi fAh fNu dLp dDi dAh dNu) (F : Frm K mg cB fIF fRA fRD fDo fRs dIF dRA dRD dDo dRs) (T : Free mg) : FnOk P w K mg base CX0 6 fRs dRs ["form", "text"] (spRs K) := by
  have GRD : FnOk P w K mg base CX0 5 fRD dRD ["text", "order"] spRD := ok_readday C F T
  have FRD := F.RD
  have bRD := F.bRD
  have gRD := F.gRD
  have GRA : FnOk P w K mg base CX0 2 fRA dRA ["text", "most", "places"] spReadAm := ok_readam F.RA T F.IF F.bIF F.gIF
  have FRA := F.RA
  have bRA := F.bRA
  have gRA := F.gRA
  obtain ⟨t9, g9⟩ := F.g9
  obtain ⟨t8, g8⟩ := F.g8
  refine F.Rs.ok scRs (fun vs H Q E h => ?_) (fun cdv A outer s H vs Q E hr h => ?_)
  · obtain ⟨p, f, z, rfl, _⟩ := h
    rfl
  · obtain ⟨p, f, z, rfl, hp, fo, zl, q⟩ := h
    refine ⟨_, pss_cons (ps_if (pt_cmpR op_eq (pe_ix ix_tup (pv 0) pe_int (fun _ _ => rfl)) pe_str (nomark _)) (pss_one (ps_ret (pe_call GRA (hr.mono (by decide)) (by rfl) gRA FRA.kp bRA .nil pass0 (pa_cons (pv 1) (pa_cons (pe_glob (v := V.int 9) rfl g9 ⟨_, rfl⟩) (pa_cons pe_int pa_nil)))))) (pss_nil))
      (pss_cons (ps_if (pt_cmpR op_eq (pe_ix ix_tup (pv 0) pe_int (fun _ _ => rfl)) pe_str (nomark _)) (pss_one (ps_ret (pe_call GRA (hr.mono (by decide)) (by rfl) gRA FRA.kp bRA .nil pass0 (pa_cons (pv 1) (pa_cons (pe_glob (v := V.int 8) rfl g8 ⟨_, rfl⟩) (pa_cons (pe_ix ix_tup (pv 0) pe_int (fun _ _ => rfl)) pa_nil)))))) (pss_nil))
      (pss_one (ps_ret (pe_call GRD (hr.mono (by decide)) (by rfl) gRD FRD.kp bRD .nil pass0 (pa_cons (pv 1) (pa_cons (pe_ix ix_tup (pv 0) pe_int (fun _ _ => rfl)) pa_nil)))))), ?_⟩
    have d1 : V.str "amount" ≠ V.str "whole" := by decide +kernel
    have d2 : V.str "day" ≠ V.str "whole" := by decide +kernel
    have d3 : V.str "day" ≠ V.str "amount" := by decide +kernel
    cases f with
    | whole =>
      refine ⟨_, rfl, p, _, _, _, rfl, rfl, hp, rfl, ?_⟩
      refine ⟨rfl, _, rfl, ?_⟩
      rw [decide_eq_true rfl]
      exact iteT ⟨_, rfl, z, 0, rfl, by omega, by omega, q⟩
    | amount m =>
      obtain ⟨m1, m4⟩ := fo
      refine ⟨_, rfl, p, _, _, _, rfl, rfl, hp, rfl, ?_⟩
      refine ⟨rfl, _, rfl, ?_⟩
      rw [decide_eq_false d1]
      refine iteF ?_
      unfold tNext
      dsimp only
      refine ⟨_, rfl, p, _, _, _, rfl, rfl, hp, rfl, ?_⟩
      refine ⟨rfl, _, rfl, ?_⟩
      rw [decide_eq_true rfl]
      have cm : cap m = 8 := if_neg (by omega)
      refine iteT ⟨_, rfl, _, rfl, p, _, _, _, rfl, rfl, hp, rfl, z, m, ?_, by omega, m4, q⟩
      rw [cm]
      rfl
    | day o =>
      refine ⟨_, rfl, p, _, _, _, rfl, rfl, hp, rfl, ?_⟩
      refine ⟨rfl, _, rfl, ?_⟩
      rw [decide_eq_false d2]
      refine iteF ?_
      unfold tNext
      dsimp only
      refine ⟨_, rfl, p, _, _, _, rfl, rfl, hp, rfl, ?_⟩
      refine ⟨rfl, _, rfl, ?_⟩
      rw [decide_eq_false d3]
      refine iteF ?_
      try dsimp only
      exact ⟨_, rfl, _, rfl, p, _, _, _, rfl, rfl, hp, rfl, z, o, rfl, zl, fo, q⟩
end
end K21
set_option Elab.async false
set_option linter.all false
set_option pp.maxSteps 4000
set_option maxRecDepth 100000
set_option maxHeartbeats 4000000
/-! k03: the day of a number -/
namespace K03
open PySem PySem.Spec PyProof.Rows L2 Bs TL K02 K21
section
variable {X : Cx}
theorem ix_tupK {K : PySem.W.Frag} (hK : X.K = K) : IxR X (rIxT K) := hK ▸ ix_tup
theorem ix_listK {K : PySem.W.Frag} (hK : X.K = K) : IxR X (rIxL K) := hK ▸ ix_list
theorem call_len_seqK {K : PySem.W.Frag} (hK : X.K = K) : CallR X (.builtin "len") (fun xs H Q => ∃ p ys, xs = [.ref p] ∧ (SqL K H p ys ∨ SqT K H p ys) ∧ Q (.int ys.length) H) := hK ▸ call_len_seq
theorem op_mulS : OpR X (binaryOp .Mult) (fun x y H Q => ∃ (a : Str) (i : Int), x = .str a ∧ y = .int i ∧ MulOk a i ∧ Q (.str (Txt.mul a i)) H) := by
  intro pins s σ H x y v u Q I rx ry h
  obtain ⟨a, i, rfl, rfl, ok, q⟩ := h
  obtain ⟨t, rfl⟩ := rx
  obtain ⟨t', rfl⟩ := ry
  apply SB.mul ok
  intro t2 k
  exact ⟨.str _, H, I.tok k, ⟨t2, rfl⟩, q⟩
end
abbrev sDt : Stmt := K21.top 8
theorem ahead_nat (y : Nat) (h : 1 ≤ y) : aheadI y = ((y : Int) - 1) * 365 + ((y : Int) - 1) / 4 - ((y : Int) - 1) / 100 + ((y : Int) - 1) / 400 := by
  unfold aheadI
  omega
theorem leap_iff (y : Nat) : leapB y = true ↔ y % 4 = 0 ∧ (y % 100 ≠ 0 ∨ y % 400 = 0) := by
  unfold leapB
  simp
theorem ahead_succ (y : Nat) (h : 1 ≤ y) : aheadI (y + 1) = aheadI y + 365 + if leapB y = true then 1 else 0 := by
  rw [ahead_nat (y + 1) (by omega), ahead_nat y h]
  split
  · rename_i c
    rw [leap_iff] at c
    omega
  · rename_i c
    rw [leap_iff] at c
    omega
theorem ahead_mono {a b : Nat} (h : 1 ≤ a) (l : a ≤ b) : aheadI a ≤ aheadI b := by
  rw [ahead_nat a h, ahead_nat b (by omega)]
  omega
theorem sum_succ (y m : Nat) (h : 1 ≤ m) : sumI y (m + 1) = sumI y m + dinI y m := by
  unfold sumI
  obtain ⟨k, rfl⟩ : ∃ k, m = k + 1 := ⟨m - 1, by omega⟩
  rw [show k + 1 + 1 - 1 = k + 1 by omega, show k + 1 - 1 = k by omega, List.range_succ, List.map_append, List.sum_append]
  simp [Nat.add_comm]
theorem din_low (y m : Nat) (h1 : 1 ≤ m) (h2 : m ≤ 12) : 28 ≤ dinI y m ∧ dinI y m ≤ 31 := by
  have key : ∀ b : Bool, ∀ m : Nat, m ≤ 12 → 1 ≤ m → 28 ≤ monL.getD (m - 1) 0 + (if m = 2 ∧ b = true then 1 else 0) ∧ monL.getD (m - 1) 0 + (if m = 2 ∧ b = true then 1 else 0) ≤ 31 := by decide +kernel
  exact key (leapB y) m h2 h1
theorem sum_all (y : Nat) : sumI y 13 = 365 + if leapB y = true then 1 else 0 := by
  unfold sumI dinI
  cases leapB y <;> decide +kernel
theorem sum_mono (y : Nat) : ∀ (k a : Nat), 1 ≤ a → a + k ≤ 13 → sumI y a ≤ sumI y (a + k)
  | 0, _, _, _ => Int.le_refl _
  | k + 1, a, h, l => by
    have i := sum_mono y k a h (by omega)
    have e := sum_succ y (a + k) (by omega)
    have d := din_low y (a + k) (by omega) (by omega)
    rw [show a + (k + 1) = a + k + 1 by omega, e]
    omega
/-- a day that is there -/
def IsDay (y m d : Nat) : Prop := 1 ≤ y ∧ y ≤ 9999 ∧ 1 ≤ m ∧ m ≤ 12 ∧ 1 ≤ d ∧ (d : Int) ≤ dinI y m
def dayN (y m d : Nat) : Int := aheadI y + sumI y m + d - 1
theorem day_in_year {y m d : Nat} (h : IsDay y m d) : aheadI y ≤ dayN y m d ∧ dayN y m d < aheadI (y + 1) := by
  obtain ⟨y1, y2, m1, m2, d1, d2⟩ := h
  have z := sum_mono y (m - 1) 1 (by omega) (by omega)
  have z0 : sumI y 1 = 0 := rfl
  rw [show 1 + (m - 1) = m by omega] at z
  have s1 := sum_succ y m m1
  have u := sum_mono y (12 - m) (m + 1) (by omega) (by omega)
  rw [show m + 1 + (12 - m) = 13 by omega, sum_all] at u
  rw [ahead_succ y y1]
  unfold dayN
  omega
theorem day_le {y m d : Nat} (h : IsDay y m d) : 0 ≤ dayN y m d ∧ dayN y m d < 3652059 := by
  have e := day_in_year h
  obtain ⟨y1, y2, _⟩ := h
  have a := ahead_mono (a := 1) (b := y) (by omega) y1
  have b := ahead_mono (a := y + 1) (b := 10000) (by omega) (by omega)
  have c : aheadI 1 = 0 := by decide +kernel
  have c2 : aheadI 10000 = 3652059 := by decide +kernel
  omega
theorem num_day {y m d : Nat} (h : IsDay y m d) : numI y m d = some (dayN y m d) := by
  obtain ⟨y1, y2, m1, m2, d1, d2⟩ := h
  unfold numI
  rw [if_pos ⟨y1, m1, m2, d1, d2⟩]
  rfl
section
variable {P : Program} {w : World} {K : PySem.W.Frag} {mg : Str → Option Value} {base : Heap}
variable {cM fLp fDi fAh fNu : Addr} {dLp dDi dAh dNu : FuncData}
abbrev nDt : List Str := ["number", "year", "left", "month"]
theorem scDt : FnScope nDt ["number"] (defScope sDt) := ⟨rfl, rfl, rfl, by decide +kernel, rfl, by decide +kernel, by decide +kernel⟩
def spDt : Sp := fun vs H Q _ => ∃ y m d : Nat, vs = [.int (dayN y m d)] ∧ IsDay y m d ∧ ∀ (t : Addr) (H' : Hp), Same H H' → H' t = some (.tup [.int (y : Int), .int (m : Int), .int (d : Int)]) → Q (.ref t) H'
theorem ok_date {f : Addr} {fd : FuncData} (F : Fun K "date_of" "date_of" sDt f fd) (C : Cal K mg cM fLp fDi fAh fNu dLp dDi dAh dNu) (gL : ∃ t, mg "LONGEST_YEAR" = some (.int 366 t)) : FnOk P w K mg base CX0 3 f fd ["number"] spDt := by
  have GDi : FnOk P w K mg base CX0 2 fDi dDi ["year", "month"] spDin := ok_din C
  have GAh : FnOk P w K mg base CX0 1 fAh dAh ["year"] spAhead := ok_ahead C.Ah
  have FDi := C.Di
  have bDi := C.bDi
  have gDi := C.gDi
  have FAh := C.Ah
  have bAh := C.bAh
  have gAh := C.gAh
  obtain ⟨tL, gL⟩ := gL
  refine F.ok scDt (fun vs H Q E h => ?_) (fun cdv A outer s H vs Q E hr h => ?_)
  · obtain ⟨y, m, d, rfl, _⟩ := h
    rfl
  · obtain ⟨y, m, d, rfl, hD, q⟩ := h
    refine ⟨_, pss_cons (ps_set (i := 1) scDt.nd rfl (Or.inl rfl) (pe_op op_add (pe_op op_fdiv (pv 0) (pe_glob (v := V.int 366) rfl gL ⟨_, rfl⟩)) pe_int))
      (pss_cons (ps_while PassesOwn.never (pt_cmpR op_le (pe_call GAh (hr.mono (by decide)) (by rfl) gAh FAh.kp bAh .nil pass0 (pa_cons (pe_op op_add (pv 1) pe_int) pa_nil)) (pv 0) (nomark _)) (pss_one (ps_aug (i := 1) scDt.nd rfl (Or.inl rfl) pe_int ip_add)))
      (pss_cons (ps_set (i := 2) scDt.nd rfl (Or.inl rfl) (pe_op op_sub (pv 0) (pe_call GAh (hr.mono (by decide)) (by rfl) gAh FAh.kp bAh .nil pass0 (pa_cons (pv 1) pa_nil))))
      (pss_cons (ps_set (i := 3) scDt.nd rfl (Or.inl rfl) pe_int)
      (pss_cons (ps_while PassesOwn.never (pt_cmpR op_ge (pv 2) (pe_call GDi (hr.mono (by decide)) (by rfl) gDi FDi.kp bDi .nil pass0 (pa_cons (pv 1) (pa_cons (pv 3) pa_nil))) (nomark _)) (pss_cons (ps_aug (i := 2) scDt.nd rfl (Or.inl rfl) (pe_call GDi (hr.mono (by decide)) (by rfl) gDi FDi.kp bDi .nil pass0 (pa_cons (pv 1) (pa_cons (pv 3) pa_nil))) ip_sub)
      (pss_one (ps_aug (i := 3) scDt.nd rfl (Or.inl rfl) pe_int ip_add))))
      (pss_one (ps_ret (pe_tup (pa_cons (pv 1) (pa_cons (pv 3) (pa_cons (pe_op op_add (pv 2) pe_int) pa_nil)))))))))), ?_⟩
    have iy := day_in_year hD
    have il := day_le hD
    obtain ⟨y1, y2, m1, m2, d1, d2⟩ := id hD
    have up : aheadI (y + 1) ≤ 366 * (y : Int) := by
      rw [ahead_nat (y + 1) (by omega)]
      omega
    generalize hN : dayN y m d = N at *
    refine ⟨_, rfl, _, _, rfl, rfl, ⟨by decide, by decide⟩, _, _, rfl, rfl, gN ?_⟩
    try dsimp only
    refine while_by (fun σ G => G = H ∧ ∃ a : Nat, 1 ≤ a ∧ a ≤ y ∧ σ = [some (.int N), some (.int (a : Int)), none, none]) (fun σ _ => match σ with | [_, some (.int a), _, _] => (y - a.toNat : Nat) | _ => 0) ⟨rfl, (N / 366 + 1).toNat, by omega, by omega, ?_⟩ ?_ ?_
    · rw [Int.toNat_of_nonneg (by omega)]
      rfl
    · rintro σ G ⟨rfl, a, a1, a2, rfl⟩
      refine ⟨_, rfl, _, _, rfl, rfl, a + 1, by rw [Int.natCast_add]; rfl, by omega, by omega, _, rfl, _, _, rfl, rfl, _, rfl, ?_⟩
      by_cases c : a + 1 ≤ y
      · have e := ahead_mono (a := a + 1) (b := y) (by omega) c
        rw [decide_eq_true (by omega)]
        refine iteT ?_
        refine ⟨_, rfl, _, _, rfl, rfl, ?_⟩
        refine ⟨⟨rfl, a + 1, by omega, c, by rw [Int.natCast_add]; rfl⟩, ?_⟩
        show y - ((a : Int) + 1).toNat < y - ((a : Int)).toNat
        omega
      · have ea : a = y := by omega
        subst ea
        rw [decide_eq_false (by omega)]
        refine iteF ?_
        dsimp only
        refine ⟨_, rfl, _, rfl, a, rfl, by omega, by omega, _, _, rfl, rfl, ?_⟩
        dsimp only
        have eN : N - aheadI a = sumI a m + d - 1 := by
          rw [← hN]
          unfold dayN
          omega
        rw [eN]
        refine while_by (fun σ G' => G' = G ∧ ∃ k : Nat, 1 ≤ k ∧ k ≤ m ∧ σ = [some (.int N), some (.int (a : Int)), some (.int (sumI a m - sumI a k + d - 1)), some (.int (k : Int))]) (fun σ _ => match σ with | [_, _, _, some (.int k)] => (m - k.toNat : Nat) | _ => 0) ⟨rfl, 1, by omega, m1, ?_⟩ ?_ ?_
        · have z0 : sumI a 1 = 0 := rfl
          rw [z0, Int.sub_zero]
          rfl
        · rintro σ G' ⟨rfl, k, k1, k2, rfl⟩
          refine ⟨_, rfl, _, rfl, _, rfl, a, k, rfl, k1, by omega, _, _, rfl, rfl, _, rfl, ?_⟩
          have sk := sum_succ a k k1
          by_cases ck : k + 1 ≤ m
          · have z := sum_mono a (m - (k + 1)) (k + 1) (by omega) (by omega)
            rw [show k + 1 + (m - (k + 1)) = m by omega] at z
            rw [decide_eq_true (by omega)]
            refine iteT ?_
            refine ⟨_, rfl, _, rfl, _, rfl, a, k, rfl, k1, by omega, _, _, rfl, rfl, ?_⟩
            refine ⟨_, rfl, _, _, rfl, rfl, ?_⟩
            refine ⟨⟨rfl, k + 1, by omega, ck, ?_⟩, ?_⟩
            · dsimp only [List.set]
              rw [show sumI a m - sumI a k + (d : Int) - 1 - dinI a k = sumI a m - sumI a (k + 1) + d - 1 by omega, show ((k : Int) + 1) = ((k + 1 : Nat) : Int) by omega]
            · show m - ((k : Int) + 1).toNat < m - ((k : Int)).toNat
              omega
          · have ek : k = m := by omega
            subst ek
            rw [decide_eq_false (by omega)]
            refine iteF ?_
            dsimp only
            refine ⟨_, rfl, _, rfl, _, rfl, _, _, rfl, rfl, (show 3 ≤ sizeLine by decide), fun t nt => q t _ (Same.new nt) ?_⟩
            rw [upd_same]
            dsimp only
            rw [show sumI a k - sumI a k + (d : Int) - 1 + 1 = d by omega]
        · rintro σ G' Q1 Q2 hQ ⟨v, e1, v2, e2, v3, e3, y', k', e4, l1, l2, i2, j2, e6, e7, b, e8, q1⟩
          exact ⟨v, e1, v2, e2, v3, e3, y', k', e4, l1, l2, i2, j2, e6, e7, b, e8, hQ _ _ q1⟩
    · rintro σ G' Q1 Q2 hQ ⟨v, e1, i, j, e2, e3, y', e4, l1, l2, w', e5, i2, j2, e6, e7, b, e8, q1⟩
      exact ⟨v, e1, i, j, e2, e3, y', e4, l1, l2, w', e5, i2, j2, e6, e7, b, e8, hQ _ _ q1⟩
end
end K03
set_option Elab.async false
set_option linter.all false
set_option maxRecDepth 100000
set_option maxHeartbeats 4000000
/-! Xa: what a local name holds as it is, with its token, over rows that don't store it: for text.replace. -/
namespace Xa
open PySem PySem.Spec PyProof.Rows L2 Bs
/-- the frame's names stand as they stood -/
def Stay (a : Addr) (s s' : Shared) : Prop := ∀ m, s.heap.Ns a m → s'.heap.Ns a m
theorem Stay.refl {a : Addr} {s : Shared} : Stay a s s := fun _ h => h
theorem Stay.trans {a : Addr} {s s1 s2 : Shared} (h : Stay a s s1) (g : Stay a s1 s2) : Stay a s s2 := fun m e => g m (h m e)
theorem Stay.tok {a : Addr} {s : Shared} {k : Nat} : Stay a s { s with toks := k } := fun _ h => h
theorem Stay.keep {a : Addr} {s s' : Shared} (h : ∀ b o, s.heap.get? b = some o → s'.heap.get? b = some o) : Stay a s s' := fun _ e => e.keeps h
/-- a name as it is -/
def Raw (X : Cx) (x : Str) (u : Value) (s : Shared) : Prop := ∃ m, s.heap.Ns X.env.locals m ∧ m x = some u
theorem Raw.stay {X : Cx} {x : Str} {u : Value} {s s' : Shared} (h : Raw X x u s) (k : Stay X.env.locals s s') : Raw X x u s' := by
  obtain ⟨m, e, hm⟩ := h
  exact ⟨m, k m e, hm⟩
structure PEs (X : Cx) (e : Expr) (t : TE) : Prop where
  run : ∀ (pins : List (Addr × Obj)) (s : Shared) (σ : L2.St) (H : Hp) (Q : VK), Inv X pins σ H s → t σ H Q → wpAny (model X.prog X.w) X.A (eval e X.env) (fun u s' => Stay X.env.locals s s' ∧ EP X pins σ Q u s') X.xe s
structure PAs (X : Cx) (es : List Expr) (t : TA) : Prop where
  run : ∀ (pos : Pos) (pins : List (Addr × Obj)) (s : Shared) (σ : L2.St) (H : Hp) (Q : List V → Hp → Prop), Inv X pins σ H s → t σ H Q →
    wpAny (model X.prog X.w) X.A (spliced (backTo pos (starEach es X.env))) (fun us s' => Stay X.env.locals s s' ∧ AP X pins σ Q us s') X.xe s
structure PTs (X : Cx) (e : Expr) (t : TT) : Prop where
  run : ∀ (pins : List (Addr × Obj)) (s : Shared) (σ : L2.St) (H : Hp) (Q : Bool → Hp → Prop), Inv X pins σ H s → t σ H Q → wpAny (model X.prog X.w) X.A (isTrue e X.env (eval e X.env)) (fun b s' => Stay X.env.locals s s' ∧ TP X pins σ Q b s') X.xe s
def Ops (X : Cx) (f : Value → Value → Sem Value) (r : R2) : Prop :=
  ∀ (pins : List (Addr × Obj)) (s : Shared) (σ : L2.St) (H : Hp) (x y : V) (v u : Value) (Q : VK), Inv X pins σ H s → RelV x v → RelV y u → r x y H Q →
    wpAny (model X.prog X.w) X.A (f v u) (fun z s' => Stay X.env.locals s s' ∧ EP X pins σ Q z s') X.xe s
def Calls1 (X : Cx) (f : Value) (r : List V → Hp → VK → Prop) : Prop :=
  ∀ (pins : List (Addr × Obj)) (s : Shared) (σ : L2.St) (H : Hp) (xs : List V) (us : List Value) (Q : VK), Inv X pins σ H s → Vals xs us → r xs H Q →
    wpAny (model X.prog X.w) X.A (call f us) (fun z s' => Stay X.env.locals s s' ∧ EP X pins σ Q z s') X.xe s
section
variable {X : Cx} {pins : List (Addr × Obj)} {σ : L2.St} {H : Hp} {s : Shared}
theorem es_var {i : Nat} {x : Str} {pos : Pos} (hN : X.N[i]? = some x) (hv : Vis X.env.scope x) (hd : (x == ("__debug__" : Str)) = false := by decide) (hcd : (x == ("__classdict__" : Str)) = false := by decide) : PEs X (.Name x pos) (tVar i) := by
  refine ⟨fun pins s σ H Q I h => ?_⟩
  obtain ⟨v, e, h⟩ := h
  exact raw_name hN hv I e (fun u r => ⟨Stay.refl, v, H, I, r, h⟩) hd hcd
theorem es_int {i : Int} {j : Nat} {pos : Pos} : PEs X (.Constant (.int i) j pos) (tC (.int i)) := ⟨fun _ _ _ H _ I h => wpAny_Constant_int ⟨Stay.tok, .int i, H, I.tok _, ⟨_, rfl⟩, h⟩⟩
theorem es_str {x : Str} {j : Nat} {pos : Pos} : PEs X (.Constant (.str x) j pos) (tC (.str x)) := ⟨fun _ _ _ H _ I h => Calls.Constant_str ⟨Stay.tok, .str x, H, I.tok _, ⟨_, rfl⟩, h⟩⟩
theorem es_op {a b : Expr} {ta tb : TE} {op : Operator} {pos : Pos} {r : R2} (ho : Ops X (binaryOp op) r) (ha : PEs X a ta) (hb : PEs X b tb) : PEs X (.BinOp a op b pos) (tOp r ta tb) := by
  refine ⟨fun pins s σ H Q I h => ?_⟩
  refine wpAny_BinOp (thn (ha.run pins s σ H _ I h) fun v s1 ⟨k1, x, H1, I1, r1, q1⟩ => thn (hb.run pins s1 σ H1 _ I1 q1) fun u s2 ⟨k2, y, H2, I2, r2, q2⟩ => ?_)
  exact thn (ho pins s2 σ H2 x y v u Q I2 r1 r2 q2) fun z s3 ⟨k3, q3⟩ => ⟨(k1.trans k2).trans k3, q3⟩
theorem ops_add_str : Ops X (binaryOp .Add) (fun x y H Q => ∃ i j, x = .str i ∧ y = .str j ∧ i.length + j.length ≤ sizeLine ∧ Q (.str (i ++ j)) H) := by
  intro pins s σ H x y v u Q I rx ry h
  obtain ⟨i, j, rfl, rfl, hz, q⟩ := h
  obtain ⟨t, rfl⟩ := rx
  obtain ⟨t', rfl⟩ := ry
  exact add_str (fun t' tk => ⟨Stay.tok, .str (i ++ j), H, I.tok _, ⟨_, rfl⟩, q⟩) hz
theorem ops_sub : Ops X (binaryOp .Sub) (rI0 fun i j => .int (i - j)) := by
  intro pins s σ H x y v u Q I rx ry h
  obtain ⟨i, j, rfl, rfl, q⟩ := h
  obtain ⟨t, rfl⟩ := rx
  obtain ⟨t', rfl⟩ := ry
  exact sub_int ⟨Stay.tok, .int (i - j), H, I.tok _, ⟨_, rfl⟩, q⟩
theorem ops_mulS : Ops X (binaryOp .Mult) (fun x y H Q => ∃ (a : Str) (i : Int), x = .str a ∧ y = .int i ∧ MulOk a i ∧ Q (.str (Txt.mul a i)) H) := by
  intro pins s σ H x y v u Q I rx ry h
  obtain ⟨a, i, rfl, rfl, ok, q⟩ := h
  obtain ⟨t, rfl⟩ := rx
  obtain ⟨t', rfl⟩ := ry
  apply SB.mul ok
  intro t2 k
  exact ⟨Stay.tok, .str _, H, I.tok k, ⟨t2, rfl⟩, q⟩
theorem as_nil : PAs X [] tNil := ⟨fun _ _ s _ H Q I h => Calls.spliced_nil ⟨Stay.refl, [], H, I, .nil, h⟩⟩
theorem as_cons {e : Expr} {es : List Expr} {te : TE} {ta : TA} (ha : PEs X e te) (hr : PAs X es ta) (hs : starEach (e :: es) X.env = (false, eval e X.env) :: starEach es X.env := by rfl) : PAs X (e :: es) (tCons te ta) := by
  refine ⟨fun pos pins s σ H Q I h => ?_⟩
  rw [hs]
  show wpAny _ _ (spliced ((false, eval e X.env) :: backTo pos (starEach es X.env))) _ _ s
  refine Calls.spliced_cons (thn (ha.run pins s σ H _ I h) fun v s1 ⟨k1, x, H1, I1, r1, q1⟩ => ?_)
  exact thn (hr.run pos pins s1 σ H1 _ I1 q1) fun us s2 ⟨k2, xs, H2, I2, r2, q2⟩ => ⟨k1.trans k2, x :: xs, H2, I2, .cons r1 r2, q2⟩
theorem calls_len_str : Calls1 X (.builtin "len") (fun xs H Q => ∃ z, xs = [.str z] ∧ z.length ≤ sizeLine ∧ Q (.int z.length) H) := by
  intro pins s σ H xs us Q I r h
  obtain ⟨z, rfl, hz, q⟩ := h
  obtain ⟨u, rfl, t, rfl⟩ := vals1 r
  have hn := line63
  exact len_str (by omega) ⟨Stay.tok, .int z.length, H, I.tok _, ⟨_, rfl⟩, q⟩
theorem calls_str_int : Calls1 X (.type "str") (fun xs H Q => ∃ i, xs = [.int i] ∧ i.natAbs.log2 < 1920 ∧ Q (.str (toString i)) H) := by
  intro pins s σ H xs us Q I r h
  obtain ⟨i, rfl, hz, q⟩ := h
  obtain ⟨u, rfl, t, rfl⟩ := vals1 r
  exact PySem.P.str_of_int hz ⟨Stay.tok, .str _, H, I.tok _, ⟨_, rfl⟩, q⟩
theorem es_callB {x : Str} {p pos : Pos} {e : Expr} {es : List Expr} {t : TA} {id : String} {r : List V → Hp → VK → Prop} (hc : Calls1 X (.builtin id) r) (hg : Gl X x) (hm : X.mg x = none) (hv : bootBuiltins x = some (.builtin id)) (ha : PAs X (e :: es) t) (hn : x ≠ "__name__" := by decide) (hdb : (x == ("__debug__" : Str)) = false := by decide)
    (he : starEach (e :: es) X.env = (false, eval e X.env) :: starEach es X.env := by rfl) (hpl : (backTo pos (starEach es X.env)).any (·.1) = false := by rfl) : PEs X (.Call (.Name x p) (e :: es) [] pos) (tCB r t) := by
  refine ⟨fun pins s σ H Q I h => ?_⟩
  refine wpAny_Call_Name_kw (ld_blt I hg hm hv ?_ hn hdb)
  exact PyProof.Rows.callWith_builtin1 (thn (ha.run pos pins s σ H _ I h) fun us s1 ⟨k1, vs, H1, I1, r1, q1⟩ => thn (hc pins s1 σ H1 vs us Q I1 r1 q1) fun z s2 ⟨k2, q2⟩ => ⟨k1.trans k2, q2⟩) he hpl
theorem es_callTy {x : Str} {p pos : Pos} {e : Expr} {es : List Expr} {t : TA} {T : String} {r : List V → Hp → VK → Prop} (hc : Calls1 X (.type T) r) (hg : Gl X x) (hm : X.mg x = none) (hv : bootBuiltins x = some (.type T)) (ha : PAs X (e :: es) t) (hn : x ≠ "__name__" := by decide) (hdb : (x == ("__debug__" : Str)) = false := by decide)
    (he : starEach (e :: es) X.env = (false, eval e X.env) :: starEach es X.env := by rfl) (hpl : (backTo pos (starEach es X.env)).any (·.1) = false := by rfl) : PEs X (.Call (.Name x p) (e :: es) [] pos) (tCB r t) := by
  refine ⟨fun pins s σ H Q I h => ?_⟩
  refine wpAny_Call_Name_kw (ld_blt I hg hm hv ?_ hn hdb)
  exact PyProof.Rows.callWith_type1 (thn (ha.run pos pins s σ H _ I h) fun us s1 ⟨k1, vs, H1, I1, r1, q1⟩ => thn (hc pins s1 σ H1 vs us Q I1 r1 q1) fun z s2 ⟨k2, q2⟩ => ⟨k1.trans k2, q2⟩) he hpl
/-- a call leaves the caller's names -/
theorem un_stay {fs : List Addr} {H H' : Hp} {h h' : Heap} {a : Addr} (u : Un fs [] H H' h h') (n : H a = none) {m : Str → Option Value} (e : h.Ns a m) : h'.Ns a m := by
  obtain ⟨o, es, ep, ho, hd, hk, hf⟩ := e
  obtain ⟨sl, e1⟩ := u.any ho n (by simp)
  exact ⟨_, es, ep, e1, hd, hk, hf⟩
variable {k : Nat} {f : Addr} {fd : FuncData} {ps : List Str} {sp : Sp} {CX : CXT} {ds : List Value} {dvs : List V} {E : XK}
theorem run_fns {Q : VK} {us : List Value} {vs : List V} (F : FnOk X.prog X.w X.K X.mg X.base CX k f fd ps sp) (hr : Room k X.A) (hb : Binds X.K fd ps ds) (hd : Vals dvs ds) (hx : Passes CX X E)
    (I : Inv X pins σ H s) (r : Vals vs us) (h : sp (vs ++ dvs) H Q E) : wpAny (model X.prog X.w) X.A (call (.ref f) us) (fun z s' => Stay X.env.locals s s' ∧ EP X pins σ Q z s') X.xe s := by
  have r2 : Vals (vs ++ dvs) (us ++ ds) := r.append hd
  have hl : (us ++ ds).length = ps.length := by rw [← r2.length]; exact F.len _ _ _ _ h
  refine wpAny_call (codeAny_mono (F.run X.A X.stack s H ⟨us, []⟩ (us ++ ds) (vs ++ dvs) Q E hr I.env0 (hb s us I.kIn hl) r2 h) fun r s' hq => ?_)
  cases r with
  | error e => exact hx pins σ H s e s' I hq
  | ok fl =>
    cases fl with
    | ret u =>
      refine ⟨fun m e => ?_, I.after hq⟩
      obtain ⟨v, H', os, bare, un, hok, r, q⟩ := hq
      exact un_stay un I.free e
    | next => exact False.elim hq
    | brk => exact False.elim hq
    | cont => exact False.elim hq
theorem es_call {x : Str} {p pos : Pos} {e : Expr} {es : List Expr} {t : TA} (F : FnOk X.prog X.w X.K X.mg X.base CX k f fd ps sp) (hr : Room k X.A) (hg : Gl X x) (hm : X.mg x = some (.ref f)) (hk : PySem.W.keepIn X.K (.ref f) = true) (hb : Binds X.K fd ps ds) (hd : Vals dvs ds) (hx : Passes CX X E)
    (ha : PAs X (e :: es) t) (hdb : (x == ("__debug__" : Str)) = false := by decide) (he : starEach (e :: es) X.env = (false, eval e X.env) :: starEach es X.env := by rfl) (hpl : (backTo pos (starEach es X.env)).any (·.1) = false := by rfl) :
    PEs X (.Call (.Name x p) (e :: es) [] pos) (tCall sp dvs E t) := by
  refine ⟨fun pins s σ H Q I h => ?_⟩
  refine wpAny_Call_Name_kw (ld_glob I hg hm ?_ hdb)
  refine PySem.W.callWith_K (h₀ := X.base) I.ok.mod.kin hk (thn (ha.run pos pins s σ H _ I h) fun us s1 ⟨k1, vs, H1, I1, r, q⟩ => ⟨I1.kIn, ?_⟩) he hpl
  exact thn (run_fns F hr hb hd hx I1 r q) fun z s2 ⟨k2, q2⟩ => ⟨k1.trans k2, q2⟩
/-! tests of ints -/
theorem ts_gt {a b : Expr} {ta tb : TE} {pos : Pos} (ha : PEs X a ta) (hb : PEs X b tb) (hm : behindInMarks .Gt b = false) : PTs X (.Compare a [.Gt] [b] pos) (tTest (tOp (rI0 fun i j => .bl (decide (j < i))) ta tb)) := by
  refine ⟨fun pins s σ H Q I h => ?_⟩
  refine wpAny_isTrue_Compare1 (thn (ha.run pins s σ H _ I h) fun v s1 ⟨k1, x, H1, I1, r1, q1⟩ => thn (hb.run pins s1 σ H1 _ I1 q1) fun u s2 ⟨k2, y, H2, I2, r2, q2⟩ => ?_) hm
  obtain ⟨i, j, rfl, rfl, b, e, q⟩ := q2
  obtain ⟨t, rfl⟩ := r1
  obtain ⟨t', rfl⟩ := r2
  cases e
  exact gt_int (wpAny_truthy_bool ⟨k1.trans k2, H2, I2, q⟩)
theorem ts_eqI {a b : Expr} {ta tb : TE} {pos : Pos} (ha : PEs X a ta) (hb : PEs X b tb) (hm : behindInMarks .Eq b = false) : PTs X (.Compare a [.Eq] [b] pos) (tTest (tOp (rI0 fun i j => .bl (decide (i = j))) ta tb)) := by
  refine ⟨fun pins s σ H Q I h => ?_⟩
  refine wpAny_isTrue_Compare1 (thn (ha.run pins s σ H _ I h) fun v s1 ⟨k1, x, H1, I1, r1, q1⟩ => thn (hb.run pins s1 σ H1 _ I1 q1) fun u s2 ⟨k2, y, H2, I2, r2, q2⟩ => ?_) hm
  obtain ⟨i, j, rfl, rfl, b, e, q⟩ := q2
  obtain ⟨t, rfl⟩ := r1
  obtain ⟨t', rfl⟩ := r2
  cases e
  refine eq_int ?_
  rw [Bool.beq_eq_decide_eq]
  exact wpAny_truthy_bool ⟨k1.trans k2, H2, I2, q⟩
end
end Xa
set_option Elab.async false
set_option linter.all false
set_option maxRecDepth 100000
set_option maxHeartbeats 4000000
/-! Xb: defs whose answer is a text with a token that is out; rows that store such a text; text.replace(a, b, n) of two such. -/
namespace Xb
open PySem PySem.Spec PyProof.Rows L2 Bs Xa
/-- a text's token is out -/
def Nz (u : Value) : Prop := ∀ (x : Str) (t : Tok), u = .str x t → t ≠ 0
structure FnNz (P : Program) (w : World) (K : PySem.W.Frag) (mg : Str → Option Value) (base : Heap) (k : Nat) (f : Addr) (fd : FuncData) (ps : List Str) (sp : Sp) : Prop where
  len : ∀ vs H Q E, sp vs H Q E → vs.length = ps.length
  run : ∀ (A : Around) (outer : List Env) (s : Shared) (H : Hp) (args : Args) (us : List Value) (vs : List V) (Q : VK) (E : XK), 1 ≤ s.toks → Room k A → Env0 P w K mg base A outer s H → BindsTo s fd args (ps.zip us) → Vals vs us → sp vs H Q E →
    codeAny (model P w) A (.call (.ref f) args) (fun r s' => CR CX0 outer P w H s Q E r s' ∧ ∀ u, r = .ok (.ret u) → Nz u) s
/-- rows that end with such a text -/
structure PRz (X : Cx) (st : List Stmt) (t : TE) : Prop where
  run : ∀ (s : Shared) (σ : L2.St) (H : Hp) (Q : VK), 1 ≤ s.toks → Inv X [] σ H s → t σ H Q → wpAny (model X.prog X.w) X.A (execs st X.env) (fun fl s' => ∃ u, fl = .ret u ∧ Nz u ∧ EP X [] σ Q u s') X.xe s
/-- an expression whose answer is such a text -/
structure PEn (X : Cx) (e : Expr) (t : TE) : Prop where
  run : ∀ (pins : List (Addr × Obj)) (s : Shared) (σ : L2.St) (H : Hp) (Q : VK), 1 ≤ s.toks → Inv X pins σ H s → t σ H Q → wpAny (model X.prog X.w) X.A (PySem.eval e X.env) (fun u s' => Nz u ∧ EP X pins σ Q u s') X.xe s
theorem prz_ret {X : Cx} {e : Expr} {t : TE} {pos : Pos} (h : PEn X e t) : PRz X [.Return (some e) pos] t := by
  refine ⟨fun s σ H Q ht I q => wpAny_execs_cons (wpAny_Return_some (thn (h.run [] s σ H Q ht I q) ?_))⟩
  rintro u s' ⟨n, z⟩
  exact ⟨u, rfl, n, z⟩
theorem pen_ixs {X : Cx} {a b : Expr} {ta tb : TE} {pos : Pos} (ha : PE X a ta) (hb : PE X b tb) (hs : PlainIx b) : PEn X (.Subscript a b pos) (tOp rIxS ta tb) := by
  refine ⟨fun pins s σ H Q ht I h => ?_⟩
  refine Subscript_ (wpAny_mono (wpAny_toks_of ht (ha.run pins s σ H _ I h)) ?_ (fun _ _ z => z.2))
  rintro v s1 ⟨t1, x, H1, I1, r1, q1⟩
  refine wpAny_mono (wpAny_toks_of t1 (hb.run pins s1 σ H1 _ I1 q1)) ?_ (fun _ _ z => z.2)
  rintro u s2 ⟨t2, y, H2, I2, r2, z, i, c, rfl, rfl, hz, he, q⟩
  obtain ⟨t, rfl⟩ := r1
  obtain ⟨t', rfl⟩ := r2
  obtain ⟨j, h1, h2, h3, h4, h5⟩ := atI_get he
  have hl : z.cps.toList.length = z.length := by simp [Str.length]
  rw [hl] at h1 h4 h5
  have hn := line63
  refine tail_any (typeIs_str s2 z t) slot_str_getitem.lookup (getItem_str (c := c) ?_ ?_ ⟨?_, .str ⟨#[c]⟩, H2, I2.tok _, ⟨_, rfl⟩, q⟩) (hs _ _)
  · rw [decide_eq_false (show ¬ i < -(2 ^ 63 : Int) by omega), decide_eq_false (show ¬ i ≥ 2 ^ 63 by omega)]
    rfl
  · rw [h1]
    simpa using h2
  · intro x tk e
    cases e
    exact Nat.pos_iff_ne_zero.mp t2
section
variable {P : Program} {w : World} {K : PySem.W.Frag} {mg : Str → Option Value} {base : Heap}
theorem fnz_of {x qual : Str} {st : Stmt} {f : Addr} {fd : FuncData} {N ps : List Str} {k : Nat} {sp : Sp} (F : Fun K x qual st f fd) (S : FnScope N ps (defScope st)) (len : ∀ vs H Q E, sp vs H Q E → vs.length = ps.length)
    (body : ∀ (cdv : Value) (A : Around) (outer : List Env) (s : Shared) (H : Hp) (vs : List V) (Q : VK) (E : XK), Room k (A.deeper (envOfC qual (defScope st) s.heap.objs.size f cdv)) → sp vs H Q E →
      ∃ t, PRz (cxOf CX0 P w K mg base N qual (defScope st) f cdv A outer s H E).nox (defBody st) t ∧ t (start N vs) H Q) : FnNz P w K mg base (k + 1) f fd ps sp := by
  obtain ⟨oc, od, kV, doc, pm, an, cdv, ct, osl, rfl, lk, hcd⟩ := F.ex
  refine ⟨len, fun A outer s H args us vs Q E ht hr e0 hb r hsp => ?_⟩
  have hl := len _ _ _ _ hsp
  have kin : K.In s.heap := e0.mod.kin.keeps fun b o e => (e0.bs b o e).1
  have nolim : s.heap.NoLimit := e0.mod.nolimit.keeps fun b o e => (e0.bs b o e).1
  have hk : ∀ y ∈ ps.zip us, (defScope st).names.lookup y.1 = some .local ∨ ((defScope st).names.lookup y.1 = some .cell ∧ ((cellsFrom (s.heap.objs.size + 1) (defScope st).names []).lookup y.1).isSome = true) := by
    rintro ⟨n, v⟩ hy
    rcases S.par n (List.of_mem_zip hy).1 with q | q
    · exact Or.inl q
    · exact Or.inr ⟨q, PySem.W.cellsFrom_some _ _ _ (Or.inl q)⟩
  refine codeAny_call_function hr.depth (kin _ _ lk) rfl S.co S.gen rfl (PySem.W.codeRec_of kin hcd) (hb _ _ _ _ ?_)
  refine wpAny_with_toks ht (wpAny_newFunctionEnv_cells S.kind hk ?_)
  intro env he s1 xx tk1
  subst he
  refine ⟨nolim.keeps xx.toInCall.keep, codeAny_func ?_⟩
  have I : Inv (cxOf CX0 P w K mg base N qual (defScope st) f cdv A outer s H E) [] (start N vs) H s1 := inv_start S hr.hd e0 hl r xx
  obtain ⟨t, ht', hq'⟩ := body cdv A outer s H vs Q E (hr.deeper _) hsp
  refine wpAny_mono (ht'.run s1 _ H Q tk1 (I.wish _) hq') ?_ (fun _ _ z => False.elim z)
  rintro fl s' ⟨u, rfl, nz, v, H', J, rv, q⟩
  exact ⟨⟨v, H', J.os, J.bare, J.base, J.hok, rv, q⟩, fun u' e => by cases e; exact nz⟩
end
section
variable {X : Cx} {pins : List (Addr × Obj)} {σ : L2.St} {H : Hp} {s : Shared}
variable {k : Nat} {f : Addr} {fd : FuncData} {ps : List Str} {sp : Sp} {ds : List Value} {dvs : List V} {E : XK}
/-- an expression whose answer's token is out -/
structure PEz (X : Cx) (e : Expr) (t : TE) : Prop where
  run : ∀ (pins : List (Addr × Obj)) (s : Shared) (σ : L2.St) (H : Hp) (Q : VK), 1 ≤ s.toks → Inv X pins σ H s → t σ H Q → wpAny (model X.prog X.w) X.A (eval e X.env) (fun u s' => Nz u ∧ Stay X.env.locals s s' ∧ EP X pins σ Q u s') X.xe s
theorem ez_call {x : Str} {p pos : Pos} {e : Expr} {es : List Expr} {t : TA} (F : FnNz X.prog X.w X.K X.mg X.base k f fd ps sp) (hr : Room k X.A) (hg : Gl X x) (hm : X.mg x = some (.ref f)) (hk : PySem.W.keepIn X.K (.ref f) = true) (hb : Binds X.K fd ps ds) (hd : Vals dvs ds) (hx : Passes CX0 X E)
    (ha : PAs X (e :: es) t) (hdb : (x == ("__debug__" : Str)) = false := by decide) (he : starEach (e :: es) X.env = (false, eval e X.env) :: starEach es X.env := by rfl) (hpl : (backTo pos (starEach es X.env)).any (·.1) = false := by rfl) :
    PEz X (.Call (.Name x p) (e :: es) [] pos) (tCall sp dvs E t) := by
  refine ⟨fun pins s σ H Q ht I h => ?_⟩
  refine wpAny_Call_Name_kw (ld_glob I hg hm ?_ hdb)
  refine PySem.W.callWith_K (h₀ := X.base) I.ok.mod.kin hk (wpAny_mono (wpAny_toks_of ht (ha.run pos pins s σ H _ I h)) ?_ (fun _ _ z => z.2)) he hpl
  rintro us s1 ⟨t1, k1, vs, H1, I1, r, q⟩
  refine ⟨I1.kIn, ?_⟩
  have r2 : Vals (vs ++ dvs) (us ++ ds) := r.append hd
  have hl : (us ++ ds).length = ps.length := by rw [← r2.length]; exact F.len _ _ _ _ q
  refine wpAny_call (codeAny_mono (F.run X.A X.stack s1 H1 ⟨us, []⟩ (us ++ ds) (vs ++ dvs) Q E t1 hr I1.env0 (hb s1 us I1.kIn hl) r2 q) ?_)
  rintro r s' ⟨hq, nz⟩
  cases r with
  | error e => exact hx pins σ H1 s1 e s' I1 hq
  | ok fl =>
    cases fl with
    | ret u =>
      refine ⟨nz u rfl, k1.trans fun m e => ?_, I1.after hq⟩
      obtain ⟨v, H', os, bare, un, hok, r, q⟩ := hq
      exact un_stay un I1.free e
    | next => exact False.elim hq
    | brk => exact False.elim hq
    | cont => exact False.elim hq
/-! rows, while the name x (the names x and y) hold texts whose tokens are out -/
def Has (X : Cx) (x : Str) (s : Shared) : Prop := ∃ u, Nz u ∧ Raw X x u s
theorem Has.stay {x : Str} {s s' : Shared} (h : Has X x s) (k : Stay X.env.locals s s') : Has X x s' := by
  obtain ⟨u, n, r⟩ := h
  exact ⟨u, n, r.stay k⟩
def Hold (X : Cx) (xs : List Str) (s : Shared) : Prop := 1 ≤ s.toks ∧ ∀ x ∈ xs, Has X x s
structure PRs (X : Cx) (xs : List Str) (st : List Stmt) (t : TS) : Prop where
  run : ∀ (pins : List (Addr × Obj)) (s : Shared) (σ : L2.St) (H : Hp) (D : Ends), Hold X xs s → Inv X pins σ H s → t D σ H → wpAny (model X.prog X.w) X.A (execs st X.env) (SP X pins D) X.xe s
theorem PRs.of {xs : List Str} {st : List Stmt} {t : TS} (h : PSs X st t) : PRs X xs st t := ⟨fun pins s σ H D _ I q => h.run pins s σ H D I q⟩
theorem PRs.start {st : List Stmt} {t : TS} (h : PRs X [] st t) : PSsT X st t := fun pins s σ H D h1 I q => h.run pins s σ H D ⟨h1, fun _ m => absurd m (by simp)⟩ I q
theorem ns_one {h : Heap} {a : Addr} {m m' : Str → Option Value} (e : h.Ns a m) (e' : h.Ns a m') : m = m' := by
  obtain ⟨o, es, ep, h1, h2, _, h4⟩ := e
  obtain ⟨o', es', ep', g1, g2, _, g4⟩ := e'
  rw [h1] at g1
  cases g1
  rw [h2] at g2
  cases g2
  funext y
  rw [← h4 y, ← g4 y]
theorem inv_set {i : Nat} {x : Str} {v : V} {u : Value} {m : Str → Option Value} {h' : Heap} {t' : Nat} (I : Inv X pins σ H s) (hN : X.N.Nodup) (hi : X.N[i]? = some x) (hk : X.env.kindOf x = some .local) (r : RelV v u)
    (hn : s.heap.Ns X.env.locals m) (hn' : h'.Ns X.env.locals fun y => if y = x then some u else m y) (hs : Heap.SameBut X.env.locals s.heap h') : Inv X pins (σ.set i (some v)) H { s with heap := h', toks := t' } := by
  have far : ∀ b, b < X.s_0.heap.objs.size → h'.get? b = s.heap.get? b := by
    intro b hb
    exact hs.2 b (Nat.ne_of_lt (Nat.lt_of_lt_of_le hb I.ok.above))
  have hlt : i < σ.length := by
    rw [I.len]
    exact (List.getElem?_eq_some_iff.mp hi).1
  have cell_ne := I.cne
  refine ⟨I.ok, I.os, I.bare, ?_, ⟨_, hn', ?_⟩, ?_, I.free, I.freeC, ?_, ?_, ?_⟩
  · constructor
    · intro b o e n hb hx
      rw [far b (Heap.lt_size e)]
      exact I.base.keep b o e n hb hx
    · intro b o e n hb hx
      rw [far b (Heap.lt_size e)]
      exact I.base.slot b o e n hb hx
    · exact I.base.free
    · intro b o e hx
      rw [far b (Heap.lt_size e)]
      exact I.base.there b o e hx
    · exact I.base.tups
    · exact I.base.frzs
    · exact I.base.tbls
  · intro j y w e1 e2 e3
    obtain ⟨m0, n0, hl⟩ := I.loc
    have em : m0 = m := ns_one n0 hn
    subst em
    by_cases c : j = i
    · subst c
      have ey : x = y := by
        rw [hi] at e1
        exact Option.some.inj e1
      subst ey
      rw [List.getElem?_set_self hlt] at e2
      have ev : v = w := by
        have := Option.some.inj e2
        exact Option.some.inj this
      subst ev
      exact ⟨u, r, Or.inl ⟨hk, by simp⟩⟩
    · rw [List.getElem?_set_ne (Ne.symm c)] at e2
      obtain ⟨u1, r1, q⟩ := hl j y w e1 e2 e3
      refine ⟨u1, r1, ?_⟩
      rcases q with ⟨k1, q⟩ | ⟨k1, c1, q, z⟩
      · have yx : y ≠ x := by
          rintro rfl
          exact c (nodup_ix hN e1 hi)
        exact Or.inl ⟨k1, by simp only [if_neg yx]; exact q⟩
      · exact Or.inr ⟨k1, c1, q, z.sameBut hs (cell_ne y c1 q)⟩
  · intro y c e
    obtain ⟨w, z⟩ := I.cell y c e
    exact ⟨w, z.sameBut hs (cell_ne y c e)⟩
  · intro p hp
    obtain ⟨e, n, ne, nf, d⟩ := I.pin p hp
    exact ⟨(hs.2 _ ne).trans e, n, ne, nf, d⟩
  · intro b ob e
    refine (I.hok b ob e).stay (fun c z hc q => ?_) (fun _ q => q) (fun _ _ q => q)
    have : c ≠ X.env.locals := by
      intro hc'
      have fr := I.free
      rw [← hc'] at fr
      rcases hc with hc | hc
      · rw [hc, e] at fr
        cases fr
      · rw [fr] at hc
        cases hc
    rw [hs.2 c this]
    exact q
  · rw [List.length_set]
    exact I.len
/-- a name stored: what stands behind it -/
theorem store_raw {M : Model} {A : Around} {E : Value → Shared → Prop} {i : Nat} {x : Str} {v : V} {u : Value} {Q : Unit → Shared → Prop} (I : Inv X pins σ H s) (hN : X.N.Nodup) (hi : X.N[i]? = some x) (hx : X.env.scope.names.lookup x = some .local) (r : RelV v u)
    (h : ∀ s', Inv X pins (σ.set i (some v)) H s' → s.toks ≤ s'.toks → Raw X x u s' → (∀ y u', y ≠ x → Raw X y u' s → Raw X y u' s') → Q () s') : wpAny M A (storeName X.env x u) Q E s := by
  have hkd : X.env.kindOf x = some .local := by
    first
    | exact hx
    | (simp only [Env.kindOf]; exact hx)
  obtain ⟨m, hn, _⟩ := id I.loc
  refine wpAny_storeName_local hkd hn (fun h' hn' hs => ?_) (by rw [I.ok.kind]; rfl)
  refine h _ (inv_set I hN hi hkd r hn hn' hs) (Nat.le_succ _) ⟨_, hn', if_pos rfl⟩ ?_
  rintro y u' ne ⟨m1, h1, h2⟩
  have em := ns_one h1 hn
  subst em
  exact ⟨_, hn', by simp only [if_neg ne]; exact h2⟩
end
end Xb
set_option Elab.async false
set_option linter.all false
set_option maxRecDepth 100000
set_option maxHeartbeats 4000000
/-! Xp: the rows between: a name stored, a test, two names stored at once, a text replaced. -/
namespace Xp
open PySem PySem.Spec PyProof.Rows L2 Bs Xa Xb
section
variable {X : Cx} {pins : List (Addr × Obj)} {σ : L2.St} {H : Hp} {s : Shared} {xs : List Str} {rest : List Stmt} {t u : TS} {pos : Pos}
theorem Hold.stay {s s' : Shared} (h : Hold X xs s) (k : Stay X.env.locals s s') (l : s.toks ≤ s'.toks) : Hold X xs s' := ⟨Nat.le_trans h.1 l, fun x hx => (h.2 x hx).stay k⟩
theorem pr_set {i : Nat} {y : Str} {e : Expr} {te : TE} {pos' : Pos} (hN : X.N.Nodup) (hi : X.N[i]? = some y) (hx : X.env.scope.names.lookup y = some .local) (ny : ∀ x ∈ xs, x ≠ y) (he : PEs X e te) (h2 : PRs X xs rest u)
    (hs : swapsWith e (some (.Name y pos')) pos.line X.env = pure false := by rfl) : PRs X xs (.Assign [.Name y pos'] e pos :: rest) (tSeq (tAsg te (gName i)) u) := by
  refine ⟨fun pins s σ H D hh I h => ?_⟩
  refine wpAny_execs_cons (wpAny_Assign_Name (wpAny_mono (wpAny_toks (he.run pins s σ H _ I h)) ?_ (fun _ _ z => z.2)) hs)
  rintro v s1 ⟨t1, k1, z, H1, I1, r1, q1⟩
  refine store_raw I1 hN hi hx r1 fun s2 I2 t2 _ keep => ?_
  refine h2.run pins s2 _ H1 D ⟨by have := hh.1; omega, fun x hm => ?_⟩ I2 q1
  obtain ⟨w, n, r⟩ := (hh.2 x hm).stay k1
  exact ⟨w, n, keep x w (ny x hm) r⟩
def tIfR (c : TT) (t u : TS) : TS := fun D σ H => c σ H fun b H1 => if b = true then t { D with nx := fun _ _ => False } σ H1 else u D σ H1
/-- if c: .. (which leaves), then the rest -/
theorem pr_if {c : Expr} {a : List Stmt} {tc : TT} (hc : PTs X c tc) (ha : PRs X xs a t) (h2 : PRs X xs rest u) : PRs X xs (.If c a [] pos :: rest) (tIfR tc t u) := by
  refine ⟨fun pins s σ H D hh I h => ?_⟩
  refine wpAny_execs_cons (wpAny_If (wpAny_mono (wpAny_toks (hc.run pins s σ H _ I h)) ?_ (fun _ _ z => z.2)))
  rintro b s1 ⟨t1, k1, H1, I1, q1⟩
  cases b with
  | true =>
    refine thn (ha.run pins s1 σ H1 _ (Hold.stay hh k1 t1) I1 q1) fun fl s2 q => ?_
    cases fl with
    | next =>
      obtain ⟨_, _, _, z⟩ := q
      exact z.elim
    | brk => exact q
    | cont => exact q
    | ret v => exact q
  | false => exact wpAny_execs_nil (h2.run pins s1 σ H1 _ (Hold.stay hh k1 t1) I1 q1)
/-- x, y = a, b: x's text has a token that is out -/
theorem pr_par {i j : Nat} {x y : Str} {a b : Expr} {te te' : TE} {px py pt : Pos} {kt k2 : Nat} {pt2 : Pos} (hc : X.calm = true) (hN : X.N.Nodup) (hi : X.N[i]? = some x) (hj : X.N[j]? = some y) (hij : i ≠ j)
    (hx : X.env.scope.names.lookup x = some .local) (hy : X.env.scope.names.lookup y = some .local) (nx : ∀ z ∈ xs, z ≠ x ∧ z ≠ y) (ha : PEz X a te) (hb : PEs X b te') (h2 : PRs X (x :: xs) rest u)
    (hw : swappedStores [.Tuple [.Name x px, .Name y py] kt pt] (.Tuple [a, b] k2 pt2) X.env = pure (some [x, y]) := by rfl)
    (hs : swapsWithSole [.Tuple [.Name x px, .Name y py] kt pt] (.Tuple [a, b] k2 pt2) pos.line X.env = pure false := by rfl)
    (st1 : starEach [a, b] X.env = (false, eval a X.env) :: starEach [b] X.env := by rfl) (st2 : starEach [b] X.env = (false, eval b X.env) :: starEach [] X.env := by rfl) :
    PRs X xs (.Assign [.Tuple [.Name x px, .Name y py] kt pt] (.Tuple [a, b] k2 pt2) pos :: rest) (tSeq (tPar i j (tCons te (tCons te' tNil))) u) := by
  refine ⟨fun pins s σ H D hh I h => ?_⟩
  have xy : x ≠ y := fun e => hij (nodup_ix hN hi (e ▸ hj))
  refine wpAny_execs_cons ?_
  rw [exec_Assign_arm, hs]
  refine wpAny_bind (wpAny_standAt (wpAny_bind (wpAny_pure ?_)))
  rw [if_neg Bool.false_ne_true]
  refine wpAny_bind (Tuple_ ?_)
  rw [st1]
  show wpAny _ _ (spliced ((false, eval a X.env) :: backTo _ (starEach [b] X.env))) _ _ s
  refine Calls.spliced_cons (wpAny_mono (wpAny_toks_of hh.1 (ha.run pins s σ H _ hh.1 I h)) ?_ (fun _ _ z => z.2))
  rintro u1 s1 ⟨t1, n1, k1, v1, H1, I1, r1, q1⟩
  rw [st2]
  show wpAny _ _ (spliced ((false, eval b X.env) :: backTo _ (starEach [] X.env))) _ _ s1
  refine Calls.spliced_cons (wpAny_mono (wpAny_toks_of t1 (hb.run pins s1 σ H1 _ I1 q1)) ?_ (fun _ _ z => z.2))
  rintro u2 s2 ⟨t2, k12, v2, H2, I2, r2, q2⟩
  refine Calls.spliced_nil ?_
  obtain ⟨v, w, e, q2⟩ := q2
  obtain ⟨rfl, rfl⟩ : v1 = v ∧ v2 = w := by simpa using e
  refine wpAny_newObj_type ?_ (by show 2 ≤ sizeLine; decide)
  have I3 : Inv X pins σ H2 { s2 with heap := s2.heap.push { cls := .type "tuple", data := .seq [u1, u2].toArray } } := I2.kept (t' := s2.toks) fun b o e => Heap.get?_push_of_some _ e
  rw [hw]
  refine wpAny_bind (wpAny_pure ?_)
  show wpAny (model X.prog X.w) X.A (do rule "assign.swapped-stores"; let items ← unpackItems (.ref s2.heap.objs.size) 2 none; assignInOrder [fun v => bindName X.env y v, fun v => bindName X.env x v] items.reverse; pure Flow.next) _ _ _
  refine wpAny_bind (wpAny_rule (wpAny_bind (unpackItems_tuple (items := #[u1, u2]) (I.ok.hd hc) (IsTup.new s2.heap _) ?_)))
  intro h' hx'
  have far : ∀ c o, (s2.heap.push { cls := .type "tuple", data := .seq [u1, u2].toArray }).get? c = some o → h'.get? c = some o := fun c o e => hx' c o (Nat.ne_of_lt (Heap.lt_size e)) e
  have I4 := I3.kept (h' := h') (t' := s2.toks) far
  have k4 : Stay X.env.locals s { s2 with heap := h' } := (k1.trans k12).trans fun m e => (e.push _).keeps far
  show wpAny _ _ (assignInOrder [fun v => bindName X.env y v, fun v => bindName X.env x v] [u2, u1] >>= fun _ => pure Flow.next) _ _ _
  refine wpAny_bind (assignInOrder_cons (wpAny_bindName (store_raw I4 hN hj hy r2 ?_)))
  intro s5 I5 t5 _ keep5
  refine assignInOrder_cons (wpAny_bindName (store_raw I5 hN hi hx r1 ?_))
  intro s6 I6 t6 raw6 keep6
  refine assignInOrder_nil (wpAny_pure ?_)
  rw [List.set_comm _ _ (Ne.symm hij)] at I6
  refine h2.run pins s6 _ H2 D ⟨by have t5' : s2.toks ≤ s5.toks := t5; omega, fun z hz => ?_⟩ I6 q2
  rcases List.mem_cons.mp hz with rfl | hz
  · exact ⟨u1, n1, raw6⟩
  · obtain ⟨z1, z2⟩ := nx z hz
    obtain ⟨w, n, r⟩ := (hh.2 z hz).stay k4
    exact ⟨w, n, keep6 z w z1 (keep5 z w z2 r)⟩
end
end Xp
set_option Elab.async false
set_option linter.all false
set_option maxRecDepth 100000
set_option maxHeartbeats 4000000
/-! Xi1: text.replace(a, b, 1). -/
namespace Xi1
open PySem PySem.Spec PyProof.Rows L2 Bs Xa Xb Xp Builtin Builtin.Str
section
variable {prog : Program} {w : World} {A : Around} {E : Value → Shared → Prop} {s : Shared} {x y z : Str} {t u v k : Tok} {Q : Value → Shared → Prop}
def repl1 (x y z : Str) : Str := glued z (partsBetween x (occurrences x y 0 x.length 1) y.length)
theorem cut1 (x y : Str) : (occurrences x y 0 x.length 1).length ≤ 1 := StrLaws.occ_length_le x y 0 x.length 1
theorem replace1 (hu : u ≠ 0) (hv : v ≠ 0) (hb : x.length + z.length ≤ 16777216) (nb : NoneBooked s.heap) (q : ∀ r t' n, (r = x ∨ r = repl1 x y z) → Q (.str r t') { s with toks := n }) :
    wpAny (model prog w) A (call (.builtin "str.replace") [.str x t, .str y u, .str z v, .int 1 k]) Q E s := by
  refine wpAny_call_entry F.slot_str_replace (typeIs_str _ _ _) F.entry_str_replace ?_ (F.args_str_replace_4 _ _ _ _)
  have hl : tooLong (x.length + (occurrences x y 0 x.length 1).length * z.length) = false := by
    have h2 : (occurrences x y 0 x.length 1).length * z.length ≤ 1 * z.length := Nat.mul_le_mul_right _ (cut1 x y)
    unfold tooLong sizeLine
    exact decide_eq_false (by omega)
  show wpAny _ _ (if ((occurrences x y 0 x.length 1).isEmpty || (y.length == 0 && z.length == 0)) = true then (do rule "str.replace.nothing"; ret (.str x t)) else (do let same ← isSame (.str y u) (.str z v); if same = true then (do rule "str.replace.old-is-new"; ret (.str x t)) else if tooLong (x.length + (occurrences x y 0 x.length 1).length * z.length) = true then unsupported "str.replace:memory" else retStr (glued z (partsBetween x (occurrences x y 0 x.length 1) y.length)))) _ _ _
  cases hc : ((occurrences x y 0 x.length 1).isEmpty || (y.length == 0 && z.length == 0)) with
  | true =>
    rw [if_pos rfl]
    exact wpAny_bind (wpAny_rule (wpAny_pure ⟨_, rfl, q x t s.toks (Or.inl rfl)⟩))
  | false =>
    rw [if_neg Bool.false_ne_true]
    refine wpAny_bind (wpAny_isSame_str (by simp [hu, hv]) nb fun b => ?_)
    cases b with
    | true =>
      rw [if_pos rfl]
      exact wpAny_bind (wpAny_rule (wpAny_pure ⟨_, rfl, q x t s.toks (Or.inl rfl)⟩))
    | false =>
      rw [if_neg Bool.false_ne_true, hl, if_neg Bool.false_ne_true]
      refine wpAny_bind (wpAny_mkStr (wpAny_pure ⟨_, rfl, q _ _ _ (Or.inr rfl)⟩) ?_)
      have h1 := cut1 x y
      have g : (glued y (partsBetween x (occurrences x y 0 x.length 1) y.length)).length = x.length := by rw [StrLaws.glued_between_self]
      rw [size_glued, length_partsBetween, Nat.add_sub_cancel] at g ⊢
      have h2 : (occurrences x y 0 x.length 1).length * z.length ≤ 1 * z.length := Nat.mul_le_mul_right _ h1
      rw [sizeLine_eq]
      omega
/-- no token is booked: by what the text's top leaves -/
theorem booked {X : Cx} {pins : List (Addr × Obj)} {σ : L2.St} {H : Hp} {s : Shared} (I : Inv X pins σ H s) (h : PySem.W.nsIn X.K cStatics sharingNotToldKey = some none) : NoneBooked s.heap := by
  obtain ⟨mc, a, _⟩ := I.nolimit
  exact ⟨mc, a, PySem.W.ns_none_of I.kIn a h⟩
end
section
variable {X : Cx} {xs : List Str} {rest : List Stmt} {u : TS}
def tRep1 (ik ia ib : Nat) : TE := fun σ H Q => ∃ x y z : Str, σ[ik]? = some (some (.str x)) ∧ σ[ia]? = some (some (.str y)) ∧ σ[ib]? = some (some (.str z)) ∧ x.length + z.length ≤ 16777216 ∧ ∀ r, (r = x ∨ r = repl1 x y z) → Q (.str r) H
theorem raw_held {pins : List (Addr × Obj)} {σ : L2.St} {H : Hp} {s : Shared} {i : Nat} {x : Str} {y : Str} (I : Inv X pins σ H s) (hN : X.N[i]? = some x) (hx : X.env.scope.names.lookup x = some .local) (hσ : σ[i]? = some (some (.str y))) (h : Has X x s) :
    ∃ t, t ≠ 0 ∧ ∃ m, s.heap.Ns X.env.locals m ∧ m x = some (.str y t) := by
  obtain ⟨w, nz, m, hm, e⟩ := h
  obtain ⟨m', hm', hl⟩ := I.loc
  have em := ns_one hm' hm
  subst em
  obtain ⟨w', r, l⟩ := hl i x _ hN hσ (Or.inl hx)
  have hkd : X.env.kindOf x = some .local := by
    first
    | exact hx
    | (simp only [Env.kindOf]; exact hx)
  rcases l with ⟨_, e'⟩ | ⟨hk, _⟩
  · rw [e] at e'
    cases e'
    obtain ⟨t, rfl⟩ := r
    exact ⟨t, nz _ _ rfl, m', hm, e⟩
  · rw [hkd] at hk
    rcases hk with hk | hk <;> cases hk
theorem pr_rep {ik ia ib id : Nat} {kx ax bx dx : Str} {j : Nat} {p1 p2 p3 cp apos cpos dpos pos : Pos} (hN : X.N.Nodup) (hk : X.N[ik]? = some kx) (ha : X.N[ia]? = some ax) (hb : X.N[ib]? = some bx) (hd : X.N[id]? = some dx) (vk : Vis X.env.scope kx)
    (va : X.env.scope.names.lookup ax = some .local) (vb : X.env.scope.names.lookup bx = some .local) (vd : X.env.scope.names.lookup dx = some .local) (xa : ax ∈ xs) (xb : bx ∈ xs) (bk : PySem.W.nsIn X.K cStatics sharingNotToldKey = some none) (h2 : PSs X rest u)
    (d1 : (kx == ("__debug__" : Str)) = false := by decide) (d1' : (kx == ("__classdict__" : Str)) = false := by decide) (d2 : (ax == ("__debug__" : Str)) = false := by decide) (d3 : (bx == ("__debug__" : Str)) = false := by decide)
    (hbase : attributeBase (.Name kx p1) "replace" X.env (eval (.Name kx p1) X.env) = eval (.Name kx p1) X.env := by rfl) (hline : (apos.endLine == cpos.line) = true := by rfl)
    (st : starEach [.Name ax p2, .Name bx p3, .Constant (.int 1) j cp] X.env = [(false, eval (.Name ax p2) X.env), (false, eval (.Name bx p3) X.env), (false, eval (.Constant (.int 1) j cp) X.env)] := by rfl)
    (hs : swapsWith (.Call (.Attribute (.Name kx p1) "replace" apos) [.Name ax p2, .Name bx p3, .Constant (.int 1) j cp] [] cpos) (some (.Name dx dpos)) pos.line X.env = pure false := by rfl) :
    PRs X xs (.Assign [.Name dx dpos] (.Call (.Attribute (.Name kx p1) "replace" apos) [.Name ax p2, .Name bx p3, .Constant (.int 1) j cp] [] cpos) pos :: rest) (tSeq (tAsg (tRep1 ik ia ib) (gName id)) u) := by
  refine ⟨fun pins s σ H D hh I h => ?_⟩
  obtain ⟨x, y, z, hx, hy, hz, hl, q⟩ := h
  obtain ⟨ta, na, ma, hma, ea⟩ := raw_held I ha va hy (hh.2 ax xa)
  obtain ⟨tb, nb, mb, hmb, eb⟩ := raw_held I hb vb hz (hh.2 bx xb)
  refine wpAny_execs_cons (wpAny_Assign_Name ?_ hs)
  refine wpAny_Call_method_lateS hbase (by rw [st]; rfl) hline ?_
  rw [st]
  refine raw_name hk vk I hx (fun v r => ?_) d1 d1'
  obtain ⟨tx, rfl⟩ := r
  refine ⟨"str", _, F.plainAttrs_str, F.slot_str_replace, F.type_str_replace, typeIs_str _ _ _, (fun _ e => nomatch e), Calls.callWith_builtin rfl (Calls.evalArgs_plain (Calls.spliced_cons ?_))⟩
  refine wpAny_Name (wpAny_loadName_local I.ok.kind va hma ea ?_) d2
  refine Calls.spliced_cons (wpAny_Name (wpAny_loadName_local I.ok.kind vb hmb eb ?_) d3)
  show wpAny _ _ (spliced ((false, eval (.Constant (.int 1) j cp) X.env) :: [])) _ _ s
  refine Calls.spliced_cons (wpAny_Constant_int (pos := cp) (k := j) (Calls.spliced_nil ?_))
  show wpAny _ _ (call (.builtin "str.replace") [.str x tx, .str y ta, .str z tb, .int 1 s.toks]) _ _ { s with toks := s.toks + 1 }
  have I := I.tok (s.toks + 1)
  refine replace1 na nb hl (booked I bk) ?_
  intro r t' n hr
  refine store_ok (v := .str r) (I.tok n) hN hd (Or.inl vd) ⟨t', rfl⟩ (fun s2 I2 => ?_) (Or.inr vd)
  exact h2.run pins s2 _ H D I2 (q r hr)
end
end Xi1
set_option Elab.async false
set_option linter.all false
set_option maxRecDepth 100000
set_option maxHeartbeats 4000000
/-! Xfs: f'{n:04d}' of a number that is no less than nought. -/
namespace Xfs
open PySem PySem.Spec PyProof.Rows L2 Bs Builtin Builtin.Str Builtin.Float
theorem no_digits {X : Cx} {pins : List (Addr × Obj)} {σ : L2.St} {H : Hp} {s : Shared} (I : Inv X pins σ H s) (h : PySem.W.nsIn X.K cStatics "sys.int_max_str_digits" = some none) : s.heap.NoDigits := by
  obtain ⟨mc, a, _⟩ := I.nolimit
  exact ⟨mc, a, PySem.W.ns_none_of I.kIn a h⟩
def tFmtZ (spec : Str) (te : TE) : TE := fun σ H Q => te σ H fun x H1 => ∃ a : Nat, x = .int (a : Int) ∧ a < 10 ^ 10 ∧ Q (.str (intSpecTextOf spec (a : Int))) H1
theorem pe_fmtZ {X : Cx} {e : Expr} {te : TE} {spec : Str} {j : Nat} {cp sp fp pos : Pos} (he : PE X e te) (bk : PySem.W.nsIn X.K cStatics "sys.int_max_str_digits" = some none) (hok : intSpecOk spec = true := by decide +kernel) (hsz : spec.length ≤ sizeLine := by decide +kernel) :
    PE X (.JoinedStr [.FormattedValue e (-1) (some (.JoinedStr [.Constant (.str spec) j cp] sp)) fp] pos) (tFmtZ spec te) := by
  refine ⟨fun pins s σ H Q I h => wpAny_JoinedStr_one (wpAny_FormattedValue_spec (thn (he.run pins s σ H _ I h) ?_))⟩
  rintro v s1 ⟨x, H1, I1, r1, a, rfl, la, q⟩
  obtain ⟨t, rfl⟩ := r1
  refine wpAny_JoinedStr_one (Calls.Constant_str ⟨spec, _, rfl, ?_⟩)
  refine formatField_int_specOf (no_digits (I1.tok (s1.toks + 1)) bk) (lt_digitLimit_of_lt (by rw [Int.natAbs_natCast]; omega)) hok (fun W _ _ => ?_) hsz
  exact ⟨.str _, H1, (I1.tok _).tok _, ⟨_, rfl⟩, q⟩
def zf (w : Nat) (a : Nat) : Str := ⟨(List.replicate (w - (Nat.toDigits 10 a).length) 48).toArray⟩ ++ Str.ofString (toString (a : Int))
theorem spec_zero {spec : Str} {f : FormatSpec} {w : Nat} (h : parseFormatSpec spec.cps.toList "int" 62 = .ok f) (hgr : f.grouping = none) (hsg : f.sign = none) (hf : f.fill = 48) (hal : f.align = 61) (hw : f.width.getD 0 = w) (a : Nat) : intSpecTextOf spec (a : Int) = zf w a := by
  unfold intSpecTextOf
  rw [h]
  show intSpecText f (a : Int) = _
  rw [intSpecText_zero hgr hsg hf hal (Int.natCast_nonneg a), hw, Int.natAbs_natCast]
  rfl
theorem spec_2 (a : Nat) : intSpecTextOf "02d" (a : Int) = zf 2 a := spec_zero (f := { fill := 48, align := 61, width := some 2, type := some 100 }) (by kernel_rfl) rfl rfl rfl rfl rfl a
theorem spec_4 (a : Nat) : intSpecTextOf "04d" (a : Int) = zf 4 a := spec_zero (f := { fill := 48, align := 61, width := some 4, type := some 100 }) (by kernel_rfl) rfl rfl rfl rfl rfl a
end Xfs
set_option Elab.async false
set_option linter.all false
set_option pp.maxSteps 4000
set_option maxRecDepth 100000
set_option maxHeartbeats 4000000
/-! k03: a day written -/
namespace K03
open PySem PySem.Spec PyProof.Rows L2 Bs TL K02 K21 Xfs
abbrev sLd : Stmt := K21.top 31
abbrev sWr : Stmt := K21.top 20
abbrev sWd : Stmt := K21.top 22
def pick3 (c : Nat) (Y M D : Str) : Str := if c = 121 then Y else if c = 109 then M else D
def laidS (o s Y M D : Str) : Str := Txt.join s (o.cps.toList.map fun c => pick3 c Y M D)
abbrev dayK (Y M D : Str) : List (Key × V) := [(ky "y", .str Y), (ky "m", .str M), (ky "d", .str D)]
theorem dayK_merge (Y M D : Str) : mergeK [] (dayK Y M D) = dayK Y M D := merge3 (by decide +kernel) (by decide +kernel) (by decide +kernel)
theorem ord_cps {o : Str} (h : IsOrd o) : o.cps.toList.length = 3 ∧ ∀ c ∈ o.cps.toList, c = 121 ∨ c = 109 ∨ c = 100 := by
  rcases h with rfl | rfl | rfl <;> decide +kernel
theorem dayK_val {c : Nat} (Y M D : Str) (h : c = 121 ∨ c = 109 ∨ c = 100) : valV (dayK Y M D) (Sum.inr (⟨#[c]⟩ : Str)) = some (.str (pick3 c Y M D)) := by
  have e1 : (Str.ofString "y") = ⟨#[121]⟩ := by decide +kernel
  have e2 : (Str.ofString "m") = ⟨#[109]⟩ := by decide +kernel
  have e3 : (Str.ofString "d") = ⟨#[100]⟩ := by decide +kernel
  unfold dayK ky
  rw [e1, e2, e3]
  rcases h with rfl | rfl | rfl <;> simp [valV, pick3]
theorem pick3_len {c n : Nat} {Y M D : Str} (hY : Y.length ≤ n) (hM : M.length ≤ n) (hD : D.length ≤ n) : (pick3 c Y M D).length ≤ n := by
  unfold pick3
  split
  · exact hY
  · split
    · exact hM
    · exact hD
section
variable {P : Program} {w : World} {K : PySem.W.Frag} {mg : Str → Option Value} {base : Heap}
abbrev nLd : List Str := ["_law_order", "_law_year", "_law_month_here", "_law_day", "_law_sign", "_law_parts", "_law_letter"]
theorem scLd : FnScope nLd ["_law_order", "_law_year", "_law_month_here", "_law_day", "_law_sign"] (defScope sLd) := ⟨rfl, rfl, rfl, by decide +kernel, rfl, by decide +kernel, by decide +kernel⟩
def spLd : Sp := fun vs H Q _ => ∃ o Y M D s : Str, vs = [.str o, .str Y, .str M, .str D, .str s] ∧ IsOrd o ∧ Y.length ≤ 50 ∧ M.length ≤ 50 ∧ D.length ≤ 50 ∧ s.length ≤ 50 ∧ ∀ H', Same H H' → Q (.str (laidS o s Y M D)) H'
theorem ok_laid {f : Addr} {fd : FuncData} (F : Fun K "_law_laid" "_law_laid" sLd f fd) : FnOk P w K mg base CX0 1 f fd ["_law_order", "_law_year", "_law_month_here", "_law_day", "_law_sign"] spLd := by
  refine F.ok scLd (fun vs H Q E h => ?_) (fun cdv A outer s H vs Q E hr h => ?_)
  · obtain ⟨o, Y, M, D, s, rfl, _⟩ := h
    rfl
  · obtain ⟨o, Y, M, D, s, rfl, io, lY, lM, lD, ls, q⟩ := h
    refine ⟨_, pss_cons (ps_set (i := 5) scLd.nd rfl (Or.inr rfl) (pe_disp (pps_cons pe_str (pv 1) (pps_cons pe_str (pv 2) (pps_cons pe_str (pv 3) pps_nil))) (by rfl) (by rfl) (fun z => by cases z) (by decide)))
      (pss_one (ps_ret (pe_join (pv 4) (pe_lc (own := [("_law_letter", 6)]) (g := gName 6) (tt := tYes) rfl scLd.nd (pi_str (pv 0)) (blkOk_by (own := [("_law_letter", 6)]) (N := nLd) (sc := defScope sLd) (by decide +kernel)) (fun _ _ _ _ _ => (pg_name (i := 6) scLd.nd rfl (Or.inl rfl))) (fun _ _ _ _ _ => pts_nil) (fun _ _ _ _ _ => (pe_dget (u1 hr.units) (pv 5) (pv 6) (fun _ _ => rfl))))))), ?_⟩
    intro p np
    refine ⟨_, rfl, _, rfl, _, rfl, upd_same, dayK Y M D, rfl, (show 3 ≤ 15 by decide), ?_⟩
    refine gN ?_
    try dsimp only
    rw [dayK_merge, upd_upd]
    refine ⟨_, rfl, ⟨_, rfl⟩, _, rfl, ?_⟩
    obtain ⟨o3, oc⟩ := ord_cps io
    have osz : o.cps.size = 3 := o3
    refine ⟨_, rfl, fun L nL => ?_⟩
    have Lp : L ≠ p := by
      rintro rfl
      rw [upd_same] at nL
      cases nL
    refine lc_val (walk_str (z := o)) (Z := fun j x => ∃ c, o.cps[j]? = some c ∧ x = .str ⟨#[c]⟩) (fun j => .str (pick3 (o.cps.toList.getD j 0) Y M D)) nL (fun _ _ _ _ e => e) (fun _ _ => trivial) (by omega) (fun _ => rfl) ?_ ?_
    · rintro j x G Q' hj ⟨c, ec, rfl⟩ sG kG
      have eG : G p = some (.dK (dayK Y M D)) := sG _ _ upd_same
      have ej : o.cps.toList.getD j 0 = c := by
        rw [List.getD_eq_getElem?_getD, Array.getElem?_toList, ec]
        rfl
      have mc : c ∈ o.cps.toList := by
        rw [← Array.getElem?_toList] at ec
        exact List.mem_of_getElem? ec
      refine ⟨_, rfl, _, rfl, p, _, rfl, dayK_val Y M D (oc c mc) ▸ DGet.k eG, ?_⟩
      rw [← ej]
      exact kG G (Same.refl _)
    · intro G sG eG
      have eys : ((List.range o.cps.size).map fun j => V.str (pick3 (o.cps.toList.getD j 0) Y M D)) = (o.cps.toList.map fun c => pick3 c Y M D).map V.str := by
        rw [List.map_map]
        refine range_at o.cps.toList (fun c => V.str (pick3 c Y M D)) _ fun j x ex => ?_
        rw [List.getD_eq_getElem?_getD, ex]
        rfl
      rw [eys] at eG
      refine ⟨_, L, _, rfl, rfl, .inl (SqL.of eG), ?_, ?_⟩
      · have h3 : ∀ l : List Nat, l.length = 3 → ((l.map fun c => pick3 c Y M D).map fun x => x.length).sum + (l.map fun c => pick3 c Y M D).length * s.length ≤ 16777216 := by
          intro l hl
          match l, hl with
          | [a, b, c], _ =>
            have e1 := pick3_len (c := a) lY lM lD
            have e2 := pick3_len (c := b) lY lM lD
            have e3 := pick3_len (c := c) lY lM lD
            show (pick3 a Y M D).length + ((pick3 b Y M D).length + ((pick3 c Y M D).length + 0)) + 3 * s.length ≤ 16777216
            omega
        exact h3 _ o3
      · exact q G ((Same.new np).trans sG)
variable {cM fLp fDi fAh fNu : Addr} {dLp dDi dAh dNu : FuncData}
theorem zf_S (k a : Nat) : zf k a = S (padL k a) := by
  apply TL.ext_tl
  unfold zf padL
  rw [tl_append, tl_S]
  have e : tl (Str.ofString (toString (a : Int))) = numL a := tl_num a
  rw [e]
  have el : (numL a).length = (Nat.toDigits 10 a).length := by simp [numL]
  rw [el]
  rfl
theorem zf_len {k a : Nat} (h : a < 10 ^ k) (k1 : 1 ≤ k) : (zf k a).length = k := by
  rw [zf_S, S_len]
  exact Nat.le_antisymm (padL_le h (by omega) (Nat.le_refl _)) (padL_len k a)
abbrev nWd : List Str := ["number", "order", "year", "month", "day", "parts", "part"]
theorem scWd : FnScope nWd ["number", "order"] (defScope sWd) := ⟨rfl, rfl, rfl, by decide +kernel, rfl, by decide +kernel, by decide +kernel⟩
def spWd : Sp := fun vs H Q _ => ∃ (y m d : Nat) (o : Str), vs = [.int (dayN y m d), .str o] ∧ IsDay y m d ∧ IsOrd o ∧ ∀ H', Same H H' → Q (.str (laidS o "-" (zf 4 y) (zf 2 m) (zf 2 d))) H'
theorem ok_wday {f fDt : Addr} {fd dDt : FuncData} (F : Fun K "written_day" "written_day" sWd f fd) (C : Cal K mg cM fLp fDi fAh fNu dLp dDi dAh dNu) (gL : ∃ t, mg "LONGEST_YEAR" = some (.int 366 t)) (FDt : Fun K "date_of" "date_of" sDt fDt dDt) (bDt : Binds K dDt ["number"] []) (gDt : mg "date_of" = some (.ref fDt))
    (bD : PySem.W.nsIn K cStatics "sys.int_max_str_digits" = some none) : FnOk P w K mg base CX0 4 f fd ["number", "order"] spWd := by
  have GDt : FnOk P w K mg base CX0 3 fDt dDt ["number"] spDt := ok_date FDt C gL
  refine F.ok scWd (fun vs H Q E h => ?_) (fun cdv A outer s H vs Q E hr h => ?_)
  · obtain ⟨y, m, d, o, rfl, _⟩ := h
    rfl
  · obtain ⟨y, m, d, o, rfl, hD, io, q⟩ := h
    refine ⟨_, pss_cons (ps_asg (pe_call GDt (hr.mono (by decide)) (by rfl) gDt FDt.kp bDt .nil pass0 (pa_cons (pv 0) pa_nil)) (pg_tup rfl (pgs_cons (pg_name (i := 2) scWd.nd rfl (Or.inl rfl)) (pgs_cons (pg_name (i := 3) scWd.nd rfl (Or.inl rfl)) (pgs_cons (pg_name (i := 4) scWd.nd rfl (Or.inl rfl)) pgs_nil)))))
      (pss_cons (ps_set (i := 5) scWd.nd rfl (Or.inr rfl) (pe_disp (pps_cons pe_str (pe_fmtZ (pv 2) bD) (pps_cons pe_str (pe_fmtZ (pv 3) bD) (pps_cons pe_str (pe_fmtZ (pv 4) bD) pps_nil))) (by rfl) (by rfl) (fun z => by cases z) (by decide)))
      (pss_one (ps_ret (pe_join pe_str (pe_lc (own := [("part", 6)]) (g := gName 6) (tt := tYes) rfl scWd.nd (pi_str (pv 1)) (blkOk_by (own := [("part", 6)]) (N := nWd) (sc := defScope sWd) (by decide +kernel)) (fun _ _ _ _ _ => (pg_name (i := 6) scWd.nd rfl (Or.inl rfl))) (fun _ _ _ _ _ => pts_nil) (fun _ _ _ _ _ => (pe_dget (u1 hr.units) (pv 5) (pv 6) (fun _ _ => rfl)))))))), ?_⟩
    have dl := hD
    obtain ⟨y1, y2, m1, m2, d1, d2⟩ := dl
    have dB := (din_low y m m1 m2).2
    have d99 : d ≤ 31 := by omega
    refine ⟨_, rfl, y, m, d, rfl, hD, fun t H1 s1 e1 => ?_⟩
    refine ⟨t, _, rfl, SqT.of e1, rfl, _, _, rfl, ?_⟩
    refine ⟨_, _, rfl, ?_⟩
    refine ⟨_, _, rfl, ?_⟩
    refine ⟨rfl, ?_⟩
    try dsimp only
    intro p np
    refine ⟨_, rfl, y, rfl, by omega, ?_⟩
    refine ⟨_, rfl, m, rfl, by omega, ?_⟩
    refine ⟨_, rfl, d, rfl, by omega, ?_⟩
    rw [spec_4, spec_2, spec_2]
    have lY : (zf 4 y).length ≤ 50 := by rw [zf_len (by omega) (by decide)]; decide
    have lM : (zf 2 m).length ≤ 50 := by rw [zf_len (by omega) (by decide)]; decide
    have lD : (zf 2 d).length ≤ 50 := by rw [zf_len (by omega) (by decide)]; decide
    generalize zf 4 y = Y at *
    generalize zf 2 m = M at *
    generalize zf 2 d = D at *
    refine ⟨upd_same, dayK Y M D, rfl, (show 3 ≤ 15 by decide), ?_⟩
    refine gN ?_
    try dsimp only
    rw [dayK_merge, upd_upd]
    refine ⟨⟨_, rfl⟩, _, rfl, ?_⟩
    obtain ⟨o3, oc⟩ := ord_cps io
    have osz : o.cps.size = 3 := o3
    refine ⟨_, rfl, fun L nL => ?_⟩
    have Lp : L ≠ p := by
      rintro rfl
      rw [upd_same] at nL
      cases nL
    refine lc_val (walk_str (z := o)) (Z := fun j x => ∃ c, o.cps[j]? = some c ∧ x = .str ⟨#[c]⟩) (fun j => .str (pick3 (o.cps.toList.getD j 0) Y M D)) nL (fun _ _ _ _ e => e) (fun _ _ => trivial) (by omega) (fun _ => rfl) ?_ ?_
    · rintro j x G Q' hj ⟨c, ec, rfl⟩ sG kG
      have eG : G p = some (.dK (dayK Y M D)) := sG _ _ upd_same
      have ej : o.cps.toList.getD j 0 = c := by
        rw [List.getD_eq_getElem?_getD, Array.getElem?_toList, ec]
        rfl
      have mc : c ∈ o.cps.toList := by
        rw [← Array.getElem?_toList] at ec
        exact List.mem_of_getElem? ec
      refine ⟨_, rfl, _, rfl, p, _, rfl, dayK_val Y M D (oc c mc) ▸ DGet.k eG, ?_⟩
      rw [← ej]
      exact kG G (Same.refl _)
    · intro G sG eG
      have eys : ((List.range o.cps.size).map fun j => V.str (pick3 (o.cps.toList.getD j 0) Y M D)) = (o.cps.toList.map fun c => pick3 c Y M D).map V.str := by
        rw [List.map_map]
        refine range_at o.cps.toList (fun c => V.str (pick3 c Y M D)) _ fun j x ex => ?_
        rw [List.getD_eq_getElem?_getD, ex]
        rfl
      rw [eys] at eG
      refine ⟨_, L, _, rfl, rfl, .inl (SqL.of eG), ?_, ?_⟩
      · have h3 : ∀ l : List Nat, l.length = 3 → ((l.map fun c => pick3 c Y M D).map fun x => x.length).sum + (l.map fun c => pick3 c Y M D).length * (Str.ofString "-").length ≤ 16777216 := by
          intro l hl
          match l, hl with
          | [a, b, c], _ =>
            have e1 := pick3_len (c := a) lY lM lD
            have e2 := pick3_len (c := b) lY lM lD
            have e3 := pick3_len (c := c) lY lM lD
            show (pick3 a Y M D).length + ((pick3 b Y M D).length + ((pick3 c Y M D).length + 0)) + 3 * (Str.ofString "-").length ≤ 16777216
            have e4 : (Str.ofString "-").length = 1 := by decide +kernel
            rw [e4]
            omega
        exact h3 _ o3
      · exact q G ((s1.trans (Same.new np)).trans sG)
abbrev nWr : List Str := ["form", "number"]
theorem scWr : FnScope nWr ["form", "number"] (defScope sWr) := ⟨rfl, rfl, rfl, by decide +kernel, rfl, by decide +kernel, by decide +kernel⟩
def spWr (K : PySem.W.Frag) : Sp := fun vs H Q _ => ∃ (p : Addr) (y m d : Nat) (o : Str), vs = [.ref p, .int (dayN y m d)] ∧ SqT K H p [.str "day", .str o] ∧ IsDay y m d ∧ IsOrd o ∧ ∀ H', Same H H' → Q (.str (laidS o "-" (zf 4 y) (zf 2 m) (zf 2 d))) H'
theorem ok_written {f fDt fWd : Addr} {fd dDt dWd : FuncData} (F : Fun K "written" "written" sWr f fd) (C : Cal K mg cM fLp fDi fAh fNu dLp dDi dAh dNu) (gL : ∃ t, mg "LONGEST_YEAR" = some (.int 366 t)) (FDt : Fun K "date_of" "date_of" sDt fDt dDt) (bDt : Binds K dDt ["number"] []) (gDt : mg "date_of" = some (.ref fDt))
    (FWd : Fun K "written_day" "written_day" sWd fWd dWd) (bWd : Binds K dWd ["number", "order"] []) (gWd : mg "written_day" = some (.ref fWd))
    (bD : PySem.W.nsIn K cStatics "sys.int_max_str_digits" = some none) : FnOk P w K mg base CX0 5 f fd ["form", "number"] (spWr K) := by
  have GWd : FnOk P w K mg base CX0 4 fWd dWd ["number", "order"] spWd := ok_wday FWd C gL FDt bDt gDt bD
  refine F.ok scWr (fun vs H Q E h => ?_) (fun cdv A outer s H vs Q E hr h => ?_)
  · obtain ⟨p, y, m, d, o, rfl, _⟩ := h
    rfl
  · obtain ⟨p, y, m, d, o, rfl, hp, hD, io, q⟩ := h
    refine ⟨_, pss_cons (ps_if (pt_cmpR op_eq (pe_ix (ix_tupK (K := K) rfl) (pv 0) pe_int (fun _ _ => rfl)) pe_str (nomark _)) (pss_never) (pss_nil))
      (pss_cons (ps_if (pt_cmpR op_eq (pe_ix (ix_tupK (K := K) rfl) (pv 0) pe_int (fun _ _ => rfl)) pe_str (nomark _)) (pss_never) (pss_nil))
      (pss_one (ps_ret (pe_call GWd (hr.mono (by decide)) (by rfl) gWd FWd.kp bWd .nil pass0 (pa_cons (pv 1) (pa_cons (pe_ix (ix_tupK (K := K) rfl) (pv 0) pe_int (fun _ _ => rfl)) pa_nil)))))), ?_⟩
    refine ⟨_, rfl, p, _, _, _, rfl, rfl, hp, atI_nat (j := 0) rfl, rfl, _, rfl, ?_⟩
    rw [show decide (V.str (Str.ofString "day") = V.str (Str.ofString "whole")) = false by decide +kernel]
    refine iteF ?_
    try unfold tNext
    try dsimp only
    refine ⟨_, rfl, p, _, _, _, rfl, rfl, hp, atI_nat (j := 0) rfl, rfl, _, rfl, ?_⟩
    rw [show decide (V.str (Str.ofString "day") = V.str (Str.ofString "amount")) = false by decide +kernel]
    refine iteF ?_
    try unfold tNext
    try dsimp only
    exact ⟨_, rfl, _, rfl, p, _, _, _, rfl, rfl, hp, atI_nat (j := 1) rfl, y, m, d, o, rfl, hD, io, q⟩
end
end K03
set_option Elab.async false
set_option linter.all false
set_option pp.maxSteps 4000
set_option maxRecDepth 100000
set_option maxHeartbeats 4000000
/-! k03: the law's own calendar -/
namespace K03
open PySem PySem.Spec PyProof.Rows L2 Bs TL K02 K21 Xfs
abbrev sLL : Stmt := K21.top 27
abbrev sLM : Stmt := K21.top 28
abbrev sLA : Stmt := K21.top 29
abbrev sLN : Stmt := K21.top 30
abbrev sFi : Stmt := K21.top 32
theorem leap_law (y : Nat) : leapB y = if y % 100 = 0 then decide (y % 400 = 0) else decide (y % 4 = 0) := by
  rw [Bool.eq_iff_iff, leap_iff]
  split
  · rw [decide_eq_true_iff]
    omega
  · rw [decide_eq_true_iff]
    omega
theorem ahead_cent (k : Nat) : aheadI (100 * k + 1 + 100) = aheadI (100 * k + 1) + (36524 + if (100 * k + 100) % 400 = 0 then 1 else 0) := by
  rw [ahead_nat _ (by omega), ahead_nat _ (by omega)]
  split <;> omega
def monY (y : Nat) : List Int := [31, 28 + (if leapB y = true then 1 else 0), 31, 30, 31, 30, 31, 31, 30, 31, 30, 31]
theorem monY_at (y m : Nat) (h1 : 1 ≤ m) (h2 : m ≤ 12) : atI ((monY y).map V.int) ((m : Int) - 1) = some (.int (dinI y m)) := by
  unfold monY dinI
  have key : ∀ b : Bool, ∀ m : Nat, m ≤ 12 → 1 ≤ m → atI (([31, 28 + (if b = true then 1 else 0), 31, 30, 31, 30, 31, 31, 30, 31, 30, 31] : List Int).map V.int) ((m : Int) - 1) = some (.int (monL.getD (m - 1) 0 + if m = 2 ∧ b = true then 1 else 0)) := by decide +kernel
  exact key (leapB y) m h2 h1
section
variable {P : Program} {w : World} {K : PySem.W.Frag} {mg : Str → Option Value} {base : Heap}
theorem scLL : FnScope ["_law_year"] ["_law_year"] (defScope sLL) := ⟨rfl, rfl, rfl, by decide +kernel, rfl, by decide +kernel, by decide +kernel⟩
theorem ok_lleap {f : Addr} {fd : FuncData} (F : Fun K "_law_leap" "_law_leap" sLL f fd) : FnOk P w K mg base CX0 1 f fd ["_law_year"] spLeap := by
  refine F.ok scLL (fun vs H Q E h => ?_) (fun cdv A outer s H vs Q E hr h => ?_)
  · obtain ⟨y, rfl, _⟩ := h
    rfl
  · obtain ⟨y, rfl, q⟩ := h
    refine ⟨_, pss_cons (ps_if (pt_cmpR op_eq (pe_op op_mul (pe_op op_fdiv (pv 0) pe_int) pe_int) (pv 0) (nomark _)) (pss_one (ps_ret (pe_cmpR op_eq (pe_op op_mul (pe_op op_fdiv (pv 0) pe_int) pe_int) (pv 0) (nomark _)))) (pss_nil))
      (pss_one (ps_ret (pe_cmpR op_eq (pe_op op_mul (pe_op op_fdiv (pv 0) pe_int) pe_int) (pv 0) (nomark _)))), ?_⟩
    have e : ∀ n : Nat, 0 < n → decide (V.int ((y : Int) / (n : Int) * (n : Int)) = V.int (y : Int)) = decide (y % n = 0) := by
      intro n hn
      refine decide_eq_decide.mpr ⟨fun h => ?_, fun h => congrArg V.int ?_⟩
      · have h := V.int.inj h
        have h2 : y / n * n = y := by exact_mod_cast h
        have := Nat.div_add_mod y n
        rw [Nat.mul_comm] at this
        omega
      · have := Nat.div_add_mod y n
        rw [Nat.mul_comm] at this
        have h2 : y / n * n = y := by omega
        exact_mod_cast h2
    rw [leap_law] at q
    have e100 : decide (V.int ((y : Int) / 100 * 100) = V.int (y : Int)) = decide (y % 100 = 0) := e 100 (by decide)
    have e400 : decide (V.int ((y : Int) / 400 * 400) = V.int (y : Int)) = decide (y % 400 = 0) := e 400 (by decide)
    have e4 : decide (V.int ((y : Int) / 4 * 4) = V.int (y : Int)) = decide (y % 4 = 0) := e 4 (by decide)
    refine ⟨_, rfl, _, _, rfl, rfl, ⟨by decide, by decide⟩, _, _, rfl, rfl, .inr ⟨by decide, by decide⟩, _, rfl, rfl, _, rfl, ?_⟩
    dsimp only
    rw [e100]
    by_cases c : y % 100 = 0
    · rw [decide_eq_true c]
      rw [if_pos c] at q
      refine iteT ?_
      refine ⟨_, rfl, _, _, rfl, rfl, ⟨by decide, by decide⟩, _, _, rfl, rfl, .inr ⟨by decide, by decide⟩, _, rfl, rfl, ?_⟩
      dsimp only
      rw [e400]
      exact q
    · rw [decide_eq_false c]
      rw [if_neg c] at q
      refine iteF ?_
      unfold tNext
      dsimp only
      refine ⟨_, rfl, _, _, rfl, rfl, ⟨by decide, by decide⟩, _, _, rfl, rfl, .inr ⟨by decide, by decide⟩, _, rfl, rfl, ?_⟩
      dsimp only
      rw [e4]
      exact q
theorem scLM : FnScope ["_law_year", "_law_month_here"] ["_law_year", "_law_month_here"] (defScope sLM) := ⟨rfl, rfl, rfl, by decide +kernel, rfl, by decide +kernel, by decide +kernel⟩
def spLM : Sp := fun vs H Q _ => ∃ y m : Nat, vs = [.int (y : Int), .int (m : Int)] ∧ 1 ≤ m ∧ m ≤ 12 ∧ ∀ H', Same H H' → Q (.int (dinI y m)) H'
theorem ok_lmonth {f fLL : Addr} {fd dLL : FuncData} (F : Fun K "_law_month" "_law_month" sLM f fd) (T : Free mg) (FLL : Fun K "_law_leap" "_law_leap" sLL fLL dLL) (bLL : Binds K dLL ["_law_year"] []) (gLL : mg "_law_leap" = some (.ref fLL)) : FnOk P w K mg base CX0 2 f fd ["_law_year", "_law_month_here"] spLM := by
  have GLL : FnOk P w K mg base CX0 1 fLL dLL ["_law_year"] spLeap := ok_lleap FLL
  refine F.ok scLM (fun vs H Q E h => ?_) (fun cdv A outer s H vs Q E hr h => ?_)
  · obtain ⟨y, m, rfl, _⟩ := h
    rfl
  · obtain ⟨y, m, rfl, m1, m2, q⟩ := h
    refine ⟨_, pss_one (ps_ret (pe_ix (ix_listK (K := K) rfl) (pe_lst (pa_cons pe_int (pa_cons (pe_op op_add pe_int (pe_callTy call_int1 (by rfl) T.int (by decide +kernel) (pa_cons (pe_call GLL (hr.mono (by decide)) (by rfl) gLL FLL.kp bLL .nil pass0 (pa_cons (pv 0) pa_nil)) pa_nil))) (pa_cons pe_int (pa_cons pe_int (pa_cons pe_int (pa_cons pe_int (pa_cons pe_int (pa_cons pe_int (pa_cons pe_int (pa_cons pe_int (pa_cons pe_int (pa_cons pe_int pa_nil))))))))))))) (pe_op op_sub (pv 1) pe_int) (fun _ _ => rfl))), ?_⟩
    refine ⟨_, rfl, y, rfl, .inr ⟨_, rfl, _, _, rfl, rfl, ?_⟩⟩
    refine ⟨(show 12 ≤ sizeLine by decide), fun L nL => ?_⟩
    exact ⟨_, rfl, _, _, rfl, rfl, L, (monY y).map V.int, _, _, rfl, rfl, SqL.of upd_same, monY_at y m m1 m2, q _ (Same.new nL)⟩
abbrev nLA : List Str := ["_law_year", "_law_found", "_law_at"]
theorem scLA : FnScope nLA ["_law_year"] (defScope sLA) := ⟨rfl, rfl, rfl, by decide +kernel, rfl, by decide +kernel, by decide +kernel⟩
def spLA : Sp := fun vs H Q _ => ∃ y : Nat, vs = [.int (y : Int)] ∧ 1 ≤ y ∧ y ≤ 100000 ∧ ∀ H', Same H H' → Q (.int (aheadI y)) H'
theorem ok_lahead {f fLL : Addr} {fd dLL : FuncData} (F : Fun K "_law_ahead" "_law_ahead" sLA f fd) (T : Free mg) (FLL : Fun K "_law_leap" "_law_leap" sLL fLL dLL) (bLL : Binds K dLL ["_law_year"] []) (gLL : mg "_law_leap" = some (.ref fLL)) : FnOk P w K mg base CX0 2 f fd ["_law_year"] spLA := by
  have GLL : FnOk P w K mg base CX0 1 fLL dLL ["_law_year"] spLeap := ok_lleap FLL
  refine F.ok scLA (fun vs H Q E h => ?_) (fun cdv A outer s H vs Q E hr h => ?_)
  · obtain ⟨y, rfl, _⟩ := h
    rfl
  · obtain ⟨y, rfl, y1, y2, q⟩ := h
    refine ⟨_, pss_cons (ps_asg (pe_tup (pa_cons pe_int (pa_cons pe_int pa_nil))) (pg_tup rfl (pgs_cons (pg_name (i := 1) scLA.nd rfl (Or.inl rfl)) (pgs_cons (pg_name (i := 2) scLA.nd rfl (Or.inl rfl)) pgs_nil))))
      (pss_cons (ps_while PassesOwn.never (pt_cmpR op_le (pe_op op_add (pv 2) pe_int) (pv 0) (nomark _)) (pss_cons (ps_set (i := 1) scLA.nd rfl (Or.inl rfl) (pe_op op_add (pe_op op_add (pv 1) pe_int) (pe_callTy call_int1 (by rfl) T.int (by decide +kernel) (pa_cons (pe_cmpR op_eq (pe_op op_mul (pe_op op_fdiv (pe_op op_add (pv 2) pe_int) pe_int) pe_int) (pe_op op_add (pv 2) pe_int) (nomark _)) pa_nil))))
      (pss_one (ps_set (i := 2) scLA.nd rfl (Or.inl rfl) (pe_op op_add (pv 2) pe_int)))))
      (pss_cons (ps_while PassesOwn.never (pt_cmpR op_lt (pv 2) (pv 0) (nomark _)) (pss_cons (ps_set (i := 1) scLA.nd rfl (Or.inl rfl) (pe_op op_add (pe_op op_add (pv 1) pe_int) (pe_callTy call_int1 (by rfl) T.int (by decide +kernel) (pa_cons (pe_call GLL (hr.mono (by decide)) (by rfl) gLL FLL.kp bLL .nil pass0 (pa_cons (pv 2) pa_nil)) pa_nil))))
      (pss_one (ps_set (i := 2) scLA.nd rfl (Or.inl rfl) (pe_op op_add (pv 2) pe_int)))))
      (pss_one (ps_ret (pv 1))))), ?_⟩
    have st : aheadI 1 = 0 := by decide +kernel
    refine ⟨(show 2 ≤ sizeLine by decide), fun t nt => ?_⟩
    refine ⟨t, _, rfl, SqT.of upd_same, rfl, _, _, rfl, ?_⟩
    refine ⟨_, _, rfl, ?_⟩
    refine ⟨rfl, ?_⟩
    try dsimp only
    have sT : Same H (upd H t (.tup [.int 0, .int 1])) := Same.new nt
    generalize upd H t (.tup [.int 0, .int 1]) = H1 at *
    refine while_by (fun σ G => G = H1 ∧ ∃ k : Nat, 100 * k + 1 ≤ y ∧ σ = [some (.int (y : Int)), some (.int (aheadI (100 * k + 1))), some (.int ((100 * k + 1 : Nat) : Int))]) (fun σ _ => match σ with | [_, _, some (.int a)] => (y - a.toNat : Nat) | _ => 0) ⟨rfl, 0, by omega, by rw [show 100 * 0 + 1 = 1 from rfl, st]; rfl⟩ ?_ ?_
    · rintro σ G ⟨rfl, k, k1, rfl⟩
      refine ⟨_, rfl, _, _, rfl, rfl, _, rfl, _, _, rfl, rfl, _, rfl, ?_⟩
      by_cases c : 100 * k + 1 + 100 ≤ y
      · rw [decide_eq_true (by omega)]
        refine iteT ?_
        refine ⟨_, rfl, _, _, rfl, rfl, ?_⟩
        refine ⟨_, rfl, _, _, rfl, rfl, _, _, rfl, rfl, ⟨by decide, by decide⟩, _, _, rfl, rfl, .inr ⟨by decide, by decide⟩, _, rfl, _, _, rfl, rfl, rfl, ?_⟩
        dsimp only
        refine .inr ⟨_, rfl, _, _, rfl, rfl, ?_⟩
        dsimp only
        refine ⟨_, rfl, _, _, rfl, rfl, ?_⟩
        have e := ahead_cent k
        refine ⟨⟨rfl, k + 1, by omega, ?_⟩, ?_⟩
        · have e2 : decide (V.int ((((100 * k + 1 : Nat) : Int) + 99) / 400 * 400) = V.int (((100 * k + 1 : Nat) : Int) + 99)) = decide ((100 * k + 100) % 400 = 0) :=
            decide_eq_decide.mpr ⟨fun h => by have := V.int.inj h; omega, fun h => congrArg V.int (by omega)⟩
          rw [e2, show 100 * (k + 1) + 1 = 100 * k + 1 + 100 by omega, e]
          dsimp only [List.set]
          rw [show ((100 * k + 1 : Nat) : Int) + 100 = ((100 * k + 1 + 100 : Nat) : Int) by omega]
          by_cases c2 : (100 * k + 100) % 400 = 0
          · rw [decide_eq_true c2, if_pos c2, if_pos rfl, Int.add_assoc]
          · rw [decide_eq_false c2, if_neg c2, if_neg Bool.false_ne_true, Int.add_assoc]
        · show y - (((100 * k + 1 : Nat) : Int) + 100).toNat < y - (((100 * k + 1 : Nat) : Int)).toNat
          omega
      · rw [decide_eq_false (by omega)]
        refine iteF ?_
        dsimp only
        refine while_by (fun σ G' => G' = G ∧ ∃ a : Nat, 1 ≤ a ∧ a ≤ y ∧ σ = [some (.int (y : Int)), some (.int (aheadI a)), some (.int (a : Int))]) (fun σ _ => match σ with | [_, _, some (.int a)] => (y - a.toNat : Nat) | _ => 0) ⟨rfl, 100 * k + 1, by omega, by omega, rfl⟩ ?_ ?_
        · rintro σ G' ⟨rfl, a, a1, a2, rfl⟩
          refine ⟨_, rfl, _, rfl, _, _, rfl, rfl, _, rfl, ?_⟩
          by_cases ca : a < y
          · rw [decide_eq_true (by omega)]
            refine iteT ?_
            refine ⟨_, rfl, _, _, rfl, rfl, _, rfl, a, rfl, .inr ⟨_, rfl, _, _, rfl, rfl, ?_⟩⟩
            dsimp only
            refine ⟨_, rfl, _, _, rfl, rfl, ?_⟩
            refine ⟨⟨rfl, a + 1, by omega, by omega, ?_⟩, ?_⟩
            · rw [ahead_succ a a1]
              dsimp only [List.set]
              rw [show ((a + 1 : Nat) : Int) = (a : Int) + 1 by omega]
            · show y - ((a : Int) + 1).toNat < y - ((a : Int)).toNat
              omega
          · have ea : a = y := by omega
            subst ea
            rw [decide_eq_false (by omega)]
            exact iteF ⟨_, rfl, q _ sT⟩
        · rintro σ G' Q1 Q2 hQ ⟨v, e1, v2, e2, i2, j2, e6, e7, b, e8, q1⟩
          exact ⟨v, e1, v2, e2, i2, j2, e6, e7, b, e8, hQ _ _ q1⟩
    · rintro σ G' Q1 Q2 hQ ⟨v, e1, i, j, e2, e3, v4, e4, i2, j2, e6, e7, b, e8, q1⟩
      exact ⟨v, e1, i, j, e2, e3, v4, e4, i2, j2, e6, e7, b, e8, hQ _ _ q1⟩
end
end K03
set_option Elab.async false
set_option linter.all false
set_option pp.maxSteps 4000
set_option maxRecDepth 100000
set_option maxHeartbeats 4000000
/-! k03: the law's number of a day, its figures -/
namespace K03
open PySem PySem.Spec PyProof.Rows L2 Bs TL K02 K21 Xfs
theorem mulok_0 (k : Int) (h0 : -10 ≤ k) (h1 : k ≤ 10) : MulOk (Str.ofString "0") k := by
  have l1 : (Str.ofString "0").length = 1 := by decide +kernel
  unfold MulOk
  rw [l1]
  refine ⟨?_, fun a b => ?_, fun a b => ?_⟩
  · rw [decide_eq_false (by omega), decide_eq_false (by omega)]
    rfl
  · have : (1 : Int) * k ≤ 2 ^ 63 - 1 := by omega
    have := (Int.le_ediv_iff_mul_le (by omega : 0 < k)).mpr this
    show ¬ ((1 : Int) > (2 ^ 63 - 1) / k)
    omega
  · unfold Builtin.Str.tooLong sizeLine
    exact decide_eq_false (by omega)
theorem tl_mul0 (k : Int) (h1 : k ≤ 10) : tl (Txt.mul (Str.ofString "0") k) = zs k.toNat := by
  have l1 : (Str.ofString "0").length = 1 := by decide +kernel
  by_cases h : k < 1
  · unfold Txt.mul
    rw [if_pos h, show k.toNat = 0 by omega]
    rfl
  · rcases (show k = 1 ∨ k = 2 ∨ k = 3 ∨ k = 4 ∨ k = 5 ∨ k = 6 ∨ k = 7 ∨ k = 8 ∨ k = 9 ∨ k = 10 by omega) with rfl | rfl | rfl | rfl | rfl | rfl | rfl | rfl | rfl | rfl <;> decide +kernel
theorem pad_by (k a : Nat) (hk : k ≤ 10) : tl (Txt.mul (Str.ofString "0") ((k : Int) - ((Str.ofString (toString (a : Int))).length : Nat)) ++ Str.ofString (toString (a : Int))) = padL k a := by
  have e : tl (Str.ofString (toString (a : Int))) = numL a := tl_num a
  rw [tl_append, tl_mul0 _ (by omega), e, len_tl, e]
  unfold padL
  rw [show ((k : Int) - ((numL a).length : Nat)).toNat = k - (numL a).length by omega]
section
variable {P : Program} {w : World} {K : PySem.W.Frag} {mg : Str → Option Value} {base : Heap}
variable {fLL fLM fLA fTk : Addr} {dLL dLM dLA dTk : FuncData}
/-- the law's calendar -/
structure LCal (K : PySem.W.Frag) (mg : Str → Option Value) (fLL fLM fLA : Addr) (dLL dLM dLA : FuncData) : Prop where
  LL : Fun K "_law_leap" "_law_leap" sLL fLL dLL
  bLL : Binds K dLL ["_law_year"] []
  gLL : mg "_law_leap" = some (.ref fLL)
  LM : Fun K "_law_month" "_law_month" sLM fLM dLM
  bLM : Binds K dLM ["_law_year", "_law_month_here"] []
  gLM : mg "_law_month" = some (.ref fLM)
  LA : Fun K "_law_ahead" "_law_ahead" sLA fLA dLA
  bLA : Binds K dLA ["_law_year"] []
  gLA : mg "_law_ahead" = some (.ref fLA)
abbrev nLN : List Str := ["_law_year", "_law_month_here", "_law_day", "_law_one"]
theorem scLN : FnScope nLN ["_law_year", "_law_month_here", "_law_day"] (defScope sLN) := ⟨rfl, rfl, rfl, by decide +kernel, rfl, by decide +kernel, by decide +kernel⟩
theorem ok_lnum {f : Addr} {fd : FuncData} (F : Fun K "_law_number" "_law_number" sLN f fd) (T : Free mg) (C : LCal K mg fLL fLM fLA dLL dLM dLA) : FnOk P w K mg base CX0 3 f fd ["_law_year", "_law_month_here", "_law_day"] spNum := by
  have GLM : FnOk P w K mg base CX0 2 fLM dLM ["_law_year", "_law_month_here"] spLM := ok_lmonth C.LM T C.LL C.bLL C.gLL
  have GLA : FnOk P w K mg base CX0 2 fLA dLA ["_law_year"] spLA := ok_lahead C.LA T C.LL C.bLL C.gLL
  have FLM := C.LM
  have bLM := C.bLM
  have gLM := C.gLM
  have FLA := C.LA
  have bLA := C.bLA
  have gLA := C.gLA
  refine F.ok scLN (fun vs H Q E h => ?_) (fun cdv A outer s H vs Q E hr h => ?_)
  · obtain ⟨y, m, d, rfl, _⟩ := h
    rfl
  · obtain ⟨y, m, d, rfl, yl, ml, dl, q⟩ := h
    refine ⟨_, pss_cons (ps_if (PW.pt (pw_or (pt_not (pt_chain op_lt op_lt pe_int (pv 0) pe_int)) (pw_or (pt_not (pt_chain op_lt op_lt pe_int (pv 1) pe_int)) (pw_or1 (pt_not (pt_chain op_lt op_le pe_int (pv 2) (pe_call GLM (hr.mono (by decide)) (by rfl) gLM FLM.kp bLM .nil pass0 (pa_cons (pv 0) (pa_cons (pv 1) pa_nil))))))))) (pss_one (ps_ret pe_non)) (pss_nil))
      (pss_one (ps_ret (pe_op op_sub (pe_op op_add (pe_op op_add (pe_call GLA (hr.mono (by decide)) (by rfl) gLA FLA.kp bLA .nil pass0 (pa_cons (pv 0) pa_nil)) (pe_callB (cr_sum rfl) (by rfl) T.sum (by decide +kernel) (pa_cons (pe_lc (own := [("_law_one", 3)]) (g := gName 3) (tt := tYes) rfl scLN.nd (pi_range2 (by rfl) T.range (pa_cons pe_int (pa_cons (pv 1) pa_nil))) (blkOk_by (own := [("_law_one", 3)]) (N := nLN) (sc := defScope sLN) (by decide +kernel)) (fun _ _ _ _ _ => (pg_name (i := 3) scLN.nd rfl (Or.inl rfl))) (fun _ _ _ _ _ => pts_nil) (fun _ _ _ _ _ => (pe_call GLM (hr.mono (by decide)) (by rfl) gLM FLM.kp bLM .nil pass0 (pa_cons (pv 0) (pa_cons (pv 3) pa_nil))))) pa_nil))) (pv 2)) pe_int))), ?_⟩
    have qn : ¬ (1 ≤ y ∧ 1 ≤ m ∧ m ≤ 12 ∧ 1 ≤ d ∧ (d : Int) ≤ dinI y m) → ∀ H', Same H H' → Q .non H' := fun n H' s => by
      have z := q H' s
      unfold numI at z
      rw [if_neg n] at z
      exact z
    refine ⟨_, rfl, _, _, rfl, rfl, _, rfl, ?_⟩
    by_cases y1 : 1 ≤ y
    · rw [decide_eq_true (show (0 : Int) < (y : Int) by omega)]
      refine iteT ⟨_, _, rfl, rfl, ?_⟩
      refine ⟨_, rfl, ?_⟩
      rw [decide_eq_true (show (y : Int) < 10000 by omega)]
      refine iteF ⟨_, rfl, _, _, rfl, rfl, _, rfl, ?_⟩
      by_cases m1 : 1 ≤ m
      · rw [decide_eq_true (show (0 : Int) < (m : Int) by omega)]
        refine iteT ⟨_, _, rfl, rfl, ?_⟩
        refine ⟨_, rfl, ?_⟩
        by_cases m12 : m ≤ 12
        · rw [decide_eq_true (show (m : Int) < 13 by omega)]
          refine iteF ?_
          refine ⟨_, rfl, _, _, rfl, rfl, _, rfl, ?_⟩
          by_cases d1 : 1 ≤ d
          · rw [decide_eq_true (show (0 : Int) < (d : Int) by omega)]
            refine iteT ⟨_, rfl, _, rfl, y, m, rfl, m1, m12, fun H1 s1 => ?_⟩
            refine ⟨_, _, rfl, rfl, ?_⟩
            refine ⟨_, rfl, ?_⟩
            by_cases dd : (d : Int) ≤ dinI y m
            · rw [decide_eq_true dd]
              refine iteF ?_
              unfold tNext
              dsimp only
              refine ⟨_, rfl, y, rfl, y1, by omega, fun H2 s2 => ?_⟩
              refine ⟨_, rfl, 1, (m : Int), rfl, ⟨by decide, by decide, by omega, by omega⟩, fun D nD => ?_⟩
              refine lc_val (walk_range (lo := 1) (n := ((m : Int) - 1).toNat)) (Z := fun j x => x = .int (1 + (j : Nat))) (fun j => .int (dinI y (1 + j))) nD (fun _ _ _ _ e => e) (fun _ _ => trivial) (by omega) (fun _ => rfl) ?_ ?_
              · rintro j x G Q' hj rfl sG kG
                exact ⟨_, rfl, _, rfl, y, 1 + j, by rw [Int.natCast_add]; rfl, by omega, by omega, kG⟩
              · intro G sG eG
                have em : ((m : Int) - 1).toNat = m - 1 := by omega
                rw [em] at eG
                refine ⟨D, (List.range (m - 1)).map fun j => dinI y (1 + j), rfl, SqL.of ?_, _, _, rfl, rfl, _, rfl, _, _, rfl, rfl, _, _, rfl, rfl, ?_⟩
                · rw [eG, List.map_map]
                  rfl
                · have z := q G ((s1.trans s2).trans sG)
                  unfold numI at z
                  rw [if_pos ⟨y1, m1, m12, d1, dd⟩] at z
                  exact z
            · rw [decide_eq_false dd]
              exact iteT (qn (fun h => dd h.2.2.2.2) H1 s1)
          · rw [decide_eq_false (show ¬ (0 : Int) < (d : Int) by omega)]
            exact iteF ⟨_, rfl, iteT (qn (fun h => d1 h.2.2.2.1) H (Same.refl _))⟩
        · rw [decide_eq_false (show ¬ (m : Int) < 13 by omega)]
          exact iteT (qn (fun h => m12 h.2.2.1) H (Same.refl _))
      · rw [decide_eq_false (show ¬ (0 : Int) < (m : Int) by omega)]
        exact iteF ⟨_, rfl, iteT (qn (fun h => m1 h.2.1) H (Same.refl _))⟩
    · rw [decide_eq_false (show ¬ (0 : Int) < (y : Int) by omega)]
      exact iteF ⟨_, rfl, iteT (qn (fun h => y1 h.1) H (Same.refl _))⟩
abbrev nFi : List Str := ["_law_hand_here", "_law_its", "_law_wide", "_law_found"]
theorem scFi : FnScope nFi ["_law_hand_here", "_law_its", "_law_wide"] (defScope sFi) := ⟨rfl, rfl, rfl, by decide +kernel, rfl, by decide +kernel, by decide +kernel⟩
def spFi : Sp := fun vs H Q _ => ∃ (h : Addr) (n a : Nat), vs = [.ref h, .int (a : Int), .int 2] ∧ HandAt H h n ∧ n < 900000 ∧ a < 100 ∧ ∀ (z : Str) (H' : Hp), (tl z = padL 2 a ∨ tl z = numL a) → HandAt H' h (n + 1) → But h H H' → Q (.str z) H'
theorem ok_figs {f : Addr} {fd : FuncData} (F : Fun K "_law_figures" "_law_figures" sFi f fd) (T : Free mg) (FTk : Fun K "_law_take" "_law_take" sTake fTk dTk) (bTk : Binds K dTk ["_law_hand_here", "_law_many"] []) (gTk : mg "_law_take" = some (.ref fTk)) : FnOk P w K mg base CX0 2 f fd ["_law_hand_here", "_law_its", "_law_wide"] spFi := by
  have GTk : FnOk P w K mg base CX0 1 fTk dTk ["_law_hand_here", "_law_many"] spTake := ok_take FTk
  refine F.ok scFi (fun vs H Q E h => ?_) (fun cdv A outer s H vs Q E hr h => ?_)
  · obtain ⟨h, n, a, rfl, _⟩ := h
    rfl
  · obtain ⟨h, n, a, rfl, hd, nb, ab, q⟩ := h
    refine ⟨_, pss_cons (ps_set (i := 3) scFi.nd rfl (Or.inl rfl) (pe_callTy call_str_int (by rfl) T.str (by decide +kernel) (pa_cons (pv 1) pa_nil)))
      (pss_one (ps_ret (pe_ifExp (pt_cmpR op_gt (pe_call GTk (hr.mono (by decide)) (by rfl) gTk FTk.kp bTk .nil pass0 (pa_cons (pv 0) (pa_cons pe_int pa_nil))) pe_int (nomark _)) (pe_op op_add_str (pe_op op_mulS pe_str (pe_op op_sub (pv 2) (pe_callB call_len_str (by rfl) T.len PySem.boot_len (pa_cons (pv 3) pa_nil)))) (pv 3)) (pv 3)))), ?_⟩
    have ta : tl (Str.ofString (toString (a : Int))) = numL a := tl_num a
    have la : (Str.ofString (toString (a : Int))).length ≤ 2 := by
      rw [len_tl, ta]
      exact numL_len (by decide) (by omega)
    have lz : (Str.ofString (toString (a : Int))).length ≤ sizeLine := Nat.le_trans la (by decide)
    have pb := pad_by 2 a (by decide)
    refine ⟨_, rfl, _, rfl, ?_, ?_⟩
    · rw [Int.natAbs_natCast]
      exact Nat.lt_of_le_of_lt (Nat.log2_le_self a) (by omega)
    refine ⟨_, rfl, h, n, 3, rfl, hd, by omega, by decide, by decide, fun r H1 r0 r1 hd1 b1 => ?_⟩
    refine ⟨_, _, rfl, rfl, _, rfl, ?_⟩
    refine ite2 (fun _ => ?_) (fun _ => ?_)
    · refine ⟨_, rfl, _, rfl, _, rfl, lz, _, _, rfl, rfl, _, _, rfl, rfl, mulok_0 _ (by omega) (by omega), _, rfl, _, _, rfl, rfl, ?_, ?_⟩
      · have e1 : (Txt.mul (Str.ofString "0") ((2 : Int) - ((Str.ofString (toString (a : Int))).length : Nat))).length ≤ 2 := by
          rw [len_tl, tl_mul0 _ (by omega)]
          simp [zs]
        exact Nat.le_trans (Nat.add_le_add e1 la) (by decide)
      · exact q _ _ (.inl pb) hd1 b1
    · exact ⟨_, rfl, q _ _ (.inr ta) hd1 b1⟩
end
end K03
set_option Elab.async false
set_option linter.all false
set_option pp.maxSteps 4000
set_option maxRecDepth 100000
set_option maxHeartbeats 4000000
/-! k03: what a text of three parts reads as -/
namespace K03
open PySem PySem.Spec PyProof.Rows L2 Bs TL K02 K21 Xfs
def Sep (c : Nat) : Prop := c = 45 ∨ c = 46 ∨ c = 47
def NoSep (l : List Nat) : Prop := ∀ c ∈ l, ¬ Sep c
theorem NoSep.app {a b : List Nat} (h : NoSep a) (g : NoSep b) : NoSep (a ++ b) := fun c hc => (List.mem_append.mp hc).elim (h c) (g c)
theorem digits_nosep {l : List Nat} (h : l.all dg = true) : NoSep l := by
  intro c hc
  have := List.all_eq_true.mp h c hc
  unfold dg at this
  simp only [Bool.and_eq_true, decide_eq_true_eq] at this
  unfold Sep
  omega
theorem count_nosep {l : List Nat} (h : NoSep l) {t : Nat} (ht : Sep t) : l.count t = 0 := List.count_eq_zero.mpr fun m => h t m ht
theorem cut_first (s : Nat) : ∀ (a r : List Nat), s ∉ a → cutAt s (a ++ s :: r) = a :: cutAt s r
  | [], r, _ => by
    show cutAt s (s :: r) = _
    rw [cutAt_cons, if_pos rfl]
  | c :: a, r, h => by
    have hc : c ≠ s := fun e => h (e ▸ List.mem_cons_self)
    show cutAt s (c :: (a ++ s :: r)) = _
    rw [cutAt_cons, if_neg hc, cut_first s a r fun m => h (List.mem_cons_of_mem _ m)]
    rfl
theorem cut_last (s : Nat) : ∀ (a : List Nat), s ∉ a → cutAt s a = [a]
  | [], _ => rfl
  | c :: a, h => by
    have hc : c ≠ s := fun e => h (e ▸ List.mem_cons_self)
    rw [cutAt_cons, if_neg hc, cut_last s a fun m => h (List.mem_cons_of_mem _ m)]
    rfl
theorem split_len (l : List Nat) {t : Nat} (ht : Sep t) : (Txt.split (S l) ⟨#[t]⟩).length = l.count t + 1 := by
  have h256 : t < 256 := by
    unfold Sep at ht
    omega
  rw [split_cut _ h256, List.length_map, tl_S, cutAt_count]
theorem dayS3 (o : Str) (l : List Nat) : dayS o (S l) btw = if l.count 45 = 2 then dayQ o (Txt.split (S l) ⟨#[45]⟩) else if l.count 46 = 2 then dayQ o (Txt.split (S l) ⟨#[46]⟩) else if l.count 47 = 2 then dayQ o (Txt.split (S l) ⟨#[47]⟩) else none := by
  obtain ⟨e1, e2, e3⟩ := ofS1
  unfold btw
  rw [e1, e2, e3]
  have c1 := split_len l (t := 45) (by unfold Sep; omega)
  have c2 := split_len l (t := 46) (by unfold Sep; omega)
  have c3 := split_len l (t := 47) (by unfold Sep; omega)
  show (if (Txt.split (S l) ⟨#[45]⟩).length = 3 then _ else if (Txt.split (S l) ⟨#[46]⟩).length = 3 then _ else if (Txt.split (S l) ⟨#[47]⟩).length = 3 then _ else none) = _
  rw [c1, c2, c3]
  have k : ∀ n : Nat, (n + 1 = 3) ↔ n = 2 := fun n => by omega
  simp only [k]
theorem day_none {o : Str} {l : List Nat} (h1 : l.count 45 ≠ 2) (h2 : l.count 46 ≠ 2) (h3 : l.count 47 ≠ 2) : dayS o (S l) btw = none := by
  rw [dayS3, if_neg h1, if_neg h2, if_neg h3]
theorem day_parts {o : Str} {a b c : List Nat} {s : Nat} (hs : Sep s) (ha : NoSep a) (hb : NoSep b) (hc : NoSep c) : dayS o (S (a ++ s :: (b ++ s :: c))) btw = dayQ o [S a, S b, S c] := by
  have cnt : ∀ t, Sep t → (a ++ s :: (b ++ s :: c)).count t = if t = s then 2 else 0 := by
    intro t ht
    rw [List.count_append, List.count_cons, List.count_append, List.count_cons, count_nosep ha ht, count_nosep hb ht, count_nosep hc ht]
    by_cases e : t = s
    · subst e
      simp
    · have e' : (s == t) = false := beq_eq_false_iff_ne.mpr (Ne.symm e)
      simp [e, e']
  have parts : Txt.split (S (a ++ s :: (b ++ s :: c))) ⟨#[s]⟩ = [S a, S b, S c] := by
    have h256 : s < 256 := by
      unfold Sep at hs
      omega
    rw [split_cut _ h256, tl_S, cut_first s a _ (fun m => ha s m hs), cut_first s b _ (fun m => hb s m hs), cut_last s c (fun m => hc s m hs)]
    rfl
  rw [dayS3, cnt 45 (.inl rfl), cnt 46 (.inr (.inl rfl)), cnt 47 (.inr (.inr rfl))]
  rcases hs with rfl | rfl | rfl
  · rw [if_pos (by decide), parts]
  · rw [if_neg (by decide), if_pos (by decide), parts]
  · rw [if_neg (by decide), if_neg (by decide), if_pos (by decide), parts]
theorem ne_ord : Str.ofString "dmy" ≠ Str.ofString "ymd" ∧ Str.ofString "mdy" ≠ Str.ofString "ymd" ∧ Str.ofString "mdy" ≠ Str.ofString "dmy" := by decide +kernel
/-- the parts as they stand in the text -/
def seq3 (o Y M D : Str) : Str × Str × Str := if o = Str.ofString "ymd" then (Y, M, D) else if o = Str.ofString "dmy" then (D, M, Y) else (M, D, Y)
theorem join3 (s a b c : Str) : tl (Txt.join s [a, b, c]) = tl a ++ (tl s ++ (tl b ++ (tl s ++ tl c))) := by
  rw [TL.join_eq, TL.tl_join]
  simp [joinL]
theorem laid_tl {o : Str} (h : IsOrd o) (s Y M D : Str) : tl (laidS o s Y M D) = tl (seq3 o Y M D).1 ++ (tl s ++ (tl (seq3 o Y M D).2.1 ++ (tl s ++ tl (seq3 o Y M D).2.2))) := by
  obtain ⟨n1, n2, n3⟩ := ne_ord
  unfold laidS seq3
  rcases h with rfl | rfl | rfl
  · rw [if_pos rfl, ← join3]
    rfl
  · rw [if_neg n1, if_pos rfl, ← join3]
    rfl
  · rw [if_neg n2, if_neg n3, ← join3]
    rfl
theorem seq_day {o : Str} (h : IsOrd o) (Y M D : Str) : dayQ o [(seq3 o Y M D).1, (seq3 o Y M D).2.1, (seq3 o Y M D).2.2] = dayP (tl Y) (tl M) (tl D) := by
  obtain ⟨n1, n2, n3⟩ := ne_ord
  unfold dayQ seq3 ord3
  rcases h with rfl | rfl | rfl
  · simp only [if_pos rfl]
    rfl
  · simp only [if_neg n1, if_pos rfl]
    rfl
  · simp only [if_neg n2, if_neg n3]
    rfl
theorem seq_all {o : Str} {Y M D : Str} {p : Str → Prop} (hY : p Y) (hM : p M) (hD : p D) : p (seq3 o Y M D).1 ∧ p (seq3 o Y M D).2.1 ∧ p (seq3 o Y M D).2.2 := by
  unfold seq3
  split
  · exact ⟨hY, hM, hD⟩
  · split
    · exact ⟨hD, hM, hY⟩
    · exact ⟨hM, hD, hY⟩
theorem dayP_bad {Y M D : List Nat} (h : Y.all dg = false ∨ M.all dg = false ∨ D.all dg = false) : dayP Y M D = none := by
  unfold dayP
  refine if_neg ?_
  rintro ⟨_, h1, h2, h3⟩
  unfold figs at h1 h2 h3
  simp only [Bool.and_eq_true] at h1 h2 h3
  rcases h with h | h | h
  · rw [h1.2] at h; cases h
  · rw [h2.2] at h; cases h
  · rw [h3.2] at h; cases h
theorem first_bad {o a b c : Str} (h : IsOrd o) (e : (tl a).all dg = false) : dayQ o [a, b, c] = none := by
  obtain ⟨n1, n2, n3⟩ := ne_ord
  unfold dayQ ord3
  rcases h with rfl | rfl | rfl
  · simp only [if_pos rfl]
    exact dayP_bad (.inl e)
  · simp only [if_neg n1, if_pos rfl]
    exact dayP_bad (.inr (.inr e))
  · simp only [if_neg n2, if_neg n3]
    exact dayP_bad (.inr (.inl e))
/-- a part of figures: at most k of them, that tell n -/
def Fig (k n : Nat) (z : Str) : Prop := 1 ≤ (tl z).length ∧ (tl z).length ≤ k ∧ (tl z).all dg = true ∧ val (tl z) = n
theorem fig_pad {k n : Nat} (h : n < 10 ^ k) (k1 : 1 ≤ k) {z : Str} (e : tl z = padL k n) : Fig k n z := by
  have l1 := padL_len k n
  have l2 := padL_le h (by omega : 0 < k) (Nat.le_refl k)
  refine ⟨by rw [e]; omega, by rw [e]; exact l2, ?_, by rw [e, padL_val]⟩
  rw [e]
  exact List.all_eq_true.mpr fun c hc => dg_iff.mpr (padL_digits k n c hc)
theorem fig_num {n : Nat} (h : n < 100) {z : Str} (e : tl z = numL n) : Fig 2 n z := by
  have l1 := numL_pos n
  have l2 := numL_len (by decide : 0 < 2) (show n < 10 ^ 2 by omega)
  refine ⟨by rw [e]; omega, by rw [e]; exact l2, ?_, by rw [e]; exact numL_val n⟩
  rw [e]
  exact List.all_eq_true.mpr fun c hc => dg_iff.mpr (numL_digits n c hc)
theorem dayP_fig {y m d : Nat} {Y M D : Str} (hY : Fig 4 y Y) (l4 : (tl Y).length = 4) (hM : Fig 2 m M) (hD : Fig 2 d D) : dayP (tl Y) (tl M) (tl D) = numI y m d := by
  obtain ⟨a1, a2, a3, a4⟩ := hY
  obtain ⟨b1, b2, b3, b4⟩ := hM
  obtain ⟨c1, c2, c3, c4⟩ := hD
  have f : ∀ {k : Nat} {l : List Nat}, 1 ≤ l.length → l.length ≤ k → l.all dg = true → figs k l = true := by
    intro k l h1 h2 h3
    unfold figs
    rw [decide_eq_true h1, decide_eq_true h2, h3]
    rfl
  unfold dayP
  rw [if_pos ⟨l4, f a1 a2 a3, f b1 b2 b3, f c1 c2 c3⟩, a4, b4, c4]
/-! the law's texts -/
def sg (c : Nat) : Str := ⟨#[c]⟩
theorem tl_sg (c : Nat) : tl (sg c) = [c] := rfl
/-- three parts of figures, a sign between -/
theorem read_good {o : Str} (h : IsOrd o) {s : Nat} (hs : Sep s) {Y M D : Str} {y m d : Nat} (hY : Fig 4 y Y) (l4 : (tl Y).length = 4) (hM : Fig 2 m M) (hD : Fig 2 d D) : dayS o (laidS o (sg s) Y M D) btw = numI y m d := by
  obtain ⟨a, b, c⟩ := seq_all (o := o) (p := fun z => NoSep (tl z)) (digits_nosep hY.2.2.1) (digits_nosep hM.2.2.1) (digits_nosep hD.2.2.1)
  have e := laid_tl h (sg s) Y M D
  rw [tl_sg] at e
  have e2 : laidS o (sg s) Y M D = S (tl (seq3 o Y M D).1 ++ s :: (tl (seq3 o Y M D).2.1 ++ s :: tl (seq3 o Y M D).2.2)) := by
    rw [← S_tl (laidS o (sg s) Y M D), e]
    rfl
  rw [e2, day_parts hs a b c, S_tl, S_tl, S_tl, seq_day h, dayP_fig hY l4 hM hD]
/-- a year of another length -/
theorem read_long {o : Str} (h : IsOrd o) {s : Nat} (hs : Sep s) {Y M D : Str} (hY : (tl Y).all dg = true) (l4 : (tl Y).length ≠ 4) (hM : (tl M).all dg = true) (hD : (tl D).all dg = true) : dayS o (laidS o (sg s) Y M D) btw = none := by
  obtain ⟨a, b, c⟩ := seq_all (o := o) (p := fun z => NoSep (tl z)) (digits_nosep hY) (digits_nosep hM) (digits_nosep hD)
  have e := laid_tl h (sg s) Y M D
  rw [tl_sg] at e
  have e2 : laidS o (sg s) Y M D = S (tl (seq3 o Y M D).1 ++ s :: (tl (seq3 o Y M D).2.1 ++ s :: tl (seq3 o Y M D).2.2)) := by
    rw [← S_tl (laidS o (sg s) Y M D), e]
    rfl
  rw [e2, day_parts hs a b c, S_tl, S_tl, S_tl, seq_day h]
  unfold dayP
  exact if_neg fun q => l4 q.1
/-- a text of figures and two signs s: its shape -/
structure Laid (o : Str) (s : Nat) (z : Str) where
  a : List Nat
  b : List Nat
  c : List Nat
  e : tl z = a ++ s :: (b ++ s :: c)
  ha : a.all dg = true
  hb : b.all dg = true
  hc : c.all dg = true
theorem laid_shape {o : Str} (h : IsOrd o) (s : Nat) {Y M D : Str} (hY : (tl Y).all dg = true) (hM : (tl M).all dg = true) (hD : (tl D).all dg = true) : Nonempty (Laid o s (laidS o (sg s) Y M D)) := by
  obtain ⟨a, b, c⟩ := seq_all (o := o) (p := fun z => (tl z).all dg = true) hY hM hD
  refine ⟨⟨_, _, _, ?_, a, b, c⟩⟩
  rw [laid_tl h, tl_sg]
  rfl
theorem Laid.count {o z : Str} {s t : Nat} (L : Laid o s z) (hs : Sep s) (ht : Sep t) : (tl z).count t = if t = s then 2 else 0 := by
  rw [L.e, List.count_append, List.count_cons, List.count_append, List.count_cons, count_nosep (digits_nosep L.ha) ht, count_nosep (digits_nosep L.hb) ht, count_nosep (digits_nosep L.hc) ht]
  by_cases e : t = s
  · subst e
    simp
  · have e' : (s == t) = false := beq_eq_false_iff_ne.mpr (Ne.symm e)
    simp [e, e']
/-- a sign more -/
theorem read_more {o z : Str} {s : Nat} (L : Laid o s z) (hs : Sep s) {x y : List Nat} (hx : (∀ t, Sep t → t ≠ s → x.count t = 0) ∧ x.count s + y.count s = 1) (hy : ∀ t, Sep t → t ≠ s → y.count t = 0) : dayS o (S (x ++ (tl z ++ y))) btw = none := by
  have k : ∀ t, Sep t → (x ++ (tl z ++ y)).count t ≠ 2 := by
    intro t ht
    rw [List.count_append, List.count_append, L.count hs ht]
    by_cases e : t = s
    · subst e
      rw [if_pos rfl]
      omega
    · rw [if_neg e, hx.1 t ht e, hy t ht e]
      decide
  exact day_none (k 45 (.inl rfl)) (k 46 (.inr (.inl rfl))) (k 47 (.inr (.inr rfl)))
/-- a sign ahead that is no figure -/
theorem read_lead {o z : Str} {s : Nat} (h : IsOrd o) (L : Laid o s z) (hs : Sep s) {c : Nat} (hc : ¬ Sep c) (nd : dg c = false) : dayS o (S (c :: tl z)) btw = none := by
  have e : c :: tl z = (c :: L.a) ++ s :: (L.b ++ s :: L.c) := by
    rw [L.e]
    rfl
  have na : NoSep (c :: L.a) := by
    intro x hx
    rcases List.mem_cons.mp hx with rfl | hx
    · exact hc
    · exact digits_nosep L.ha x hx
  rw [e, day_parts hs na (digits_nosep L.hb) (digits_nosep L.hc)]
  refine first_bad h ?_
  rw [tl_S, List.all_cons, nd]
  rfl
/-- one sign for another -/
theorem read_bent {o z : Str} {s t : Nat} (L : Laid o s z) (hs : Sep s) (ne : t ≠ s) : dayS o (S (L.a ++ t :: (L.b ++ s :: L.c))) btw = none := by
  have k : ∀ u, Sep u → (L.a ++ t :: (L.b ++ s :: L.c)).count u ≠ 2 := by
    intro u hu
    rw [List.count_append, List.count_cons, List.count_append, List.count_cons, count_nosep (digits_nosep L.ha) hu, count_nosep (digits_nosep L.hb) hu, count_nosep (digits_nosep L.hc) hu]
    by_cases e : u = s
    · subst e
      have : (t == u) = false := beq_eq_false_iff_ne.mpr ne
      simp [this]
    · have e1 : (s == u) = false := beq_eq_false_iff_ne.mpr (Ne.symm e)
      simp only [e1]
      cases (t == u) <;> decide
  exact day_none (k 45 (.inl rfl)) (k 46 (.inr (.inl rfl))) (k 47 (.inr (.inr rfl)))
end K03
set_option Elab.async false
set_option linter.all false
set_option pp.maxSteps 4000
set_option maxRecDepth 100000
set_option maxHeartbeats 4000000
/-! k03: one sign put for another -/
namespace K03
open PySem PySem.Spec PyProof.Rows L2 Bs TL K02 K21 Xfs Xi1
theorem sg_at (l : List Nat) (s i : Nat) : StrLaws.At (S l) (sg s) (S l).length i ↔ l[i]? = some s := by
  unfold StrLaws.At
  rw [StrLaws.subAt_eq, S_len]
  show i + 1 ≤ l.length ∧ ((l.drop i).take 1 == [s]) = true ↔ _
  rw [beq_iff_eq]
  by_cases h : i < l.length
  · rw [List.drop_eq_getElem_cons h, List.getElem?_eq_getElem h]
    constructor
    · rintro ⟨_, q⟩
      exact congrArg some (List.cons.inj (show [l[i]] = [s] from q)).1
    · intro q
      refine ⟨by omega, ?_⟩
      show [l[i]] = [s]
      rw [Option.some.inj q]
  · rw [List.getElem?_eq_none (by omega), List.drop_eq_nil_of_le (by omega)]
    simp
theorem first_occ {a r : List Nat} {s : Nat} (h : s ∉ a) : Builtin.Str.occurrences (S (a ++ s :: r)) (sg s) 0 (S (a ++ s :: r)).length 1 = [a.length] := by
  have le := cut1 (S (a ++ s :: r)) (sg s)
  have here : StrLaws.At (S (a ++ s :: r)) (sg s) (S (a ++ s :: r)).length a.length := by
    rw [sg_at, List.getElem?_append_right (Nat.le_refl _), Nat.sub_self]
    rfl
  have ahead : ∀ k, k < a.length → ¬ StrLaws.At (S (a ++ s :: r)) (sg s) (S (a ++ s :: r)).length k := by
    intro k hk q
    rw [sg_at, List.getElem?_append_left hk] at q
    exact h (List.mem_of_getElem? q)
  rcases StrLaws.occ_head (S (a ++ s :: r)) (sg s) 1 (Nat.le_refl 1) with ⟨_, hn⟩ | ⟨i, r', h0, hi, hn⟩
  · exact (hn _ here).elim
  · rw [h0] at le ⊢
    have er : r' = [] := by
      cases r' with
      | nil => rfl
      | cons _ _ => simp at le
    have ei : i = a.length := by
      rcases Nat.lt_trichotomy i a.length with c | c | c
      · exact (ahead i c hi).elim
      · exact c
      · exact (hn _ c here).elim
    rw [er, ei]
theorem repl_first {a r : List Nat} {s t : Nat} (h : s ∉ a) : repl1 (S (a ++ s :: r)) (sg s) (sg t) = S (a ++ t :: r) := by
  unfold repl1
  rw [first_occ h, StrLaws.glued_eq_join]
  apply TL.ext_tl
  have e : Builtin.Str.partsBetween (S (a ++ s :: r)) [a.length] (sg s).length = [Builtin.Str.strSub (S (a ++ s :: r)) 0 a.length, Builtin.Str.strSub (S (a ++ s :: r)) (a.length + 1) (S (a ++ s :: r)).length] := rfl
  rw [e, TL.tl_join]
  simp only [List.map_cons, List.map_nil]
  rw [tl_strSub, tl_strSub_end, tl_S, tl_S, tl_sg]
  simp [joinL]
end K03
set_option Elab.async false
set_option linter.all false
set_option pp.maxSteps 4000
set_option maxRecDepth 100000
set_option maxHeartbeats 4000000
/-! k03: a case: a text and what it is due -/
namespace K03
open PySem PySem.Spec PyProof.Rows L2 Bs TL K02 K21 Xfs Xa Xb Xp Xi1
abbrev sCa : Stmt := K21.top 33
section
variable {P : Program} {w : World} {K : PySem.W.Frag} {mg : Str → Option Value} {base : Heap}
variable {fTk fPk : Addr} {dTk dPk : FuncData}
def spPz : Sp := fun vs H Q _ => ∃ (h : Addr) (n : Nat) (z : Str), vs = [.ref h, .str z] ∧ HandAt H h n ∧ n < 1000000 ∧ 0 < z.length ∧ z.length ≤ 1000 ∧ ∀ (c : Nat) (H' : Hp), c ∈ z.cps.toList → HandAt H' h (n + 1) → But h H H' → Q (.str (sg c)) H'
theorem fnz_pick (F : Fun K "_law_pick" "_law_pick" sPick fPk dPk) (T : Free mg) (FT : Fun K "_law_take" "_law_take" sTake fTk dTk) (bT : Binds K dTk ["_law_hand_here", "_law_many"] []) (gT : mg "_law_take" = some (.ref fTk)) :
    FnNz P w K mg base 2 fPk dPk ["_law_hand_here", "_law_some"] spPz := by
  have GT : FnOk P w K mg base CX0 1 fTk dTk ["_law_hand_here", "_law_many"] spTake := ok_take FT
  refine fnz_of F scP (fun vs H Q E h => ?_) (fun cdv A outer s H vs Q E hr h => ?_)
  · obtain ⟨h, n, z, rfl, _⟩ := h
    rfl
  · obtain ⟨h, n, z, rfl, hd, nb, l0, l1, k⟩ := h
    have big : 1000 ≤ sizeLine := by decide
    refine ⟨_, prz_ret (pen_ixs (pv 1) (pe_call GT hr (by rfl) gT FT.kp bT .nil pass0 (pa_cons (pv 0) (pa_cons (pe_callB call_len_str (by rfl) T.len PySem.boot_len (pa_cons (pv 1) pa_nil)) pa_nil))) (fun _ _ => rfl)), ?_⟩
    refine ⟨_, rfl, _, rfl, _, rfl, z, rfl, by omega, h, n, _, rfl, hd, nb, by omega, by omega, fun r H' r0 r1 hd' bt => ?_⟩
    have zl : z.length = z.cps.toList.length := by simp [Str.length]
    have rl : r.toNat < z.cps.toList.length := by omega
    refine ⟨z, r, z.cps.toList[r.toNat], rfl, rfl, by omega, ?_, ?_⟩
    · have e := atI_nat (xs := z.cps.toList) (j := r.toNat) (List.getElem?_eq_getElem rl)
      rw [Int.toNat_of_nonneg r0] at e
      exact e
    · exact k _ _ (List.getElem_mem rl) hd' bt
end
end K03
set_option Elab.async false
set_option linter.all false
set_option pp.maxSteps 6000
set_option maxRecDepth 100000
set_option maxHeartbeats 8000000
/-! k03: a case -/
namespace K03
open PySem PySem.Spec PyProof.Rows L2 Bs TL in
theorem tl_from1 (z : Str) : tl (cutS z (some 1) none) = (tl z).drop 1 := by
  show ((tl z).drop (HT.sIx z.length 0 (some ((1 : Nat) : Int)))).take (HT.sIx z.length z.length none - HT.sIx z.length 0 (some ((1 : Nat) : Int))) = (tl z).drop 1
  rw [HT.sIx_none, HT.sIx_nat, len_tl]
  by_cases h : 1 ≤ (tl z).length
  · rw [Nat.min_eq_left h, List.take_of_length_le (by rw [List.length_drop]; omega)]
  · rw [Nat.min_eq_right (by omega), Nat.sub_self, List.take_zero, List.drop_of_length_le (by omega)]
open PySem PySem.Spec PyProof.Rows L2 Bs TL K02 K21 Xfs Xa Xb Xp Xi1
section
variable {P : Program} {w : World} {K : PySem.W.Frag} {mg : Str → Option Value} {base : Heap}
variable {fTk fPk fLL fLM fLA fLN fLd fFi : Addr} {dTk dPk dLL dLM dLA dLN dLd dFi : FuncData}
abbrev nCa : List Str := ["_law_hand_here", "_law_order", "_law_year", "_law_month_here", "_law_day", "_law_sign", "_law_lot", "_law_wide", "_law_some", "_law_other", "_law_at", "_law_bent", "_law_lead", "_law_long"]
theorem scCa : FnScope nCa ["_law_hand_here", "_law_order"] (defScope sCa) := ⟨rfl, rfl, rfl, by decide +kernel, rfl, by decide +kernel, by decide +kernel⟩
/-- a text and what it is due -/
structure Due (o z : Str) (r : Option Int) : Prop where
  len : z.length ≤ 100
  eq : dayS o z btw = r
  day : ∀ N, r = some N → ∃ y m d, IsDay y m d ∧ N = dayN y m d
def spCa : Sp := fun vs H Q _ => ∃ (h : Addr) (n : Nat) (o : Str), vs = [.ref h, .str o] ∧ HandAt H h n ∧ n < 800000 ∧ IsOrd o ∧ ∀ (t : Addr) (H' : Hp) (z : Str) (r : Option Int), H' t = some (.tup [.str z, ov r]) → Due o z r → HandAt H' h (n + 30) → But h H H' → Q (.ref t) H'
theorem nat_mem {m : Nat} {l : List Int} {y : V} (h : y ∈ l.map V.int) (b : ∀ i ∈ l, 0 ≤ i ∧ i ≤ (m : Int)) : ∃ a : Nat, y = .int (a : Int) ∧ a ≤ m := by
  obtain ⟨i, hi, rfl⟩ := List.mem_map.mp h
  obtain ⟨b1, b2⟩ := b i hi
  exact ⟨i.toNat, by rw [Int.toNat_of_nonneg b1], by omega⟩
theorem str_small (a : Nat) (h : a < 100000) : (a : Int).natAbs.log2 < 1920 ∧ (Str.ofString (toString (a : Int))).length ≤ 6 := by
  have ta : tl (Str.ofString (toString (a : Int))) = numL a := tl_num a
  refine ⟨?_, ?_⟩
  · rw [Int.natAbs_natCast]
    rcases Nat.eq_zero_or_pos a with rfl | p
    · decide
    · exact Nat.lt_trans ((Nat.log2_lt (by omega)).mpr (show a < 2 ^ 17 by omega)) (by decide)
  · rw [len_tl, ta]
    exact numL_len (by decide) (show a < 10 ^ 6 by omega)
theorem laid_len {o : Str} (h : IsOrd o) (s : Nat) (Y M D : Str) : (laidS o (sg s) Y M D).length = (tl Y).length + (tl M).length + (tl D).length + 2 := by
  have e := laid_tl h (sg s) Y M D
  rw [len_tl, e, tl_sg]
  unfold seq3
  simp only [List.length_append, List.length_cons, List.length_nil]
  split
  · dsimp only
    omega
  · split
    · dsimp only
      omega
    · dsimp only
      omega
theorem num_some {y m d : Nat} (h : y ≤ 9999) {N : Int} (e : numI y m d = some N) : ∃ y m d, IsDay y m d ∧ N = dayN y m d := by
  unfold numI at e
  by_cases c : 1 ≤ y ∧ 1 ≤ m ∧ m ≤ 12 ∧ 1 ≤ d ∧ (d : Int) ≤ dinI y m
  · rw [if_pos c] at e
    obtain ⟨c1, c2, c3, c4, c5⟩ := c
    exact ⟨y, m, d, ⟨c1, h, c2, c3, c4, c5⟩, (Option.some.inj e).symm⟩
  · rw [if_neg c] at e
    cases e
theorem Due.none {o z : Str} (l : z.length ≤ 100) (e : dayS o z btw = none) : Due o z none := ⟨l, e, fun _ h => nomatch h⟩
structure CaseF (K : PySem.W.Frag) (mg : Str → Option Value) (fTk fPk fLN fLd fFi : Addr) (dTk dPk dLN dLd dFi : FuncData) : Prop where
  Tk : Fun K "_law_take" "_law_take" sTake fTk dTk
  bTk : Binds K dTk ["_law_hand_here", "_law_many"] []
  gTk : mg "_law_take" = some (.ref fTk)
  Pk : Fun K "_law_pick" "_law_pick" sPick fPk dPk
  bPk : Binds K dPk ["_law_hand_here", "_law_some"] []
  gPk : mg "_law_pick" = some (.ref fPk)
  LN : Fun K "_law_number" "_law_number" sLN fLN dLN
  bLN : Binds K dLN ["_law_year", "_law_month_here", "_law_day"] []
  gLN : mg "_law_number" = some (.ref fLN)
  Ld : Fun K "_law_laid" "_law_laid" sLd fLd dLd
  bLd : Binds K dLd ["_law_order", "_law_year", "_law_month_here", "_law_day", "_law_sign"] []
  gLd : mg "_law_laid" = some (.ref fLd)
  Fi : Fun K "_law_figures" "_law_figures" sFi fFi dFi
  bFi : Binds K dFi ["_law_hand_here", "_law_its", "_law_wide"] []
  gFi : mg "_law_figures" = some (.ref fFi)
  bS : PySem.W.nsIn K cStatics sharingNotToldKey = some none
theorem ok_case {f : Addr} {fd : FuncData} (F : Fun K "_law_case" "_law_case" sCa f fd) (T : Free mg) (C : LCal K mg fLL fLM fLA dLL dLM dLA) (W : CaseF K mg fTk fPk fLN fLd fFi dTk dPk dLN dLd dFi) : FnOk P w K mg base CX0 4 f fd ["_law_hand_here", "_law_order"] spCa := by
  have GTk : FnOk P w K mg base CX0 1 fTk dTk ["_law_hand_here", "_law_many"] spTake := ok_take W.Tk
  have GPk : FnOk P w K mg base CX0 2 fPk dPk ["_law_hand_here", "_law_some"] (spPick K) := ok_pick W.Pk T W.Tk W.bTk W.gTk
  have GPz : FnNz P w K mg base 2 fPk dPk ["_law_hand_here", "_law_some"] spPz := fnz_pick W.Pk T W.Tk W.bTk W.gTk
  have GLN : FnOk P w K mg base CX0 3 fLN dLN ["_law_year", "_law_month_here", "_law_day"] spNum := ok_lnum W.LN T C
  have GLd : FnOk P w K mg base CX0 1 fLd dLd ["_law_order", "_law_year", "_law_month_here", "_law_day", "_law_sign"] spLd := ok_laid W.Ld
  have GFi : FnOk P w K mg base CX0 2 fFi dFi ["_law_hand_here", "_law_its", "_law_wide"] spFi := ok_figs W.Fi T W.Tk W.bTk W.gTk
  obtain ⟨FTk, bTk, gTk, FPk, bPk, gPk, FLN, bLN, gLN, FLd, bLd, gLd, FFi, bFi, gFi, bS⟩ := W
  obtain ⟨oc, od, kV, doc, pm, an, cdv, ct, osl, rfl, lk, hcd⟩ := F.ex
  refine fn_ofT lk hcd scCa (by decide +kernel) (by decide) (fun vs H Q E h => ?_) (fun A outer s H vs Q E hr h => ?_)
  · obtain ⟨h, n, o, rfl, _⟩ := h
    rfl
  · obtain ⟨h, n, o, rfl, hd, nb, io, q⟩ := h
    refine ⟨_, (psst_cons (PST.of (ps_set (i := 2) scCa.nd rfl (Or.inl rfl) (pe_call GPk (hr.mono (by decide)) (by rfl) gPk FPk.kp bPk .nil pass0 (pa_cons (pv 0) (pa_cons (pe_lst (pa_cons pe_int (pa_cons pe_int (pa_cons pe_int (pa_cons pe_int (pa_cons pe_int (pa_cons pe_int (pa_cons pe_int (pa_cons pe_int (pa_cons pe_int (pa_cons pe_int (pa_cons pe_int (pa_cons pe_int (pa_cons (pe_op op_add pe_int (pe_call GTk (hr.mono (by decide)) (by rfl) gTk FTk.kp bTk .nil pass0 (pa_cons (pv 0) (pa_cons pe_int pa_nil)))) pa_nil)))))))))))))) pa_nil)))))
      (psst_cons (PST.of (ps_set (i := 3) scCa.nd rfl (Or.inl rfl) (pe_call GPk (hr.mono (by decide)) (by rfl) gPk FPk.kp bPk .nil pass0 (pa_cons (pv 0) (pa_cons (pe_lst (pa_cons pe_int (pa_cons pe_int (pa_cons pe_int (pa_cons pe_int (pa_cons pe_int (pa_cons pe_int (pa_cons pe_int (pa_cons (pe_call GTk (hr.mono (by decide)) (by rfl) gTk FTk.kp bTk .nil pass0 (pa_cons (pv 0) (pa_cons pe_int pa_nil))) pa_nil))))))))) pa_nil)))))
      (psst_cons (PST.of (ps_set (i := 4) scCa.nd rfl (Or.inl rfl) (pe_call GPk (hr.mono (by decide)) (by rfl) gPk FPk.kp bPk .nil pass0 (pa_cons (pv 0) (pa_cons (pe_lst (pa_cons pe_int (pa_cons pe_int (pa_cons pe_int (pa_cons pe_int (pa_cons pe_int (pa_cons pe_int (pa_cons pe_int pa_nil)))))))) pa_nil)))))
      (PRs.start (pr_par (i := 5) (j := 6) rfl scCa.nd rfl rfl (by decide) rfl rfl (by decide) (ez_call GPz (hr.mono (by decide)) (by rfl) gPk FPk.kp bPk .nil pass0 (as_cons (es_var (i := 0) rfl (Or.inl rfl)) (as_cons es_str as_nil))) (es_call GTk (hr.mono (by decide)) (by rfl) gTk FTk.kp bTk .nil pass0 (as_cons (es_var (i := 0) rfl (Or.inl rfl)) (as_cons es_int as_nil)))
      (pr_set (i := 7) scCa.nd rfl rfl (by decide) (es_op ops_add_str (es_op ops_mulS es_str (es_op ops_sub es_int (es_callB calls_len_str (by rfl) T.len PySem.boot_len (as_cons (es_callTy calls_str_int (by rfl) T.str (by decide +kernel) (as_cons (es_var (i := 2) rfl (Or.inl rfl)) as_nil)) as_nil)))) (es_callTy calls_str_int (by rfl) T.str (by decide +kernel) (as_cons (es_var (i := 2) rfl (Or.inl rfl)) as_nil)))
      (pr_set (i := 8) scCa.nd rfl rfl (by decide) (es_call GLd (hr.mono (by decide)) (by rfl) gLd FLd.kp bLd .nil pass0 (as_cons (es_var (i := 1) rfl (Or.inl rfl)) (as_cons (es_var (i := 7) rfl (Or.inl rfl)) (as_cons (es_call GFi (hr.mono (by decide)) (by rfl) gFi FFi.kp bFi .nil pass0 (as_cons (es_var (i := 0) rfl (Or.inl rfl)) (as_cons (es_var (i := 3) rfl (Or.inl rfl)) (as_cons es_int as_nil)))) (as_cons (es_call GFi (hr.mono (by decide)) (by rfl) gFi FFi.kp bFi .nil pass0 (as_cons (es_var (i := 0) rfl (Or.inl rfl)) (as_cons (es_var (i := 4) rfl (Or.inl rfl)) (as_cons es_int as_nil)))) (as_cons (es_var (i := 5) rfl (Or.inl rfl)) as_nil))))))
      (pr_if (ts_gt (es_var (i := 6) rfl (Or.inl rfl)) es_int (nomark _)) (PRs.of (pss_one (ps_ret (pe_tup (pa_cons (pv 8) (pa_cons (pe_call GLN (hr.mono (by decide)) (by rfl) gLN FLN.kp bLN .nil pass0 (pa_cons (pv 2) (pa_cons (pv 3) (pa_cons (pv 4) pa_nil)))) pa_nil))))))
      (pr_par (i := 9) (j := 10) rfl scCa.nd rfl rfl (by decide) rfl rfl (by decide) (ez_call GPz (hr.mono (by decide)) (by rfl) gPk FPk.kp bPk .nil pass0 (as_cons (es_var (i := 0) rfl (Or.inl rfl)) (as_cons es_str as_nil))) (es_call GTk (hr.mono (by decide)) (by rfl) gTk FTk.kp bTk .nil pass0 (as_cons (es_var (i := 0) rfl (Or.inl rfl)) (as_cons (es_callB calls_len_str (by rfl) T.len PySem.boot_len (as_cons (es_var (i := 8) rfl (Or.inl rfl)) as_nil)) as_nil)))
      (pr_if (ts_eqI (es_var (i := 6) rfl (Or.inl rfl)) es_int (nomark _)) (pr_rep (ik := 8) (ia := 5) (ib := 9) (id := 11) scCa.nd rfl rfl rfl rfl (Or.inl rfl) rfl rfl rfl (by simp) (by simp) bS
      (pss_one (ps_ret (pe_tup (pa_cons (pv 11) (pa_cons (pe_ifExp (pt_cmpR op_eq (pv 11) (pv 8) (nomark _)) (pe_call GLN (hr.mono (by decide)) (by rfl) gLN FLN.kp bLN .nil pass0 (pa_cons (pv 2) (pa_cons (pv 3) (pa_cons (pv 4) pa_nil)))) pe_non) pa_nil))))))
      (PRs.of (pss_cons (ps_if (pt_cmpR op_eq (pv 6) pe_int (nomark _)) (pss_cons (ps_set (i := 12) scCa.nd rfl (Or.inl rfl) (pe_call GPk (hr.mono (by decide)) (by rfl) gPk FPk.kp bPk .nil pass0 (pa_cons (pv 0) (pa_cons (pe_lst (pa_cons pe_str (pa_cons pe_str (pa_cons (pe_op op_add_str (pv 5) pe_str) (pa_cons pe_str pa_nil))))) pa_nil))))
      (pss_one (ps_ret (pe_ifExp (pt_cmpR op_lt (pv 10) pe_int (nomark _)) (pe_tup (pa_cons (pe_op op_add_str (pv 12) (pv 8)) (pa_cons pe_non pa_nil))) (pe_tup (pa_cons (pe_op op_add_str (pv 8) (pv 5)) (pa_cons pe_non pa_nil))))))) (pss_nil))
      (pss_cons (ps_set (i := 13) scCa.nd rfl (Or.inl rfl) (pe_call GLd (hr.mono (by decide)) (by rfl) gLd FLd.kp bLd .nil pass0 (pa_cons (pv 1) (pa_cons (pe_call GPk (hr.mono (by decide)) (by rfl) gPk FPk.kp bPk .nil pass0 (pa_cons (pv 0) (pa_cons (pe_lst (pa_cons (pe_op op_add_str pe_str (pv 7)) (pa_cons (pe_slice sl_str (pv 7) (po_some pe_int) po_none) (pa_cons (pe_op op_add_str (pv 7) pe_str) pa_nil)))) pa_nil))) (pa_cons pe_str (pa_cons pe_str (pa_cons (pv 5) pa_nil)))))))
      (pss_one (ps_ret (pe_tup (pa_cons (pv 13) (pa_cons pe_non pa_nil)))))))))))))))))), ?_⟩
    have big : 1000 ≤ sizeLine := by decide
    refine ⟨_, rfl, _, rfl, h, n, 9999, rfl, hd, by omega, by decide, by decide, fun r H1 r0 r1 hd1 b1 => ?_⟩
    refine ⟨_, _, rfl, rfl, (show 13 ≤ sizeLine by decide), fun L nL => ?_⟩
    have Lh : L ≠ h := (hd1.fresh nL).symm
    refine ⟨h, n + 1, _, ([1, 4, 100, 400, 1899, 1900, 2000, 2024, 2100, 9996, 9999, 0, 1 + r] : List Int).map V.int, rfl, hd1.mono (Same.new nL) (Nat.le_refl _), by omega, (show 0 < 13 by decide), (show 13 ≤ 1000 by decide), .inr ⟨L, rfl, Lh, SqL.of upd_same⟩, fun y H2 my hd2 b2 => ?_⟩
    obtain ⟨ya, rfl, y9⟩ := nat_mem (m := 9999) my (by intro i hi; simp only [List.mem_cons, List.not_mem_nil, or_false] at hi; omega)
    have c2 : But h H H2 := (b1.trans (But.of (Same.new nL))).trans b2
    clear my nL Lh b1 b2 hd1
    refine ⟨_, rfl, _, rfl, h, n + 1 + 1, 15, rfl, hd2, by omega, by decide, by decide, fun r3 H3 r0 r1 hd3 b3 => ?_⟩
    refine ⟨(show 8 ≤ sizeLine by decide), fun L nL => ?_⟩
    have Lh : L ≠ h := (hd3.fresh nL).symm
    refine ⟨h, n + 3, _, ([1, 2, 2, 4, 12, 0, 13, r3] : List Int).map V.int, rfl, hd3.mono (Same.new nL) (Nat.le_refl _), by omega, (show 0 < 8 by decide), (show 8 ≤ 1000 by decide), .inr ⟨L, rfl, Lh, SqL.of upd_same⟩, fun y H4 my hd4 b4 => ?_⟩
    obtain ⟨ma, rfl, m9⟩ := nat_mem (m := 14) my (by intro i hi; simp only [List.mem_cons, List.not_mem_nil, or_false] at hi; omega)
    have c4 : But h H H4 := ((c2.trans b3).trans (But.of (Same.new nL))).trans b4
    clear my nL Lh b3 b4 hd3 hd2 c2
    refine ⟨_, rfl, (show 7 ≤ sizeLine by decide), fun L nL => ?_⟩
    have Lh : L ≠ h := (hd4.fresh nL).symm
    refine ⟨h, n + 4, _, ([1, 28, 29, 30, 31, 32, 0] : List Int).map V.int, rfl, hd4.mono (Same.new nL) (Nat.le_refl _), by omega, (show 0 < 7 by decide), (show 7 ≤ 1000 by decide), .inr ⟨L, rfl, Lh, SqL.of upd_same⟩, fun y H5 my hd5 b5 => ?_⟩
    obtain ⟨da, rfl, d9⟩ := nat_mem (m := 32) my (by intro i hi; simp only [List.mem_cons, List.not_mem_nil, or_false] at hi; omega)
    have c5 : But h H H5 := (c4.trans (But.of (Same.new nL))).trans b5
    clear my nL Lh b5 hd4 c4
    refine ⟨_, rfl, h, n + 5, Str.ofString "-./", rfl, hd5, by omega, by decide +kernel, by decide +kernel, fun c H6 hc hd6 b6 => ?_⟩
    refine ⟨_, rfl, h, n + 6, 9, rfl, hd6, by omega, by decide, by decide, fun lot H7 l0 l9 hd7 b7 => ?_⟩
    have sc : Sep c := by
      have e : (Str.ofString "-./").cps.toList = [45, 46, 47] := by decide +kernel
      rw [e] at hc
      simpa [Sep] using hc
    have c7 : But h H H7 := (c5.trans b6).trans b7
    clear b6 b7 hd5 hd6 c5 hc
    refine ⟨_, _, rfl, ?_⟩
    try dsimp only
    obtain ⟨lg, ls⟩ := str_small ya (by omega)
    have pw := pad_by 4 ya (by decide)
    have ty : tl (Str.ofString (toString (ya : Int))) = numL ya := tl_num ya
    have lm : (Txt.mul (Str.ofString "0") ((4 : Int) - ((Str.ofString (toString (ya : Int))).length : Nat))).length ≤ 4 := by
      rw [len_tl, tl_mul0 _ (by omega)]
      simp [zs]
    refine ⟨_, rfl, _, rfl, lg, _, rfl, by omega, _, _, rfl, rfl, _, _, rfl, rfl, mulok_0 _ (by omega) (by omega), _, rfl, _, rfl, lg, _, _, rfl, rfl, ?_, ?_⟩
    · exact Nat.le_trans (Nat.add_le_add lm ls) (by decide)
    replace pw : tl (Txt.mul (Str.ofString "0") ((4 : Int) - ((Str.ofString (toString (ya : Int))).length : Nat)) ++ Str.ofString (toString (ya : Int))) = padL 4 ya := pw
    generalize Txt.mul (Str.ofString "0") ((4 : Int) - ((Str.ofString (toString (ya : Int))).length : Nat)) ++ Str.ofString (toString (ya : Int)) = Y at pw ⊢
    have fY : Fig 4 ya Y := fig_pad (by omega) (by decide) pw
    have lY : (tl Y).length = 4 := by
      rw [pw]
      exact Nat.le_antisymm (padL_le (by omega) (by decide) (Nat.le_refl _)) (padL_len _ _)
    try dsimp only
    refine ⟨_, rfl, _, rfl, _, rfl, _, rfl, h, n + 7, ma, rfl, hd7, by omega, by omega, fun M H8 tM hd8 b8 => ?_⟩
    refine ⟨_, rfl, _, rfl, h, n + 8, da, rfl, hd8, by omega, by omega, fun D H9 tD hd9 b9 => ?_⟩
    have fM : Fig 2 ma M := tM.elim (fig_pad (by omega) (by decide)) (fig_num (by omega))
    have fD : Fig 2 da D := tD.elim (fig_pad (by omega) (by decide)) (fig_num (by omega))
    have c9 : But h H H9 := (c7.trans b8).trans b9
    clear b8 b9 hd7 hd8 c7 tM tD
    refine ⟨_, rfl, o, Y, M, D, sg c, rfl, io, ?_, ?_, ?_, ?_, fun H10 s10 => ?_⟩
    · rw [len_tl]; omega
    · rw [len_tl]; have := fM.2.1; omega
    · rw [len_tl]; have := fD.2.1; omega
    · exact (show 1 ≤ 50 by decide)
    try dsimp only
    have hdA := hd9.mono s10 (Nat.le_refl _)
    have cA : But h H H10 := c9.trans (But.of s10)
    clear c9 hd9
    have lz : (laidS o (sg c) Y M D).length ≤ 10 := by
      rw [laid_len io, lY]
      have := fM.2.1
      have := fD.2.1
      omega
    have lz2 : 2 ≤ (laidS o (sg c) Y M D).length := by
      rw [laid_len io]
      omega
    have rz := read_good io sc fY lY fM fD
    obtain ⟨LA⟩ := laid_shape io c fY.2.2.1 fM.2.2.1 fD.2.2.1
    have dz : Due o (laidS o (sg c) Y M D) (numI ya ma da) := ⟨by omega, rz, fun N e => num_some (by omega) e⟩
    generalize laidS o (sg c) Y M D = z at *
    refine ⟨_, rfl, _, _, rfl, rfl, _, rfl, ?_⟩
    by_cases cl : (2 : Int) < lot
    · rw [decide_eq_true cl]
      refine iteT ?_
      refine ⟨_, rfl, _, rfl, _, rfl, _, rfl, ya, ma, da, rfl, by omega, by omega, by omega, fun H11 s11 => ?_⟩
      refine ⟨(show 2 ≤ sizeLine by decide), fun t nt => ?_⟩
      exact q t _ z _ upd_same dz (((hdA.mono s11 (Nat.le_refl _)).mono (Same.new nt) (Nat.le_refl _)).up (by omega)) ((cA.trans (But.of s11)).trans (But.of (Same.new nt)))
    · rw [decide_eq_false cl]
      refine iteF ?_
      refine ⟨_, rfl, h, n + 9, Str.ofString "-./ x", rfl, hdA, by omega, by decide +kernel, by decide +kernel, fun c2 H11 hc2 hdB bB => ?_⟩
      refine ⟨_, rfl, _, rfl, z, rfl, by omega, h, n + 10, _, rfl, hdB, by omega, by omega, by omega, fun at_ H12 a0 a1 hdC bC => ?_⟩
      have cC : But h H H12 := (cA.trans bB).trans bC
      clear cA bB bC hdA hdB
      refine ⟨_, _, rfl, ?_⟩
      try dsimp only
      refine ⟨_, rfl, _, _, rfl, rfl, _, rfl, ?_⟩
      by_cases c0 : lot = 0
      · rw [decide_eq_true c0]
        refine iteT ?_
        refine ⟨z, sg c, sg c2, rfl, rfl, rfl, Nat.le_trans (Nat.add_le_add lz (show (sg c2).length ≤ 1 from Nat.le_refl 1)) (by decide), fun r hr => ?_⟩
        try dsimp only
        refine ⟨_, rfl, _, rfl, _, rfl, rfl, _, rfl, ?_⟩
        by_cases er : r = z
        · subst er
          rw [decide_eq_true rfl]
          refine iteT ?_
          refine ⟨_, rfl, _, rfl, _, rfl, ya, ma, da, rfl, by omega, by omega, by omega, fun H13 s13 => ?_⟩
          refine ⟨(show 2 ≤ sizeLine by decide), fun t nt => ?_⟩
          exact q t _ r _ upd_same dz (((hdC.mono s13 (Nat.le_refl _)).mono (Same.new nt) (Nat.le_refl _)).up (by omega)) ((cC.trans (But.of s13)).trans (But.of (Same.new nt)))
        · rw [decide_eq_false (fun e => er (V.str.inj e))]
          refine iteF ?_
          have er2 : r = repl1 z (sg c) (sg c2) := hr.resolve_left er
          have ez : z = S (LA.a ++ c :: (LA.b ++ c :: LA.c)) := by rw [← LA.e, S_tl]
          have na : c ∉ LA.a := fun m => digits_nosep LA.ha c m sc
          have e3 : r = S (LA.a ++ c2 :: (LA.b ++ c :: LA.c)) := by
            rw [er2]
            conv => lhs; rw [ez]
            exact repl_first na
          have ne : c2 ≠ c := by
            rintro rfl
            exact er (e3.trans ez.symm)
          have lr : r.length ≤ 100 := by
            have lz' := lz
            rw [ez, S_len] at lz'
            rw [e3, S_len]
            simp only [List.length_append, List.length_cons] at lz' ⊢
            omega
          refine ⟨(show 2 ≤ sizeLine by decide), fun t nt => ?_⟩
          refine q t _ r none upd_same (Due.none lr ?_) ((hdC.mono (Same.new nt) (Nat.le_refl _)).up (by omega)) (cC.trans (But.of (Same.new nt)))
          rw [e3]
          exact read_bent LA sc ne
      · rw [decide_eq_false c0]
        refine iteF ?_
        refine ⟨_, rfl, rfl, _, rfl, ?_⟩
        by_cases c1 : lot = 1
        · rw [decide_eq_true (congrArg V.int c1)]
          refine iteT ?_
          have hD0 := hdC.up (show n + 10 + 1 ≤ n + 11 by omega)
          have l1c : (sg c ++ Str.ofString "1").length ≤ 2 := by
            rw [len_tl, tl_append, tl_sg, show tl (Str.ofString "1") = [49] by decide +kernel]
            exact Nat.le_refl 2
          refine ⟨_, rfl, _, rfl, _, _, rfl, rfl, Nat.le_trans (show (sg c).length + (Str.ofString "1").length ≤ 10 from Nat.le_trans (Nat.add_le_add (show (sg c).length ≤ 1 from Nat.le_refl 1) (show (Str.ofString "1").length ≤ 1 by decide +kernel)) (by decide)) (by decide), ?_⟩
          refine ⟨(show 4 ≤ sizeLine by decide), fun L nL => ?_⟩
          have Lh : L ≠ h := (hD0.fresh nL).symm
          refine ⟨h, n + 11, _, ([Str.ofString " ", Str.ofString "x", sg c ++ Str.ofString "1", Str.ofString "+"] : List Str).map V.str, rfl, hD0.mono (Same.new nL) (Nat.le_refl _), by omega, (show 0 < 4 by decide), (show 4 ≤ 1000 by decide), .inr ⟨L, rfl, Lh, SqL.of upd_same⟩, fun y H13 my hdD bD => ?_⟩
          obtain ⟨lead, ml, rfl⟩ := List.mem_map.mp my
          have cD : But h H H13 := (cC.trans (But.of (Same.new nL))).trans bD
          clear my nL Lh bD hdC cC hD0
          have ll : lead.length ≤ 2 := by
            simp only [List.mem_cons, List.not_mem_nil, or_false] at ml
            rcases ml with rfl | rfl | rfl | rfl
            · decide +kernel
            · decide +kernel
            · exact l1c
            · decide +kernel
          have zS : ∀ w : Str, w ++ z = S (tl w ++ tl z) := fun w => by rw [← tl_append, S_tl]
          have rl : dayS o (lead ++ z) btw = none := by
            rw [zS]
            simp only [List.mem_cons, List.not_mem_nil, or_false] at ml
            rcases ml with rfl | rfl | rfl | rfl
            · exact read_lead io LA sc (c := 32) (by unfold Sep; decide) (by decide)
            · exact read_lead io LA sc (c := 120) (by unfold Sep; decide) (by decide)
            · have e : tl (sg c ++ Str.ofString "1") = [c, 49] := by
                rw [tl_append, tl_sg]
                rfl
              rw [e]
              have g := read_more LA sc (x := [c, 49]) (y := []) ⟨fun t ht nt => ?_, ?_⟩ (fun _ _ _ => rfl)
              · rw [List.append_nil] at g
                exact g
              · rw [List.count_cons, List.count_cons]
                have h1 : (c == t) = false := beq_eq_false_iff_ne.mpr (Ne.symm nt)
                have h2 : (49 == t) = false := beq_eq_false_iff_ne.mpr (by unfold Sep at ht; omega)
                simp [h1, h2]
              · rw [List.count_cons, List.count_cons]
                have h2 : (49 == c) = false := beq_eq_false_iff_ne.mpr (by unfold Sep at sc; omega)
                simp [h2]
            · exact read_lead io LA sc (c := 43) (by unfold Sep; decide) (by decide)
          have rr : dayS o (z ++ sg c) btw = none := by
            have e : z ++ sg c = S ([] ++ (tl z ++ [c])) := by
              rw [List.nil_append, ← tl_sg c, ← tl_append, S_tl]
            rw [e]
            refine read_more LA sc (x := []) (y := [c]) ⟨fun _ _ _ => rfl, ?_⟩ (fun t ht nt => ?_)
            · simp
            · have h1 : (c == t) = false := beq_eq_false_iff_ne.mpr (Ne.symm nt)
              rw [List.count_cons]
              simp [h1]
          refine ⟨_, rfl, _, _, rfl, rfl, _, rfl, ?_⟩
          refine ite2 (fun _ => ?_) (fun _ => ?_)
          · refine ⟨_, rfl, _, rfl, _, _, rfl, rfl, Nat.le_trans (Nat.add_le_add ll lz) (by decide), ?_⟩
            refine ⟨(show 2 ≤ sizeLine by decide), fun t nt => ?_⟩
            refine q t _ (lead ++ z) none upd_same (Due.none ?_ rl) ((hdD.mono (Same.new nt) (Nat.le_refl _)).up (by omega)) (cD.trans (But.of (Same.new nt)))
            rw [len_tl, tl_append, List.length_append, ← len_tl, ← len_tl]
            omega
          · refine ⟨_, rfl, _, rfl, _, _, rfl, rfl, Nat.le_trans (Nat.add_le_add lz (show (sg c).length ≤ 1 from Nat.le_refl 1)) (by decide), ?_⟩
            refine ⟨(show 2 ≤ sizeLine by decide), fun t nt => ?_⟩
            refine q t _ (z ++ sg c) none upd_same (Due.none ?_ rr) ((hdD.mono (Same.new nt) (Nat.le_refl _)).up (by omega)) (cD.trans (But.of (Same.new nt)))
            rw [len_tl, tl_append, List.length_append, ← len_tl, tl_sg]
            simp
            omega
        · rw [decide_eq_false (fun e => c1 (V.int.inj e))]
          refine iteF ?_
          unfold tNext
          try dsimp only
          have hD0 := hdC.up (show n + 10 + 1 ≤ n + 11 by omega)
          have t0 : tl (Str.ofString "0") = [48] := by decide +kernel
          have l0' : (Str.ofString "0").length ≤ 1 := by decide +kernel
          have yl : Y.length = 4 := by rw [len_tl, lY]
          refine ⟨_, rfl, _, rfl, _, rfl, _, _, rfl, rfl, Nat.le_trans (Nat.add_le_add l0' (Nat.le_of_eq yl)) (by decide), ?_⟩
          refine ⟨_, rfl, _, rfl, Y, rfl, Nat.le_trans (Nat.le_of_eq yl) (by decide), _, rfl, _, _, rfl, rfl, Nat.le_trans (Nat.add_le_add (Nat.le_of_eq yl) l0') (by decide), ?_⟩
          refine ⟨(show 3 ≤ sizeLine by decide), fun L nL => ?_⟩
          have Lh : L ≠ h := (hD0.fresh nL).symm
          refine ⟨h, n + 11, _, ([Str.ofString "0" ++ Y, cutS Y (some 1) none, Y ++ Str.ofString "0"] : List Str).map V.str, rfl, hD0.mono (Same.new nL) (Nat.le_refl _), by omega, (show 0 < 3 by decide), (show 3 ≤ 1000 by decide), .inr ⟨L, rfl, Lh, SqL.of upd_same⟩, fun y H13 my hdD bD => ?_⟩
          obtain ⟨W, mW, rfl⟩ := List.mem_map.mp my
          have cD : But h H H13 := (cC.trans (But.of (Same.new nL))).trans bD
          clear my nL Lh bD hdC cC hD0
          have fW : (tl W).all dg = true ∧ (tl W).length ≠ 4 ∧ (tl W).length ≤ 5 := by
            simp only [List.mem_cons, List.not_mem_nil, or_false] at mW
            rcases mW with rfl | rfl | rfl
            · rw [tl_append, t0]
              refine ⟨?_, ?_, ?_⟩
              · rw [List.all_append, fY.2.2.1]
                rfl
              · rw [List.length_append, lY]
                decide
              · rw [List.length_append, lY]
                decide
            · rw [tl_from1]
              refine ⟨?_, ?_, ?_⟩
              · exact List.all_eq_true.mpr fun x hx => List.all_eq_true.mp fY.2.2.1 x (List.mem_of_mem_drop hx)
              · rw [List.length_drop, lY]
                decide
              · rw [List.length_drop, lY]
                decide
            · rw [tl_append, t0]
              refine ⟨?_, ?_, ?_⟩
              · rw [List.all_append, fY.2.2.1]
                rfl
              · rw [List.length_append, lY]
                decide
              · rw [List.length_append, lY]
                decide
          have t1 : tl (Str.ofString "1") = [49] := by decide +kernel
          have a1' : (tl (Str.ofString "1")).all dg = true := by rw [t1]; rfl
          have rl := read_long io sc fW.1 fW.2.1 a1' a1'
          have wl := laid_len io c W (Str.ofString "1") (Str.ofString "1")
          rw [t1, show ([49] : List Nat).length = 1 from rfl] at wl
          refine ⟨_, rfl, o, W, Str.ofString "1", Str.ofString "1", sg c, rfl, io, ?_, (by decide +kernel), (by decide +kernel), (show 1 ≤ 50 by decide), fun H14 s14 => ?_⟩
          · rw [len_tl]
            omega
          try dsimp only
          refine ⟨_, rfl, (show 2 ≤ sizeLine by decide), fun t nt => ?_⟩
          refine q t _ _ none upd_same (Due.none ?_ rl) (((hdD.mono s14 (Nat.le_refl _)).mono (Same.new nt) (Nat.le_refl _)).up (by omega)) ((cD.trans (But.of s14)).trans (But.of (Same.new nt)))
          omega
end
end K03
set_option Elab.async false
set_option linter.all false
set_option pp.maxSteps 6000
set_option maxRecDepth 100000
set_option maxHeartbeats 8000000
/-! k03: all days of a year -/
namespace K03
open PySem PySem.Spec PyProof.Rows L2 Bs TL K02 K21 Xfs Xa Xb Xp Xi1
abbrev sYr : Stmt := K21.top 34
theorem cut_neg (z : Str) {m : Nat} (m0 : 0 < m) (ml : m ≤ (tl z).length) : tl (cutS z (some (-(m : Int))) none) = (tl z).drop ((tl z).length - m) := by
  show ((tl z).drop (HT.sIx z.length 0 (some (-(m : Int))))).take (HT.sIx z.length z.length none - HT.sIx z.length 0 (some (-(m : Int)))) = _
  have e : HT.sIx z.length 0 (some (-(m : Int))) = (tl z).length - m := by
    show (if (-(m : Int)) < 0 then (-(m : Int) + (z.length : Int)).toNat else _) = _
    rw [if_pos (by omega), len_tl]
    omega
  rw [HT.sIx_none, e, len_tl, List.take_of_length_le (by rw [List.length_drop]; omega)]
theorem tl_cut2 (z : Str) (ml : 2 ≤ (tl z).length) : tl (cutS z (some (-2)) none) = (tl z).drop ((tl z).length - 2) := cut_neg z (m := 2) (by decide) ml
theorem zf_tl (k a : Nat) : tl (zf k a) = padL k a := by rw [zf_S, tl_S]
theorem two (a : Nat) (h : a < 100) : cutS (Str.ofString "0" ++ Str.ofString (toString (a : Int))) (some (-2)) none = zf 2 a := by
  have e : tl (Str.ofString "0" ++ Str.ofString (toString (a : Int))) = 48 :: numL a := by
    rw [tl_append]
    exact congrArg (48 :: ·) (tl_num a)
  have p := numL_pos a
  have l := numL_len (by decide : 0 < 2) (show a < 10 ^ 2 by omega)
  apply TL.ext_tl
  rw [tl_cut2 _ (by rw [e, List.length_cons]; omega), zf_tl, e]
  unfold padL
  rcases (show (numL a).length = 1 ∨ (numL a).length = 2 by omega) with c | c
  · rw [c, List.length_cons, c]
    rfl
  · rw [c, List.length_cons, c]
    rfl
theorem day_step {y m j : Nat} (y1 : 1 ≤ y) (y2 : y ≤ 9999) (m1 : 1 ≤ m) (m2 : m ≤ 12) (hj : (j : Int) < dinI y m) : IsDay y m (j + 1) ∧ dayN y m (j + 1) = aheadI y + sumI y m + j := by
  refine ⟨⟨y1, y2, m1, m2, by omega, by omega⟩, ?_⟩
  unfold dayN
  omega
section
variable {P : Program} {w : World} {K : PySem.W.Frag} {mg : Str → Option Value} {base : Heap}
variable {cM fLp fDi fAh fNu : Addr} {dLp dDi dAh dNu : FuncData} {cB fIF fRA fRD fDo fRs : Addr} {dIF dRA dRD dDo dRs : FuncData}
variable {fTk fPk fLL fLM fLA fLN fLd fFi fDt fWd fWr : Addr} {dTk dPk dLL dLM dLA dLN dLd dFi dDt dWd dWr : FuncData}
/-- what writes -/
structure WrF (K : PySem.W.Frag) (mg : Str → Option Value) (fDt fWd fWr : Addr) (dDt dWd dWr : FuncData) : Prop where
  gL : ∃ t, mg "LONGEST_YEAR" = some (.int 366 t)
  Dt : Fun K "date_of" "date_of" sDt fDt dDt
  bDt : Binds K dDt ["number"] []
  gDt : mg "date_of" = some (.ref fDt)
  Wd : Fun K "written_day" "written_day" sWd fWd dWd
  bWd : Binds K dWd ["number", "order"] []
  gWd : mg "written_day" = some (.ref fWd)
  Wr : Fun K "written" "written" sWr fWr dWr
  bWr : Binds K dWr ["form", "number"] []
  gWr : mg "written" = some (.ref fWr)
  bD : PySem.W.nsIn K cStatics "sys.int_max_str_digits" = some none
theorem WrF.ok (W : WrF K mg fDt fWd fWr dDt dWd dWr) (C : Cal K mg cM fLp fDi fAh fNu dLp dDi dAh dNu) : FnOk P w K mg base CX0 5 fWr dWr ["form", "number"] (spWr K) := ok_written W.Wr C W.gL W.Dt W.bDt W.gDt W.Wd W.bWd W.gWd W.bD
abbrev nYr : List Str := ["_law_hand_here", "_law_year", "_law_at", "_law_order", "_law_wide", "_law_month_here", "_law_day", "_law_some", "_law_shown", "_law_one"]
theorem scYr : FnScope nYr ["_law_hand_here"] (defScope sYr) := ⟨rfl, rfl, rfl, by decide +kernel, rfl, by decide +kernel, by decide +kernel⟩
def spYr : Sp := fun vs H Q _ => ∃ (h : Addr) (n : Nat), vs = [.ref h] ∧ HandAt H h n ∧ n < 800000 ∧ ∀ H', HandAt H' h (n + 10) → But h H H' → Q (.bl true) H'
theorem ok_year {f : Addr} {fd : FuncData} (F : Fun K "_law_year_right" "_law_year_right" sYr f fd) (T : Free mg) (L : LCal K mg fLL fLM fLA dLL dLM dLA) (U : CaseF K mg fTk fPk fLN fLd fFi dTk dPk dLN dLd dFi)
    (C : Cal K mg cM fLp fDi fAh fNu dLp dDi dAh dNu) (R : Frm K mg cB fIF fRA fRD fDo fRs dIF dRA dRD dDo dRs) (W : WrF K mg fDt fWd fWr dDt dWd dWr) : FnOk P w K mg base CX0 7 f fd ["_law_hand_here"] spYr := by
  have GTk : FnOk P w K mg base CX0 1 fTk dTk ["_law_hand_here", "_law_many"] spTake := ok_take U.Tk
  have GPk : FnOk P w K mg base CX0 2 fPk dPk ["_law_hand_here", "_law_some"] (spPick K) := ok_pick U.Pk T U.Tk U.bTk U.gTk
  have GLA : FnOk P w K mg base CX0 2 fLA dLA ["_law_year"] spLA := ok_lahead L.LA T L.LL L.bLL L.gLL
  have GLM : FnOk P w K mg base CX0 2 fLM dLM ["_law_year", "_law_month_here"] spLM := ok_lmonth L.LM T L.LL L.bLL L.gLL
  have GLd : FnOk P w K mg base CX0 1 fLd dLd ["_law_order", "_law_year", "_law_month_here", "_law_day", "_law_sign"] spLd := ok_laid U.Ld
  have GRs : FnOk P w K mg base CX0 6 fRs dRs ["form", "text"] (spRs K) := ok_readas C R T
  have GWr : FnOk P w K mg base CX0 5 fWr dWr ["form", "number"] (spWr K) := W.ok C
  obtain ⟨FTk, bTk, gTk, FPk, bPk, gPk, FLN, bLN, gLN, FLd, bLd, gLd, FFi, bFi, gFi, bS⟩ := U
  obtain ⟨FLL, bLL, gLL, FLM, bLM, gLM, FLA, bLA, gLA⟩ := L
  obtain ⟨gL, FDt, bDt, gDt, FWd, bWd, gWd, FWr, bWr, gWr, bD⟩ := W
  have FRs := R.Rs
  have bRs := R.bRs
  have gRs := R.gRs
  refine F.ok scYr (fun vs H Q E h => ?_) (fun cdv A outer s H vs Q E hr h => ?_)
  · obtain ⟨h, n, rfl, _⟩ := h
    rfl
  · obtain ⟨h, n, rfl, hd, nb, q⟩ := h
    refine ⟨_, pss_cons (ps_set (i := 1) scYr.nd rfl (Or.inl rfl) (pe_call GPk (hr.mono (by decide)) (by rfl) gPk FPk.kp bPk .nil pass0 (pa_cons (pv 0) (pa_cons (pe_lst (pa_cons pe_int (pa_cons pe_int (pa_cons pe_int (pa_cons pe_int (pa_cons pe_int (pa_cons pe_int (pa_cons (pe_op op_add pe_int (pe_call GTk (hr.mono (by decide)) (by rfl) gTk FTk.kp bTk .nil pass0 (pa_cons (pv 0) (pa_cons pe_int pa_nil)))) pa_nil)))))))) pa_nil))))
      (pss_cons (ps_par (i := 2) (j := 3) rfl scYr.nd rfl rfl (by decide) rfl rfl (pa_cons (pe_call GLA (hr.mono (by decide)) (by rfl) gLA FLA.kp bLA .nil pass0 (pa_cons (pv 1) pa_nil)) (pa_cons (pe_call GPk (hr.mono (by decide)) (by rfl) gPk FPk.kp bPk .nil pass0 (pa_cons (pv 0) (pa_cons (pe_lst (pa_cons pe_str (pa_cons pe_str (pa_cons pe_str pa_nil)))) pa_nil))) pa_nil)) (by rfl))
      (pss_cons (ps_set (i := 4) scYr.nd rfl (Or.inl rfl) (pe_op op_add_str (pe_op op_mulS pe_str (pe_op op_sub pe_int (pe_callB call_len_str (by rfl) T.len PySem.boot_len (pa_cons (pe_callTy call_str_int (by rfl) T.str (by decide +kernel) (pa_cons (pv 1) pa_nil)) pa_nil)))) (pe_callTy call_str_int (by rfl) T.str (by decide +kernel) (pa_cons (pv 1) pa_nil))))
      (pss_cons (ps_for PassesOwn.never rfl (pi_range2 (by rfl) T.range (pa_cons pe_int (pa_cons pe_int pa_nil))) (pg_name (i := 5) scYr.nd rfl (Or.inl rfl)) (pss_one (ps_for PassesOwn.never rfl (pi_range2 (by rfl) T.range (pa_cons pe_int (pa_cons (pe_op op_add (pe_call GLM (hr.mono (by decide)) (by rfl) gLM FLM.kp bLM .nil pass0 (pa_cons (pv 1) (pa_cons (pv 5) pa_nil))) pe_int) pa_nil))) (pg_name (i := 6) scYr.nd rfl (Or.inl rfl)) (pss_cons (ps_setLc (i := 7) (own := [("_law_one", 9)]) (g := gName 9) (tt := tYes) rfl scYr.nd rfl rfl (sw_true rfl rfl rfl rfl) (pi_tup (pe_tup (pa_cons (pv 5) (pa_cons (pv 6) pa_nil)))) (blkOk_by (own := [("_law_one", 9)]) (N := nYr) (sc := defScope sYr) (by decide +kernel)) (fun _ _ _ _ _ => (pg_name (i := 9) scYr.nd rfl (Or.inl rfl))) (fun _ _ _ _ _ => pts_nil) (fun _ _ _ _ _ => (pe_slice sl_str (pe_op op_add_str pe_str (pe_callTy call_str_int (by rfl) T.str (by decide +kernel) (pa_cons (pv 9) pa_nil))) (po_some (pe_un un_neg pe_int)) po_none)))
      (pss_cons (ps_set (i := 8) scYr.nd rfl (Or.inl rfl) (pe_call GLd (hr.mono (by decide)) (by rfl) gLd FLd.kp bLd .nil pass0 (pa_cons (pv 3) (pa_cons (pv 4) (pa_cons (pe_ix (ix_listK (K := K) rfl) (pv 7) pe_int (fun _ _ => rfl)) (pa_cons (pe_ix (ix_listK (K := K) rfl) (pv 7) pe_int (fun _ _ => rfl)) (pa_cons pe_str pa_nil)))))))
      (pss_cons (ps_if (PW.pt (pw_or (pt_cmpR op_ne (pe_callB SkE.call_repr_int (by rfl) T.repr (by decide +kernel) (pa_cons (pe_call GRs (hr.mono (by decide)) (by rfl) gRs FRs.kp bRs .nil pass0 (pa_cons (pe_tup (pa_cons pe_str (pa_cons (pv 3) pa_nil))) (pa_cons (pv 8) pa_nil))) pa_nil)) (pe_callB SkE.call_repr_int (by rfl) T.repr (by decide +kernel) (pa_cons (pv 2) pa_nil)) (nomark _)) (pw_or1 (pt_cmpR op_ne (pe_call GWr (hr.mono (by decide)) (by rfl) gWr FWr.kp bWr .nil pass0 (pa_cons (pe_tup (pa_cons pe_str (pa_cons (pv 3) pa_nil))) (pa_cons (pv 2) pa_nil))) (pv 8) (nomark _))))) (pss_one (ps_ret pe_bl)) (pss_nil))
      (pss_one (ps_set (i := 2) scYr.nd rfl (Or.inl rfl) (pe_op op_add (pv 2) pe_int)))))))))
      (pss_one (ps_ret (pe_or (pe_cmpR op_eq (pv 1) pe_int (nomark _)) (pe_one (pe_cmpR op_eq (pv 2) (pe_call GLA (hr.mono (by decide)) (by rfl) gLA FLA.kp bLA .nil pass0 (pa_cons (pe_op op_add (pv 1) pe_int) pa_nil)) (nomark _))))))))), ?_⟩
    have big : 1000 ≤ sizeLine := by decide
    refine ⟨_, rfl, _, rfl, h, n, 9999, rfl, hd, by omega, by decide, by decide, fun r H1 r0 r1 hd1 b1 => ?_⟩
    refine ⟨_, _, rfl, rfl, (show 7 ≤ sizeLine by decide), fun L nL => ?_⟩
    have Lh : L ≠ h := (hd1.fresh nL).symm
    refine ⟨h, n + 1, _, ([1, 1900, 2000, 2023, 2024, 9999, 1 + r] : List Int).map V.int, rfl, hd1.mono (Same.new nL) (Nat.le_refl _), by omega, (show 0 < 7 by decide), (show 7 ≤ 1000 by decide), .inr ⟨L, rfl, Lh, SqL.of upd_same⟩, fun y H2 my hd2 b2 => ?_⟩
    obtain ⟨i0, mi, rfl⟩ := List.mem_map.mp my
    have yb : 1 ≤ i0 ∧ i0 ≤ 9999 := by
      simp only [List.mem_cons, List.not_mem_nil, or_false] at mi
      omega
    obtain ⟨ya, rfl⟩ : ∃ ya : Nat, i0 = (ya : Int) := ⟨i0.toNat, by omega⟩
    have y1 : 1 ≤ ya := by omega
    have y9 : ya ≤ 9999 := by omega
    have c2 : But h H H2 := (b1.trans (But.of (Same.new nL))).trans b2
    clear my mi nL Lh b1 b2 hd1
    refine ⟨_, rfl, ya, rfl, y1, by omega, fun H3 s3 => ?_⟩
    have hd3 := hd2.mono s3 (Nat.le_refl _)
    refine ⟨_, rfl, (show 3 ≤ sizeLine by decide), fun L nL => ?_⟩
    have Lh : L ≠ h := (hd3.fresh nL).symm
    refine ⟨h, n + 2, _, ([Str.ofString "ymd", Str.ofString "dmy", Str.ofString "mdy"] : List Str).map V.str, rfl, hd3.mono (Same.new nL) (Nat.le_refl _), by omega, (show 0 < 3 by decide), (show 3 ≤ 1000 by decide), .inr ⟨L, rfl, Lh, SqL.of upd_same⟩, fun y H4 my hd4 b4 => ?_⟩
    obtain ⟨o, mo, rfl⟩ := List.mem_map.mp my
    have io : IsOrd o := by simpa [IsOrd] using mo
    have c4 : But h H H4 := ((c2.trans (But.of s3)).trans (But.of (Same.new nL))).trans b4
    clear my mo nL Lh b4 hd3 hd2 c2 s3
    refine ⟨_, _, rfl, ?_⟩
    try dsimp only
    obtain ⟨lg, ls⟩ := str_small ya (by omega)
    have pw := pad_by 4 ya (by decide)
    have ty : tl (Str.ofString (toString (ya : Int))) = numL ya := tl_num ya
    have lm : (Txt.mul (Str.ofString "0") ((4 : Int) - ((Str.ofString (toString (ya : Int))).length : Nat))).length ≤ 4 := by
      rw [len_tl, tl_mul0 _ (by omega)]
      simp [zs]
    refine ⟨_, rfl, _, rfl, lg, _, rfl, by omega, _, _, rfl, rfl, _, _, rfl, rfl, mulok_0 _ (by omega) (by omega), _, rfl, _, rfl, lg, _, _, rfl, rfl, ?_, ?_⟩
    · exact Nat.le_trans (Nat.add_le_add lm ls) (by decide)
    have eY : Txt.mul (Str.ofString "0") ((4 : Int) - ((Str.ofString (toString (ya : Int))).length : Nat)) ++ Str.ofString (toString (ya : Int)) = zf 4 ya := by
      apply TL.ext_tl
      rw [zf_tl]
      exact pw
    rw [eY]
    clear lm pw ty ls lg
    try dsimp only
    have lY : (zf 4 ya).length = 4 := zf_len (by omega) (by decide)
    have z0 : sumI ya 1 = 0 := rfl
    refine ⟨1, 13, rfl, ⟨by decide, by decide, by decide, by decide⟩, for_range (lo := 1) (n := Int.toNat _) (fun i σ G => Same H4 G ∧ ∃ u5 u6 u7 u8 u9, σ = [some (.ref h), some (.int (ya : Int)), some (.int (aheadI ya + sumI ya (i + 1))), some (.str o), some (.str (zf 4 ya)), u5, u6, u7, u8, u9]) ⟨Same.refl _, none, none, none, none, none, ?_⟩ ?_ ?_⟩
    · rw [z0, Int.add_zero]
      rfl
    · rintro i σ G hi ⟨sG, u5, u6, u7, u8, u9, rfl⟩
      have hi : i < 12 := hi
      refine gN ?_
      try dsimp only
      dsimp only [List.set]
      rw [show (1 : Int) + (i : Int) = ((i + 1 : Nat) : Int) by omega]
      have m1 : 1 ≤ i + 1 := by omega
      have m12 : i + 1 ≤ 12 := by omega
      generalize i + 1 = m at m1 m12 ⊢
      have db := din_low ya m m1 m12
      refine ⟨_, rfl, _, rfl, ya, m, rfl, m1, m12, fun H5 s5 => ?_⟩
      refine ⟨_, _, rfl, rfl, ?_⟩
      refine ⟨1, dinI ya m + 1, rfl, ⟨by decide, by decide, by omega, by omega⟩, for_range (lo := 1) (n := Int.toNat _) (fun j σ G => Same H4 G ∧ ∃ u6 u7 u8 u9, σ = [some (.ref h), some (.int (ya : Int)), some (.int (aheadI ya + sumI ya m + (j : Int))), some (.str o), some (.str (zf 4 ya)), some (.int (m : Int)), u6, u7, u8, u9]) ⟨sG.trans s5, u6, u7, u8, u9, ?_⟩ ?_ ?_⟩
      · rw [show ((0 : Nat) : Int) = 0 from rfl, Int.add_zero]
      · rintro j σ G5 hj ⟨sG5, w6, w7, w8, w9, rfl⟩
        have hj : j < (dinI ya m + 1 - 1).toNat := hj
        have jd : (j : Int) < dinI ya m := by omega
        obtain ⟨isd, edn⟩ := day_step y1 y9 m1 m12 jd
        refine gN ?_
        try dsimp only
        dsimp only [List.set]
        rw [show (1 : Int) + (j : Int) = ((j + 1 : Nat) : Int) by omega, ← edn]
        have ed : dayN ya m (j + 1) + 1 = aheadI ya + sumI ya m + ((j + 1 : Nat) : Int) := by omega
        have j31 : j + 1 ≤ 31 := by omega
        have dl := day_le isd
        generalize j + 1 = d at isd ed j31 dl ⊢
        have hD5 : ∀ G', Same G5 G' → Same H4 G' := fun G' s => sG5.trans s
        refine ⟨_, rfl, _, rfl, (show 2 ≤ sizeLine by decide), fun t ht => ⟨t, rfl, ⟨_, SqT.of upd_same⟩, fun D n3 => ?_⟩⟩
        have s4 : Same G5 (upd G5 t (.tup [.int (m : Int), .int (d : Int)])) := Same.new ht
        refine lc_val (walk_tup (K := K) (a := t) (xs := [.int (m : Int), .int (d : Int)])) (Z := fun j x => ([V.int (m : Int), V.int (d : Int)])[j]? = some x) (fun j => .str (zf 2 (([m, d] : List Nat).getD j 0))) n3 yat (fun G s => SqT.of (s _ _ upd_same)) (show 2 < 100000 by decide) (fun _ => rfl) ?_ ?_
        · rintro k x G Q' hk hx sG' kG
          have hk : k < 2 := hk
          have key : ∀ a : Nat, a < 100 → x = .int (a : Int) → Q' (.str (zf 2 a)) G → tSl rSlS (tOp (fun x y H Q => ∃ i j, x = V.str i ∧ y = V.str j ∧ i.length + j.length ≤ sizeLine ∧ Q (V.str (i ++ j)) H) (tC (V.str (Str.ofString "0"))) (tCB (fun xs H Q => ∃ i, xs = [V.int i] ∧ i.natAbs.log2 < 1920 ∧ Q (V.str (Str.ofString (toString i))) H) (tCons (tVar 9) tNil))) (tPart (tUn (rU fun i => V.int (-i)) (tC (V.int 2)))) tNoPart ((wipe [some (.ref h), some (.int (ya : Int)), some (.int (dayN ya m d)), some (.str o), some (.str (zf 4 ya)), some (.int (m : Int)), some (.int (d : Int)), w7, w8, w9] [9]).set 9 (some x)) G Q' := by
            intro a ha ex qa
            subst ex
            obtain ⟨lg, ls⟩ := str_small a (by omega)
            have l0 : (Str.ofString "0").length ≤ 1 := by decide +kernel
            refine ⟨_, rfl, _, rfl, lg, _, _, rfl, rfl, Nat.le_trans (Nat.add_le_add l0 ls) (by decide), ?_⟩
            have lz : (Str.ofString "0" ++ Str.ofString (toString (a : Int))).length ≤ 7 := by
              rw [len_tl, tl_append, List.length_append, ← len_tl, ← len_tl]
              omega
            refine ⟨_, rfl, _, rfl, _, rfl, Nat.le_trans lz (by decide), ?_⟩
            have e2 := two a ha
            show Q' (.str (cutS (Str.ofString "0" ++ Str.ofString (toString (a : Int))) (some (-2)) none)) G
            rw [e2]
            exact qa
          rcases (show k = 0 ∨ k = 1 by omega) with rfl | rfl
          · exact key m (by omega) (by cases hx; rfl) (kG G (Same.refl _))
          · exact key d (by omega) (by cases hx; rfl) (kG G (Same.refl _))
        · intro G3 s3 e3
          have sH : Same H4 G3 := sG5.trans (s4.trans s3)
          have e3 : G3 D = some (.lst [.str (zf 2 m), .str (zf 2 d)]) := e3
          clear n3 ht s4 s3 hD5
          refine gN ?_
          try dsimp only
          have lM : (zf 2 m).length = 2 := zf_len (by omega) (by decide)
          have lD : (zf 2 d).length = 2 := zf_len (by omega) (by decide)
          refine ⟨_, rfl, _, rfl, _, rfl, D, _, _, _, rfl, rfl, SqL.of e3, atI_nat (j := 0) rfl, _, rfl, D, _, _, _, rfl, rfl, SqL.of e3, atI_nat (j := 1) rfl, o, _, _, _, Str.ofString "-", rfl, io, by omega, by omega, by omega, by decide +kernel, fun G6 s6 => ?_⟩
          have e45 : Str.ofString "-" = sg 45 := by decide +kernel
          have rd : dayS o (laidS o (Str.ofString "-") (zf 4 ya) (zf 2 m) (zf 2 d)) btw = some (dayN ya m d) := by
            rw [e45, read_good io (.inl rfl) (fig_pad (by omega) (by decide) (zf_tl 4 ya)) (by rw [← len_tl]; exact lY) (fig_pad (by omega) (by decide) (zf_tl 2 m)) (fig_pad (by omega) (by decide) (zf_tl 2 d)), num_day isd]
          have lz : (laidS o (Str.ofString "-") (zf 4 ya) (zf 2 m) (zf 2 d)).length ≤ 20 := by
            rw [e45, laid_len io, ← len_tl, ← len_tl, ← len_tl]
            omega
          have fit : (dayN ya m d).natAbs.log2 < 1920 := by
            rcases Nat.eq_zero_or_pos (dayN ya m d).natAbs with e | p
            · rw [e]; decide
            · exact Nat.lt_trans ((Nat.log2_lt (by omega)).mpr (show (dayN ya m d).natAbs < 2 ^ 22 by omega)) (by decide)
          generalize hz : laidS o (Str.ofString "-") (zf 4 ya) (zf 2 m) (zf 2 d) = z at *
          have sH6 := sH.trans s6
          try dsimp only
          refine ⟨_, rfl, (show 2 ≤ sizeLine by decide), fun t2 nt2 => ?_⟩
          refine ⟨_, rfl, t2, .day o, z, rfl, SqT.of upd_same, io, by omega, fun G7 s7 => ?_⟩
          have sH7 := sH6.trans ((Same.new nt2).trans s7)
          have rp : readP (.day o) z = some (dayN ya m d) := rd
          rw [rp]
          refine ⟨_, rfl, fit, _, rfl, _, rfl, fit, rfl, _, rfl, ?_⟩
          rw [decide_eq_true rfl]
          refine iteF ?_
          refine ⟨_, rfl, (show 2 ≤ sizeLine by decide), fun t3 nt3 => ?_⟩
          refine ⟨_, rfl, t3, ya, m, d, o, rfl, SqT.of upd_same, isd, io, fun G8 s8 => ?_⟩
          have sH8 := sH7.trans ((Same.new nt3).trans s8)
          rw [hz]
          refine ⟨_, rfl, rfl, _, rfl, ?_⟩
          rw [decide_eq_true rfl]
          refine iteF ?_
          unfold tNext
          try dsimp only
          refine ⟨_, rfl, _, _, rfl, rfl, ?_⟩
          refine ⟨sH8, some (.int (d : Int)), some (.ref D), some (.str z), w9, ?_⟩
          dsimp only [List.set]
          rw [ed]
      · rintro σ G5 ⟨sG5, w6, w7, w8, w9, rfl⟩
        have em : (((dinI ya m + 1 - 1).toNat : Nat) : Int) = dinI ya m := by omega
        refine ⟨sG5, some (.int (m : Int)), w6, w7, w8, ?_⟩
        rw [sum_succ ya m m1, em]
        exact ⟨w9, by rw [Int.add_assoc]⟩
    · rintro σ G ⟨sG, u5, u6, u7, u8, u9, rfl⟩
      have hdG := (hd4.mono sG (Nat.le_refl _)).up (show n + 2 + 1 ≤ n + 10 by omega)
      have cG := c4.trans (But.of sG)
      refine ⟨_, rfl, rfl, _, rfl, ?_⟩
      by_cases c : ya = 9999
      · rw [decide_eq_true (congrArg V.int (by omega))]
        exact iteT (q G hdG cG)
      · rw [decide_eq_false (fun e => c (by have := V.int.inj e; omega))]
        refine iteF ⟨_, rfl, _, rfl, _, _, rfl, rfl, ya + 1, by rw [Int.natCast_add]; rfl, by omega, by omega, fun H5 s5 => ?_⟩
        refine ⟨rfl, ?_⟩
        have e13 : aheadI ya + sumI ya (Int.toNat (13 - 1) + 1) = aheadI (ya + 1) := by
          rw [ahead_succ ya y1, show Int.toNat (13 - 1) + 1 = 13 from rfl, sum_all]
          omega
        rw [decide_eq_true (congrArg V.int e13)]
        exact q H5 (hdG.mono s5 (Nat.le_refl _)) (cG.trans (But.of s5))
end
end K03
set_option Elab.async false
set_option linter.all false
set_option pp.maxSteps 6000
set_option maxRecDepth 100000
set_option maxHeartbeats 8000000
/-! k03: the law -/
namespace K03
open PySem PySem.Spec PyProof.Rows L2 Bs TL K02 K21 Xfs Xa Xb Xp Xi1 Xk Xl
abbrev sLaw : Stmt := K21.top 35
section
variable {X : Cx}
theorem op_notIn_seqK {K : PySem.W.Frag} (hK : X.K = K) : OpR X (compareOp .NotIn) (rIn K true) := hK ▸ op_notIn_seq
end
theorem walk_zipTL {K : PySem.W.Frag} {a b : Addr} {xs ys : List V} {n : Nat} (hx : xs.length = n) (hy : ys.length = n) : Walk (ItTL K a b) n (fun H => SqT K H a xs ∧ SqL K H b ys) (YPair (fun i => xs[i]?) (fun i => ys[i]?)) := by
  refine ⟨fun i _ hi q => ⟨xs, ys, xs[i], ys[i], q.1, q.2, by simp [hx, hi], by simp [hy, hi]⟩, fun _ q => ⟨xs, ys, q.1, q.2, .inl ⟨hx.symm, by omega⟩⟩, fun i G x G' _ q y => ?_⟩
  obtain ⟨T, x1, y1, e1, e2, e3, e4, e5⟩ := y
  exact ⟨T, x1, y1, e1, e2, e3, e4 xs q.1, e5 ys q.2⟩
theorem but_same {h : Addr} {H H1 H2 : Hp} (b : But h H1 H2) (s : Same H H1) (n : H h = none) : Same H H2 := fun c o e => b c o (ne_of_none e n) (s c o e)
def dd : Option Int → PyData
  | none => .none
  | some i => .int i
theorem dp_dd {K : PySem.W.Frag} {H : Hp} : ∀ x : Option Int, Dp K H (ov x) (dd x)
  | none => .non
  | some i => .int i
theorem day_fit {y m d : Nat} (h : IsDay y m d) : (dayN y m d).natAbs.log2 < 1920 := by
  have dl := day_le h
  rcases Nat.eq_zero_or_pos (dayN y m d).natAbs with e | p
  · rw [e]; decide
  · exact Nat.lt_trans ((Nat.log2_lt (by omega)).mpr (show (dayN y m d).natAbs < 2 ^ 22 by omega)) (by decide)
theorem dd_len {x : Option Int} (h : ∀ N, x = some N → ∃ y m d, IsDay y m d ∧ N = dayN y m d) : (dd x).shown.length ≤ 1000 := by
  cases x with
  | none =>
    have e : (dd none).shown = Str.ofString "None" := by simp only [dd, PyData.shown]
    rw [e]
    decide +kernel
  | some i =>
    obtain ⟨y, m, d, isd, rfl⟩ := h i rfl
    have dl := day_le isd
    have e : (dd (some (dayN y m d))).shown = Str.ofString (toString (dayN y m d)) := by simp only [dd, PyData.shown]
    obtain ⟨k, ek⟩ : ∃ k : Nat, dayN y m d = (k : Int) := ⟨(dayN y m d).toNat, by omega⟩
    rw [e, ek, len_tl, show tl (Str.ofString (toString (k : Int))) = numL k from tl_num k]
    exact Nat.le_trans (numL_len (k := 8) (by decide) (show k < 10 ^ 8 by omega)) (by decide)
theorem dd_show {x : Option Int} (h : ∀ N, x = some N → ∃ y m d, IsDay y m d ∧ N = dayN y m d) : (PyData.list [dd x, dd x]).showable = true := by
  cases x with
  | none => simp [dd, PyData.showable, PyData.showableAll]
  | some i =>
    obtain ⟨y, m, d, isd, rfl⟩ := h i rfl
    have := day_fit isd
    simp [dd, PyData.showable, PyData.showableAll, this]
theorem dd_dict (x : Option Int) : (PyData.list [dd x, dd x]).hasDict = false := by cases x <;> simp [dd, PyData.hasDict, PyData.hasDictAll]
theorem dd_depth (x : Option Int) : (PyData.list [dd x, dd x]).depth < 60 := by cases x <;> simp [dd, PyData.depth, PyData.depthAll]
/-- a day's own text -/
def ownT (o : Str) (y m d : Nat) : Str := laidS o (Str.ofString "-") (zf 4 y) (zf 2 m) (zf 2 d)
theorem own_read {o : Str} {y m d : Nat} (io : IsOrd o) (h : IsDay y m d) : readP (.day o) (ownT o y m d) = some (dayN y m d) ∧ (ownT o y m d).length ≤ 20 := by
  have e45 : Str.ofString "-" = sg 45 := by decide +kernel
  obtain ⟨y1, y2, m1, m2, d1, d2⟩ := id h
  have dB := (din_low y m m1 m2).2
  have lY : (zf 4 y).length = 4 := zf_len (by omega) (by decide)
  have lM : (zf 2 m).length = 2 := zf_len (by omega) (by decide)
  have lD : (zf 2 d).length = 2 := zf_len (by omega) (by decide)
  unfold ownT
  rw [e45]
  refine ⟨?_, ?_⟩
  · show dayS o _ btw = _
    rw [read_good io (.inl rfl) (fig_pad (by omega) (by decide) (zf_tl 4 y)) (by rw [← len_tl]; exact lY) (fig_pad (by omega) (by decide) (zf_tl 2 m)) (fig_pad (by omega) (by decide) (zf_tl 2 d)), num_day h]
  · rw [laid_len io, ← len_tl, ← len_tl, ← len_tl]
    omega
def ords : List Str := [Str.ofString "ymd", Str.ofString "dmy", Str.ofString "mdy"]
theorem ords_ord : ∀ o ∈ ords, IsOrd o := by
  intro o ho
  simpa [ords, IsOrd] using ho
section
variable {P : Program} {w : World} {K : PySem.W.Frag} {mg : Str → Option Value} {base : Heap}
variable {cM fLp fDi fAh fNu : Addr} {dLp dDi dAh dNu : FuncData} {cB fIF fRA fRD fDo fRs : Addr} {dIF dRA dRD dDo dRs : FuncData}
variable {fTk fPk fLL fLM fLA fLN fLd fFi fDt fWd fWr : Addr} {dTk dPk dLL dLM dLA dLN dLd dFi dDt dWd dWr : FuncData} {fHd fCa fYr : Addr} {dHd dCa dYr : FuncData}
/-- what the law calls -/
structure LawF (K : PySem.W.Frag) (mg : Str → Option Value) (fHd fCa fYr : Addr) (dHd dCa dYr dRs dWr : FuncData) : Prop where
  Hd : Fun K "_law_hand" "_law_hand" sHand fHd dHd
  bHd : Binds K dHd ["_law_script", "_law_k"] []
  gHd : mg "_law_hand" = some (.ref fHd)
  Ca : Fun K "_law_case" "_law_case" sCa fCa dCa
  bCa : Binds K dCa ["_law_hand_here", "_law_order"] []
  gCa : mg "_law_case" = some (.ref fCa)
  Yr : Fun K "_law_year_right" "_law_year_right" sYr fYr dYr
  bYr : Binds K dYr ["_law_hand_here"] []
  gYr : mg "_law_year_right" = some (.ref fYr)
  kRs : KBinds K dRs ["form", "text"] ["text", "form"] swp swp
  kWr : KBinds K dWr ["form", "number"] ["number", "form"] swp swp
abbrev nLaw : List Str := ["_law_script", "_law_k", "_law_hand_here", "_law_turn", "_law_order", "_law_signs", "_law_due", "_law_kind", "_law_shown", "_law_others", "_law_again", "_law_one", "_law_told"]
theorem scLaw : FnScope nLaw ["_law_script"] (defScope sLaw) := ⟨rfl, rfl, rfl, by decide +kernel, rfl, by decide +kernel, by decide +kernel⟩
def spLaw (K : PySem.W.Frag) : Sp := fun vs H Q _ => ∃ (a : Addr) (ns : List Int), vs = [.ref a] ∧ SqL K H a (ns.map V.int) ∧ ns.length ≤ 63 ∧ ∀ H', Q (.bl true) H'
theorem ok_law {f : Addr} {fd : FuncData} (F : Fun K "law" "law" sLaw f fd) (T : Free mg) (L : LCal K mg fLL fLM fLA dLL dLM dLA) (U : CaseF K mg fTk fPk fLN fLd fFi dTk dPk dLN dLd dFi)
    (C : Cal K mg cM fLp fDi fAh fNu dLp dDi dAh dNu) (R : Frm K mg cB fIF fRA fRD fDo fRs dIF dRA dRD dDo dRs) (W : WrF K mg fDt fWd fWr dDt dWd dWr) (D : LawF K mg fHd fCa fYr dHd dCa dYr dRs dWr) : FG P w K mg base 8 f fd ["_law_script"] (spLaw K) := by
  have GHd : FnOk P w K mg base CX0 1 fHd dHd ["_law_script", "_law_k"] (spHand K) := ok_hand D.Hd T
  have GCa : FnOk P w K mg base CX0 4 fCa dCa ["_law_hand_here", "_law_order"] spCa := ok_case D.Ca T L U
  have GYr : FnOk P w K mg base CX0 7 fYr dYr ["_law_hand_here"] spYr := ok_year D.Yr T L U C R W
  have GRs : FnOk P w K mg base CX0 6 fRs dRs ["form", "text"] (spRs K) := ok_readas C R T
  have GWr : FnOk P w K mg base CX0 5 fWr dWr ["form", "number"] (spWr K) := W.ok C
  obtain ⟨gL, FDt, bDt, gDt, FWd, bWd, gWd, FWr, bWr, gWr, bD⟩ := W
  obtain ⟨FHd, bHd, gHd, FCa, bCa, gCa, FYr, bYr, gYr, kRs, kWr⟩ := D
  have FRs := R.Rs
  have bRs := R.bRs
  have gRs := R.gRs
  refine okG F scLaw (fun vs H Q E h => ?_) (fun cdv A outer s H vs Q E ng hr h => ?_)
  · obtain ⟨a, ns, rfl, _⟩ := h
    rfl
  · obtain ⟨a, ns, rfl, hS, hl, q⟩ := h
    refine ⟨_, pss_cons (ps_for PassesOwn.never rfl (pi_range1 (by rfl) T.range (pa_cons (pe_callB (call_max2 rfl) (by rfl) T.max (by decide +kernel) (pa_cons pe_int (pa_cons (pe_callB (call_min2 rfl) (by rfl) T.min (by decide +kernel) (pa_cons pe_int (pa_cons (pe_callB (call_len_seqK (K := K) rfl) (by rfl) T.len PySem.boot_len (pa_cons (pv 0) pa_nil)) pa_nil))) pa_nil))) pa_nil)) (pg_name (i := 1) scLaw.nd rfl (Or.inl rfl)) (pss_cons (ps_set (i := 2) scLaw.nd rfl (Or.inl rfl) (pe_call GHd (hr.mono (by decide)) (by rfl) gHd FHd.kp bHd .nil pass0 (pa_cons (pv 0) (pa_cons (pv 1) pa_nil))))
      (pss_cons (ps_if (pt_not (pt_val (pe_call GYr (hr.mono (by decide)) (by rfl) gYr FYr.kp bYr .nil pass0 (pa_cons (pv 2) pa_nil)))) (pss_one (ps_ret pe_bl)) (pss_nil))
      (pss_one (ps_for PassesOwn.never rfl (pi_range1 (by rfl) T.range (pa_cons pe_int pa_nil)) (pg_name (i := 3) scLaw.nd rfl (Or.inl rfl)) (pss_one (ps_for PassesOwn.never rfl (pi_tup (pe_tup (pa_cons pe_str (pa_cons pe_str (pa_cons pe_str pa_nil))))) (pg_name (i := 4) scLaw.nd rfl (Or.inl rfl)) (pss_cons (ps_asg (pe_call GCa (hr.mono (by decide)) (by rfl) gCa FCa.kp bCa .nil pass0 (pa_cons (pv 2) (pa_cons (pv 4) pa_nil))) (pg_tup rfl (pgs_cons (pg_name (i := 5) scLaw.nd rfl (Or.inl rfl)) (pgs_cons (pg_name (i := 6) scLaw.nd rfl (Or.inr rfl)) pgs_nil))))
      (pss_cons (ps_set (i := 7) scLaw.nd rfl (Or.inl rfl) (pe_tup (pa_cons pe_str (pa_cons (pv 4) pa_nil))))
      (pss_cons (ps_if (pt_cmpR op_ne (pe_callB (call_repr ng hr.units) (by rfl) T.repr (by decide +kernel) (pa_cons (pe_lst (pa_cons (pe_call GRs (hr.mono (by decide)) (by rfl) gRs FRs.kp bRs .nil pass0 (pa_cons (pv 7) (pa_cons (pv 5) pa_nil))) (pa_cons (callK0 GRs (hr.mono (by decide)) (by rfl) gRs FRs.kp kRs pass0 (pk_cons (pv 5) (pk_cons (pv 7) pk_nil))) pa_nil))) pa_nil)) (pe_callB (call_repr ng hr.units) (by rfl) T.repr (by decide +kernel) (pa_cons (pe_lst (pa_cons (pv 6) (pa_cons (pv 6) pa_nil))) pa_nil)) (nomark _)) (pss_one (ps_ret pe_bl)) (pss_nil))
      (pss_one (ps_if (pt_cmpR op_notN (pv 6) pe_non (nomark _)) (pss_cons (ps_set (i := 8) scLaw.nd rfl (Or.inl rfl) (callK0 GWr (hr.mono (by decide)) (by rfl) gWr FWr.kp kWr pass0 (pk_cons (pv 6) (pk_cons (pv 7) pk_nil))))
      (pss_cons (ps_setLc (i := 9) (own := [("_law_one", 11)]) (g := gName 11) (tt := tYes) rfl scLaw.nd rfl rfl (sw_true rfl rfl rfl rfl) (pi_tup (pe_tup (pa_cons pe_str (pa_cons pe_str (pa_cons pe_str pa_nil))))) (blkOk_by (own := [("_law_one", 11)]) (N := nLaw) (sc := defScope sLaw) (by decide +kernel)) (fun _ _ _ _ _ => (pg_name (i := 11) scLaw.nd rfl (Or.inl rfl))) (fun _ _ _ _ _ => pts_nil) (fun _ _ _ _ _ => (pe_call GWr (hr.mono (by decide)) (by rfl) gWr FWr.kp bWr .nil pass0 (pa_cons (pe_tup (pa_cons pe_str (pa_cons (pv 11) pa_nil))) (pa_cons (pv 6) pa_nil)))))
      (pss_cons (ps_if (PW.pt (pw_or (pt_cmpR op_ne (pe_callB SkE.call_repr_int (by rfl) T.repr (by decide +kernel) (pa_cons (pe_call GRs (hr.mono (by decide)) (by rfl) gRs FRs.kp bRs .nil pass0 (pa_cons (pv 7) (pa_cons (pv 8) pa_nil))) pa_nil)) (pe_callB SkE.call_repr_int (by rfl) T.repr (by decide +kernel) (pa_cons (pv 6) pa_nil)) (nomark _)) (pw_or1 (pt_cmpR (op_notIn_seqK (K := K) rfl) (pv 8) (pv 9) rfl)))) (pss_one (ps_ret pe_bl)) (pss_nil))
      (pss_cons (ps_setLc (i := 10) (own := [("_law_one", 11), ("_law_told", 12)]) (g := gTup K 2 (gCons (gName 11) (gCons (gName 12) gNil))) (tt := tYes) rfl scLaw.nd rfl rfl (sw_true rfl rfl rfl rfl) (pi_zipTL rfl T.zip (pa_cons (pe_tup (pa_cons pe_str (pa_cons pe_str (pa_cons pe_str pa_nil)))) (pa_cons (pv 9) pa_nil))) (blkOk_by (own := [("_law_one", 11), ("_law_told", 12)]) (N := nLaw) (sc := defScope sLaw) (by decide +kernel)) (fun _ _ _ _ _ => (pg_tup rfl (pgs_cons (pg_name (i := 11) scLaw.nd rfl (Or.inl rfl)) (pgs_cons (pg_name (i := 12) scLaw.nd rfl (Or.inl rfl)) pgs_nil)))) (fun _ _ _ _ _ => pts_nil) (fun _ _ _ _ _ => (pe_call GRs (hr.mono (by decide)) (by rfl) gRs FRs.kp bRs .nil pass0 (pa_cons (pe_tup (pa_cons pe_str (pa_cons (pv 11) pa_nil))) (pa_cons (pv 12) pa_nil)))))
      (pss_one (ps_if (pt_cmpR (op_neD hr.units) (pv 10) (pe_op op_rep (pe_lst (pa_cons (pv 6) pa_nil)) pe_int) (nomark _)) (pss_one (ps_ret pe_bl)) (pss_nil))))))) (pss_nil)))))))))))))
      (pss_one (ps_ret pe_bl)), ?_⟩
    have lenN : (ns.map V.int).length ≤ 63 := by rw [List.length_map]; exact hl
    refine ⟨_, rfl, a, _, rfl, .inl hS, _, _, rfl, _, _, rfl, _, rfl, ?_, ?_, for_range (lo := 0) (n := Int.toNat _) (fun i σ G => Same H G ∧ ∃ v1 v2 v3 v4 v5 v6 v7 v8 v9 v10 v11 v12, σ = [some (.ref a), v1, v2, v3, v4, v5, v6, v7, v8, v9, v10, v11, v12]) ⟨Same.refl _, none, none, none, none, none, none, none, none, none, none, none, none, rfl⟩ ?_ ?_⟩
    · split <;> split <;> omega
    · split <;> split <;> omega
    · rintro i σ H1 hi ⟨s1, v1, v2, v3, v4, v5, v6, v7, v8, v9, v10, v11, v12, rfl⟩
      have i4 : i < 64 := by
        have : i < 3 + 1 := by
          revert hi
          split <;> split <;> omega
        omega
      rw [Int.zero_add (i : Int)]
      refine ⟨_, rfl, _, rfl, a, ns, i, rfl, s1.seq hS, hl, i4, fun h H2 nh s2 hd2 => ?_⟩
      have nh0 : H h = none := s1.free nh
      refine gN ?_
      try dsimp only
      refine ⟨_, rfl, h, 0, rfl, hd2, by omega, fun H3 hd3 b3 => ?_⟩
      refine ⟨_, rfl, ?_⟩
      refine iteF ?_
      unfold tNext
      try dsimp only
      have s3 : Same H H3 := but_same b3 (s1.trans s2) nh0
      refine ⟨30, rfl, by decide, by decide, for_range (lo := 0) (n := 30) (fun j σ G => HandAt G h (10 + 100 * j) ∧ Same H G ∧ ∃ v3 v4 v5 v6 v7 v8 v9 v10 v11 v12, σ = [some (.ref a), some (.int (i : Int)), some (.ref h), v3, v4, v5, v6, v7, v8, v9, v10, v11, v12]) ⟨hd3.up (by omega), s3, v3, v4, v5, v6, v7, v8, v9, v10, v11, v12, rfl⟩ ?_ ?_⟩
      · rintro j σ G hj ⟨hdG, sG, v3, v4, v5, v6, v7, v8, v9, v10, v11, v12, rfl⟩
        refine gN ?_
        try dsimp only
        dsimp only [List.set]
        refine ⟨(show 3 ≤ sizeLine by decide), fun t nt => ⟨t, rfl, ⟨_, SqT.of upd_same⟩, ?_⟩⟩
        have th : t ≠ h := (hdG.fresh nt).symm
        refine for_it (walk_tup (K := K) (a := t) (xs := ords.map V.str)) (fun k σ G' => HandAt G' h (10 + 100 * j + 31 * k) ∧ But h (upd G t (.tup (ords.map V.str))) G' ∧ ∃ v4 v5 v6 v7 v8 v9 v10 v11 v12, σ = [some (.ref a), some (.int (i : Int)), some (.ref h), some (.int (0 + (j : Int))), v4, v5, v6, v7, v8, v9, v10, v11, v12]) ⟨(hdG.mono (Same.new nt) (Nat.le_refl _)), But.refl _ _, v4, v5, v6, v7, v8, v9, v10, v11, v12, rfl⟩ (fun _ _ G' _ p => SqT.of (p.2.1 _ _ th upd_same)) ?_ ?_
        · rintro k x σ G1 G1' hk ⟨hd1, bt1, w4, w5, w6, w7, w8, w9, w10, w11, w12, rfl⟩ ⟨rfl, hx⟩
          obtain ⟨o, ho, rfl⟩ : ∃ o, o ∈ ords ∧ x = .str o := by
            rw [List.getElem?_map] at hx
            obtain ⟨o, h1, h2⟩ := Option.map_eq_some_iff.mp hx
            exact ⟨o, List.mem_of_getElem? h1, h2.symm⟩
          have io := ords_ord o ho
          refine gN ?_
          try dsimp only
          dsimp only [List.set]
          refine ⟨_, rfl, _, rfl, h, _, o, rfl, hd1, by have hk : k < 3 := hk; omega, io, fun t1 H4 z r e4 du hd4 b4 => ?_⟩
          refine ⟨t1, _, rfl, SqT.of e4, rfl, _, _, rfl, ?_⟩
          refine ⟨_, _, rfl, ?_⟩
          refine ⟨rfl, ?_⟩
          try dsimp only
          dsimp only [List.set]
          refine ⟨_, rfl, (show 2 ≤ sizeLine by decide), fun t2 nt2 => ?_⟩
          refine gN ?_
          try dsimp only
          dsimp only [List.set]
          have hd5 : HandAt (upd H4 t2 (.tup [.str "day", .str o])) h (10 + 100 * j + 31 * k + 30) := hd4.mono (Same.new nt2) (Nat.le_refl _)
          have c5 : But h (upd G t (.tup (ords.map V.str))) (upd H4 t2 (.tup [.str "day", .str o])) := (bt1.trans b4).trans (But.of (Same.new nt2))
          have k5 : upd H4 t2 (.tup [.str "day", .str o]) t2 = some (.tup [.str "day", .str o]) := upd_same
          generalize upd H4 t2 (.tup [.str "day", .str o]) = H5 at *
          have fin : ∀ G', Same H5 G' → HandAt G' h (10 + 100 * j + 31 * (k + 1)) ∧ But h (upd G t (.tup (ords.map V.str))) G' := fun G' s => ⟨(hd5.mono s (Nat.le_refl _)).up (by omega), c5.trans (But.of s)⟩
          have zl : z.length ≤ 400 := Nat.le_trans du.len (by decide)
          refine ⟨_, rfl, _, rfl, t2, .day o, z, rfl, SqT.of k5, io, zl, fun H6 s6 => ?_⟩
          refine ⟨_, rfl, _, rfl, t2, .day o, z, rfl, SqT.of (s6 _ _ k5), io, zl, fun H7 s7 => ?_⟩
          have er : readP (.day o) z = r := du.eq
          rw [er]
          refine ⟨(show 2 ≤ sizeLine by decide), fun l1 n1 => ?_⟩
          refine ⟨_, PyData.list [dd r, dd r], rfl, .lst (SqL.of upd_same) (.cons (dp_dd r) (.cons (dp_dd r) .nil)), rfl, dd_show du.day, dd_dict r, dd_depth r, two_small rfl (dd_len du.day), ?_⟩
          refine ⟨_, rfl, _, rfl, (show 2 ≤ sizeLine by decide), fun l2 n2 => ?_⟩
          refine ⟨_, PyData.list [dd r, dd r], rfl, .lst (SqL.of upd_same) (.cons (dp_dd r) (.cons (dp_dd r) .nil)), rfl, dd_show du.day, dd_dict r, dd_depth r, two_small rfl (dd_len du.day), ?_⟩
          refine ⟨rfl, _, rfl, ?_⟩
          rw [decide_eq_true rfl]
          refine iteF ?_
          have s8 : Same H5 (upd (upd H7 l1 (.lst [ov r, ov r])) l2 (.lst [ov r, ov r])) := ((s6.trans s7).trans (Same.new n1)).trans (Same.new n2)
          generalize upd (upd H7 l1 (.lst [ov r, ov r])) l2 (.lst [ov r, ov r]) = H8 at *
          refine ⟨_, rfl, rfl, _, rfl, ?_⟩
          have dday := du.day
          clear er du n1 n2 s6 s7
          cases r with
          | none =>
            rw [decide_eq_true (show ov none = V.non from rfl)]
            refine iteF ?_
            obtain ⟨f1, f2⟩ := fin _ s8
            exact ⟨f1, f2, _, _, _, _, _, _, _, _, _, rfl⟩
          | some N =>
            rw [decide_eq_false (show ¬ ov (some N) = V.non from fun q => nomatch q)]
            refine iteT ?_
            obtain ⟨y, m, d, isd, rfl⟩ := dday N rfl
            have fit := day_fit isd
            have k8 := s8 _ _ k5
            refine ⟨_, rfl, _, rfl, t2, y, m, d, o, rfl, SqT.of k8, isd, io, fun H9 s9 => ?_⟩
            refine gN ?_
            try dsimp only
            dsimp only [List.set]
            have er : readP (.day o) (ownT o y m d) = some (dayN y m d) := (own_read io isd).1
            have lw : (ownT o y m d).length ≤ 400 := Nat.le_trans (own_read io isd).2 (by decide)
            have s89 := s8.trans s9
            refine ⟨(show 3 ≤ sizeLine by decide), fun t3 nt3 => ⟨t3, rfl, ⟨_, SqT.of upd_same⟩, fun D3 n3 => ?_⟩⟩
            have s10 := s89.trans (Same.new (o := .tup (ords.map V.str)) nt3)
            refine lc_val (walk_tup (K := K) (a := t3) (xs := ords.map V.str)) (Z := fun j x => (ords.map V.str)[j]? = some x) (fun j => .str (ownT (ords.getD j Str.empty) y m d)) n3 yat (fun G s => SqT.of (s _ _ upd_same)) (show 3 < 100000 by decide) (fun _ => rfl) ?_ ?_
            · rintro j' x G2 Q' hj' hx sG2 kG
              obtain ⟨o2, ho2, rfl⟩ : ∃ o2, ords[j']? = some o2 ∧ x = .str o2 := by
                rw [List.getElem?_map] at hx
                obtain ⟨o2, h1, h2⟩ := Option.map_eq_some_iff.mp hx
                exact ⟨o2, h1, h2.symm⟩
              have e2 : ords.getD j' Str.empty = o2 := by
                rw [List.getD_eq_getElem?_getD, ho2]
                rfl
              rw [e2] at kG
              refine ⟨_, rfl, (show 2 ≤ sizeLine by decide), fun t4 nt4 => ?_⟩
              exact ⟨_, rfl, t4, y, m, d, o2, rfl, SqT.of upd_same, isd, ords_ord o2 (List.mem_of_getElem? ho2), fun G3 s3 => kG G3 ((Same.new nt4).trans s3)⟩
            · intro G2 sG2 e3
              have e3 : G2 D3 = some (.lst (ords.map fun o2 => V.str (ownT o2 y m d))) := e3
              have s11 := s10.trans sG2
              refine gN ?_
              try dsimp only
              dsimp only [List.set]
              have eo : laidS o (Str.ofString "-") (zf 4 y) (zf 2 m) (zf 2 d) = ownT o y m d := rfl
              rw [eo]
              refine ⟨_, rfl, _, rfl, t2, .day o, _, rfl, SqT.of (s11 _ _ k5), io, lw, fun G3 s3 => ?_⟩
              rw [er]
              refine ⟨_, rfl, fit, _, rfl, _, rfl, fit, rfl, _, rfl, ?_⟩
              rw [decide_eq_true rfl]
              refine iteF ?_
              have hin : inV (.str (ownT o y m d)) (ords.map fun o2 => V.str (ownT o2 y m d)) = true := by
                unfold inV
                rw [List.any_eq_true]
                exact ⟨_, List.mem_map.mpr ⟨o, ho, rfl⟩, by simp [eqV]⟩
              have hfl : (ords.map fun o2 => V.str (ownT o2 y m d)).all flatV = true := by
                rw [List.all_eq_true]
                rintro x hx
                obtain ⟨o2, _, rfl⟩ := List.mem_map.mp hx
                rfl
              refine ⟨_, rfl, _, rfl, D3, _, rfl, .inl (SqL.of (s3 _ _ e3)), rfl, hfl, false, by rw [hin]; rfl, ?_⟩
              refine iteF ?_
              have s12 := s11.trans s3
              have e4 := s3 _ _ e3
              clear s11 sG2 s3
              refine ⟨(show 3 ≤ sizeLine by decide), fun t5 nt5 => ?_⟩
              have s13 := s12.trans (Same.new (o := .tup (ords.map V.str)) nt5)
              have e5 : upd G3 t5 (.tup (ords.map V.str)) D3 = some (.lst (ords.map fun o2 => V.str (ownT o2 y m d))) := Same.new nt5 _ _ e4
              have e6 : upd G3 t5 (.tup (ords.map V.str)) t5 = some (.tup (ords.map V.str)) := upd_same
              refine ⟨_, rfl, t5, D3, ords.map V.str, ords.map fun o2 => V.str (ownT o2 y m d), rfl, SqT.of e6, SqL.of e5, ?_⟩
              intro D5 n5
              replace n5 : upd G3 t5 (.tup (ords.map V.str)) D5 = none := n5
              obtain ⟨B, hB⟩ : ∃ B, B = upd G3 t5 (.tup (ords.map V.str)) := ⟨_, rfl⟩
              rw [← hB] at e5 e6 s13 n5
              have h0 : Same B (upd (upd G3 t5 (.tup (ords.map V.str))) D5 (.lst [])) ∧ upd (upd G3 t5 (.tup (ords.map V.str))) D5 (.lst []) D5 = some (.lst (List.replicate 0 (V.int (dayN y m d)))) := by
                rw [← hB]
                exact ⟨Same.new n5, upd_same⟩
              refine lc_it (walk_zipTL (n := 3) rfl rfl) (fun c G' => Same B G' ∧ G' D5 = some (.lst (List.replicate c (V.int (dayN y m d))))) h0 (fun _ G' _ p => ⟨SqT.of (p.1 _ _ e6), SqL.of (p.1 _ _ e5)⟩) ?_ ?_
              · rintro c x G4 G4' hc ⟨sB, eD⟩ ⟨TT, x1, y1, rfl, nT, rfl, h1, h2⟩
                replace h1 : (ords.map V.str)[c]? = some x1 := h1
                replace h2 : (ords.map fun o2 => V.str (ownT o2 y m d))[c]? = some y1 := h2
                rw [List.getElem?_map] at h1 h2
                obtain ⟨o2, g1, rfl⟩ := Option.map_eq_some_iff.mp h1
                rw [g1] at h2
                cases h2
                have io2 := ords_ord o2 (List.mem_of_getElem? g1)
                have rd2 := own_read io2 isd
                refine ⟨TT, _, rfl, SqT.of upd_same, rfl, _, _, rfl, ?_⟩
                refine ⟨_, _, rfl, ?_⟩
                refine ⟨rfl, rfl, yes ?_⟩
                refine ⟨_, rfl, (show 2 ≤ sizeLine by decide), fun t6 nt6 => ?_⟩
                refine ⟨_, rfl, t6, .day o2, _, rfl, SqT.of upd_same, io2, Nat.le_trans rd2.2 (by decide), fun G6 s6 => ?_⟩
                rw [rd2.1]
                have sB6 : Same B G6 := sB.trans ((Same.new nT).trans ((Same.new nt6).trans s6))
                have eD6 : G6 D5 = some (.lst (List.replicate c (V.int (dayN y m d)))) := s6 _ _ (Same.new nt6 _ _ (Same.new nT _ _ eD))
                refine ⟨_, eD6, ?_, fun b ob e => ?_, ?_⟩
                · rw [List.length_replicate]
                  exact Nat.lt_of_lt_of_le hc (by decide)
                · rw [upd_ne (ne_of_none e n5)]
                  exact sB6 b ob e
                · rw [upd_same, List.replicate_succ']
                  rfl
              · rintro G4 ⟨sB, eD⟩
                have s14 := s13.trans sB
                refine gN ?_
                try dsimp only
                dsimp only [List.set]
                refine ⟨_, rfl, _, rfl, (show 1 ≤ sizeLine by decide), fun l3 n3 => ?_⟩
                refine ⟨l3, 3, _, rfl, rfl, upd_same, by decide, by decide, (show 1 * 3 ≤ sizeLine by decide), fun l4 n4 => ?_⟩
                have cl : PyData.canLay0 (.list [.int (dayN y m d), .int (dayN y m d), .int (dayN y m d)]) = true := by simp [PyData.canLay0, PyData.canLayAll0]
                have sh : SeqAt.shaped (.list [.int (dayN y m d), .int (dayN y m d), .int (dayN y m d)]) = true := by
                  unfold SeqAt.shaped
                  rw [cl]
                  simp [PyData.depth, PyData.depthAll]
                refine ⟨.list [.int (dayN y m d), .int (dayN y m d), .int (dayN y m d)], .list [.int (dayN y m d), .int (dayN y m d), .int (dayN y m d)], .lst (SqL.of (Same.new n4 _ _ (Same.new n3 _ _ eD))) (.cons (.int _) (.cons (.int _) (.cons (.int _) .nil))), .lst (SqL.of upd_same) (.cons (.int _) (.cons (.int _) (.cons (.int _) .nil))), sh, sh, _, rfl, ?_⟩
                rw [SeqAt.eqv_refl _ cl]
                refine iteF ?_
                obtain ⟨f1, f2⟩ := fin _ (s14.trans ((Same.new n3).trans (Same.new n4)))
                exact ⟨f1, f2, _, _, _, _, _, _, _, _, _, rfl⟩
        · rintro σ G1 ⟨hd1, bt1, w4, w5, w6, w7, w8, w9, w10, w11, w12, rfl⟩
          refine ⟨hd1.up (by show 10 + 100 * j + 31 * 3 ≤ _; omega), but_same bt1 (sG.trans (Same.new nt)) nh0, _, _, _, _, _, _, _, _, _, _, rfl⟩
      · rintro σ G ⟨hdG, sG, v3, v4, v5, v6, v7, v8, v9, v10, v11, v12, rfl⟩
        exact ⟨sG, _, _, _, _, _, _, _, _, _, _, _, _, rfl⟩
    · rintro σ G _
      exact q _
end
end K03
set_option Elab.async false
set_option linter.all false
set_option maxRecDepth 100000
set_option maxHeartbeats 8000000
/-! k03: the end -/
namespace K03
open PySem PySem.Spec PyProof.Rows L2 Bs TL K02 K21
theorem tup_const {K : PySem.W.Frag} {o : Addr} {od : Option Addr} {its : Array Value} {m : Nat} {sl : Array (Option Value)} {xs : List V} (hk : K.lookup o = some ⟨.type "tuple", od, .seq its m, sl⟩) (hz : its.size ≤ sizeLine) (r : Vals xs its.toList) : ∀ H, SqT K H o xs :=
  fun H => .inr ⟨_, its, m, hk, rfl, rfl, hz, r⟩
theorem all_mk {l : PySem.W.OpenLaw} {w : World} {K : PySem.W.Frag} {h : Heap} {mg : Str → Option Value} {fa f1 f2 f3 f4 f5 f6 f7 f8 f9 f10 f11 f12 f13 f14 f15 f16 f17 f18 f19 f20 f21 f22 f23 f24 c_MONTHS c_BETWEEN : Addr} (X : K.In h) (G : h.Ns mainGlobals mg) (hfa : mg "law" = some (.ref fa))
    {od1 an1 od2 an2 od3 an3 od4 an4 od5 an5 od6 an6 od7 an7 od8 an8 od9 an9 od10 an10 od11 an11 od12 an12 od13 an13 od14 an14 od15 an15 od16 an16 od17 an17 od18 an18 od19 an19 od20 an20 od21 an21 od22 an22 od23 an23 od24 an24 od_MONTHS od_BETWEEN : Option Addr} {sl1 sl2 sl3 sl4 sl5 sl6 sl7 sl8 sl9 sl10 sl11 sl12 sl13 sl14 sl15 sl16 sl17 sl18 sl19 sl20 sl21 sl22 sl23 sl24 sl_MONTHS sl_BETWEEN : Array (Option Value)}
    {oc1 kV1 dc1 pm1 cd1 ct1 oc2 kV2 dc2 pm2 cd2 ct2 oc3 kV3 dc3 pm3 cd3 ct3 oc4 kV4 dc4 pm4 cd4 ct4 oc5 kV5 dc5 pm5 cd5 ct5 oc6 kV6 dc6 pm6 cd6 ct6 oc7 kV7 dc7 pm7 cd7 ct7 oc8 kV8 dc8 pm8 cd8 ct8 oc9 kV9 dc9 pm9 cd9 ct9 oc10 kV10 dc10 pm10 cd10 ct10 oc11 kV11 dc11 pm11 cd11 ct11 oc12 kV12 dc12 pm12 cd12 ct12 oc13 kV13 dc13 pm13 cd13 ct13 oc14 kV14 dc14 pm14 cd14 ct14 oc15 kV15 dc15 pm15 cd15 ct15 oc16 kV16 dc16 pm16 cd16 ct16 oc17 kV17 dc17 pm17 cd17 ct17 oc18 kV18 dc18 pm18 cd18 ct18 oc19 kV19 dc19 pm19 cd19 ct19 oc20 kV20 dc20 pm20 cd20 ct20 oc21 kV21 dc21 pm21 cd21 ct21 oc22 kV22 dc22 pm22 cd22 ct22 oc23 kV23 dc23 pm23 cd23 ct23 oc24 kV24 dc24 pm24 cd24 ct24 : Value}
    {tk_FEBRUARY tk_LONGEST_YEAR tk_WHOLE_FIGURES tk_AMOUNT_FIGURES tk_YEAR_FIGURES tk_DAY_FIGURES tk_MONTHS0 tk_MONTHS1 tk_MONTHS2 tk_MONTHS3 tk_MONTHS4 tk_MONTHS5 tk_MONTHS6 tk_MONTHS7 tk_MONTHS8 tk_MONTHS9 tk_MONTHS10 tk_MONTHS11 tk_BETWEEN0 tk_BETWEEN1 tk_BETWEEN2 : Tok} {m_MONTHS m_BETWEEN : Nat}
    (a1 : PySem.W.nsIn K mainGlobals "is_leap" = some (some (.ref f1)))
    (l1 : K.lookup f1 = some ⟨oc1, od1, .func (PySem.W.fnOf "is_leap" "is_leap" (defArgs sLeap) (defBody sLeap) (defScope sLeap) .none kV1 dc1 pm1 an1 cd1 ct1), sl1⟩)
    (c1 : PySem.W.codeIn K cd1 "is_leap" = true)
    (k1 : PySem.W.keepIn K (.ref f1) = true)
    (a2 : PySem.W.nsIn K mainGlobals "days_in" = some (some (.ref f2)))
    (l2 : K.lookup f2 = some ⟨oc2, od2, .func (PySem.W.fnOf "days_in" "days_in" (defArgs sDin) (defBody sDin) (defScope sDin) .none kV2 dc2 pm2 an2 cd2 ct2), sl2⟩)
    (c2 : PySem.W.codeIn K cd2 "days_in" = true)
    (k2 : PySem.W.keepIn K (.ref f2) = true)
    (a3 : PySem.W.nsIn K mainGlobals "days_ahead" = some (some (.ref f3)))
    (l3 : K.lookup f3 = some ⟨oc3, od3, .func (PySem.W.fnOf "days_ahead" "days_ahead" (defArgs sAhead) (defBody sAhead) (defScope sAhead) .none kV3 dc3 pm3 an3 cd3 ct3), sl3⟩)
    (c3 : PySem.W.codeIn K cd3 "days_ahead" = true)
    (k3 : PySem.W.keepIn K (.ref f3) = true)
    (a4 : PySem.W.nsIn K mainGlobals "number_of" = some (some (.ref f4)))
    (l4 : K.lookup f4 = some ⟨oc4, od4, .func (PySem.W.fnOf "number_of" "number_of" (defArgs sNum) (defBody sNum) (defScope sNum) .none kV4 dc4 pm4 an4 cd4 ct4), sl4⟩)
    (c4 : PySem.W.codeIn K cd4 "number_of" = true)
    (k4 : PySem.W.keepIn K (.ref f4) = true)
    (a5 : PySem.W.nsIn K mainGlobals "date_of" = some (some (.ref f5)))
    (l5 : K.lookup f5 = some ⟨oc5, od5, .func (PySem.W.fnOf "date_of" "date_of" (defArgs sDt) (defBody sDt) (defScope sDt) .none kV5 dc5 pm5 an5 cd5 ct5), sl5⟩)
    (c5 : PySem.W.codeIn K cd5 "date_of" = true)
    (k5 : PySem.W.keepIn K (.ref f5) = true)
    (a6 : PySem.W.nsIn K mainGlobals "is_figures" = some (some (.ref f6)))
    (l6 : K.lookup f6 = some ⟨oc6, od6, .func (PySem.W.fnOf "is_figures" "is_figures" (defArgs sIsFig) (defBody sIsFig) (defScope sIsFig) .none kV6 dc6 pm6 an6 cd6 ct6), sl6⟩)
    (c6 : PySem.W.codeIn K cd6 "is_figures" = true)
    (k6 : PySem.W.keepIn K (.ref f6) = true)
    (a7 : PySem.W.nsIn K mainGlobals "read_amount" = some (some (.ref f7)))
    (l7 : K.lookup f7 = some ⟨oc7, od7, .func (PySem.W.fnOf "read_amount" "read_amount" (defArgs sReadAm) (defBody sReadAm) (defScope sReadAm) .none kV7 dc7 pm7 an7 cd7 ct7), sl7⟩)
    (c7 : PySem.W.codeIn K cd7 "read_amount" = true)
    (k7 : PySem.W.keepIn K (.ref f7) = true)
    (a8 : PySem.W.nsIn K mainGlobals "read_day" = some (some (.ref f8)))
    (l8 : K.lookup f8 = some ⟨oc8, od8, .func (PySem.W.fnOf "read_day" "read_day" (defArgs sRD) (defBody sRD) (defScope sRD) .none kV8 dc8 pm8 an8 cd8 ct8), sl8⟩)
    (c8 : PySem.W.codeIn K cd8 "read_day" = true)
    (k8 : PySem.W.keepIn K (.ref f8) = true)
    (a9 : PySem.W.nsIn K mainGlobals "day_of" = some (some (.ref f9)))
    (l9 : K.lookup f9 = some ⟨oc9, od9, .func (PySem.W.fnOf "day_of" "day_of" (defArgs sDo) (defBody sDo) (defScope sDo) .none kV9 dc9 pm9 an9 cd9 ct9), sl9⟩)
    (c9 : PySem.W.codeIn K cd9 "day_of" = true)
    (k9 : PySem.W.keepIn K (.ref f9) = true)
    (a10 : PySem.W.nsIn K mainGlobals "read_as" = some (some (.ref f10)))
    (l10 : K.lookup f10 = some ⟨oc10, od10, .func (PySem.W.fnOf "read_as" "read_as" (defArgs sRs) (defBody sRs) (defScope sRs) .none kV10 dc10 pm10 an10 cd10 ct10), sl10⟩)
    (c10 : PySem.W.codeIn K cd10 "read_as" = true)
    (k10 : PySem.W.keepIn K (.ref f10) = true)
    (a11 : PySem.W.nsIn K mainGlobals "written" = some (some (.ref f11)))
    (l11 : K.lookup f11 = some ⟨oc11, od11, .func (PySem.W.fnOf "written" "written" (defArgs sWr) (defBody sWr) (defScope sWr) .none kV11 dc11 pm11 an11 cd11 ct11), sl11⟩)
    (c11 : PySem.W.codeIn K cd11 "written" = true)
    (k11 : PySem.W.keepIn K (.ref f11) = true)
    (a12 : PySem.W.nsIn K mainGlobals "written_day" = some (some (.ref f12)))
    (l12 : K.lookup f12 = some ⟨oc12, od12, .func (PySem.W.fnOf "written_day" "written_day" (defArgs sWd) (defBody sWd) (defScope sWd) .none kV12 dc12 pm12 an12 cd12 ct12), sl12⟩)
    (c12 : PySem.W.codeIn K cd12 "written_day" = true)
    (k12 : PySem.W.keepIn K (.ref f12) = true)
    (a13 : PySem.W.nsIn K mainGlobals "_law_hand" = some (some (.ref f13)))
    (l13 : K.lookup f13 = some ⟨oc13, od13, .func (PySem.W.fnOf "_law_hand" "_law_hand" (defArgs sHand) (defBody sHand) (defScope sHand) .none kV13 dc13 pm13 an13 cd13 ct13), sl13⟩)
    (c13 : PySem.W.codeIn K cd13 "_law_hand" = true)
    (k13 : PySem.W.keepIn K (.ref f13) = true)
    (a14 : PySem.W.nsIn K mainGlobals "_law_take" = some (some (.ref f14)))
    (l14 : K.lookup f14 = some ⟨oc14, od14, .func (PySem.W.fnOf "_law_take" "_law_take" (defArgs sTake) (defBody sTake) (defScope sTake) .none kV14 dc14 pm14 an14 cd14 ct14), sl14⟩)
    (c14 : PySem.W.codeIn K cd14 "_law_take" = true)
    (k14 : PySem.W.keepIn K (.ref f14) = true)
    (a15 : PySem.W.nsIn K mainGlobals "_law_pick" = some (some (.ref f15)))
    (l15 : K.lookup f15 = some ⟨oc15, od15, .func (PySem.W.fnOf "_law_pick" "_law_pick" (defArgs sPick) (defBody sPick) (defScope sPick) .none kV15 dc15 pm15 an15 cd15 ct15), sl15⟩)
    (c15 : PySem.W.codeIn K cd15 "_law_pick" = true)
    (k15 : PySem.W.keepIn K (.ref f15) = true)
    (a16 : PySem.W.nsIn K mainGlobals "_law_leap" = some (some (.ref f16)))
    (l16 : K.lookup f16 = some ⟨oc16, od16, .func (PySem.W.fnOf "_law_leap" "_law_leap" (defArgs sLL) (defBody sLL) (defScope sLL) .none kV16 dc16 pm16 an16 cd16 ct16), sl16⟩)
    (c16 : PySem.W.codeIn K cd16 "_law_leap" = true)
    (k16 : PySem.W.keepIn K (.ref f16) = true)
    (a17 : PySem.W.nsIn K mainGlobals "_law_month" = some (some (.ref f17)))
    (l17 : K.lookup f17 = some ⟨oc17, od17, .func (PySem.W.fnOf "_law_month" "_law_month" (defArgs sLM) (defBody sLM) (defScope sLM) .none kV17 dc17 pm17 an17 cd17 ct17), sl17⟩)
    (c17 : PySem.W.codeIn K cd17 "_law_month" = true)
    (k17 : PySem.W.keepIn K (.ref f17) = true)
    (a18 : PySem.W.nsIn K mainGlobals "_law_ahead" = some (some (.ref f18)))
    (l18 : K.lookup f18 = some ⟨oc18, od18, .func (PySem.W.fnOf "_law_ahead" "_law_ahead" (defArgs sLA) (defBody sLA) (defScope sLA) .none kV18 dc18 pm18 an18 cd18 ct18), sl18⟩)
    (c18 : PySem.W.codeIn K cd18 "_law_ahead" = true)
    (k18 : PySem.W.keepIn K (.ref f18) = true)
    (a19 : PySem.W.nsIn K mainGlobals "_law_number" = some (some (.ref f19)))
    (l19 : K.lookup f19 = some ⟨oc19, od19, .func (PySem.W.fnOf "_law_number" "_law_number" (defArgs sLN) (defBody sLN) (defScope sLN) .none kV19 dc19 pm19 an19 cd19 ct19), sl19⟩)
    (c19 : PySem.W.codeIn K cd19 "_law_number" = true)
    (k19 : PySem.W.keepIn K (.ref f19) = true)
    (a20 : PySem.W.nsIn K mainGlobals "_law_laid" = some (some (.ref f20)))
    (l20 : K.lookup f20 = some ⟨oc20, od20, .func (PySem.W.fnOf "_law_laid" "_law_laid" (defArgs sLd) (defBody sLd) (defScope sLd) .none kV20 dc20 pm20 an20 cd20 ct20), sl20⟩)
    (c20 : PySem.W.codeIn K cd20 "_law_laid" = true)
    (k20 : PySem.W.keepIn K (.ref f20) = true)
    (a21 : PySem.W.nsIn K mainGlobals "_law_figures" = some (some (.ref f21)))
    (l21 : K.lookup f21 = some ⟨oc21, od21, .func (PySem.W.fnOf "_law_figures" "_law_figures" (defArgs sFi) (defBody sFi) (defScope sFi) .none kV21 dc21 pm21 an21 cd21 ct21), sl21⟩)
    (c21 : PySem.W.codeIn K cd21 "_law_figures" = true)
    (k21 : PySem.W.keepIn K (.ref f21) = true)
    (a22 : PySem.W.nsIn K mainGlobals "_law_case" = some (some (.ref f22)))
    (l22 : K.lookup f22 = some ⟨oc22, od22, .func (PySem.W.fnOf "_law_case" "_law_case" (defArgs sCa) (defBody sCa) (defScope sCa) .none kV22 dc22 pm22 an22 cd22 ct22), sl22⟩)
    (c22 : PySem.W.codeIn K cd22 "_law_case" = true)
    (k22 : PySem.W.keepIn K (.ref f22) = true)
    (a23 : PySem.W.nsIn K mainGlobals "_law_year_right" = some (some (.ref f23)))
    (l23 : K.lookup f23 = some ⟨oc23, od23, .func (PySem.W.fnOf "_law_year_right" "_law_year_right" (defArgs sYr) (defBody sYr) (defScope sYr) .none kV23 dc23 pm23 an23 cd23 ct23), sl23⟩)
    (c23 : PySem.W.codeIn K cd23 "_law_year_right" = true)
    (k23 : PySem.W.keepIn K (.ref f23) = true)
    (a24 : PySem.W.nsIn K mainGlobals "law" = some (some (.ref f24)))
    (l24 : K.lookup f24 = some ⟨oc24, od24, .func (PySem.W.fnOf "law" "law" (defArgs sLaw) (defBody sLaw) (defScope sLaw) .none kV24 dc24 pm24 an24 cd24 ct24), sl24⟩)
    (c24 : PySem.W.codeIn K cd24 "law" = true)
    (k24 : PySem.W.keepIn K (.ref f24) = true)
    (z_isinstance : PySem.W.nsIn K mainGlobals "isinstance" = some none)
    (z_int : PySem.W.nsIn K mainGlobals "int" = some none)
    (z_bool : PySem.W.nsIn K mainGlobals "bool" = some none)
    (z_str : PySem.W.nsIn K mainGlobals "str" = some none)
    (z_tuple : PySem.W.nsIn K mainGlobals "tuple" = some none)
    (z_dict : PySem.W.nsIn K mainGlobals "dict" = some none)
    (z_len : PySem.W.nsIn K mainGlobals "len" = some none)
    (z_abs : PySem.W.nsIn K mainGlobals "abs" = some none)
    (z_range : PySem.W.nsIn K mainGlobals "range" = some none)
    (z_all : PySem.W.nsIn K mainGlobals "all" = some none)
    (z_sum : PySem.W.nsIn K mainGlobals "sum" = some none)
    (z_zip : PySem.W.nsIn K mainGlobals "zip" = some none)
    (z_list : PySem.W.nsIn K mainGlobals "list" = some none)
    (z_sorted : PySem.W.nsIn K mainGlobals "sorted" = some none)
    (z_repr : PySem.W.nsIn K mainGlobals "repr" = some none)
    (z_max : PySem.W.nsIn K mainGlobals "max" = some none)
    (z_min : PySem.W.nsIn K mainGlobals "min" = some none)
    (zS : PySem.W.nsIn K cStatics sharingNotToldKey = some none)
    (zD : PySem.W.nsIn K cStatics "sys.int_max_str_digits" = some none)
    (n_FEBRUARY : PySem.W.nsIn K mainGlobals "FEBRUARY" = some (some (.int 2 tk_FEBRUARY)))
    (n_LONGEST_YEAR : PySem.W.nsIn K mainGlobals "LONGEST_YEAR" = some (some (.int 366 tk_LONGEST_YEAR)))
    (n_WHOLE_FIGURES : PySem.W.nsIn K mainGlobals "WHOLE_FIGURES" = some (some (.int 9 tk_WHOLE_FIGURES)))
    (n_AMOUNT_FIGURES : PySem.W.nsIn K mainGlobals "AMOUNT_FIGURES" = some (some (.int 8 tk_AMOUNT_FIGURES)))
    (n_YEAR_FIGURES : PySem.W.nsIn K mainGlobals "YEAR_FIGURES" = some (some (.int 4 tk_YEAR_FIGURES)))
    (n_DAY_FIGURES : PySem.W.nsIn K mainGlobals "DAY_FIGURES" = some (some (.int 2 tk_DAY_FIGURES)))
    (n_MONTHS : PySem.W.nsIn K mainGlobals "MONTHS" = some (some (.ref c_MONTHS)))
    (L_MONTHS : K.lookup c_MONTHS = some ⟨.type "tuple", od_MONTHS, .seq #[.int 31 tk_MONTHS0, .int 28 tk_MONTHS1, .int 31 tk_MONTHS2, .int 30 tk_MONTHS3, .int 31 tk_MONTHS4, .int 30 tk_MONTHS5, .int 31 tk_MONTHS6, .int 31 tk_MONTHS7, .int 30 tk_MONTHS8, .int 31 tk_MONTHS9, .int 30 tk_MONTHS10, .int 31 tk_MONTHS11] m_MONTHS, sl_MONTHS⟩)
    (n_BETWEEN : PySem.W.nsIn K mainGlobals "BETWEEN" = some (some (.ref c_BETWEEN)))
    (L_BETWEEN : K.lookup c_BETWEEN = some ⟨.type "tuple", od_BETWEEN, .seq #[.str (Str.ofString "-") tk_BETWEEN0, .str (Str.ofString ".") tk_BETWEEN1, .str (Str.ofString "/") tk_BETWEEN2] m_BETWEEN, sl_BETWEEN⟩) :
    ∃ fd : FuncData, (∀ (s : Shared) (v : Value), BindsTo s fd ⟨[v], []⟩ [("_law_script", v)]) ∧ ∀ base : Heap, K.In base → base.Ns mainGlobals mg → FG l.prog w K mg base 8 fa fd ["_law_script"] (spLaw K) := by
  have e := hfa.symm.trans (PySem.W.mg_of X G a24)
  cases e
  have FLp := fun_mk (st := sLeap) l1 c1 k1
  have FDi := fun_mk (st := sDin) l2 c2 k2
  have FAh := fun_mk (st := sAhead) l3 c3 k3
  have FNu := fun_mk (st := sNum) l4 c4 k4
  have FDt := fun_mk (st := sDt) l5 c5 k5
  have FIF := fun_mk (st := sIsFig) l6 c6 k6
  have FRA := fun_mk (st := sReadAm) l7 c7 k7
  have FRD := fun_mk (st := sRD) l8 c8 k8
  have FDo := fun_mk (st := sDo) l9 c9 k9
  have FRs := fun_mk (st := sRs) l10 c10 k10
  have FWr := fun_mk (st := sWr) l11 c11 k11
  have FWd := fun_mk (st := sWd) l12 c12 k12
  have FHd := fun_mk (st := sHand) l13 c13 k13
  have FTk := fun_mk (st := sTake) l14 c14 k14
  have FPk := fun_mk (st := sPick) l15 c15 k15
  have FLL := fun_mk (st := sLL) l16 c16 k16
  have FLM := fun_mk (st := sLM) l17 c17 k17
  have FLA := fun_mk (st := sLA) l18 c18 k18
  have FLN := fun_mk (st := sLN) l19 c19 k19
  have FLd := fun_mk (st := sLd) l20 c20 k20
  have FFi := fun_mk (st := sFi) l21 c21 k21
  have FCa := fun_mk (st := sCa) l22 c22 k22
  have FYr := fun_mk (st := sYr) l23 c23 k23
  have Flaw := fun_mk (st := sLaw) l24 c24 k24
  have bLp := FLp.binds (ps := ["year"]) fun _ _ _ _ _ _ us hl => match us, hl with | [_], _ => rfl
  have gLp := PySem.W.mg_of X G a1
  have bDi := FDi.binds (ps := ["year", "month"]) fun _ _ _ _ _ _ us hl => match us, hl with | [_, _], _ => rfl
  have gDi := PySem.W.mg_of X G a2
  have bAh := FAh.binds (ps := ["year"]) fun _ _ _ _ _ _ us hl => match us, hl with | [_], _ => rfl
  have gAh := PySem.W.mg_of X G a3
  have bNu := FNu.binds (ps := ["year", "month", "day"]) fun _ _ _ _ _ _ us hl => match us, hl with | [_, _, _], _ => rfl
  have gNu := PySem.W.mg_of X G a4
  have bDt := FDt.binds (ps := ["number"]) fun _ _ _ _ _ _ us hl => match us, hl with | [_], _ => rfl
  have gDt := PySem.W.mg_of X G a5
  have bIF := FIF.binds (ps := ["text", "most"]) fun _ _ _ _ _ _ us hl => match us, hl with | [_, _], _ => rfl
  have gIF := PySem.W.mg_of X G a6
  have bRA := FRA.binds (ps := ["text", "most", "places"]) fun _ _ _ _ _ _ us hl => match us, hl with | [_, _, _], _ => rfl
  have gRA := PySem.W.mg_of X G a7
  have bRD := FRD.binds (ps := ["text", "order"]) fun _ _ _ _ _ _ us hl => match us, hl with | [_, _], _ => rfl
  have gRD := PySem.W.mg_of X G a8
  have bDo := FDo.binds (ps := ["parts"]) fun _ _ _ _ _ _ us hl => match us, hl with | [_], _ => rfl
  have gDo := PySem.W.mg_of X G a9
  have bRs := FRs.binds (ps := ["form", "text"]) fun _ _ _ _ _ _ us hl => match us, hl with | [_, _], _ => rfl
  have gRs := PySem.W.mg_of X G a10
  have bWr := FWr.binds (ps := ["form", "number"]) fun _ _ _ _ _ _ us hl => match us, hl with | [_, _], _ => rfl
  have gWr := PySem.W.mg_of X G a11
  have bWd := FWd.binds (ps := ["number", "order"]) fun _ _ _ _ _ _ us hl => match us, hl with | [_, _], _ => rfl
  have gWd := PySem.W.mg_of X G a12
  have bHd := FHd.binds (ps := ["_law_script", "_law_k"]) fun _ _ _ _ _ _ us hl => match us, hl with | [_, _], _ => rfl
  have gHd := PySem.W.mg_of X G a13
  have bTk := FTk.binds (ps := ["_law_hand_here", "_law_many"]) fun _ _ _ _ _ _ us hl => match us, hl with | [_, _], _ => rfl
  have gTk := PySem.W.mg_of X G a14
  have bPk := FPk.binds (ps := ["_law_hand_here", "_law_some"]) fun _ _ _ _ _ _ us hl => match us, hl with | [_, _], _ => rfl
  have gPk := PySem.W.mg_of X G a15
  have bLL := FLL.binds (ps := ["_law_year"]) fun _ _ _ _ _ _ us hl => match us, hl with | [_], _ => rfl
  have gLL := PySem.W.mg_of X G a16
  have bLM := FLM.binds (ps := ["_law_year", "_law_month_here"]) fun _ _ _ _ _ _ us hl => match us, hl with | [_, _], _ => rfl
  have gLM := PySem.W.mg_of X G a17
  have bLA := FLA.binds (ps := ["_law_year"]) fun _ _ _ _ _ _ us hl => match us, hl with | [_], _ => rfl
  have gLA := PySem.W.mg_of X G a18
  have bLN := FLN.binds (ps := ["_law_year", "_law_month_here", "_law_day"]) fun _ _ _ _ _ _ us hl => match us, hl with | [_, _, _], _ => rfl
  have gLN := PySem.W.mg_of X G a19
  have bLd := FLd.binds (ps := ["_law_order", "_law_year", "_law_month_here", "_law_day", "_law_sign"]) fun _ _ _ _ _ _ us hl => match us, hl with | [_, _, _, _, _], _ => rfl
  have gLd := PySem.W.mg_of X G a20
  have bFi := FFi.binds (ps := ["_law_hand_here", "_law_its", "_law_wide"]) fun _ _ _ _ _ _ us hl => match us, hl with | [_, _, _], _ => rfl
  have gFi := PySem.W.mg_of X G a21
  have bCa := FCa.binds (ps := ["_law_hand_here", "_law_order"]) fun _ _ _ _ _ _ us hl => match us, hl with | [_, _], _ => rfl
  have gCa := PySem.W.mg_of X G a22
  have bYr := FYr.binds (ps := ["_law_hand_here"]) fun _ _ _ _ _ _ us hl => match us, hl with | [_], _ => rfl
  have gYr := PySem.W.mg_of X G a23
  refine ⟨PySem.W.fnOf "law" "law" (defArgs sLaw) (defBody sLaw) (defScope sLaw) .none kV24 dc24 pm24 an24 cd24 ct24, fun s v => .of_eq rfl, fun base _ _ => ?_⟩
  have T : Free mg := ⟨PySem.W.mg_none_of X G z_isinstance, PySem.W.mg_none_of X G z_int, PySem.W.mg_none_of X G z_bool, PySem.W.mg_none_of X G z_str, PySem.W.mg_none_of X G z_tuple, PySem.W.mg_none_of X G z_dict, PySem.W.mg_none_of X G z_len, PySem.W.mg_none_of X G z_abs, PySem.W.mg_none_of X G z_range, PySem.W.mg_none_of X G z_all, PySem.W.mg_none_of X G z_sum, PySem.W.mg_none_of X G z_zip, PySem.W.mg_none_of X G z_list, PySem.W.mg_none_of X G z_sorted, PySem.W.mg_none_of X G z_repr, PySem.W.mg_none_of X G z_max, PySem.W.mg_none_of X G z_min⟩
  have C : Cal K mg c_MONTHS _ _ _ _ _ _ _ _ := ⟨PySem.W.mg_of X G n_MONTHS, tup_const L_MONTHS (by show 12 ≤ sizeLine; decide) (.cons ⟨_, rfl⟩ (.cons ⟨_, rfl⟩ (.cons ⟨_, rfl⟩ (.cons ⟨_, rfl⟩ (.cons ⟨_, rfl⟩ (.cons ⟨_, rfl⟩ (.cons ⟨_, rfl⟩ (.cons ⟨_, rfl⟩ (.cons ⟨_, rfl⟩ (.cons ⟨_, rfl⟩ (.cons ⟨_, rfl⟩ (.cons ⟨_, rfl⟩ .nil)))))))))))), ⟨_, PySem.W.mg_of X G n_FEBRUARY⟩, FLp, bLp, gLp, FDi, bDi, gDi, FAh, bAh, gAh, FNu, bNu, gNu⟩
  have Fr : Frm K mg c_BETWEEN _ _ _ _ _ _ _ _ _ _ := ⟨PySem.W.mg_of X G n_BETWEEN, tup_const L_BETWEEN (by show 3 ≤ sizeLine; decide) (.cons ⟨_, rfl⟩ (.cons ⟨_, rfl⟩ (.cons ⟨_, rfl⟩ .nil))), ⟨_, PySem.W.mg_of X G n_WHOLE_FIGURES⟩, ⟨_, PySem.W.mg_of X G n_AMOUNT_FIGURES⟩, ⟨_, PySem.W.mg_of X G n_YEAR_FIGURES⟩, ⟨_, PySem.W.mg_of X G n_DAY_FIGURES⟩, FIF, bIF, gIF, FRA, bRA, gRA, FRD, bRD, gRD, FDo, bDo, gDo, FRs, bRs, gRs⟩
  have L : LCal K mg _ _ _ _ _ _ := ⟨FLL, bLL, gLL, FLM, bLM, gLM, FLA, bLA, gLA⟩
  have U : CaseF K mg _ _ _ _ _ _ _ _ _ _ := ⟨FTk, bTk, gTk, FPk, bPk, gPk, FLN, bLN, gLN, FLd, bLd, gLd, FFi, bFi, gFi, zS⟩
  have W : WrF K mg _ _ _ _ _ _ := ⟨⟨_, PySem.W.mg_of X G n_LONGEST_YEAR⟩, FDt, bDt, gDt, FWd, bWd, gWd, FWr, bWr, gWr, zD⟩
  have kr := kb_swp (p1 := "form") (p2 := "text") FRs fun _ _ _ _ _ _ _ _ => rfl
  have kw := kb_swp (p1 := "form") (p2 := "number") FWr fun _ _ _ _ _ _ _ _ => rfl
  exact ok_law Flaw T L U C Fr W ⟨FHd, bHd, gHd, FCa, bCa, gCa, FYr, bYr, gYr, kr, kw⟩
end K03
open PySem PySem.W PyProof.Rows
set_option maxRecDepth 100000 in
set_option maxHeartbeats 0 in
theorem PySem.Challenge.cw_cleanedtables_k03_days_read_and_written_holds : PySem.Challenge.rw_cleanedtables_k03_days_read_and_written.Holds := by
  w_on; o_law; k_head; (case hw => w_witness2)
  k_fill
  refine Bs.walkG (l := PySem.Challenge.rw_cleanedtables_k03_days_read_and_written) (n := 63) (k := 8) (sp := K03.spLaw) (x := "_law_script") rfl (by decide) rfl ⟨rfl, by decide, by decide⟩ (fun w h Y => PySem.W.kIn_of Y) ?F (fun K H a ns hl _ hS => ⟨a, ns, rfl, hS, hl, fun _ => rfl⟩)
  case F =>
    intro w mg fa h KX G hmg
    refine' K03.all_mk KX G hmg ?a1 ?l1 ?c1 ?k1 ?a2 ?l2 ?c2 ?k2 ?a3 ?l3 ?c3 ?k3 ?a4 ?l4 ?c4 ?k4 ?a5 ?l5 ?c5 ?k5 ?a6 ?l6 ?c6 ?k6 ?a7 ?l7 ?c7 ?k7 ?a8 ?l8 ?c8 ?k8 ?a9 ?l9 ?c9 ?k9 ?a10 ?l10 ?c10 ?k10 ?a11 ?l11 ?c11 ?k11 ?a12 ?l12 ?c12 ?k12 ?a13 ?l13 ?c13 ?k13 ?a14 ?l14 ?c14 ?k14 ?a15 ?l15 ?c15 ?k15 ?a16 ?l16 ?c16 ?k16 ?a17 ?l17 ?c17 ?k17 ?a18 ?l18 ?c18 ?k18 ?a19 ?l19 ?c19 ?k19 ?a20 ?l20 ?c20 ?k20 ?a21 ?l21 ?c21 ?k21 ?a22 ?l22 ?c22 ?k22 ?a23 ?l23 ?c23 ?k23 ?a24 ?l24 ?c24 ?k24 ?z_isinstance ?z_int ?z_bool ?z_str ?z_tuple ?z_dict ?z_len ?z_abs ?z_range ?z_all ?z_sum ?z_zip ?z_list ?z_sorted ?z_repr ?z_max ?z_min ?zS ?zD ?n_FEBRUARY ?n_LONGEST_YEAR ?n_WHOLE_FIGURES ?n_AMOUNT_FIGURES ?n_YEAR_FIGURES ?n_DAY_FIGURES ?n_MONTHS ?L_MONTHS ?n_BETWEEN ?L_BETWEEN
    (case a1 => k_is)
    (case l1 => k_is)
    (case c1 => k_is)
    (case k1 => k_is)
    (case a2 => k_is)
    (case l2 => k_is)
    (case c2 => k_is)
    (case k2 => k_is)
    (case a3 => k_is)
    (case l3 => k_is)
    (case c3 => k_is)
    (case k3 => k_is)
    (case a4 => k_is)
    (case l4 => k_is)
    (case c4 => k_is)
    (case k4 => k_is)
    (case a5 => k_is)
    (case l5 => k_is)
    (case c5 => k_is)
    (case k5 => k_is)
    (case a6 => k_is)
    (case l6 => k_is)
    (case c6 => k_is)
    (case k6 => k_is)
    (case a7 => k_is)
    (case l7 => k_is)
    (case c7 => k_is)
    (case k7 => k_is)
    (case a8 => k_is)
    (case l8 => k_is)
    (case c8 => k_is)
    (case k8 => k_is)
    (case a9 => k_is)
    (case l9 => k_is)
    (case c9 => k_is)
    (case k9 => k_is)
    (case a10 => k_is)
    (case l10 => k_is)
    (case c10 => k_is)
    (case k10 => k_is)
    (case a11 => k_is)
    (case l11 => k_is)
    (case c11 => k_is)
    (case k11 => k_is)
    (case a12 => k_is)
    (case l12 => k_is)
    (case c12 => k_is)
    (case k12 => k_is)
    (case a13 => k_is)
    (case l13 => k_is)
    (case c13 => k_is)
    (case k13 => k_is)
    (case a14 => k_is)
    (case l14 => k_is)
    (case c14 => k_is)
    (case k14 => k_is)
    (case a15 => k_is)
    (case l15 => k_is)
    (case c15 => k_is)
    (case k15 => k_is)
    (case a16 => k_is)
    (case l16 => k_is)
    (case c16 => k_is)
    (case k16 => k_is)
    (case a17 => k_is)
    (case l17 => k_is)
    (case c17 => k_is)
    (case k17 => k_is)
    (case a18 => k_is)
    (case l18 => k_is)
    (case c18 => k_is)
    (case k18 => k_is)
    (case a19 => k_is)
    (case l19 => k_is)
    (case c19 => k_is)
    (case k19 => k_is)
    (case a20 => k_is)
    (case l20 => k_is)
    (case c20 => k_is)
    (case k20 => k_is)
    (case a21 => k_is)
    (case l21 => k_is)
    (case c21 => k_is)
    (case k21 => k_is)
    (case a22 => k_is)
    (case l22 => k_is)
    (case c22 => k_is)
    (case k22 => k_is)
    (case a23 => k_is)
    (case l23 => k_is)
    (case c23 => k_is)
    (case k23 => k_is)
    (case a24 => k_is)
    (case l24 => k_is)
    (case c24 => k_is)
    (case k24 => k_is)
    (case z_isinstance => k_is)
    (case z_int => k_is)
    (case z_bool => k_is)
    (case z_str => k_is)
    (case z_tuple => k_is)
    (case z_dict => k_is)
    (case z_len => k_is)
    (case z_abs => k_is)
    (case z_range => k_is)
    (case z_all => k_is)
    (case z_sum => k_is)
    (case z_zip => k_is)
    (case z_list => k_is)
    (case z_sorted => k_is)
    (case z_repr => k_is)
    (case z_max => k_is)
    (case z_min => k_is)
    (case zS => k_is)
    (case zD => k_is)
    (case n_FEBRUARY => k_is)
    (case n_LONGEST_YEAR => k_is)
    (case n_WHOLE_FIGURES => k_is)
    (case n_AMOUNT_FIGURES => k_is)
    (case n_YEAR_FIGURES => k_is)
    (case n_DAY_FIGURES => k_is)
    (case n_MONTHS => k_is)
    (case L_MONTHS => k_is)
    (case n_BETWEEN => k_is)
    (case L_BETWEEN => k_is)
