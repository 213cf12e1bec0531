import PyProof.Rows.All
import Wide.All
import OpenK.AllK
import Wide.FinOn
import HandS.ForMost
import HandS.Flow
import HandS.Wide
import HandS.StrMore
import HandS.StrSplit
import HandS.Codes
import PyProof.ReprRoads
import HandS.ExcInit
import HandS.IsInst
import KE.KExcInit
import HandS.MakeKw
import HandS.TryMany
import HandS.ExcField
import HandS.ExcIs
import KE.KExcIs
import HandS.ExcOwn
import HandS.ExcValue
import KE.KxText
import HandS.Walk
import KE.KDictZip
import KE.GoesZip
import KE.GoesMore
import KE.GoesNew
import HandS.Zip
import HandS.Style
import HandS.DictComp
import HandS.NoneIn
import PyProof.StrOps2
import HandS.More
import PyProof.ReprLen
import HandS.TupAny
import HandS.Lambda
import HandS.SortKw
import KE.SortKeyHeap
import HandS.Conv
import HandS.EndTab
import PySem.Challenge.RW_cleanedtables_k21_steps_on_rows
set_option Elab.async false
set_option linter.all false
set_option maxRecDepth 100000
set_option maxHeartbeats 4000000
/-! Bs: what all our texts lean on: defs that ask for reprs (no guard stands on the stack), reprs of data, draws. -/
namespace Bs
open PySem PySem.Spec PyProof.Rows L2

/-! ### defs under an empty stack of guards -/
/-- a def's promise where no guard stands on the stack -/
structure FG (P : Program) (w : World) (K : PySem.W.Frag) (mg : Str → Option Value) (base : Heap) (k : Nat) (f : Addr) (fd : FuncData) (ps : List Str) (sp : Sp) : Prop where
  many : ∀ vs H Q E, sp vs H Q E → vs.length = ps.length
  goes : ∀ (A : Around) (outer : List Env) (s : Shared) (H : Hp) (args : Args) (us : List Value) (vs : List V) (Q : VK) (E : XK),
    A.guards = some [] → Room k A → Env0 P w K mg base A outer s H → BindsTo s fd args (ps.zip us) → Vals vs us → sp vs H Q E →
    codeAny (model P w) A (.call (.ref f) args) (CR CX0 outer P w H s Q E) s
theorem FG.of {P : Program} {w : World} {K : PySem.W.Frag} {mg : Str → Option Value} {base : Heap} {k : Nat} {f : Addr} {fd : FuncData} {ps : List Str} {sp : Sp}
    (F : FnOk P w K mg base CX0 k f fd ps sp) : FG P w K mg base k f fd ps sp :=
  ⟨F.len, fun A outer s H args us vs Q E _ => F.run A outer s H args us vs Q E⟩

section
variable {P : Program} {w : World} {K : PySem.W.Frag} {mg : Str → Option Value} {base : Heap} {x qual : Str} {st : Stmt} {f : Addr} {fd : FuncData} {N ps : List Str} {k : Nat} {sp : Sp}
theorem okG (F : Fun K x qual st f fd) (S : FnScope N ps (defScope st)) (many : ∀ vs H Q E, sp vs H Q E → vs.length = ps.length)
    (body : ∀ (cdv : Value) (A : Around) (outer : List Env) (s : Shared) (H : Hp) (vs : List V) (Q : VK) (E : XK), A.guards = some [] →
      Room k (A.deeper (envOfC qual (defScope st) s.heap.objs.size f cdv)) → sp vs H Q E →
      ∃ t, PSs (cxOf CX0 P w K mg base N qual (defScope st) f cdv A outer s H E).nox (defBody st) t ∧ t { nx := fun _ H' => Q .non H', rt := Q } (start N vs) H) :
    FG P w K mg base (k + 1) f fd ps sp := by
  obtain ⟨oc, od, kV, doc, pm, an, cdv, ct, osl, rfl, lk, hcd⟩ := F.ex
  constructor
  · exact many
  · intro A outer s H args us vs Q E ng hr e0 hb rv hsp
    have inK : K.In s.heap := e0.mod.kin.keeps fun b o q => (e0.bs b o q).1
    have noL : s.heap.NoLimit := e0.mod.nolimit.keeps fun b o q => (e0.bs b o q).1
    have kinds : ∀ y ∈ ps.zip us, (defScope st).names.lookup y.1 = some .local ∨ ((defScope st).names.lookup y.1 = some .cell ∧ ((cellsFrom (s.heap.objs.size + 1) (defScope st).names []).lookup y.1).isSome = true) := by
      rintro ⟨n, v⟩ hy
      cases S.par n (List.of_mem_zip hy).1 with
      | inl q => exact .inl q
      | inr q => exact .inr ⟨q, PySem.W.cellsFrom_some _ _ _ (.inl q)⟩
    apply codeAny_call_function hr.depth (inK _ _ lk) rfl S.co S.gen rfl (PySem.W.codeRec_of inK hcd)
    apply hb
    apply wpAny_newFunctionEnv_cells S.kind kinds
    intro env he s1 xx
    subst he
    refine ⟨noL.keeps xx.toInCall.keep, ?_⟩
    apply codeAny_func
    obtain ⟨t, ht, hq⟩ := body cdv A outer s H vs Q E ng (hr.deeper _) hsp
    have J : Inv (cxOf CX0 P w K mg base N qual (defScope st) f cdv A outer s H E) [] (start N vs) H s1 := inv_start S hr.hd e0 (many _ _ _ _ hsp) rv xx
    refine wpAny_mono (ht.nox.run [] s1 (start N vs) H _ J hq) ?_ (fun _ _ z => z)
    intro fl s' hs
    cases fl with
    | ret u =>
      obtain ⟨v, σ', H', J', r', q⟩ := hs
      exact ⟨v, H', J'.os, J'.bare, J'.base, J'.hok, r', q⟩
    | next =>
      obtain ⟨σ', H', J', q⟩ := hs
      exact ⟨V.non, H', J'.os, J'.bare, J'.base, J'.hok, (rfl : RelV V.non Value.none), q⟩
    | brk => exact hs.elim fun _ z => z.elim fun _ z => z.2.elim
    | cont => exact hs.elim fun _ z => z.elim fun _ z => z.2.elim
end

section
variable {X : Cx} {k : Nat} {f : Addr} {fd : FuncData} {ps : List Str} {sp : Sp} {dvs : List V} {ds : List Value} {x : Str} {p pos : Pos} {e : Expr} {es : List Expr} {t : TA}
/-- a call of such a def, where no guard stands -/
theorem callG (F : FG X.prog X.w X.K X.mg X.base k f fd ps sp) (ng : X.A.guards = some []) (hr : Room k X.A) (hg : Gl X x) (hm : X.mg x = some (.ref f)) (hk : PySem.W.keepIn X.K (.ref f) = true) (hb : Binds X.K fd ps ds) (hd : Vals dvs ds)
    (ha : PA X (e :: es) t) (hdb : (x == ("__debug__" : Str)) = false := by decide) (he : starEach (e :: es) X.env = (false, eval e X.env) :: starEach es X.env := by rfl) (hpl : (backTo pos (starEach es X.env)).any (·.1) = false := by rfl) :
    PE X (.Call (.Name x p) (e :: es) [] pos) (tCall sp dvs E0 t) := by
  constructor
  intro pins s σ H Q I h
  apply wpAny_Call_Name_kw
  apply ld_glob I hg hm _ hdb
  apply PySem.W.callWith_K (h₀ := X.base) I.ok.mod.kin hk _ he hpl
  apply thn (ha.run pos pins s σ H _ I h)
  rintro us s1 ⟨vs, H1, I1, r, q⟩
  refine ⟨I1.kIn, ?_⟩
  have r2 : Vals (vs ++ dvs) (us ++ ds) := r.append hd
  have hl : (us ++ ds).length = ps.length := by rw [← r2.length]; exact F.many _ _ _ _ q
  apply wpAny_call
  apply codeAny_mono (F.goes X.A X.stack s1 H1 ⟨us, []⟩ (us ++ ds) (vs ++ dvs) Q E0 ng hr I1.env0 (hb s1 us I1.kIn hl) r2 q)
  intro res s' hq
  match res, hq with
  | .error _, hq => exact hq.elim
  | .ok (.ret u), hq => exact I1.after hq
  | .ok .next, hq => exact hq.elim
  | .ok .brk, hq => exact hq.elim
  | .ok .cont, hq => exact hq.elim
end

/-! ### the end of a row over such a law -/
theorem endG {P : Program} {w : World} {K : PySem.W.Frag} {mg mb : Str → Option Value} {k : Nat} {fa a : Addr} {fd : FuncData} {x : Str} {sp : Sp} {s : Shared} {us : List Value} {ns : List Int}
    (inK : K.In s.heap) (gl : s.heap.Ns mainGlobals mg) (bu : s.heap.Ns builtinsNs mb) (buE : ∀ x : Str, x ≠ "__name__" → mb x = bootBuiltins x) (noL : s.heap.NoLimit) (noG : s.gens = #[])
    (at_ : s.heap.get? a = some { cls := .type "list", data := .seq us.toArray }) (iA : IntsAre us ns) (len : ns.length ≤ sizeLine) (room : Room k callerA)
    (F : ∀ base : Heap, K.In base → base.Ns mainGlobals mg → FG P w K mg base k fa fd [x] sp) (bnd : ∀ (s : Shared) (u : Value), BindsTo s fd ⟨[u], []⟩ [(x, u)])
    (want : ∀ H : Hp, Only H → SqL K H a (ns.map V.int) → sp [.ref a] H (fun v _ => v = .bl true) E0) :
    codeAny (model P w) callerA (.call (.ref fa) ⟨[.ref a], []⟩) (fun r s' => r = .ok (.ret (.bool true)) ∧ OldK s.heap s'.heap ∧ s'.os = s.os ∧ AllBare s'.gens) s := by
  have rv := vals_ints iA
  have lenV := iA.length
  have key : ∀ H : Hp, Only H → SqL K H a (ns.map V.int) → HOk P w H s.heap → (∀ b, b ≠ a → H b = none) → (K.lookup a ≠ none → H a = none) →
      codeAny (model P w) callerA (.call (.ref fa) ⟨[.ref a], []⟩) (fun r s' => r = .ok (.ret (.bool true)) ∧ OldK s.heap s'.heap ∧ s'.os = s.os ∧ AllBare s'.gens) s := by
    intro H oH sH okH one hK
    have nd : ∀ {b : Addr} {o : Obj} {es : Array DictEntry} {ep : Nat}, s.heap.get? b = some o → o.data = .dict es ep → H b = none := by
      intro b o es ep e d
      by_cases eb : b = a
      · rw [eb, at_] at e
        cases e
        exact nomatch (show Data.seq us.toArray _ = Data.dict es ep from d)
      · exact one b eb
    have nsH : ∀ {b : Addr} {m : Str → Option Value}, s.heap.Ns b m → (hidT s.heap H).Ns b m := by
      rintro b m ⟨o, es, ep, e, d, r⟩
      exact ⟨o, es, ep, hidT_get e (nd e d), d, r⟩
    have kH : K.In (hidT s.heap H) := by
      intro b o e
      apply hidT_get (inK b o e)
      by_cases eb : b = a
      · rw [eb]
        exact hK (by rw [← eb, e]; simp)
      · exact one b eb
    have md : Mod K mg (hidT s.heap H) := ⟨kH, nsH gl, ⟨mb, nsH bu, buE⟩, noL.elim fun mc q => ⟨mc, nsH q.1, q.2⟩⟩
    have e0 : Env0 P w K mg (hidT s.heap H) callerA [] s H :=
      { frames := rfl, mod := md, bs := fun b o e => of_hidT e, bsz := Nat.le_of_eq (hidT_size _ _), funs := trivial, frf := fun b hb => (nomatch (show b ∈ ([] : List Addr) from hb)), hok := okH, bare := .of_eq noG }
    apply codeAny_mono ((F _ kH (nsH gl)).goes callerA [] s H ⟨[.ref a], []⟩ [.ref a] [.ref a] _ _ rfl room e0 (bnd s (.ref a)) (.cons rfl .nil) (want H oH sH))
    intro r s' h
    match r, h with
    | .error e, h => exact h.elim
    | .ok .next, h => exact h.elim
    | .ok .brk, h => exact h.elim
    | .ok .cont, h => exact h.elim
    | .ok (.ret u), ⟨v, H', os, bare, un, ok', r', q⟩ =>
      have q' : v = .bl true := q
      subst q'
      have eu : u = Value.bool true := r'
      subst eu
      refine ⟨rfl, OldK.of_keep ?_, os, bare⟩
      intro b o e
      cases eb : H b with
      | none => exact un.keep b o e eb (fun z => (nomatch (show b ∈ ([] : List Addr) from z))) (by simp)
      | some u =>
        cases oH b with
        | inl z => rw [eb] at z; cases z
        | inr z =>
          obtain ⟨ob, xs, z⟩ := z
          have e1 := (okH b _ z).1
          have e2 := (ok' b _ (un.frzs b ob _ z)).1
          rw [e] at e1
          cases e1
          exact e2
  cases hk : K.lookup a with
  | some o =>
    have e := inK a o hk
    rw [at_] at e
    cases e
    apply key (fun _ => none) (fun _ => .inl rfl) _ (fun b u z => nomatch (show (none : Option HO) = some u from z)) (fun _ _ => rfl) (fun _ => rfl)
    exact .inr ⟨_, us.toArray, _, hk, rfl, rfl, rfl, by rw [List.size_toArray, lenV]; exact len, by simpa using rv⟩
  | none =>
    let fz : HO := .frz { cls := .type "list", data := .seq us.toArray } (.lst (ns.map V.int))
    apply key (fun b => if b = a then some fz else none)
    · intro b
      by_cases hb : b = a
      · exact .inr ⟨_, _, if_pos hb⟩
      · exact .inl (if_neg hb)
    · exact .inl (.inr ⟨_, if_pos rfl⟩)
    · intro b u z
      by_cases hb : b = a
      · have z' := (if_pos hb).symm.trans z
        cases z'
        subst hb
        exact ⟨at_, by rw [List.length_map]; exact len, us, _, rv, at_⟩
      · have z' := (if_neg hb).symm.trans z
        cases z'
    · intro b hb
      exact if_neg hb
    · intro z
      exact absurd hk z
theorem walkG {l : PySem.W.OpenLaw} {n k : Nat} {q : Program} {loose : List Str} {XP : (Str → Option Value) → Heap → Prop} {YP : World → Heap → Prop} {d : DefRec} {K : Params → PySem.W.Frag} {sp : PySem.W.Frag → Sp} {x : Str}
    (most : l.most = some n) (small : n ≤ sizeLine) (plain : d.params.defaults = []) (room : Room k callerA) (hY : ∀ (w : World) (h : Heap), YP w h → (K w.params).In h)
    (F : ∀ (w : World) (mg : Str → Option Value) (fa : Addr) (h : Heap), (K w.params).In h → h.Ns mainGlobals mg → mg d.name = some (.ref fa) →
      ∃ fd : FuncData, (∀ (s : Shared) (u : Value), BindsTo s fd ⟨[u], []⟩ [(x, u)]) ∧
        ∀ base : Heap, (K w.params).In base → base.Ns mainGlobals mg → FG l.prog w (K w.params) mg base k fa fd [x] (sp (K w.params)))
    (want : ∀ (K : PySem.W.Frag) (H : Hp) (a : Addr) (ns : List Int), ns.length ≤ n → Only H → SqL K H a (ns.map V.int) → sp K [.ref a] H (fun v _ => v = .bl true) E0) :
    PySem.W.WalkO q loose XP YP l.row.toRowW d [] (fun f vs => PySem.call f vs) := by
  apply Att.attach_call most plain
  intro w s₀ s₁ mg mb fa o pm cd doc a us ns G Y ho hd hcd hmg at_ iA len noG
  obtain ⟨fd, hb, hF⟩ := F w mg fa _ (hY w _ Y) G.T.g hmg
  exact endG (hY w _ Y) G.T.g G.T.b G.T.builtins G.T.nolimit noG at_ iA (Nat.le_trans len small) room hF hb fun H hO hS => want (K w.params) H a ns len hO hS

/-! ### a value is told by what is wanted of it, then what follows is shown once -/
theorem cutA {te : TE} {g : TG} {u : TS} {D : Ends} {σ : L2.St} {H : Hp} (W : V → Hp → Prop) (h1 : ∀ Q : VK, (∀ v H', W v H' → Q v H') → te σ H Q) (h2 : ∀ v H', W v H' → g v σ H' (u D)) : tSeq (tAsg te g) u D σ H := h1 _ h2
theorem cutT {t u : TS} {D : Ends} {σ : L2.St} {H : Hp} (W : L2.St → Hp → Prop) (h1 : ∀ N : L2.St → Hp → Prop, (∀ σ' H', W σ' H' → N σ' H') → t { D with nx := N } σ H) (h2 : ∀ σ' H', W σ' H' → u D σ' H') : tSeq t u D σ H := h1 _ h2

/-- a store; then «dsimp only» -/
theorem gN {i : Nat} {v : V} {σ : L2.St} {H : Hp} {N : L2.St → Hp → Prop} (h : N (σ.set i (some v)) H) : gName i v σ H N := h
/-- a comprehension without a test -/
theorem yes {σ : L2.St} {H : Hp} {F G : Hp → Prop} (h : F H) : tYes σ H (fun b H3 => if b = true then F H3 else G H3) := by
  show (if true = true then F H else G H)
  rw [if_pos rfl]
  exact h

/-! ### reprs of data -/
section
variable {X : Cx}
/-- repr(x), x a list or a tuple of data -/
theorem call_repr (ng : X.A.guards = some []) (hu : X.A.units + 64 < cLine) :
    CallR X (.builtin "repr") (fun xs H Q => ∃ x d, xs = [x] ∧ Dp X.K H x d ∧ isDisplay d = true ∧ d.showable = true ∧ d.hasDict = false ∧ d.depth < 60 ∧ d.shown.length ≤ sizeLine ∧ Q (.str d.shown) H) := by
  intro pins s σ H xs us Q I r h
  obtain ⟨x, d, rfl, dp, dis, sho, nod, dep, len, q⟩ := h
  cases r with
  | cons r1 r2 =>
    cases r2
    obtain ⟨as, rd⟩ := Dp.reads I d x _ dp r1
    obtain ⟨a, rfl⟩ := isRef_of_reads rd dis
    apply repr_of_reads' rd sho (PyData.noDict_hsm nod) ng (by omega) (fun _ _ e => e) _ len
    intro h' u tk kp
    exact ⟨.str d.shown, H, I.kept (h' := h') (t' := tk) kp, ⟨u, rfl⟩, q⟩
/-- x.ljust(i, c) -/
theorem mt_ljustF : MtR X "str.ljust" (fun x xs H Q => ∃ (a : Str) (i : Int) (c : Nat), x = .str a ∧ xs = [.int i, .str ⟨#[c]⟩] ∧ PadOk i = true ∧ Q (.str (Txt.ljustF a i c)) H) := by
  intro pins s σ H x xs v us Q I rx rs h
  obtain ⟨a, i, c, rfl, rfl, pad, q⟩ := h
  obtain ⟨t, rfl⟩ := rx
  cases rs with
  | cons r1 rs =>
    cases rs with
    | cons r2 rs =>
      cases rs
      obtain ⟨u, rfl⟩ := r1
      obtain ⟨z, rfl⟩ := r2
      apply ljust_fill pad rfl
      intro t' k
      exact ⟨.str _, H, I.tok k, ⟨t', rfl⟩, q⟩
end

/-! ### calls by names alone -/
section
variable {X : Cx} {CX : CXT} {k : Nat} {f : Addr} {fd : FuncData} {ps ks : List Str} {sp : Sp} {E : XK} {x : Str} {p pos : Pos} {kws : List Keyword} {tk : TA} {g : List Value → List Value → List Value} {gV : List V → List V → List V}
/-- f(k = v, ..) -/
theorem callK0 (F : FnOk X.prog X.w X.K X.mg X.base CX k f fd ps sp) (hr : Room k X.A) (hg : Gl X x) (hm : X.mg x = some (.ref f)) (hk : PySem.W.keepIn X.K (.ref f) = true) (hb : KBinds X.K fd ps ks g gV) (hx : Passes CX X E) (hkw : PK X kws tk)
    (hall : (backToKw pos (keywordEach kws X.env)).all (·.1.isSome) = true := by rfl) (hks : (backToKw pos (keywordEach kws X.env)).filterMap (·.1) = ks := by rfl) (hdb : (x == ("__debug__" : Str)) = false := by decide)
    (hpl : ((backTo pos (starEach [] X.env)).any (·.1) || (backToKw pos (keywordEach kws X.env)).any (·.1.isNone)) = false := by rfl) :
    PE X (.Call (.Name x p) [] kws pos) (tCallK sp gV E tNil tk) := by
  constructor
  intro pins s σ H Q I h
  apply wpAny_Call_Name_kw
  apply ld_glob I hg hm _ hdb
  apply PySem.W.callWith_KW0 (h₀ := X.base) I.ok.mod.kin hk hall _ hpl
  apply thn (hkw.run pos pins s σ H _ I h)
  rintro ws s2 ⟨zs, H2, I2, rz, q2⟩
  refine ⟨I2.kIn, ?_⟩
  rw [hks]
  exact run_fnk (us := []) (vs := []) F hr hb hx I2 .nil rz q2
end
/-- two parameters, told by their names the other way about -/
def swp {α : Type} : List α → List α → List α
  | [], [a, b] => [b, a]
  | _, _ => []
theorem kb_swp {K : PySem.W.Frag} {x qual : Str} {st : Stmt} {f : Addr} {fd : FuncData} {p1 p2 : Str} (F : Fun K x qual st f fd)
    (h : ∀ (kV doc pm : Value) (an : Option Addr) (cdv ct : Value) (a b : Value), bindArgs (PySem.W.fnOf x qual (defArgs st) (defBody st) (defScope st) .none kV doc pm an cdv ct) ⟨[], [(p2, a), (p1, b)]⟩ = pure [(p1, b), (p2, a)]) :
    KBinds K fd [p1, p2] [p2, p1] swp swp := by
  obtain ⟨oc, od, kV, doc, pm, an, cdv, ct, osl, rfl, lk, hcd⟩ := F.ex
  constructor
  · intro s us ws _ hl
    match us, ws, hl with
    | [], [a, b], _ => exact .of_eq (h kV doc pm an cdv ct a b)
    | [], [], hl => exact absurd hl (by simp [swp])
    | [], [_], hl => exact absurd hl (by simp [swp])
    | [], _ :: _ :: _ :: _, hl => exact absurd hl (by simp [swp])
    | _ :: _, _, hl => exact absurd hl (by simp [swp])
  · intro vs us zs ws h1 h2
    cases h1 with
    | nil =>
      cases h2 with
      | nil => exact .nil
      | cons a h2 =>
        cases h2 with
        | nil => exact .nil
        | cons b h2 =>
          cases h2 with
          | nil => exact .cons b (.cons a .nil)
          | cons c h2 => exact .nil
    | cons a h1 =>
      cases h2 with
      | nil => exact .nil
      | cons b h2 => exact .nil
/-! ### the text of a list of two -/
theorem two_text (t u : Str) : (listText [t, u]).length = t.length + u.length + 4 := by
  have e : listText [t, u] = ((((Str.ofString "[" ++ Str.ofString "") ++ t) ++ Str.ofString ", ") ++ u) ++ Str.ofString "]" := rfl
  rw [e, TL.len_tl]
  simp only [TL.tl_append, List.length_append]
  rw [show (TL.tl (Str.ofString "[")).length = 1 by decide +kernel, show (TL.tl (Str.ofString "")).length = 0 by decide +kernel, show (TL.tl (Str.ofString ", ")).length = 2 by decide +kernel, show (TL.tl (Str.ofString "]")).length = 1 by decide +kernel, ← TL.len_tl, ← TL.len_tl]
  omega
theorem two_small {t : Str} {d : PyData} (e : d.shown = t) (h : t.length ≤ 1000) : (PyData.list [d, d]).shown.length ≤ sizeLine := by
  simp only [PyData.shown, PyData.shownAll, e]
  rw [two_text]
  exact Nat.le_trans (show _ ≤ 3000 by omega) (by decide)
end Bs
set_option Elab.async false
set_option linter.all false
set_option maxRecDepth 100000
set_option maxHeartbeats 4000000
/-! Xc: exceptions of the program's own, over ValueError, LookupError or RuntimeError, with own classes between, made and held as values: stored into by their own __init__, read, asked for their class. -/
namespace PySem
namespace XcW
open PySem.W PySem.Calls PyProof.Rows Builtin Builtin.ObjectAttr
section
variable {prog : Program} {w : World} {A : Around} {R : Result → Shared → Prop} {hp : Heap} {g : Array GenState} {d : Drawn} {t : Nat} {os : OsState} {K : Frag} {x C : Addr} {fv : Array Value} {name : Str} {tk : Tok} {v : Value} {B : String} {bmB : List Value}
/-- the first field -/
theorem store1 (SF : StoreFacts B bmB "object.__setattr__" "object") (inK : K.In hp) (hx : hp.get? x = some { cls := .ref C, data := .fields fv }) (ov : excOver K C bmB = true) (tn : takerIn K C name = some none) (hd : hasDictIn K C = true)
    (go : ∀ h' tk' dx, (∀ b o, b ≠ x → hp.get? b = some o → h'.get? b = some o) → hp.objs.size ≤ dx → dx ≠ x → h'.get? x = some { cls := .ref C, dict := some dx, data := .fields fv } →
      h'.Ns1 dx (fun y => if y = name then some v else none) → R (.ok (.ret .none)) ⟨h', g, d, tk', os⟩) :
    codeAny (model prog w) A (.call (.builtin "object.__setattr__") ⟨[.ref x, .str name tk, v], []⟩) R ⟨hp, g, d, t, os⟩ := by
  apply osa_openX (od := none) SF inK ⟨hx, rfl, rfl, trivial⟩ ov tn
  intro b
  obtain ⟨cd, hc, hd'⟩ := any_some hd
  have away : x ≠ hp.objs.size := Nat.ne_of_lt (Heap.lt_size hx)
  have cls : Looks (model prog w) hp (classData C) cd := looks_clsIn inK hc
  show wpAny _ _ (storeInOwnDict (.ref x) (.ref C) (.str name tk) name v b) _ _ _
  obtain ⟨nm, bs, mro, ns, qn, hdd, sn, sb, ab, col, del⟩ := cd
  have e : hdd = true := hd'
  subst e
  unfold storeInOwnDict ownDictForStores
  repeat (first | with_reducible refine HandSPX.store_in_new ?_ ?_ | with_reducible refine wpAny_loadPart_at hx ?_ | with_reducible refine cls.at ?_ | wp_step)
  · exact ⟨_, #[], _, (Heap.get?_update_ne _ _ _ _ away.symm).trans (Heap.get?_push_at rfl rfl), rfl, (fun e he => absurd he (by simp)), (fun _ => rfl)⟩
  · intro h' tk' hn' hs
    have hx1 : (hp.push { cls := .type "dict", data := .dict #[] }).get? x = some { cls := .ref C, data := .fields fv } := Heap.get?_push_of_some _ hx
    apply go h' tk' hp.objs.size _ (Nat.le_refl _) away.symm _ hn'
    · intro b o hb ho
      exact (hs.2 b (Nat.ne_of_lt (Heap.lt_size ho))).trans ((Heap.get?_update_ne _ _ _ _ hb).trans (Heap.get?_push_of_some _ ho))
    · exact (hs.2 x away).trans (Heap.get?_update_self _ hx1 rfl)
/-- a further field -/
theorem store2 {dx : Addr} {m0 : Str → Option Value} {nl : List Str} (SF : StoreFacts B bmB "object.__setattr__" "object") (inK : K.In hp) (hx : hp.get? x = some { cls := .ref C, dict := some dx, data := .fields fv }) (hns : hp.Ns1 dx m0) (hw : Within m0 nl) (few : nl.length ≤ 1000)
    (ov : excOver K C bmB = true) (tn : takerIn K C name = some none) (hd : hasDictIn K C = true)
    (go : ∀ h' tk', (∀ b o, b ≠ dx → hp.get? b = some o → h'.get? b = some o) → h'.Ns1 dx (fun y => if y = name then some v else m0 y) → R (.ok (.ret .none)) ⟨h', g, d, tk', os⟩) :
    codeAny (model prog w) A (.call (.builtin "object.__setattr__") ⟨[.ref x, .str name tk, v], []⟩) R ⟨hp, g, d, t, os⟩ := by
  obtain ⟨oD, _, _, hoD, _, _⟩ := hns.count hw
  apply osa_openX (od := some oD) SF inK ⟨hx, rfl, rfl, hoD⟩ ov tn
  intro b
  obtain ⟨cd, hc, hd'⟩ := any_some hd
  have cls : Looks (model prog w) hp (classData C) cd := looks_clsIn inK hc
  show wpAny _ _ (storeInOwnDict (.ref x) (.ref C) (.str name tk) name v b) _ _ _
  obtain ⟨nm, bs, mro, ns, qn, hdd, sn, sb, ab, col, del⟩ := cd
  have e : hdd = true := hd'
  subst e
  unfold storeInOwnDict ownDictForStores
  repeat (first | with_reducible refine OEX.store_in_old hns hw few ?_ | with_reducible refine wpAny_loadPart_at hx ?_ | with_reducible refine cls.at ?_ | wp_step)
  intro h' tk' hn' hs
  exact go h' tk' (fun b o hb ho => (hs.2 b hb).trans ho) hn'
end
end XcW
end PySem
namespace Xc
open PySem PySem.Spec PyProof.Rows L2 Bs
/-- what the written part says of such a class -/
structure Cl (K : PySem.W.Frag) (C : Addr) (B newId initId : String) (bmB : List Value) : Prop where
  F : ExcBaseFacts B newId initId bmB
  SF : StoreFacts B bmB "object.__setattr__" "object"
  ini : PySem.W.excInitIn K C bmB newId = true
  ov : PySem.W.excOver K C bmB = true
  hd : PySem.W.hasDictIn K C = true
  sa : PySem.W.findIn K (.ref C) "__setattr__" = some (some (.builtin "object.__setattr__"))
  ga : PySem.W.findIn K (.ref C) "__getattribute__" = some (some (.builtin "BaseException.__getattribute__"))
  gg : PySem.W.findIn K (.ref C) "__getattr__" = some none
  ex : PySem.W.subIn K (.ref C) (.type "BaseException") = some true
  ty : PySem.W.typeIn K (.ref C) = some (.type "type")
  kp : PySem.W.keepIn K (.ref C) = true
section
variable {X : Cx} {pins : List (Addr × Obj)} {σ : L2.St} {H : Hp} {s : Shared} {a C dx : Addr} {f : Str} {y : V} {u : Value} {fs : List (Str × V)} {Q : Unit → Shared → Prop} {E : Value → Shared → Prop} {A : Around} {B newId initId : String} {bmB : List Value}
theorem put1 (T : Cl X.K C B newId initId bmB) (I : Inv X pins σ H s) (e : H a = some (exo a C none)) (tn : PySem.W.takerIn X.K C f = some none) (ry : RelV y u)
    (go : ∀ dx s', H dx = none → dx ≠ a → Inv X pins σ (upd (upd H dx (exd dx [(f, y)])) a (exo a C (some dx))) s' → Q () s') : wpAny (model X.prog X.w) A (setAttr (.ref a) f u) Q E s := by
  obtain ⟨t1, ho⟩ := exo_at I.hok e
  obtain ⟨hp, g, d, t, os⟩ := s
  apply PySem.W.set_plain I.kIn (ox := { cls := .ref C, dict := none, data := .fields #[.ref t1, .none, .none, .none, .bool false, .none] }) (od := none) ⟨ho, rfl, rfl, trivial⟩ T.sa
  apply PySem.XcW.store1 T.SF I.kIn ho T.ov tn T.hd
  intro h' tk' dx k dn dne hx hn
  have fresh : H dx = none := I.hok.fresh dn
  have offd : ∀ {b : Addr} {o : Obj}, hp.get? b = some o → b ≠ dx := fun {b o} q => Nat.ne_of_lt (Nat.lt_of_lt_of_le (Heap.lt_size q) dn)
  have offa : ∀ {b : Addr}, H b = none → b ≠ a := by
    intro b n z
    rw [z, e] at n
    cases n
  have un : Un X.fs [] H (upd (upd H dx (exd dx [(f, y)])) a (exo a C (some dx))) hp h' := by
    constructor
    · exact fun b o q n _ _ => k b o (offa n) q
    · exact fun b o q n _ _ => ⟨o.slots, k b o (offa n) q⟩
    · intro b o q n _
      rw [upd_ne (offa n), upd_ne (offd q)]
      exact n
    · intro b o q _
      by_cases hb : b = a
      · exact ⟨_, by rw [hb]; exact hx⟩
      · exact ⟨o, k b o hb q⟩
    · intro b xs q
      rw [upd_ne (at_ne e q exo_tup), upd_ne (ne_of_none q fresh)]
      exact q
    · intro b o v q
      rw [upd_ne (at_ne e q exo_frz), upd_ne (ne_of_none q fresh)]
      exact q
    · intro b ps q
      exact ⟨#[], by rw [upd_ne (at_ne e q exo_tbl), upd_ne (ne_of_none q fresh), q]; simp⟩
  apply go dx _ fresh dne
  apply I.un (t' := tk') un
  intro b o q
  by_cases hb : b = a
  · subst hb
    rw [upd_same] at q
    cases q
    exact exo_ok hx
  · rw [upd_ne hb] at q
    by_cases hd : b = dx
    · subst hd
      rw [upd_same] at q
      cases q
      exact exd_ok hn (relO_put (fs := []) ry fun g => True.intro)
    · rw [upd_ne hd] at q
      apply (I.hok b o q).stay
      · intro c v hc z
        apply k c v _ z
        cases hc with
        | inl hc =>
          rw [hc]
          exact hb
        | inr hc => exact at_ne e hc exo_own
      · intro c hc
        rw [upd_ne (at_ne e hc exo_own), upd_ne (ne_of_none hc fresh)]
        exact hc
      · intro c xs hc
        rw [upd_ne (at_ne e hc exo_tup), upd_ne (ne_of_none hc fresh)]
        exact hc
theorem put2 (T : Cl X.K C B newId initId bmB) (I : Inv X pins σ H s) (e : H a = some (exo a C (some dx))) (ed : H dx = some (exd dx fs)) (few : fs.length ≤ 900) (tn : PySem.W.takerIn X.K C f = some none) (ry : RelV y u)
    (go : ∀ s', Inv X pins σ (upd H dx (exd dx ((f, y) :: fs))) s' → Q () s') : wpAny (model X.prog X.w) A (setAttr (.ref a) f u) Q E s := by
  obtain ⟨t1, ho⟩ := exo_at I.hok e
  obtain ⟨mA, hns, rel⟩ := exd_at I.hok ed
  have hw := within_of rel
  obtain ⟨hp, g, d, t, os⟩ := s
  obtain ⟨oD, _, _, hoD, _, _⟩ := hns.count hw
  apply PySem.W.set_plain I.kIn (ox := { cls := .ref C, dict := some dx, data := .fields #[.ref t1, .none, .none, .none, .bool false, .none] }) (od := some oD) ⟨ho, rfl, rfl, hoD⟩ T.sa
  apply PySem.XcW.store2 T.SF I.kIn ho hns hw (by rw [List.length_map]; omega) T.ov tn T.hd
  intro h' tk' k hn
  have hd : ∃ o, h'.get? dx = some o := by
    obtain ⟨o, _, _, e', _⟩ := hn
    exact ⟨o, e'⟩
  apply go
  exact I.write (t' := tk') (x := dx) (e := dx) (o := exd dx ((f, y) :: fs)) (by rw [ed]; exact True.intro) (.inl rfl) k hd (exd_ok hn (relO_put ry rel))
end
end Xc
set_option Elab.async false
set_option linter.all false
set_option maxRecDepth 100000
set_option maxHeartbeats 4000000
/-! Xd: such exceptions made by places and by names. -/
namespace PySem
namespace XcW
open PySem.W PySem.Calls PyProof.Rows Builtin Builtin.ObjectAttr
section
variable {M : Model} {A : Around} {E : Value → Shared → Prop} {hp : Heap} {g : Array GenState} {d : Drawn} {t : Nat} {os : OsState}
variable {nm qn : Str} {C N : Addr} {bs bm bmB : List Value} {hdct : Bool} {sn : List Str} {sub : List Value} {ab : Bool} {col : Option Bool} {dd : Option Addr} {k0 k1 k2 k3 k5 : Option Value} {B newId initId : String} {us : List Value} {kw : List (Str × Value)}
theorem newCheck (F : ExcBaseFacts B newId initId bmB) (alike : ∀ Y : String, bm.contains (.type Y) = bmB.contains (.type Y)) {Q : Unit → Shared → Prop}
    (atC : hp.get? C = some (excClassObj nm qn C N bs bm hdct sn sub ab col dd k0 k1 k2 k3 k5 newId)) (go : Q () ⟨hp, g, d, t, os⟩) :
    wpAny M A (checkBuiltinCall newId ⟨.ref C :: us, kw⟩) Q E ⟨hp, g, d, t, os⟩ := by
  have below : (Value.ref C :: bm).contains (.type B) = true := by
    rw [List.contains_cons, alike, F.hasB]
    exact Bool.or_true _
  have star := F.noStar
  simp only [checkBuiltinCall, F.newRow, F.newSplit, F.newKind]
  repeat (first | refine wpAny_staticBase_exc atC ?_ | refine wpAny_madeBy_exc atC ?_ | refine wpAny_loadPart_at atC ?_ | (refine wpAny_isSubtype_exc atC ?_; rw [below]) | simp only [bne_self_eq_false, Bool.false_eq_true, if_false] | wp_step)
  exact go
theorem tcCheck {Q : Unit → Shared → Prop} (atC : hp.get? C = some (excClassObj nm qn C N bs bm hdct sn sub ab col dd k0 k1 k2 k3 k5 newId))
    (go : Q () ⟨hp, g, d, t, os⟩) : wpAny M A (checkBuiltinCall "type.__call__" ⟨.ref C :: us, kw⟩) Q E ⟨hp, g, d, t, os⟩ := by
  have g3 := tc_sub
  have isT : (⟨hp, g, d, t, os⟩ : Shared).TypeIs (.ref C) "type" := ⟨_, atC, rfl⟩
  simp only [checkBuiltinCall, tc_split, tc_kind]
  repeat (any_goals (first | assumption | with_reducible refine wpAny_map ?_ | with_reducible refine wpAny_onRaise ?_ | with_reducible refine wpAny_loadPart_at atC ?_ | wp_step))
end
section
variable {prog : Program} {w : World} {A : Around} {E : Value → Shared → Prop} {R : Result → Shared → Prop} {hp : Heap} {g : Array GenState} {d : Drawn} {t : Nat} {os : OsState}
variable {nm qn : Str} {C N fI : Addr} {bs bm bmB : List Value} {hdct : Bool} {sn : List Str} {sub : List Value} {ab : Bool} {col : Option Bool} {dd : Option Addr} {k0 k1 k2 k3 k5 : Option Value} {B newId initId : String} {us : List Value} {kw : List (Str × Value)}
/-- the heap with the new one, not yet filled -/
abbrev bornH (hp : Heap) (C : Addr) (us : List Value) : Heap := (hp.push (kdv_tup us)).push (HandSPX.excO C hp.objs.size)
theorem newMade (F : ExcBaseFacts B newId initId bmB) (alike : ∀ Y : String, bm.contains (.type Y) = bmB.contains (.type Y))
    (atC : hp.get? C = some (excClassObj nm qn C N bs bm hdct sn sub ab col dd k0 k1 k2 k3 k5 newId)) (few : us.length ≤ sizeLine)
    (go : R (.ok (.ret (.ref (hp.objs.size + 1)))) ⟨bornH hp C us, g, d, t, os⟩) :
    codeAny (model prog w) A (.builtin newId ⟨.ref C :: us, kw⟩) R ⟨hp, g, d, t, os⟩ := by
  have fe := F.ends
  have isB : (Value.ref C :: bm).contains (.type B) = true := by
    rw [List.contains_cons, alike, F.hasB]
    exact Bool.or_true _
  have notA : (Value.ref C :: bm).contains (.type "AttributeError") = false := by
    rw [List.contains_cons, alike, F.noAttr]
    rfl
  have notN : (Value.ref C :: bm).contains (.type "NameError") = false := by
    rw [List.contains_cons, alike, F.noName]
    rfl
  apply codeAny_builtinAt F.entry
  unfold Builtin.«BaseException.__new__»
  apply wpAt_bind
  show wpAt _ _ _ (stack >>= _) _ _ _
  apply wpAt_bind
  apply wpAt_stack
  intro p below
  apply wpAt_of_wpAny
  wp_walk
  apply wpAt_of_wpAny
  rw [F.owner]
  repeat (first | with_reducible refine wpAny_loadPart_at atC ?_ | (with_reducible refine wpAny_isSubtype_exc atC ?_; first | rw [isB] | rw [notA] | rw [notN]) | with_reducible refine wpAny_madeHere_exc F.canon atC ?_ | wp_step)
  show R _ _
  rw [Heap.size_push]
  exact go
theorem tcMade (F : ExcBaseFacts B newId initId bmB) (alike : ∀ Y : String, bm.contains (.type Y) = bmB.contains (.type Y)) {Q : Fin → Shared → Prop}
    (atC : hp.get? C = some (excClassObj nm qn C N bs bm hdct sn sub ab col dd k0 k1 k2 k3 k5 newId)) (few : us.length ≤ sizeLine)
    (li : Looks (model prog w) hp (typeLookup (.ref C) "__init__") (some (.ref fI))) (lb : ∀ self, Looks (model prog w) hp (bindSpecial (.ref fI) self) (.ref fI, [self]))
    (go : codeAny (model prog w) A (.call (.ref fI) ⟨.ref (hp.objs.size + 1) :: us, kw⟩)
      (fun r s' => match r with | .error e => E e s' | .ok (.ret v) => v = .none ∧ Q (.done (.ret (.ref (hp.objs.size + 1)))) s' | .ok _ => False) ⟨bornH hp C us, g, d, t, os⟩) :
    wpAny (model prog w) A (Builtin.«type.__call__» ⟨.ref C :: us, kw⟩) Q E ⟨hp, g, d, t, os⟩ := by
  repeat (first | with_reducible refine wpAny_madeBy_exc atC ?_ | with_reducible refine wpAny_loadPart_at atC ?_ | wp_step)
  apply codeAny_call_builtin_code (Code.quiet_builtin _ F.quiet) (newCheck F alike atC _)
  apply newMade F alike atC few
  show wpAny _ _ _ _ _ _
  have keeps : ∀ b o, hp.get? b = some o → (bornH hp C us).get? b = some o := by
    intro b o e
    exact Heap.get?_push_of_some _ (Heap.get?_push_of_some _ e)
  have atC' := keeps _ _ atC
  have born : (bornH hp C us).get? (hp.objs.size + 1) = some (HandSPX.excO C hp.objs.size) := by heap_get
  have self : (Value.ref C :: bm).contains (.ref C) = true := by simp
  have li' := li.keeps keeps
  have lb' := (lb (.ref (hp.objs.size + 1))).keeps keeps
  unfold isInstance
  repeat (first | (with_reducible refine wpAny_isSubtype_exc atC' ?_; rw [self]) | with_reducible refine wpAny_loadPart_at born ?_ | wp_step)
  show wpAny _ _ (typeLookup (.ref C) _) _ _ _
  apply li'.at
  apply wpAny_holding
  apply wpAny_bind
  apply lb'.at
  apply wpAny_bind
  apply wpAny_call
  apply codeAny_mono go
  intro r s' z
  match r, z with
  | .error e, z => exact z
  | .ok .next, z => exact z.elim
  | .ok .brk, z => exact z.elim
  | .ok .cont, z => exact z.elim
  | .ok (.ret v), z =>
    obtain ⟨rfl, z⟩ := z
    first
      | exact wpAny_pure (wpAny_pure z)
      | (wp_walk; exact z)
theorem callMade (F : ExcBaseFacts B newId initId bmB) (alike : ∀ Y : String, bm.contains (.type Y) = bmB.contains (.type Y))
    (atC : hp.get? C = some (excClassObj nm qn C N bs bm hdct sn sub ab col dd k0 k1 k2 k3 k5 newId)) (few : us.length ≤ sizeLine)
    (li : Looks (model prog w) hp (typeLookup (.ref C) "__init__") (some (.ref fI))) (lb : ∀ self, Looks (model prog w) hp (bindSpecial (.ref fI) self) (.ref fI, [self]))
    (go : codeAny (model prog w) (A.under (.builtin "type.__call__" ⟨.ref C :: us, kw⟩)) (.call (.ref fI) ⟨.ref (hp.objs.size + 1) :: us, kw⟩) (InitBack (hp.objs.size + 1) R) ⟨bornH hp C us, g, d, t, os⟩) :
    codeAny (model prog w) A (.call (.ref C) ⟨us, kw⟩) R ⟨hp, g, d, t, os⟩ := by
  have g1 := tc_lookup
  have g2 := tc_bind (.ref C)
  have isT : (⟨hp, g, d, t, os⟩ : Shared).TypeIs (.ref C) "type" := ⟨_, atC, rfl⟩
  apply codeAny_of_tree
  show wpAny _ _ (callAny (.ref C) _) _ _ _
  repeat (any_goals (first | with_reducible refine wpAny_loadPart_at atC ?_ | assumption | wp_step))
  constructor
  · rfl
  apply codeAny_call_builtin_at (Code.quiet_builtin _ (by decide +kernel)) entry_typeCall
  apply tcCheck atC
  apply tcMade F alike atC few li lb
  apply codeAny_mono go
  intro r s' z
  match r, z with
  | .error _, z => exact z
  | .ok .next, z => exact z
  | .ok .brk, z => exact z
  | .ok .cont, z => exact z
  | .ok (.ret _), z => exact z
end
end XcW
end PySem
set_option Elab.async false
set_option linter.all false
set_option maxRecDepth 100000
set_option maxHeartbeats 4000000
/-! Xe: such exceptions as values: made, stored into, read. -/
namespace Xc
open PySem PySem.Spec PyProof.Rows L2 Bs
/-! ### self.f = e -/
def tPut (K : PySem.W.Frag) (f : Str) (to te : TE) : TS := fun D σ H => te σ H fun y H1 => to σ H1 fun x H2 =>
  ∃ (a C : Addr) (B n i : String) (bm : List Value), x = .ref a ∧ Cl K C B n i bm ∧ PySem.W.takerIn K C f = some none ∧
    ((H2 a = some (exo a C none) ∧ ∀ dx, H2 dx = none → dx ≠ a → D.nx σ (upd (upd H2 dx (exd dx [(f, y)])) a (exo a C (some dx)))) ∨
      ∃ (dx : Addr) (fs : List (Str × V)), H2 a = some (exo a C (some dx)) ∧ H2 dx = some (exd dx fs) ∧ fs.length ≤ 900 ∧ D.nx σ (upd H2 dx (exd dx ((f, y) :: fs))))
theorem ps_put {X : Cx} {o e : Expr} {f : Str} {to te : TE} {p' pos : Pos} (ho : PE X o to) (he : PE X e te) (hs : swapsWith e (some (.Attribute o f p')) pos.line X.env = pure false := by rfl) :
    PS X (.Assign [.Attribute o f p'] e pos) (tPut X.K f to te) := by
  constructor
  intro pins s σ H D I h
  apply plainObj_wpAny_Assign_Attribute _ hs
  apply thn (he.run pins s σ H _ I h)
  rintro v s1 ⟨y, H1, I1, r1, q1⟩
  apply thn (ho.run pins s1 σ H1 _ I1 q1)
  rintro u s2 ⟨x, H2, I2, r2, a, C, B, n, i, bm, rfl, T, tn, q⟩
  obtain rfl : u = Value.ref a := r2
  cases q with
  | inl q => exact put1 T I2 q.1 tn r1 fun dx s' h1 h2 J => ⟨σ, _, J, q.2 dx h1 h2⟩
  | inr q =>
    obtain ⟨dx, fs, ea, ed, few, q⟩ := q
    exact put2 T I2 ea ed few tn r1 fun s' J => ⟨σ, _, J, q⟩

/-! ### __init__'s own promise -/
def spIn (C : Addr) (n : Nat) (mk : List V → List (Str × V)) : Sp := fun vs H Q _ => ∃ (a : Addr) (xs : List V), vs = .ref a :: xs ∧ xs.length = n ∧ H a = some (exo a C none) ∧
  ∀ (dx : Addr) (H' : Hp), H dx = none → dx ≠ a → H' a = some (exo a C (some dx)) → H' dx = some (exd dx (mk xs)) → (∀ b, b ≠ a → b ≠ dx → H' b = H b) → Q .non H'

/-! ### C(..) -/
/-- what the class has: its own __init__ -/
structure Ini (K : PySem.W.Frag) (C fI : Addr) : Prop where
  at_ : PySem.W.findIn K (.ref C) "__init__" = some (some (.ref fI))
  ty : PySem.W.typeIn K (.ref fI) = some (.type "function")
section
variable {X : Cx} {pins : List (Addr × Obj)} {σ : L2.St} {H : Hp} {s : Shared} {Q : VK} {us ws : List Value} {vs zs : List V} {B newId initId : String} {bmB : List Value} {C fI : Addr} {k n : Nat} {fd : FuncData} {ps ks : List Str} {sp : Sp} {g : List Value → List Value → List Value} {gV : List V → List V → List V}
theorem runMade (T : Cl X.K C B newId initId bmB) (N : Ini X.K C fI) (F1 : FnOk X.prog X.w X.K X.mg X.base CX0 k fI fd ps sp) (hr : Room (k + 1) X.A) (hb : KBn X.K fd ps (n + 1) ks g gV) (few : n ≤ 1000)
    (I : Inv X pins σ H s) (r : Vals vs us) (rz : Vals zs ws) (l1 : vs.length = n) (l2 : zs.length = ks.length)
    (h : ∀ a, H a = none → sp (gV (.ref a :: vs) zs) (upd H a (exo a C none)) (fun v H2 => v = .non ∧ Q (.ref a) H2) E0) :
    wpAny (model X.prog X.w) X.A (call (.ref C) us (ks.zip ws)) (EP X pins σ Q) X.xe s := by
  obtain ⟨nm, N', qn, bs, bm, hdct, sn, sub, ab, col, dd, k0, k1, k2, k3, k5, hC, alike⟩ := PySem.W.excInit_of I.kIn T.ini
  have li := PySem.W.looks_findIn (M := model X.prog X.w) I.kIn N.at_
  have lb : ∀ self, PySem.W.Looks (model X.prog X.w) s.heap (bindSpecial (.ref fI) self) (.ref fI, [self]) := fun self => PySem.W.bind_fn I.kIn self N.ty
  have fresh : s.heap.objs.size ≤ s.heap.objs.size + 1 := Nat.le_succ _
  have hn : H (s.heap.objs.size + 1) = none := I.hok.fresh fresh
  have q0 := h _ hn
  have ul : us.length ≤ sizeLine := by
    have e := r.length
    rw [sizeLine_eq]
    omega
  obtain ⟨hp, gg, d, t, os⟩ := s
  have keeps : ∀ b o, hp.get? b = some o → (PySem.XcW.bornH hp C us).get? b = some o := by
    intro b o e
    exact Heap.get?_push_of_some _ (Heap.get?_push_of_some _ e)
  have born : (PySem.XcW.bornH hp C us).get? (hp.objs.size + 1) = some (PySem.HandSPX.excO C hp.objs.size) := by heap_get
  have I2 : Inv X pins σ (upd H (hp.objs.size + 1) (exo (hp.objs.size + 1) C none)) ⟨PySem.XcW.bornH hp C us, gg, d, t, os⟩ :=
    I.laid (h' := PySem.XcW.bornH hp C us) (t' := t) (o := exo (hp.objs.size + 1) C none) (a := hp.objs.size + 1) keeps fresh (exo_ok born)
  have r2 : Vals (V.ref (hp.objs.size + 1) :: vs) (Value.ref (hp.objs.size + 1) :: us) := .cons rfl r
  have e1 : (Value.ref (hp.objs.size + 1) :: us).length = n + 1 := r2.length.symm.trans (congrArg Nat.succ l1)
  have e2 : ws.length = ks.length := rz.length.symm.trans l2
  apply wpAny_call
  apply PySem.XcW.callMade T.F alike hC ul li lb
  apply codeAny_mono (F1.run _ X.stack _ _ ⟨Value.ref (hp.objs.size + 1) :: us, ks.zip ws⟩ _ _ _ E0 (hr.make C us (ks.zip ws)) (I2.env0.make C us (ks.zip ws)) (hb.to _ _ ws I2.kIn e1 e2) (hb.rel r2 rz) q0)
  intro res s' z
  match res, z with
  | .error _, z => exact z.elim
  | .ok .next, z => exact z.elim
  | .ok .brk, z => exact z.elim
  | .ok .cont, z => exact z.elim
  | .ok (.ret u), z =>
    obtain ⟨v, H3, I3, rv, ev, q3⟩ := I2.after z
    subst ev
    exact ⟨rv, V.ref (hp.objs.size + 1), H3, I3, rfl, q3⟩
/-- C(e, .., k = v, ..) as a value -/
def tMkX (C : Addr) (n m : Nat) (sp : Sp) (gV : List V → List V → List V) (t tk : TA) : TE := fun σ H Q => t σ H fun vs H1 => tk σ H1 fun zs H2 => vs.length = n ∧ zs.length = m ∧
  ∀ a, H2 a = none → sp (gV (.ref a :: vs) zs) (upd H2 a (exo a C none)) (fun v H3 => v = .non ∧ Q (.ref a) H3) E0
variable {x : Str} {p pos : Pos} {e : Expr} {es : List Expr} {kws : List Keyword} {ta tk : TA}
theorem pe_mkx (T : Cl X.K C B newId initId bmB) (N : Ini X.K C fI) (F1 : FnOk X.prog X.w X.K X.mg X.base CX0 k fI fd ps sp) (hr : Room (k + 1) X.A) (hb : KBn X.K fd ps (n + 1) ks g gV) (few : n ≤ 1000) (hg : Gl X x) (hm : X.mg x = some (.ref C))
    (ha : PA X (e :: es) ta) (hkw : PK X kws tk) (hall : (backToKw pos (keywordEach kws X.env)).all (·.1.isSome) = true := by rfl) (hks : (backToKw pos (keywordEach kws X.env)).filterMap (·.1) = ks := by rfl)
    (hdb : (x == ("__debug__" : Str)) = false := by decide) (he : starEach (e :: es) X.env = (false, eval e X.env) :: starEach es X.env := by rfl)
    (hpl : ((backTo pos (starEach (e :: es) X.env)).any (·.1) || (backToKw pos (keywordEach kws X.env)).any (·.1.isNone)) = false := by rfl) :
    PE X (.Call (.Name x p) (e :: es) kws pos) (tMkX C n ks.length sp gV ta tk) := by
  constructor
  intro pins s σ H Q I h
  apply wpAny_Call_Name_kw
  apply ld_glob I hg hm _ hdb
  apply PySem.W.callWith_KW (h₀ := X.base) I.ok.mod.kin T.kp hall _ hpl he
  apply thn (ha.run pos pins s σ H _ I h)
  rintro us s1 ⟨vs, H1, I1, r, q⟩
  apply thn (hkw.run pos pins s1 σ H1 _ I1 q)
  rintro ws s2 ⟨zs, H2, I2, rz, l1, l2, q2⟩
  refine ⟨I2.kIn, ?_⟩
  rw [hks]
  exact runMade T N F1 hr hb few I2 r rz l1 l2 q2
theorem pe_mkx0 (T : Cl X.K C B newId initId bmB) (N : Ini X.K C fI) (F1 : FnOk X.prog X.w X.K X.mg X.base CX0 k fI fd ps sp) (hr : Room (k + 1) X.A) (hb : KBn X.K fd ps 1 ks g gV) (hg : Gl X x) (hm : X.mg x = some (.ref C))
    (hkw : PK X kws tk) (hall : (backToKw pos (keywordEach kws X.env)).all (·.1.isSome) = true := by rfl) (hks : (backToKw pos (keywordEach kws X.env)).filterMap (·.1) = ks := by rfl)
    (hdb : (x == ("__debug__" : Str)) = false := by decide)
    (hpl : ((backTo pos (starEach [] X.env)).any (·.1) || (backToKw pos (keywordEach kws X.env)).any (·.1.isNone)) = false := by rfl) :
    PE X (.Call (.Name x p) [] kws pos) (tMkX C 0 ks.length sp gV tNil tk) := by
  constructor
  intro pins s σ H Q I h
  apply wpAny_Call_Name_kw
  apply ld_glob I hg hm _ hdb
  apply PySem.W.callWith_KW0 (h₀ := X.base) I.ok.mod.kin T.kp hall _ hpl
  apply thn (hkw.run pos pins s σ H _ I h)
  rintro ws s2 ⟨zs, H2, I2, rz, l1, l2, q2⟩
  refine ⟨I2.kIn, ?_⟩
  rw [hks]
  exact runMade (us := []) (vs := []) T N F1 hr hb (Nat.zero_le _) I2 .nil rz rfl l2 q2
end
/-! ### what such a call binds -/
section
variable {K : PySem.W.Frag} {x qual : Str} {st : Stmt} {f : Addr} {fd : FuncData} {ps ks : List Str} {n : Nat}
def gS {α : Type} (xs ys : List α) : List α := xs ++ ys
def gR {α : Type} (xs ys : List α) : List α := xs ++ ys.reverse
theorem kbS (F : Fun K x qual st f fd) (h : ∀ (kV doc pm : Value) (an : Option Addr) (cdv ct : Value) (us ws : List Value), us.length = n → ws.length = ks.length → bindArgs (PySem.W.fnOf x qual (defArgs st) (defBody st) (defScope st) .none kV doc pm an cdv ct) ⟨us, ks.zip ws⟩ = pure (ps.zip (gS us ws))) :
    KBn K fd ps n ks gS gS := by
  obtain ⟨oc, od, kV, doc, pm, an, cdv, ct, osl, rfl, lk, hcd⟩ := F.ex
  exact ⟨fun s us ws _ h1 h2 => .of_eq (h kV doc pm an cdv ct us ws h1 h2), fun r1 r2 => r1.append r2⟩
theorem kbR (F : Fun K x qual st f fd) (h : ∀ (kV doc pm : Value) (an : Option Addr) (cdv ct : Value) (us ws : List Value), us.length = n → ws.length = ks.length → bindArgs (PySem.W.fnOf x qual (defArgs st) (defBody st) (defScope st) .none kV doc pm an cdv ct) ⟨us, ks.zip ws⟩ = pure (ps.zip (gR us ws))) :
    KBn K fd ps n ks gR gR := by
  obtain ⟨oc, od, kV, doc, pm, an, cdv, ct, osl, rfl, lk, hcd⟩ := F.ex
  exact ⟨fun s us ws _ h1 h2 => .of_eq (h kV doc pm an cdv ct us ws h1 h2), fun r1 r2 => r1.append r2.reverse⟩
end
end Xc
set_option Elab.async false
set_option linter.all false
set_option maxRecDepth 100000
set_option maxHeartbeats 4000000
/-! Xf: such exceptions read and asked for their class; one without an __init__ of its own. -/
namespace Xc
open PySem PySem.Spec PyProof.Rows L2 Bs
/-- an exception at a, of the class at C, with these fields -/
def Ex (H : Hp) (a C : Addr) (fs : List (Str × V)) : Prop := (fs = [] ∧ H a = some (exo a C none)) ∨ ∃ dx, H a = some (exo a C (some dx)) ∧ H dx = some (exd dx fs)
/-- what asking for its class needs -/
structure As (K : PySem.W.Frag) (C : Addr) : Prop where
  cl : (PySem.W.clsIn K C).isSome = true
  cc : PySem.W.findIn K (.ref C) "__class__" = some (some (.builtin "object.__class__"))
  gs : PySem.W.specialIn K (.builtin "object.__class__") "__get__" = some (some (.builtin "getset_descriptor.__get__"))
  tk : PySem.W.takesIn K (.builtin "object.__class__") = some true
  ob : PySem.W.mroIn K C (.type "object") = some true
section
variable {X : Cx} {pins : List (Addr × Obj)} {σ : L2.St} {H : Hp} {s : Shared} {a C : Addr} {fs : List (Str × V)} {B newId initId : String} {bmB : List Value}
theorem Ex.inst (I : Inv X pins σ H s) (e : Ex H a C fs) : ∃ (ox : Obj) (od : Option Obj), PySem.W.InstAt s.heap a ox C od := by
  cases e with
  | inl e =>
    obtain ⟨t, ho⟩ := exo_at I.hok e.2
    exact ⟨_, none, ho, rfl, rfl, True.intro⟩
  | inr e =>
    obtain ⟨dx, e1, e2⟩ := e
    obtain ⟨t, ho⟩ := exo_at I.hok e1
    obtain ⟨mA, hns, _⟩ := exd_at I.hok e2
    obtain ⟨od, hd, _⟩ := lookIn_ns hns
    exact ⟨_, some od, ho, rfl, rfl, hd⟩
/-- isinstance(x, c), x such an exception -/
def rIsX (K : PySem.W.Frag) : List V → Hp → VK → Prop := fun xs H Q => ∃ (a C : Addr) (fs : List (Str × V)) (c : V) (u : Value) (b : Bool), xs = [.ref a, c] ∧ Ex H a C fs ∧ (∃ B n i bm, Cl K C B n i bm) ∧ As K C ∧ ClsV c u ∧
  PySem.W.kitOne K (.ref C) u = some b ∧ Q (.bl b) H
theorem call_isX : CallR X (.builtin "isinstance") (rIsX X.K) := by
  intro pins s σ H xs us Q I r h
  obtain ⟨a, C, fs, c, u, b, rfl, ex, ⟨B, n, i, bm, T⟩, S, cv, e, q⟩ := h
  cases r with
  | cons r1 r =>
    cases r with
    | cons r2 r =>
      cases r
      have e2 := cv.eq r2
      subst e2
      obtain rfl := (show _ = Value.ref a from r1)
      obtain ⟨ox, od, J⟩ := ex.inst I
      exact PySem.W.kia_one (PySem.W.kitx_exc S.cl T.ga T.gg T.ex S.cc S.gs S.tk S.ob) I.kIn J e (fun z => nomatch z) fun tk => ⟨.bl b, H, I.tok tk, rfl, q⟩
/-- e.f -/
def tFld (K : PySem.W.Frag) (f : Str) (te : TE) : TE := fun σ H Q => te σ H fun x H1 => ∃ (a C : Addr) (fs : List (Str × V)) (v : V), x = .ref a ∧ Ex H1 a C fs ∧ (∃ B n i bm, Cl K C B n i bm) ∧ PySem.W.findIn K (.ref C) f = some none ∧ fs.lookup f = some v ∧ Q v H1
theorem pe_fld {e : Expr} {te : TE} {pos : Pos} {f : Str} (he : PE X e te) (hb : attributeBase e f X.env (eval e X.env) = eval e X.env := by rfl) : PE X (.Attribute e f pos) (tFld X.K f te) := by
  constructor
  intro pins s σ H Q I h
  apply attr_of hb
  apply thn (he.run pins s σ H _ I h)
  rintro u s1 ⟨x, H1, I1, rx, a, C, fs, v, rfl, ex, ⟨B, n, i, bm, T⟩, fn, l, q⟩
  obtain rfl : u = Value.ref a := rx
  cases ex with
  | inl e =>
    rw [e.1] at l
    exact nomatch l
  | inr e =>
    obtain ⟨dx, e1, e2⟩ := e
    obtain ⟨t, ho⟩ := exo_at I1.hok e1
    obtain ⟨mA, hns, rel⟩ := exd_at I1.hok e2
    obtain ⟨od, hd, look⟩ := lookIn_ns hns
    have rf := rel f
    rw [l] at rf
    obtain ⟨w, hw, rw'⟩ := RelO.some_of rf
    have J : PySem.W.InstAt s1.heap a _ C (some od) := ⟨ho, rfl, rfl, hd⟩
    apply PySem.HandSPX.exc_get I1.kIn J T.ga T.gg T.ex (PySem.W.findObj_own T.hd fn rfl _) (handed_of rw') ⟨v, H1, I1.tok _, rw', q⟩
    rw [look, hw]
/-- C(), without an __init__ of its own -/
def tMk0 (C : Addr) : TE := fun σ H Q => ∀ a, H a = none → Q (.ref a) (upd H a (exo a C none))
theorem pe_mk00 {x : Str} {p pos : Pos} (F : ExcBaseFacts B newId initId bmB) (q : PySem.W.excIn X.K C bmB newId = true) (kC : PySem.W.keepIn X.K (.ref C) = true) (hg : Gl X x) (hm : X.mg x = some (.ref C)) (hdb : (x == ("__debug__" : Str)) = false := by decide)
    (hpl : ((backTo pos (starEach [] X.env)).any (·.1) || (backToKw pos (keywordEach [] X.env)).any (·.1.isNone)) = false := by rfl) :
    PE X (.Call (.Name x p) [] [] pos) (tMk0 C) := by
  constructor
  intro pins s σ H Q I h
  apply wpAny_Call_Name_kw
  apply ld_glob I hg hm _ hdb
  apply PySem.W.callWith_KW0 (h₀ := X.base) I.ok.mod.kin kC (by rfl) _ hpl
  apply thn (pk_nil.run pos pins s σ H (fun vs H1 => vs = [] ∧ H1 = H) I ⟨rfl, rfl⟩)
  rintro ws s2 ⟨zs, H2, I2, rz, rfl, rfl⟩
  cases rz
  refine ⟨I2.kIn, ?_⟩
  show wpAny _ _ (call (.ref C) []) _ _ _
  obtain ⟨bm, N, nm, qn, bs, hdct, sn, sub, ab, col, dd, k0, k1, k2, k3, k5, mN, hC, hN, none, T⟩ := exc_obj I2.kIn q
  apply wpAny_call_exc_subT F T hC hN none _ (Nat.zero_le _)
  intro h' a made
  have hn := I2.hok.gone made.new
  obtain ⟨t, ht, _, _⟩ := made.there
  exact ⟨.ref a, _, I2.laidN made.keeps made.new hn (exo_ok ht), rfl, h a hn⟩
end
/-! ### all of it by one look -/
def clB (K : PySem.W.Frag) (C : Addr) (newId : String) (bmB : List Value) : Bool :=
  PySem.W.excInitIn K C bmB newId && (PySem.W.excOver K C bmB && (PySem.W.hasDictIn K C && (decide (PySem.W.findIn K (.ref C) "__setattr__" = some (some (.builtin "object.__setattr__"))) &&
  (decide (PySem.W.findIn K (.ref C) "__getattribute__" = some (some (.builtin "BaseException.__getattribute__"))) && (decide (PySem.W.findIn K (.ref C) "__getattr__" = some none) && (decide (PySem.W.subIn K (.ref C) (.type "BaseException") = some true) &&
  (decide (PySem.W.typeIn K (.ref C) = some (.type "type")) && PySem.W.keepIn K (.ref C))))))))
theorem Cl.of {K : PySem.W.Frag} {C : Addr} {B newId initId : String} {bmB : List Value} (F : ExcBaseFacts B newId initId bmB) (SF : StoreFacts B bmB "object.__setattr__" "object") (h : clB K C newId bmB = true) : Cl K C B newId initId bmB := by
  unfold clB at h
  simp only [Bool.and_eq_true, decide_eq_true_eq] at h
  obtain ⟨h1, h2, h3, h4, h5, h6, h7, h8, h9⟩ := h
  exact ⟨F, SF, h1, h2, h3, h4, h5, h6, h7, h8, h9⟩
def asB (K : PySem.W.Frag) (C : Addr) : Bool := (PySem.W.clsIn K C).isSome && (decide (PySem.W.findIn K (.ref C) "__class__" = some (some (.builtin "object.__class__"))) &&
  (decide (PySem.W.specialIn K (.builtin "object.__class__") "__get__" = some (some (.builtin "getset_descriptor.__get__"))) && (decide (PySem.W.takesIn K (.builtin "object.__class__") = some true) && decide (PySem.W.mroIn K C (.type "object") = some true))))
theorem As.of {K : PySem.W.Frag} {C : Addr} (h : asB K C = true) : As K C := by
  unfold asB at h
  simp only [Bool.and_eq_true, decide_eq_true_eq] at h
  obtain ⟨h1, h2, h3, h4, h5⟩ := h
  exact ⟨h1, h2, h3, h4, h5⟩
/-- of which classes it is -/
def kitB' (K : PySem.W.Frag) (C : Addr) (us : List Value) (bs : List Bool) : Bool := decide (us.map (PySem.W.kitOne K (.ref C)) = bs.map some)
theorem kitB'_at {K : PySem.W.Frag} {C : Addr} {us : List Value} {bs : List Bool} (h : kitB' K C us bs = true) {j : Nat} {u : Value} {b : Bool} (e1 : us[j]? = some u) (e2 : bs[j]? = some b) : PySem.W.kitOne K (.ref C) u = some b := by
  have e := congrArg (fun l => l[j]?) (of_decide_eq_true h)
  simp only [List.getElem?_map, e1, e2, Option.map_some] at e
  exact Option.some.inj e
end Xc
set_option Elab.async false
set_option linter.all false
set_option maxRecDepth 100000
set_option maxHeartbeats 4000000
/-! Xg: data with a dict of one row in it, shown; the end of a row over a law that shows it. -/
namespace Xg
open PySem PySem.Spec PyProof.Rows L2 Bs
/-- data at any depth, with dicts of one text and one number -/
inductive Dq (K : PySem.W.Frag) (H : Hp) : V → PyData → Prop
  | non : Dq K H .non .none
  | bl (b : Bool) : Dq K H (.bl b) (.bool b)
  | int (i : Int) : Dq K H (.int i) (.int i)
  | str (x : Str) : Dq K H (.str x) (.str x)
  | dk {a : Addr} (x : Str) (i : Int) : H a = some (.dK [(.inr x, .int i)]) → Dq K H (.ref a) (.dict [(.str x, .int i)])
  | d0 {a : Addr} : H a = some (.dK []) → Dq K H (.ref a) (.dict [])
  | lst {a : Addr} (ps : List (V × PyData)) : SqL K H a (ps.map (·.1)) → (∀ p ∈ ps, Dq K H p.1 p.2) → Dq K H (.ref a) (.list (ps.map (·.2)))
  | tup {a : Addr} (ps : List (V × PyData)) : SqT K H a (ps.map (·.1)) → (∀ p ∈ ps, Dq K H p.1 p.2) → Dq K H (.ref a) (.tuple (ps.map (·.2)))
theorem sameL {K : PySem.W.Frag} {H H' : Hp} {a : Addr} {xs : List V} (s : Same H H') (q : SqL K H a xs) : SqL K H' a xs := by
  rcases q with (q | ⟨o, q⟩) | q
  · exact .inl (.inl (s _ _ q))
  · exact .inl (.inr ⟨o, s _ _ q⟩)
  · exact .inr q
theorem sameT {K : PySem.W.Frag} {H H' : Hp} {a : Addr} {xs : List V} (s : Same H H') (q : SqT K H a xs) : SqT K H' a xs := by
  rcases q with (q | ⟨o, q⟩) | q
  · exact .inl (.inl (s _ _ q))
  · exact .inl (.inr ⟨o, s _ _ q⟩)
  · exact .inr q
theorem Dq.same {K : PySem.W.Frag} {H H' : Hp} {x : V} {d : PyData} (h : Dq K H x d) (s : Same H H') : Dq K H' x d := by
  induction h with
  | non => exact .non
  | bl b => exact .bl b
  | int i => exact .int i
  | str x => exact .str x
  | dk x i e => exact .dk x i (s _ _ e)
  | d0 e => exact .d0 (s _ _ e)
  | lst ps e _ ih => exact .lst ps (sameL s e) ih
  | tup ps e _ ih => exact .tup ps (sameT s e) ih
section
variable {X : Cx} {pins : List (Addr × Obj)} {σ : L2.St} {H : Hp} {s : Shared}
theorem readsAll_of {h : Heap} : ∀ {ps : List (V × PyData)} {us : List Value}, (∀ p ∈ ps, ∀ u, RelV p.1 u → ∃ as, Reads h u p.2 as ∧ sysModules ∉ as) → Vals (ps.map (·.1)) us → ∃ as, ReadsAll h us (ps.map (·.2)) as ∧ sysModules ∉ as
  | [], _, _, r => by
    cases r
    exact ⟨_, .nil, by simp⟩
  | p :: ps, _, h, r => by
    cases r with
    | cons r1 r2 =>
      obtain ⟨as, q1, n1⟩ := h p List.mem_cons_self _ r1
      obtain ⟨bs, q2, n2⟩ := readsAll_of (fun q hq => h q (List.mem_cons_of_mem _ hq)) r2
      refine ⟨_, .cons q1 q2, ?_⟩
      intro z
      cases List.mem_append.mp z with
      | inl z => exact n1 z
      | inr z => exact n2 z
theorem Dq.reads (I : Inv X pins σ H s) (sm : ∃ mm, X.base.Ns sysModules mm) {x : V} {d : PyData} (h : Dq X.K H x d) : ∀ u, RelV x u → ∃ as, Reads s.heap u d as ∧ sysModules ∉ as := by
  obtain ⟨mm, om, es, ep, hm, hdm, _⟩ := sm
  have hm' : s.heap.get? sysModules = some om := I.bk _ _ hm
  induction h with
  | non =>
    intro u r
    cases r
    exact ⟨_, .none, by simp⟩
  | bl b =>
    intro u r
    cases r
    exact ⟨_, .bool b, by simp⟩
  | int i =>
    intro u r
    obtain ⟨t, rfl⟩ := r
    exact ⟨_, .int i t, by simp⟩
  | str x =>
    intro u r
    obtain ⟨t, rfl⟩ := r
    exact ⟨_, .str x t, by simp⟩
  | @dk a x i e =>
    intro u r
    cases r
    obtain ⟨_, ns, vs, kv, o, es, ep, ho, hc, hd, _, pr, _⟩ := (show ObjOk X.prog X.w H s.heap a (.dK [(.inr x, .int i)]) from I.hok a _ e)
    cases kv with
    | @cons _ b _ _ k1 k2 =>
      cases k2
      obtain ⟨qk, qv⟩ := b
      obtain ⟨e1, e2⟩ := k1
      dsimp only at e1 e2
      subst e1
      obtain ⟨t, rfl⟩ := e2
      generalize hl : es.toList = l at pr
      cases pr with
      | cons p1 p2 p3 =>
        rename_i en _
        cases p3
        obtain ⟨t2, hk⟩ := Value.isStrOf_shape (x := x) (v := en.key) p1
        dsimp only at p2
        have rk : ReadsAll s.heap (es.toList.map (·.key)) [PyData.str x] ([] ++ []) := by
          rw [hl]
          show ReadsAll s.heap [en.key] _ _
          rw [hk]
          exact .cons (.str x t2) .nil
        have rv : ReadsAll s.heap (es.toList.map (·.val)) [PyData.int i] ([] ++ []) := by
          rw [hl]
          show ReadsAll s.heap [en.val] _ _
          rw [p2]
          exact .cons (.int i t) .nil
        refine ⟨_, Reads.dict (kvs := [(PyData.str x, PyData.int i)]) ho hc.1 hd rk rv, ?_⟩
        have ne : a ≠ sysModules := by
          intro z
          rw [z] at ns
          exact absurd ns (by decide)
        intro z
        simp at z
        exact ne z.symm
  | @d0 a e =>
    intro u r
    cases r
    obtain ⟨_, ns, vs, kv, o, es, ep, ho, hc, hd, _, pr, _⟩ := (show ObjOk X.prog X.w H s.heap a (.dK []) from I.hok a _ e)
    cases kv
    generalize hl : es.toList = l at pr
    cases pr
    have rk : ReadsAll s.heap (es.toList.map (·.key)) [] [] := by
      rw [hl]
      exact .nil
    have rv : ReadsAll s.heap (es.toList.map (·.val)) [] [] := by
      rw [hl]
      exact .nil
    refine ⟨_, Reads.dict (kvs := []) ho hc.1 hd rk rv, ?_⟩
    have ne : a ≠ sysModules := by
      intro z
      rw [z] at ns
      exact absurd ns (by decide)
    intro z
    simp at z
    exact ne z.symm
  | @lst a ps e _ ih =>
    intro u r
    cases r
    obtain ⟨its, rv, ⟨o, n, ho, hc, _, hd⟩, _⟩ := I.list e
    obtain ⟨as, hr, na⟩ := readsAll_of ih rv
    refine ⟨_, .list ho hc hd hr, ?_⟩
    intro z
    cases List.mem_cons.mp z with
    | inl z =>
      rw [← z, hm'] at ho
      cases ho
      rw [hdm] at hd
      cases hd
    | inr z => exact na z
  | @tup a ps e _ ih =>
    intro u r
    cases r
    obtain ⟨its, rv, ⟨o, ho, hc, n, hd⟩, _⟩ := I.tuple e
    obtain ⟨as, hr, na⟩ := readsAll_of ih rv
    exact ⟨_, .tuple ho hc hd hr, na⟩
end
section
variable {X : Cx}
/-- repr(x), x such a list, tuple or dict -/
theorem call_reprQ (ng : X.A.guards = some []) (hu : X.A.units + 64 < cLine) (sm : ∃ mm, X.base.Ns sysModules mm) :
    CallR X (.builtin "repr") (fun xs H Q => ∃ x d, xs = [x] ∧ Dq X.K H x d ∧ isDisplay d = true ∧ d.showable = true ∧ d.depth < 60 ∧ d.shown.length ≤ sizeLine ∧ Q (.str d.shown) H) := by
  intro pins s σ H xs us Q I r h
  obtain ⟨x, d, rfl, dp, dis, sho, dep, len, q⟩ := h
  cases r with
  | cons r1 r2 =>
    cases r2
    obtain ⟨as, rd, no⟩ := dp.reads I sm _ r1
    obtain ⟨a, rfl⟩ := isRef_of_reads rd dis
    apply repr_of_reads' rd sho (fun _ => no) ng (by omega) (fun _ _ e => e) _ len
    intro h' u tk kp
    exact ⟨.str d.shown, H, I.kept (h' := h') (t' := tk) kp, ⟨u, rfl⟩, q⟩
end
end Xg
set_option Elab.async false
set_option linter.all false
set_option maxRecDepth 100000
set_option maxHeartbeats 4000000
/-! Xh: the end of a row over a law that shows dicts. -/
namespace Xg
open PySem PySem.Spec PyProof.Rows L2 Bs
theorem endS {P : Program} {w : World} {K : PySem.W.Frag} {mg mb : Str → Option Value} {k : Nat} {fa a : Addr} {fd : FuncData} {x : Str} {sp : Sp} {s : Shared} {us : List Value} {ns : List Int}
    (inK : K.In s.heap) (gl : s.heap.Ns mainGlobals mg) (bu : s.heap.Ns builtinsNs mb) (buE : ∀ x : Str, x ≠ "__name__" → mb x = bootBuiltins x) (noL : s.heap.NoLimit) (sm : ∃ mm, s.heap.Ns sysModules mm) (noG : s.gens = #[])
    (at_ : s.heap.get? a = some { cls := .type "list", data := .seq us.toArray }) (iA : IntsAre us ns) (len : ns.length ≤ sizeLine) (room : Room k callerA)
    (F : ∀ base : Heap, K.In base → base.Ns mainGlobals mg → (∃ mm, base.Ns sysModules mm) → FG P w K mg base k fa fd [x] sp) (bnd : ∀ (s : Shared) (u : Value), BindsTo s fd ⟨[u], []⟩ [(x, u)])
    (want : ∀ H : Hp, Only H → SqL K H a (ns.map V.int) → sp [.ref a] H (fun v _ => v = .bl true) E0) :
    codeAny (model P w) callerA (.call (.ref fa) ⟨[.ref a], []⟩) (fun r s' => r = .ok (.ret (.bool true)) ∧ OldK s.heap s'.heap ∧ s'.os = s.os ∧ AllBare s'.gens) s := by
  have rv := vals_ints iA
  have lenV := iA.length
  have key : ∀ H : Hp, Only H → SqL K H a (ns.map V.int) → HOk P w H s.heap → (∀ b, b ≠ a → H b = none) → (K.lookup a ≠ none → H a = none) →
      codeAny (model P w) callerA (.call (.ref fa) ⟨[.ref a], []⟩) (fun r s' => r = .ok (.ret (.bool true)) ∧ OldK s.heap s'.heap ∧ s'.os = s.os ∧ AllBare s'.gens) s := by
    intro H oH sH okH one hK
    have nd : ∀ {b : Addr} {o : Obj} {es : Array DictEntry} {ep : Nat}, s.heap.get? b = some o → o.data = .dict es ep → H b = none := by
      intro b o es ep e d
      by_cases eb : b = a
      · rw [eb, at_] at e
        cases e
        exact nomatch (show Data.seq us.toArray _ = Data.dict es ep from d)
      · exact one b eb
    have nsH : ∀ {b : Addr} {m : Str → Option Value}, s.heap.Ns b m → (hidT s.heap H).Ns b m := by
      rintro b m ⟨o, es, ep, e, d, r⟩
      exact ⟨o, es, ep, hidT_get e (nd e d), d, r⟩
    have kH : K.In (hidT s.heap H) := by
      intro b o e
      apply hidT_get (inK b o e)
      by_cases eb : b = a
      · rw [eb]
        exact hK (by rw [← eb, e]; simp)
      · exact one b eb
    have md : Mod K mg (hidT s.heap H) := ⟨kH, nsH gl, ⟨mb, nsH bu, buE⟩, noL.elim fun mc q => ⟨mc, nsH q.1, q.2⟩⟩
    have e0 : Env0 P w K mg (hidT s.heap H) callerA [] s H :=
      { frames := rfl, mod := md, bs := fun b o e => of_hidT e, bsz := Nat.le_of_eq (hidT_size _ _), funs := trivial, frf := fun b hb => (nomatch (show b ∈ ([] : List Addr) from hb)), hok := okH, bare := .of_eq noG }
    apply codeAny_mono ((F _ kH (nsH gl) (sm.elim fun mm q => ⟨mm, nsH q⟩)).goes callerA [] s H ⟨[.ref a], []⟩ [.ref a] [.ref a] _ _ rfl room e0 (bnd s (.ref a)) (.cons rfl .nil) (want H oH sH))
    intro r s' h
    match r, h with
    | .error e, h => exact h.elim
    | .ok .next, h => exact h.elim
    | .ok .brk, h => exact h.elim
    | .ok .cont, h => exact h.elim
    | .ok (.ret u), ⟨v, H', os, bare, un, ok', r', q⟩ =>
      have q' : v = .bl true := q
      subst q'
      have eu : u = Value.bool true := r'
      subst eu
      refine ⟨rfl, OldK.of_keep ?_, os, bare⟩
      intro b o e
      cases eb : H b with
      | none => exact un.keep b o e eb (fun z => (nomatch (show b ∈ ([] : List Addr) from z))) (by simp)
      | some u =>
        cases oH b with
        | inl z => rw [eb] at z; cases z
        | inr z =>
          obtain ⟨ob, xs, z⟩ := z
          have e1 := (okH b _ z).1
          have e2 := (ok' b _ (un.frzs b ob _ z)).1
          rw [e] at e1
          cases e1
          exact e2
  cases hk : K.lookup a with
  | some o =>
    have e := inK a o hk
    rw [at_] at e
    cases e
    apply key (fun _ => none) (fun _ => .inl rfl) _ (fun b u z => nomatch (show (none : Option HO) = some u from z)) (fun _ _ => rfl) (fun _ => rfl)
    exact .inr ⟨_, us.toArray, _, hk, rfl, rfl, rfl, by rw [List.size_toArray, lenV]; exact len, by simpa using rv⟩
  | none =>
    let fz : HO := .frz { cls := .type "list", data := .seq us.toArray } (.lst (ns.map V.int))
    apply key (fun b => if b = a then some fz else none)
    · intro b
      by_cases hb : b = a
      · exact .inr ⟨_, _, if_pos hb⟩
      · exact .inl (if_neg hb)
    · exact .inl (.inr ⟨_, if_pos rfl⟩)
    · intro b u z
      by_cases hb : b = a
      · have z' := (if_pos hb).symm.trans z
        cases z'
        subst hb
        exact ⟨at_, by rw [List.length_map]; exact len, us, _, rv, at_⟩
      · have z' := (if_neg hb).symm.trans z
        cases z'
    · intro b hb
      exact if_neg hb
    · intro z
      exact absurd hk z
theorem walkS {l : PySem.W.OpenLaw} {n k : Nat} {q : Program} {loose : List Str} {XP : (Str → Option Value) → Heap → Prop} {YP : World → Heap → Prop} {d : DefRec} {K : Params → PySem.W.Frag} {sp : PySem.W.Frag → Sp} {x : Str}
    (calm : importsNone q = true) (most : l.most = some n) (small : n ≤ sizeLine) (plain : d.params.defaults = []) (room : Room k callerA) (hY : ∀ (w : World) (h : Heap), YP w h → (K w.params).In h)
    (F : ∀ (w : World) (mg : Str → Option Value) (fa : Addr) (h : Heap), (K w.params).In h → h.Ns mainGlobals mg → mg d.name = some (.ref fa) →
      ∃ fd : FuncData, (∀ (s : Shared) (u : Value), BindsTo s fd ⟨[u], []⟩ [(x, u)]) ∧
        ∀ base : Heap, (K w.params).In base → base.Ns mainGlobals mg → (∃ mm, base.Ns sysModules mm) → FG l.prog w (K w.params) mg base k fa fd [x] (sp (K w.params)))
    (want : ∀ (K : PySem.W.Frag) (H : Hp) (a : Addr) (ns : List Int), ns.length ≤ n → Only H → SqL K H a (ns.map V.int) → sp K [.ref a] H (fun v _ => v = .bl true) E0) :
    PySem.W.WalkO q loose XP YP l.row.toRowW d [] (fun f vs => PySem.call f vs) := by
  apply Att.attach_call most plain
  intro w s₀ s₁ mg mb fa o pm cd doc a us ns G Y ho hd hcd hmg at_ iA len noG
  obtain ⟨fd, hb, hF⟩ := F w mg fa _ (hY w _ Y) G.T.g hmg
  exact endS (hY w _ Y) G.T.g G.T.b G.T.builtins G.T.nolimit ((G.T.seer calm).mods.elim fun mm q => ⟨mm, q.1⟩) noG at_ iA (Nat.le_trans len small) room hF hb fun H hO hS => want (K w.params) H a ns len hO hS

end Xg
set_option Elab.async false
set_option linter.all false
set_option maxRecDepth 100000
set_option maxHeartbeats 4000000
/-! Xi: repr of data of any form; such exceptions raised; a try with several named clauses. -/
namespace Xg
open PySem PySem.Spec PyProof.Rows L2 Bs Xc
section
variable {X : Cx}
/-- repr(x), x data of any form -/
theorem call_reprA (ng : X.A.guards = some []) (hu : X.A.units + 64 < cLine) (sm : ∃ mm, X.base.Ns sysModules mm) :
    CallR X (.builtin "repr") (fun xs H Q => ∃ x d, xs = [x] ∧ Dq X.K H x d ∧ d.showable = true ∧ d.depth < 60 ∧ d.shown.length ≤ sizeLine ∧ Q (.str d.shown) H) := by
  intro pins s σ H xs us Q I r h
  obtain ⟨x, d, rfl, dp, sho, dep, len, q⟩ := h
  cases r with
  | cons r1 r2 =>
    cases r2
    obtain ⟨as, rd, no⟩ := dp.reads I sm _ r1
    have far : ∀ {a : Addr} {u : Value}, u = .ref a → Reads s.heap u d as → wpAny (model X.prog X.w) X.A (call (.builtin "repr") [u]) (EP X pins σ Q) X.xe s := by
      rintro a u rfl rd
      apply repr_of_reads' rd sho (fun _ => no) ng (by omega) (fun _ _ e => e) _ len
      intro h' u tk kp
      exact ⟨.str d.shown, H, I.kept (h' := h') (t' := tk) kp, ⟨u, rfl⟩, q⟩
    cases dp with
    | non =>
      cases r1
      simp only [PyData.shown] at q
      exact PySem.P.repr_of_none ⟨.str _, H, I.tok _, ⟨_, rfl⟩, q⟩
    | bl b =>
      cases r1
      simp only [PyData.shown] at q
      exact PySem.P.repr_of_bool ⟨.str _, H, I.tok _, ⟨_, rfl⟩, q⟩
    | int i =>
      obtain ⟨t, rfl⟩ := r1
      simp only [PyData.shown] at q
      simp only [PyData.showable, decide_eq_true_eq] at sho
      exact PySem.P.repr_of_int sho ⟨.str _, H, I.tok _, ⟨_, rfl⟩, q⟩
    | str x =>
      obtain ⟨t, rfl⟩ := r1
      rw [PyData.shown_str] at q len
      exact PySem.P.repr_of_str ⟨.str _, H, I.tok _, ⟨_, rfl⟩, q⟩ len
    | dk x i e => exact far r1 rd
    | d0 e => exact far r1 rd
    | lst ps e k => exact far r1 rd
    | tup ps e k => exact far r1 rd
end
/-- .. the written part told -/
def rRp (K : PySem.W.Frag) : List V → Hp → VK → Prop := fun xs H Q => ∃ x d, xs = [x] ∧ Dq K H x d ∧ d.showable = true ∧ d.depth < 60 ∧ d.shown.length ≤ sizeLine ∧ Q (.str d.shown) H
theorem call_reprK {X : Cx} {K : PySem.W.Frag} (hK : X.K = K) (ng : X.A.guards = some []) (hu : X.A.units + 64 < cLine) (sm : ∃ mm, X.base.Ns sysModules mm) : CallR X (.builtin "repr") (rRp K) := by
  subst hK
  exact call_reprA ng hu sm
/-! ### raise C(e, .., k = v, ..) -/
section
variable {X : Cx} {pins : List (Addr × Obj)} {σ : L2.St} {H : Hp} {s : Shared} {us ws : List Value} {vs zs : List V} {B newId initId : String} {bmB : List Value} {C fI : Addr} {k n : Nat} {fd : FuncData} {ps ks : List Str} {sp : Sp} {g : List Value → List Value → List Value} {gV : List V → List V → List V}
/-- what is wanted of it, behind its __init__ -/
def flew (C a : Addr) (H : Hp) (Q : XK) : VK := fun v H3 => v = .non ∧ ∃ (d : Addr) (fs : List (Str × V)), H3 a = some (exo a C (some d)) ∧ H3 d = some (exd d fs) ∧ H d = none ∧ Q (.ref C) (some d) (upd (del H3 a) d (.xd fs))
theorem runRaise {Q : XK} (T : Cl X.K C B newId initId bmB) (N : Ini X.K C fI) (F1 : FnOk X.prog X.w X.K X.mg X.base CX0 k fI fd ps sp) (hr : Room (k + 1) X.A) (hb : KBn X.K fd ps (n + 1) ks g gV) (few : n ≤ 1000)
    (I : Inv X pins σ H s) (r : Vals vs us) (rz : Vals zs ws) (l1 : vs.length = n) (l2 : zs.length = ks.length)
    (h : ∀ a, H a = none → sp (gV (.ref a :: vs) zs) (upd H a (exo a C none)) (flew C a H Q) E0) :
    wpAny (model X.prog X.w) X.A (call (.ref C) us (ks.zip ws)) (MkP X pins σ Q) X.xe s := by
  obtain ⟨nm, N', qn, bs, bm, hdct, sn, sub, ab, col, dd, k0, k1, k2, k3, k5, hC, alike⟩ := PySem.W.excInit_of I.kIn T.ini
  have li := PySem.W.looks_findIn (M := model X.prog X.w) I.kIn N.at_
  have lb : ∀ self, PySem.W.Looks (model X.prog X.w) s.heap (bindSpecial (.ref fI) self) (.ref fI, [self]) := fun self => PySem.W.bind_fn I.kIn self N.ty
  have fresh : s.heap.objs.size ≤ s.heap.objs.size + 1 := Nat.le_succ _
  have hn : H (s.heap.objs.size + 1) = none := I.hok.fresh fresh
  have q0 := h _ hn
  have ul : us.length ≤ sizeLine := by
    have e := r.length
    rw [sizeLine_eq]
    omega
  obtain ⟨hp, gg, d, t, os⟩ := s
  have keeps : ∀ b o, hp.get? b = some o → (PySem.XcW.bornH hp C us).get? b = some o := by
    intro b o e
    exact Heap.get?_push_of_some _ (Heap.get?_push_of_some _ e)
  have born : (PySem.XcW.bornH hp C us).get? (hp.objs.size + 1) = some (PySem.HandSPX.excO C hp.objs.size) := by heap_get
  have I2 : Inv X pins σ (upd H (hp.objs.size + 1) (exo (hp.objs.size + 1) C none)) ⟨PySem.XcW.bornH hp C us, gg, d, t, os⟩ :=
    I.laid (h' := PySem.XcW.bornH hp C us) (t' := t) (o := exo (hp.objs.size + 1) C none) (a := hp.objs.size + 1) keeps fresh (exo_ok born)
  have r2 : Vals (V.ref (hp.objs.size + 1) :: vs) (Value.ref (hp.objs.size + 1) :: us) := .cons rfl r
  have e1 : (Value.ref (hp.objs.size + 1) :: us).length = n + 1 := r2.length.symm.trans (congrArg Nat.succ l1)
  have e2 : ws.length = ks.length := rz.length.symm.trans l2
  apply wpAny_call
  apply PySem.XcW.callMade T.F alike hC ul li lb
  apply codeAny_mono (F1.run _ X.stack _ _ ⟨Value.ref (hp.objs.size + 1) :: us, ks.zip ws⟩ _ _ _ E0 (hr.make C us (ks.zip ws)) (I2.env0.make C us (ks.zip ws)) (hb.to _ _ ws I2.kIn e1 e2) (hb.rel r2 rz) q0)
  intro res s' z
  match res, z with
  | .error _, z => exact z.elim
  | .ok .next, z => exact z.elim
  | .ok .brk, z => exact z.elim
  | .ok .cont, z => exact z.elim
  | .ok (.ret u), z =>
    obtain ⟨v, H3, os3, bare3, un3, hok3, rv, ev, dx, fs, ea, ed, n1, q3⟩ := z
    subst ev
    obtain ⟨h3, g3, d3, t3, os'⟩ := s'
    exact ⟨rv, mk_end (raises_own T.ex T.ty) I fresh keeps un3 hok3 os3 bare3 ea ed n1 q3⟩
def tRs (C : Addr) (n m : Nat) (sp : Sp) (gV : List V → List V → List V) (t tk : TA) : L2.St → Hp → XK → Prop := fun σ H Q => t σ H fun vs H1 => tk σ H1 fun zs H2 => vs.length = n ∧ zs.length = m ∧
  ∀ a, H2 a = none → sp (gV (.ref a :: vs) zs) (upd H2 a (exo a C none)) (flew C a H2 Q) E0
variable {x : Str} {p pos : Pos} {e : Expr} {es : List Expr} {kws : List Keyword} {ta tk : TA}
theorem pmk_x (T : Cl X.K C B newId initId bmB) (N : Ini X.K C fI) (F1 : FnOk X.prog X.w X.K X.mg X.base CX0 k fI fd ps sp) (hr : Room (k + 1) X.A) (hb : KBn X.K fd ps (n + 1) ks g gV) (few : n ≤ 1000) (hg : Gl X x) (hm : X.mg x = some (.ref C))
    (ha : PA X (e :: es) ta) (hkw : PK X kws tk) (hall : (backToKw pos (keywordEach kws X.env)).all (·.1.isSome) = true := by rfl) (hks : (backToKw pos (keywordEach kws X.env)).filterMap (·.1) = ks := by rfl)
    (hdb : (x == ("__debug__" : Str)) = false := by decide) (he : starEach (e :: es) X.env = (false, eval e X.env) :: starEach es X.env := by rfl)
    (hpl : ((backTo pos (starEach (e :: es) X.env)).any (·.1) || (backToKw pos (keywordEach kws X.env)).any (·.1.isNone)) = false := by rfl) :
    PMk X (.Call (.Name x p) (e :: es) kws pos) (tRs C n ks.length sp gV ta tk) := by
  intro pins s σ H Q I h
  apply wpAny_Call_Name_kw
  apply ld_glob I hg hm _ hdb
  apply PySem.W.callWith_KW (h₀ := X.base) I.ok.mod.kin T.kp hall _ hpl he
  apply thn (ha.run pos pins s σ H _ I h)
  rintro us s1 ⟨vs, H1, I1, r, q⟩
  apply thn (hkw.run pos pins s1 σ H1 _ I1 q)
  rintro ws s2 ⟨zs, H2, I2, rz, l1, l2, q2⟩
  refine ⟨I2.kIn, ?_⟩
  rw [hks]
  exact runRaise T N F1 hr hb few I2 r rz l1 l2 q2
theorem pmk_x0 (T : Cl X.K C B newId initId bmB) (N : Ini X.K C fI) (F1 : FnOk X.prog X.w X.K X.mg X.base CX0 k fI fd ps sp) (hr : Room (k + 1) X.A) (hb : KBn X.K fd ps 1 ks g gV) (hg : Gl X x) (hm : X.mg x = some (.ref C))
    (hkw : PK X kws tk) (hall : (backToKw pos (keywordEach kws X.env)).all (·.1.isSome) = true := by rfl) (hks : (backToKw pos (keywordEach kws X.env)).filterMap (·.1) = ks := by rfl)
    (hdb : (x == ("__debug__" : Str)) = false := by decide)
    (hpl : ((backTo pos (starEach [] X.env)).any (·.1) || (backToKw pos (keywordEach kws X.env)).any (·.1.isNone)) = false := by rfl) :
    PMk X (.Call (.Name x p) [] kws pos) (tRs C 0 ks.length sp gV tNil tk) := by
  intro pins s σ H Q I h
  apply wpAny_Call_Name_kw
  apply ld_glob I hg hm _ hdb
  apply PySem.W.callWith_KW0 (h₀ := X.base) I.ok.mod.kin T.kp hall _ hpl
  apply thn (hkw.run pos pins s σ H _ I h)
  rintro ws s2 ⟨zs, H2, I2, rz, l1, l2, q2⟩
  refine ⟨I2.kIn, ?_⟩
  rw [hks]
  exact runRaise (us := []) (vs := []) T N F1 hr hb (Nat.zero_le _) I2 .nil rz rfl l2 q2
end
/-- such an __init__, and it flies -/
theorem flies {H : Hp} {a C : Addr} {n : Nat} {mk : List V → List (Str × V)} {l xs : List V} {Q : XK} (el : l = .ref a :: xs) (hl : xs.length = n) (ha : H a = none)
    (k : ∀ (d : Addr) (H' : Hp), (∀ b o, H b = some o → H' b = some o) → H' d = some (.xd (mk xs)) → Q (.ref C) (some d) H') :
    spIn C n mk l (upd H a (exo a C none)) (flew C a H Q) E0 := by
  refine ⟨a, xs, el, hl, upd_same, fun dx H' n1 n2 e1 e2 keep => ?_⟩
  have nd : H dx = none := by
    rw [upd_ne n2] at n1
    exact n1
  refine ⟨rfl, dx, _, e1, e2, nd, k dx _ ?_ upd_same⟩
  intro b o e
  have b1 : b ≠ a := ne_of_none e ha
  have b2 : b ≠ dx := ne_of_none e nd
  rw [upd_ne b2, del_ne b1, keep b b1 b2, upd_ne b1]
  exact e
end Xg
set_option Elab.async false
set_option linter.all false
set_option maxRecDepth 100000
set_option maxHeartbeats 4000000
/-! Xj: a try with several named clauses, one of which takes what flies. -/
namespace Xg
open PySem PySem.Spec PyProof.Rows L2 Bs Xc
/-- the wishes behind a clause's suite: the name is gone -/
def gone (i : Nat) (D : Ends) : Ends := { nx := fun σ H => D.nx (σ.set i none) H, rt := D.rt, bk := fun σ H => D.bk (σ.set i none) H, ct := fun σ H => D.ct (σ.set i none) H }
/-- the clauses' wish: the first that names the class -/
def wN (K : PySem.W.Frag) (i : Nat) (D : Ends) : List (Value × (Addr → Value → Option Addr → TS)) → WX
  | [] => fun _ _ _ _ => False
  | (c, ts) :: r => fun cls d σ H => ∃ b, PySem.W.exmOne K cls c = some b ∧ (if b = true then ∀ a, H a = none → ts a cls d (gone i D) (σ.set i (some (.ref a))) H else wN K i D r cls d σ H)
inductive HdsN (X : Cx) (n : Str) : List ExceptHandler → List (Value × (Addr → Value → Option Addr → TS)) → Prop
  | nil : HdsN X n [] []
  | cons {x : Str} {c : Value} {ts : Addr → Value → Option Addr → TS} {b₀ : Stmt} {suite : List Stmt} {np pos' : Pos} {hds : List ExceptHandler} {l : List (Value × (Addr → Value → Option Addr → TS))} (hc : Names X x c)
      (su : ∀ (a : Addr) (oe : Obj) (cls : Value) (d : Option Addr) (pn : List (Addr × Obj)), Zc cls d oe → (∃ vs, oe.data = .fields vs) → PSs (X.suite a ((a, oe) :: pn)) (b₀ :: suite) (ts a cls d)) (r : HdsN X n hds l) :
      HdsN X n (.ExceptHandler (some (.Name x np)) (some n) (b₀ :: suite) pos' :: hds) ((c, ts) :: l)
/-- what is wanted of what the body lets fly -/
def sought (X : Cx) (pins : List (Addr × Obj)) (D : Ends) (hds : List ExceptHandler) (e : Value) (s1 : Shared) : Prop :=
  wpAny (model X.prog X.w) X.A (noteFrame e X.env) (fun _ s2 => wpAny (model X.prog X.w) X.A (setFlight e none) (fun _ s3 => wpAny (model X.prog X.w) X.A (handleBy e X.env hds) (SP X pins D) X.xe s3) X.xe s2) X.xe s1
section
variable {X : Cx} {n : Str} {i : Nat} {body : List Stmt} {h₀ : ExceptHandler} {hds : List ExceptHandler} {l : List (Value × (Addr → Value → Option Addr → TS))} {pos : Pos} {tb : WX → TS}
theorem ps_tryN (hs : X.stack = X.env :: X.outer) (hf : X.env.frame = some X.env.locals) (hN : X.N.Nodup) (hi : X.N[i]? = some n) (ln : X.env.kindOf n = some .local)
    (hb : ∀ (W : WX) (pn : List (Addr × Obj)) (xe : Value → Shared → Prop), Takes (X.tr pn xe) W → PSs (X.tr pn xe) body (tb W))
    (hh : HdsN X n (h₀ :: hds) l) : PS X (.Try body (h₀ :: hds) [] [] pos) (fun D σ H => tb (wN X.K i D l) D σ H) := by
  constructor
  intro pins s σ H D I h
  have ok := I.ok
  have fr : X.A.frames = some (X.env :: X.outer) := by
    rw [ok.frames, hs]
  have place : Loc X.env.scope n := .inl ln
  have caught : Takes (X.tr (X.pn ++ pins) (sought X pins D (h₀ :: hds))) (wN X.K i D l) := by
    rintro u s' ⟨a, B, sI, pins', σ', H', cls, d, rfl, J', nb, up, sky, na, os, ag, wish⟩
    have J : Inv X pins σ' H' sI := J'.ofTry ok
    have sky' : Sky B (X.env :: X.outer) a (Zc cls d) X.env.locals s'.heap := by
      rw [← hs]
      exact sky
    show wpAny _ _ (noteFrame (.ref a) X.env) _ _ _
    apply Sky.land Zc.steady fr hf sky'
    intro h3 fly up3
    have J3 : Inv X pins σ' H' { s' with heap := h3 } := J.landed nb fly.1 (up.trans up3) os ag
    obtain ⟨oe3, vs3, at3, z3, d3⟩ := fly.there
    have off : a ∉ frs (X.env :: X.outer) := by
      intro hm
      obtain ⟨_, o', e', notF⟩ := fly.2.2.1.mem hm
      rw [at3] at e'
      cases e'
      exact notF _ d3
    have offL : a ≠ X.env.locals := by
      intro z
      exact off (List.mem_filterMap.mpr ⟨X.env, List.mem_cons_self, by rw [hf, z]⟩)
    have offF : a ∉ X.fs := by
      intro hm
      obtain ⟨e, he, q⟩ := List.mem_filterMap.mp hm
      exact off (List.mem_filterMap.mpr ⟨e, List.mem_cons_of_mem _ he, q⟩)
    have S3 := J3.suite at3 d3 na offL offF
    have turn : ∀ {hds' : List ExceptHandler} {l' : List (Value × (Addr → Value → Option Addr → TS))}, HdsN X n hds' l' → wN X.K i D l' cls d σ' H' →
        wpAny (model X.prog X.w) X.A (handleBy (.ref a) X.env hds') (SP X pins D) X.xe { s' with heap := h3 } := by
      intro hds' l' hk
      induction hk with
      | nil =>
        intro z
        exact z.elim
      | @cons x c ts b₀ suite np pos' hds2 l2 hc su r ih =>
        rintro ⟨b, is, go⟩
        apply wpAny_handleBy_cons (codeAny_handlers_test _) (by intro q; cases q)
        have lt : PySem.W.Looks (model X.prog X.w) h3 (typeOf (.ref a)) cls := by
          intro A Q E s k q
          apply wpAny_typeOf_ref (k _ _ at3)
          rw [z3.1]
          exact q
        have lm := PySem.W.exm_one (M := model X.prog X.w) J3.kIn lt is
        have named : ∀ {Q : Value → Shared → Prop} {E : Value → Shared → Prop}, Q c { s' with heap := h3 } → wpAny (model X.prog X.w) (X.A.mark (some (.ref a))) (eval (.Name x np) X.env) Q E { s' with heap := h3 } := by
          intro Q E q
          obtain ⟨hg, hd, hm | ⟨hm, hv, nn⟩⟩ := hc
          · exact ld_glob (X := X.suite a ((a, oe3) :: (X.pn ++ pins))) S3 hg hm q hd
          · exact ld_blt (X := X.suite a ((a, oe3) :: (X.pn ++ pins))) S3 hg hm hv q nn hd
        apply named
        apply lm.here
        cases b with
        | false =>
          show wpAny _ X.A (handleBy (.ref a) X.env hds2) _ _ _
          exact ih go
        | true =>
          apply codeAny_handlers_suite_as
          apply HandSPX.lands_againZ fly
          intro h4 fly4 up4
          have J4 : Inv X pins σ' H' { s' with heap := h4 } := J.landed nb fly4.1 ((up.trans up3).trans up4) os ag
          obtain ⟨oe4, vs4, at4, z4, d4⟩ := fly4.there
          have S4 := J4.suite at4 d4 na offL offF
          refine store_ok (X := X.suite a ((a, oe4) :: (X.pn ++ pins))) (v := .ref a) S4 hN hi place rfl ?_ (.inr ln)
          intro s5 S5
          refine wpAny_mono ((su a oe4 cls d (X.pn ++ pins) z4 ⟨_, d4⟩).run [] s5 _ H' _ S5 (go a na)) ?_ (fun _ _ z => z.elim)
          intro f s6 sp
          have fin : ∀ {σ6 : L2.St} {H6 : Hp} {Q : Shared → Prop}, Inv (X.suite a ((a, oe4) :: (X.pn ++ pins))) [] σ6 H6 s6 → (∀ s7, Inv X pins (σ6.set i none) H6 s7 → Q s7) →
              wpAny (model X.prog X.w) X.A (do bindName X.env n .none; unbindBehindTheSuite X.env n pos') (fun _ s7 => Q s7) X.xe s6 := by
            intro σ6 H6 Q S6 q
            exact gone_ok (S6.unsuite ok) hN hi ln q
          match f, sp with
          | .next, ⟨σ6, H6, S6, q6⟩ => exact fin S6 fun s7 J7 => ⟨_, _, J7, q6⟩
          | .brk, ⟨σ6, H6, S6, q6⟩ => exact fin S6 fun s7 J7 => ⟨_, _, J7, q6⟩
          | .cont, ⟨σ6, H6, S6, q6⟩ => exact fin S6 fun s7 J7 => ⟨_, _, J7, q6⟩
          | .ret u, ⟨v6, σ6, H6, S6, r6, q6⟩ => exact fin S6 fun s7 J7 => ⟨_, _, _, J7, r6, q6⟩
    exact turn hh wish
  apply wpAny_Try_except
  refine wpAny_mono ((hb _ _ _ caught).run [] s σ H D (I.toTry _) h) ?_ (fun e s1 z => z)
  intro f s1 sp
  match f, sp with
  | .next, ⟨σ', H', J', q⟩ => exact wpAny_execs_nil ⟨σ', H', J'.ofTry ok, q⟩
  | .brk, ⟨σ', H', J', q⟩ => exact ⟨σ', H', J'.ofTry ok, q⟩
  | .cont, ⟨σ', H', J', q⟩ => exact ⟨σ', H', J'.ofTry ok, q⟩
  | .ret u, ⟨v, σ', H', J', r, q⟩ => exact ⟨v, σ', H', J'.ofTry ok, r, q⟩
end
end Xg
set_option Elab.async false
set_option linter.all false
set_option maxRecDepth 100000
set_option maxHeartbeats 4000000
namespace K21
open PySem PySem.Spec PyProof.Rows L2 Bs Xg TL
def top (i : Nat) : Stmt := PySem.Challenge.pw_cleanedtables_k21_steps_on_rows.main.body.getD i (.Pass ⟨0, 0, 0, 0⟩)
abbrev sHand : Stmt := top 28
abbrev sTake : Stmt := top 29
abbrev sOf : Stmt := top 30
/-! ### a hand: its three numbers -/
def HandAt (H : Hp) (h : Addr) (n : Nat) : Prop := ∃ g s c : Int, H h = some (.lst [.int g, .int s, .int c]) ∧ 0 ≤ s ∧ s < 2305843009213693951 ∧ 0 ≤ c ∧ c ≤ n
/-- all but h as it was -/
def But (h : Addr) (H H' : Hp) : Prop := ∀ b o, b ≠ h → H b = some o → H' b = some o
theorem But.refl (h : Addr) (H : Hp) : But h H H := fun _ _ _ e => e
theorem But.trans {h : Addr} {H H1 H2 : Hp} (a : But h H H1) (b : But h H1 H2) : But h H H2 := fun c o n e => b c o n (a c o n e)
theorem But.upd {h : Addr} {H : Hp} {o : HO} : But h H (upd H h o) := fun c p n e => by rw [upd_ne n]; exact e
theorem But.of {h : Addr} {H H' : Hp} (s : Same H H') : But h H H' := fun b o _ e => s b o e
theorem But.seq {K : PySem.W.Frag} {h a : Addr} {H H' : Hp} {xs : List V} (e : But h H H') (n : a ≠ h) (q : SqL K H a xs) : SqL K H' a xs := by
  rcases q with (q | ⟨o, q⟩) | q
  · exact .inl (.inl (e _ _ n q))
  · exact .inl (.inr ⟨o, e _ _ n q⟩)
  · exact .inr q
theorem Same.new {H : Hp} {p : Addr} {o : HO} (n : H p = none) : Same H (upd H p o) := fun b u e => by rw [upd_ne (ne_of_none e n)]; exact e
theorem HandAt.mono {H H' : Hp} {h : Addr} {n m : Nat} (a : HandAt H h n) (s : Same H H') (l : n ≤ m) : HandAt H' h m := by
  obtain ⟨g, t, c, e, h1, h2, h3, h4⟩ := a
  exact ⟨g, t, c, s _ _ e, h1, h2, h3, by omega⟩
theorem HandAt.up {H : Hp} {h : Addr} {n m : Nat} (a : HandAt H h n) (l : n ≤ m) : HandAt H h m := a.mono (Same.refl H) l

/-! ### the promises -/
def spTake : Sp := fun vs H Q _ => ∃ (h : Addr) (n : Nat) (m : Int), vs = [.ref h, .int m] ∧ HandAt H h n ∧ n < 1000000 ∧ 0 < m ∧ m < 1000000000 ∧
  ∀ (r : Int) (H' : Hp), 0 ≤ r → r < m → HandAt H' h (n + 1) → But h H H' → Q (.int r) H'
/-- pick from a text, from a list -/
def spPick (K : PySem.W.Frag) : Sp := fun vs H Q _ => ∃ (h : Addr) (n : Nat) (x : V) (ys : List V), vs = [.ref h, x] ∧ HandAt H h n ∧ n < 1000000 ∧ 0 < ys.length ∧ ys.length ≤ 1000 ∧
  ((∃ z : Str, x = .str z ∧ ys = z.cps.toList.map fun c => V.str ⟨#[c]⟩) ∨ (∃ p, x = .ref p ∧ p ≠ h ∧ SqL K H p ys)) ∧
  ∀ (y : V) (H' : Hp), y ∈ ys → HandAt H' h (n + 1) → But h H H' → Q y H'
/-- names not told otherwise -/
structure Free (mg : Str → Option Value) : Prop where
  isinstance : mg "isinstance" = none
  int : mg "int" = none
  bool : mg "bool" = none
  str : mg "str" = none
  tuple : mg "tuple" = none
  dict : mg "dict" = none
  len : mg "len" = none
  abs : mg "abs" = none
  range : mg "range" = none
  all : mg "all" = none
  sum : mg "sum" = none
  zip : mg "zip" = none
  list : mg "list" = none
  sorted : mg "sorted" = none
  repr : mg "repr" = none
  max : mg "max" = none
  min : mg "min" = none
section
variable {X : Cx}
theorem op_powX : OpR X (binaryOp .Pow) (rI (fun i j => 0 ≤ j ∧ (Builtin.Int.intBits i : Int) * j ≤ 2 ^ 27) fun i j => .int (i ^ j.toNat)) := opI fun _ _ _ _ _ _ _ hc q => PyProof.Rows.pow_int hc.1 hc.2 q
end
section
variable {P : Program} {w : World} {K : PySem.W.Frag} {mg : Str → Option Value} {base : Heap}
theorem at3 {a b c : V} : ∀ j : Nat, j < 3 → ∃ v, ([a, b, c] : List V)[j]? = some v := fun j h => ⟨_, List.getElem?_eq_getElem (l := [a, b, c]) (by simpa using h)⟩
theorem scT : FnScope ["_law_hand_here", "_law_many", "_law_digit", "_law_primes", "_law_prime", "_law_drawn"] ["_law_hand_here", "_law_many"] (defScope sTake) := ⟨rfl, rfl, rfl, by decide +kernel, rfl, by decide +kernel, by decide +kernel⟩
theorem ok_take {f : Addr} {fd : FuncData} (F : Fun K "_law_take" "_law_take" sTake f fd) : FnOk P w K mg base CX0 1 f fd ["_law_hand_here", "_law_many"] spTake := by
  refine F.ok scT (fun vs H Q E h => ?_) (fun cdv A outer s H vs Q E hr h => ?_)
  · obtain ⟨h, n, m, rfl, _⟩ := h
    rfl
  · obtain ⟨h, n, m, rfl, ⟨g, t, c, e, t0, t1, c0, c1⟩, nb, m0, m1, k⟩ := h
    have at0 : atI ([V.int g, V.int t, V.int c]) 0 = some (V.int g) := atI_nat (j := 0) rfl
    have at1 : atI ([V.int g, V.int t, V.int c]) 1 = some (V.int t) := atI_nat (j := 1) rfl
    have at2 : atI ([V.int g, V.int t, V.int c]) 2 = some (V.int c) := atI_nat (j := 2) rfl
    refine ⟨_, pss_cons (ps_if (pt_cmpR op_gt (pe_ix ix_list (pv 0) pe_int (fun _ _ => rfl)) pe_int (nomark _)) (pss_cons (ps_set (i := 2) scT.nd rfl (Or.inl rfl) (pe_op op_mod (pe_ix ix_list (pv 0) pe_int (fun _ _ => rfl)) (pv 1)))
      (pss_cons (ps_asg (pe_op op_fdiv (pe_ix ix_list (pv 0) pe_int (fun _ _ => rfl)) (pv 1)) (pg_sub (pv 0) pe_int set_list))
      (pss_one (ps_ret (pv 2))))) (pss_nil))
      (pss_cons (ps_asg (pe_op op_add (pe_ix ix_list (pv 0) pe_int (fun _ _ => rfl)) pe_int) (pg_sub (pv 0) pe_int set_list))
      (pss_cons (ps_set (i := 3) scT.nd rfl (Or.inl rfl) (pe_lst (pa_cons pe_int (pa_cons pe_int (pa_cons pe_int (pa_cons pe_int (pa_cons pe_int (pa_cons pe_int (pa_cons pe_int (pa_cons pe_int pa_nil))))))))))
      (pss_cons (ps_set (i := 4) scT.nd rfl (Or.inl rfl) (pe_ix ix_list (pv 3) (pe_op op_mod (pe_ix ix_list (pv 0) pe_int (fun _ _ => rfl)) pe_int) (fun _ _ => rfl)))
      (pss_cons (ps_set (i := 5) scT.nd rfl (Or.inl rfl) (pe_op op_mod (pe_op op_pow (pe_op op_add (pe_ix ix_list (pv 0) pe_int (fun _ _ => rfl)) (pe_op op_mul pe_int (pe_ix ix_list (pv 0) pe_int (fun _ _ => rfl)))) pe_int) (pv 4)))
      (pss_one (ps_ret (pe_op op_mod (pe_op op_fdiv (pe_op op_mod (pe_op op_mul (pv 5) (pe_op op_add (pe_op op_mod (pv 5) pe_int) (pe_ix ix_list (pv 0) pe_int (fun _ _ => rfl)))) (pv 4)) pe_int) (pv 1)))))))), ?_⟩
    refine ⟨_, rfl, h, _, _, _, rfl, rfl, SqL.of e, at0, _, _, rfl, rfl, _, rfl, ?_⟩
    by_cases hc : (0 : Int) < g
    · rw [decide_eq_true hc]
      refine iteT ?_
      refine ⟨_, rfl, h, _, _, _, rfl, rfl, SqL.of e, at0, _, rfl, _, _, rfl, rfl, m0, ?_⟩
      refine ⟨_, rfl, h, _, _, _, rfl, rfl, SqL.of e, at0, _, rfl, _, _, rfl, rfl, ⟨m0, by omega⟩, ?_⟩
      refine ⟨_, rfl, h, _, _, 0, rfl, rfl, e, rfl, ?_⟩
      refine ⟨_, rfl, ?_⟩
      exact k _ _ (Int.emod_nonneg _ (by omega)) (Int.emod_lt_of_pos _ m0) ⟨g / m, t, c, upd_same, t0, t1, c0, by omega⟩ But.upd
    · rw [decide_eq_false hc]
      refine iteF ?_
      refine ⟨_, rfl, h, _, _, _, rfl, rfl, SqL.of e, at2, _, _, rfl, rfl, _, rfl, h, _, _, 2, rfl, rfl, e, rfl, ?_⟩
      rw [show ([V.int g, V.int t, V.int c].set 2 (V.int (c + 1))) = [V.int g, V.int t, V.int (c + 1)] from rfl]
      have e1 : upd H h (.lst [.int g, .int t, .int (c + 1)]) h = some (.lst [.int g, .int t, .int (c + 1)]) := upd_same
      have b1 : atI ([V.int g, V.int t, V.int (c + 1)]) 1 = some (V.int t) := atI_nat (j := 1) rfl
      have b2 : atI ([V.int g, V.int t, V.int (c + 1)]) 2 = some (V.int (c + 1)) := atI_nat (j := 2) rfl
      have bt : But h H (upd H h (.lst [.int g, .int t, .int (c + 1)])) := But.upd
      refine ⟨(by show 8 ≤ sizeLine; decide), fun L nL => ?_⟩
      have nL' : upd H h (.lst [.int g, .int t, .int (c + 1)]) L = none := nL
      generalize upd H h (.lst [.int g, .int t, .int (c + 1)]) = H1 at e1 bt nL' ⊢
      have sL := Same.new (o := .lst [V.int 2147483647, V.int 2147483629, V.int 2147483587, V.int 2147483579, V.int 2147483563, V.int 2147483549, V.int 2147483543, V.int 2147483497]) nL'
      have eL : upd H1 L (.lst [V.int 2147483647, V.int 2147483629, V.int 2147483587, V.int 2147483579, V.int 2147483563, V.int 2147483549, V.int 2147483543, V.int 2147483497]) L = some (.lst [V.int 2147483647, V.int 2147483629, V.int 2147483587, V.int 2147483579, V.int 2147483563, V.int 2147483549, V.int 2147483543, V.int 2147483497]) := upd_same
      refine gN ?_
      try dsimp only
      generalize upd H1 L (.lst [V.int 2147483647, V.int 2147483629, V.int 2147483587, V.int 2147483579, V.int 2147483563, V.int 2147483549, V.int 2147483543, V.int 2147483497]) = H2 at sL eL ⊢
      have e2 := sL _ _ e1
      have r0 : 0 ≤ (c + 1) % 8 := Int.emod_nonneg _ (by decide)
      have r1 : (c + 1) % 8 < 8 := Int.emod_lt_of_pos _ (by decide)
      obtain ⟨p, ap, p0, p1⟩ : ∃ p : Int, atI [V.int 2147483647, V.int 2147483629, V.int 2147483587, V.int 2147483579, V.int 2147483563, V.int 2147483549, V.int 2147483543, V.int 2147483497] ((c + 1) % 8) = some (.int p) ∧ 0 < p ∧ p < 2147483648 := by
        have : (c + 1) % 8 = 0 ∨ (c + 1) % 8 = 1 ∨ (c + 1) % 8 = 2 ∨ (c + 1) % 8 = 3 ∨ (c + 1) % 8 = 4 ∨ (c + 1) % 8 = 5 ∨ (c + 1) % 8 = 6 ∨ (c + 1) % 8 = 7 := by omega
        rcases this with q | q | q | q | q | q | q | q <;> rw [q] <;> exact ⟨_, rfl, by decide, by decide⟩
      refine ⟨_, rfl, _, rfl, h, _, _, _, rfl, rfl, SqL.of e2, b2, _, _, rfl, rfl, (by decide : (0 : Int) < 8), L, _, _, _, rfl, rfl, SqL.of eL, ap, ?_⟩
      refine ⟨_, rfl, h, _, _, _, rfl, rfl, SqL.of e2, b1, _, rfl, h, _, _, _, rfl, rfl, SqL.of e2, b2, _, _, rfl, rfl, .inl ⟨by decide, by decide⟩, _, _, rfl, rfl, _, _, rfl, rfl, ⟨by decide, by decide, by omega⟩, _, rfl, _, _, rfl, rfl, p0, ?_⟩
      generalize (t + 7919 * (c + 1)) ^ (5 : Int).toNat = big
      have d0 : 0 ≤ big % p := Int.emod_nonneg _ (by omega)
      have d1 : big % p < p := Int.emod_lt_of_pos _ p0
      have dB : -(2 ^ 64) < big % p ∧ big % p < 2 ^ 64 := by omega
      refine ⟨_, rfl, _, rfl, _, _, rfl, rfl, (by decide : (0 : Int) < 1009), _, rfl, h, _, _, _, rfl, rfl, SqL.of e2, b2, _, _, rfl, rfl, _, _, rfl, rfl, .inl dB, _, rfl, _, _, rfl, rfl, p0, _, _, rfl, rfl, ⟨by decide, by decide⟩, _, rfl, _, _, rfl, rfl, m0, ?_⟩
      exact k _ _ (Int.emod_nonneg _ (by omega)) (Int.emod_lt_of_pos _ m0) ⟨g, t, c + 1, e2, t0, t1, by omega, by omega⟩ (bt.trans (But.of sL))
theorem mod_lt (x : Int) {B : Int} (b : 0 < B) (l : B.toNat ≤ 2 ^ 1000) : (x % B).natAbs < 2 ^ 1000 := by
  have h0 := Int.emod_nonneg x (show B ≠ 0 by omega)
  have h1 := Int.emod_lt_of_pos x b
  generalize 2 ^ 1000 = M at l ⊢
  omega
theorem scH : FnScope ["_law_script", "_law_k", "_law_cell", "_law_great"] ["_law_script", "_law_k"] (defScope sHand) := ⟨rfl, rfl, rfl, by decide +kernel, rfl, by decide +kernel, by decide +kernel⟩
def spHand (K : PySem.W.Frag) : Sp := fun vs H Q _ => ∃ (a : Addr) (ns : List Int) (j : Nat), vs = [.ref a, .int (j : Int)] ∧ SqL K H a (ns.map V.int) ∧ ns.length ≤ 63 ∧ j < 64 ∧
  ∀ (p : Addr) (H' : Hp), H p = none → Same H H' → HandAt H' p 0 → Q (.ref p) H'
theorem ok_hand {f : Addr} {fd : FuncData} (F : Fun K "_law_hand" "_law_hand" sHand f fd) (T : Free mg) : FnOk P w K mg base CX0 1 f fd ["_law_script", "_law_k"] (spHand K) := by
  refine F.ok scH (fun vs H Q E h => ?_) (fun cdv A outer s H vs Q E hr h => ?_)
  · obtain ⟨a, ns, j, rfl, _⟩ := h
    rfl
  · obtain ⟨a, ns, j, rfl, hS, hl, hj, k⟩ := h
    refine ⟨_, pss_cons (ps_set (i := 2) scH.nd rfl (Or.inl rfl) (pe_ifExp (pt_cmpR op_lt (pv 1) (pe_callB call_len_seq (by rfl) T.len PySem.boot_len (pa_cons (pv 0) pa_nil)) (nomark _)) (pe_ix ix_list (pv 0) (pv 1) (fun _ _ => rfl)) (pe_op op_add (pe_op op_mul pe_int (pv 1)) (pe_callB call_len_seq (by rfl) T.len PySem.boot_len (pa_cons (pv 0) pa_nil)))))
      (pss_cons (ps_set (i := 3) scH.nd rfl (Or.inl rfl) (pe_op op_mulW (pe_op op_mod (pe_callB call_abs (by rfl) T.abs (by decide +kernel) (pa_cons (pv 2) pa_nil)) (pe_op op_powX (pe_op op_pow pe_int pe_int) pe_int)) (pe_callTy call_int1 (by rfl) T.int (by decide +kernel) (pa_cons (pe_cmpR op_ge (pe_callB call_abs (by rfl) T.abs (by decide +kernel) (pa_cons (pv 2) pa_nil)) (pe_op op_pow pe_int pe_int) (nomark _)) pa_nil))))
      (pss_one (ps_ret (pe_lst (pa_cons (pv 3) (pa_cons (pe_op op_mod (pe_op op_add (pe_op op_add (pe_op op_mod (pv 2) pe_int) (pe_op op_mul pe_int (pv 1))) pe_int) pe_int) (pa_cons pe_int pa_nil))))))), ?_⟩
    have ll : (ns.map V.int).length = ns.length := List.length_map ..
    refine cutA (fun v H' => (∃ cell : Int, v = .int cell) ∧ H' = H) (fun Q' q => ?_) ?_
    · refine ⟨_, rfl, _, rfl, a, _, rfl, .inl hS, _, _, rfl, rfl, _, rfl, ?_⟩
      by_cases c : (j : Int) < ((ns.map V.int).length : Nat)
      · rw [decide_eq_true c]
        refine iteT ?_
        rw [List.length_map] at c
        have hj' : j < ns.length := by omega
        refine ⟨_, rfl, _, rfl, a, _, _, .int ns[j], rfl, rfl, hS, atI_nat (by rw [List.getElem?_map, List.getElem?_eq_getElem hj']; rfl), ?_⟩
        exact q _ _ ⟨⟨_, rfl⟩, rfl⟩
      · rw [decide_eq_false c]
        refine iteF ?_
        exact ⟨_, rfl, _, _, rfl, rfl, .inl ⟨by decide, by decide⟩, _, rfl, a, _, rfl, .inl hS, _, _, rfl, rfl, q _ _ ⟨⟨_, rfl⟩, rfl⟩⟩
    · rintro v H' ⟨⟨cell, rfl⟩, rfl⟩
      refine cutA (fun v H2 => (∃ great : Int, v = .int great) ∧ H2 = H') (fun Q' q => ?_) ?_
      · refine ⟨_, rfl, _, rfl, _, _, rfl, rfl, ⟨by decide, by decide, by decide⟩, _, _, rfl, rfl, ⟨by decide, by decide +kernel⟩, _, _, rfl, rfl, (by show (0 : Int) < (10 ^ Int.toNat 60) ^ Int.toNat 5; decide +kernel), ?_⟩
        refine ⟨_, rfl, _, rfl, _, _, rfl, rfl, ⟨by decide, by decide, by decide⟩, _, _, rfl, rfl, .inr ⟨_, rfl, _, _, rfl, rfl, wide_mul (a := 1000) (b := 10) (mod_lt _ (by decide +kernel) (by decide +kernel)) ?_ (by decide) (by decide) (by decide), q _ _ ⟨⟨_, rfl⟩, rfl⟩⟩⟩
        have bb : ∀ b : Bool, ((if b = true then (1 : Int) else 0)).natAbs < 2 ^ 10 := by decide
        exact bb _
      · rintro v H2 ⟨⟨great, rfl⟩, rfl⟩
        have mB : -(2 ^ 64) < cell % 2305843009213693951 ∧ cell % 2305843009213693951 < 2 ^ 64 := by omega
        refine ⟨_, rfl, _, rfl, _, _, rfl, rfl, (by decide : (0 : Int) < 2305843009213693951), _, rfl, _, _, rfl, rfl, .inl ⟨by decide, by decide⟩, _, _, rfl, rfl, _, _, rfl, rfl, _, _, rfl, rfl, (by decide : (0 : Int) < 2305843009213693951), (by show 3 ≤ sizeLine; decide), fun p hp => ?_⟩
        exact k p _ hp (Same.new hp) ⟨_, _, _, upd_same, Int.emod_nonneg _ (by decide), Int.emod_lt_of_pos _ (by decide), Int.le_refl _, Int.le_refl _⟩
theorem scO : FnScope ["_law_hand_here", "_law_some"] ["_law_hand_here", "_law_some"] (defScope sOf) := ⟨rfl, rfl, rfl, by decide +kernel, rfl, by decide +kernel, by decide +kernel⟩
theorem ok_of {f fT : Addr} {fd fdT : FuncData} (F : Fun K "_law_of" "_law_of" sOf f fd) (T : Free mg) (FT : Fun K "_law_take" "_law_take" sTake fT fdT) (bT : Binds K fdT ["_law_hand_here", "_law_many"] []) (gT : mg "_law_take" = some (.ref fT)) :
    FnOk P w K mg base CX0 2 f fd ["_law_hand_here", "_law_some"] (spPick K) := by
  have GT : FnOk P w K mg base CX0 1 fT fdT ["_law_hand_here", "_law_many"] spTake := ok_take FT
  refine F.ok scO (fun vs H Q E h => ?_) (fun cdv A outer s H vs Q E hr h => ?_)
  · obtain ⟨h, n, x, ys, rfl, _⟩ := h
    rfl
  · obtain ⟨h, n, x, ys, rfl, hd, nb, l0, l1, sh, k⟩ := h
    rcases sh with ⟨z, rfl, rfl⟩ | ⟨p, rfl, ne, hp⟩
    · have zl : z.length = (z.cps.toList.map fun c => V.str ⟨#[c]⟩).length := by rw [List.length_map]; simp [Str.length]
      refine ⟨_, pss_one (ps_ret (pe_ix ix_str (pv 1) (pe_call GT hr (by rfl) gT FT.kp bT .nil pass0 (pa_cons (pv 0) (pa_cons (pe_callB call_len_str (by rfl) T.len PySem.boot_len (pa_cons (pv 1) pa_nil)) pa_nil))) (fun _ _ => rfl))), ?_⟩
      refine ⟨_, rfl, _, rfl, _, rfl, z, rfl, Nat.le_trans (by omega) (show 1000 ≤ sizeLine by decide), h, n, _, rfl, hd, nb, by omega, by omega, fun r H' r0 r1 hd' bt => ?_⟩
      have rl : r.toNat < z.cps.toList.length := by rw [List.length_map] at zl; omega
      refine ⟨z, r, z.cps.toList[r.toNat], rfl, rfl, Nat.le_trans (by omega) (show 1000 ≤ sizeLine by decide), ?_, ?_⟩
      · have e := atI_nat (xs := z.cps.toList) (j := r.toNat) (List.getElem?_eq_getElem rl)
        rw [Int.toNat_of_nonneg r0] at e
        exact e
      · exact k _ _ (List.mem_map.mpr ⟨_, List.getElem_mem rl, rfl⟩) hd' bt
    · refine ⟨_, pss_one (ps_ret (pe_ix ix_list (pv 1) (pe_call GT hr (by rfl) gT FT.kp bT .nil pass0 (pa_cons (pv 0) (pa_cons (pe_callB call_len_seq (by rfl) T.len PySem.boot_len (pa_cons (pv 1) pa_nil)) pa_nil))) (fun _ _ => rfl))), ?_⟩
      refine ⟨_, rfl, _, rfl, _, rfl, p, _, rfl, .inl hp, h, n, _, rfl, hd, nb, by omega, by omega, fun r H' r0 r1 hd' bt => ?_⟩
      have rl : r.toNat < ys.length := by omega
      refine ⟨p, _, r, ys[r.toNat], rfl, rfl, bt.seq ne hp, ?_, ?_⟩
      · have e := atI_nat (xs := ys) (j := r.toNat) (List.getElem?_eq_getElem rl)
        rw [Int.toNat_of_nonneg r0] at e
        exact e
      · exact k _ _ (List.getElem_mem rl) hd' bt
/-! texts of plain signs -/
def Good (L : Nat) (z : Str) : Prop := z.length ≤ L ∧ ∀ c ∈ z.cps.toList, 32 ≤ c ∧ c < 127
theorem Good.app {a b : Nat} {x y : Str} (h : Good a x) (g : Good b y) : Good (a + b) (x ++ y) := by
  refine ⟨?_, fun c hc => ?_⟩
  · have e := congrArg List.length (tl_append x y)
    rw [List.length_append] at e
    rw [len_tl, e, ← len_tl, ← len_tl]
    exact Nat.add_le_add h.1 g.1
  · have e : c ∈ tl x ++ tl y := by rw [← tl_append]; exact hc
    rcases List.mem_append.mp e with e | e
    · exact h.2 c e
    · exact g.2 c e
theorem Good.cut {L : Nat} {z : Str} (h : Good L z) (lo hi : Option Int) : Good L (cutS z lo hi) :=
  ⟨Nat.le_trans (cutS_length z lo hi) h.1, fun c hc => h.2 c (List.mem_of_mem_drop (List.mem_of_mem_take hc))⟩
theorem Good.le {a b : Nat} {z : Str} (h : Good a z) (l : a ≤ b) : Good b z := ⟨Nat.le_trans h.1 l, h.2⟩
end
end K21
set_option Elab.async false
set_option linter.all false
set_option maxRecDepth 100000
set_option maxHeartbeats 4000000
/-! the mathematics of numbers read and written: lists of signs -/
namespace K02
open PySem TL
def dg (c : Nat) : Bool := decide (48 ≤ c) && decide (c ≤ 57)
def figs (k : Nat) (l : List Nat) : Bool := decide (1 ≤ l.length) && decide (l.length ≤ k) && l.all dg
def val (l : List Nat) : Nat := NumText.digitsVal l
def body (l : List Nat) : List Nat := if l.take 1 = [43] ∨ l.take 1 = [45] then l.drop 1 else l
def sgn (l : List Nat) (n : Nat) : Int := if l.take 1 = [45] then -(n : Int) else n
def cap (m : Nat) : Nat := if m = 0 then 9 else 8
def zs (k : Nat) : List Nat := List.replicate k 48
def due (m : Nat) (l : List Nat) : Option Int :=
  match par [46] [] (body l) with
  | none => if figs (cap m) (body l) = true then some (sgn l (val (body l ++ zs m))) else none
  | some (p, q) => if figs (cap m) p = true ∧ figs m q = true then some (sgn l (val (p ++ (q ++ zs (m - q.length))))) else none
theorem due_plain {m : Nat} {l : List Nat} (h : 46 ∉ body l) : due m l = if figs (cap m) (body l) = true then some (sgn l (val (body l ++ zs m))) else none := by
  unfold due
  rw [par_none1 h]
theorem due_dot {m : Nat} {l p q : List Nat} (e : body l = p ++ 46 :: q) (h : 46 ∉ p) : due m l = if figs (cap m) p = true ∧ figs m q = true then some (sgn l (val (p ++ (q ++ zs (m - q.length))))) else none := by
  unfold due
  have z : par [46] [] (body l) = some (p, q) := by
    rw [e]
    exact par_part1 (S := []) (acc := []) (rest := q) h
  rw [z]
theorem two_ways (l : List Nat) : (46 ∉ l) ∨ ∃ p q, l = p ++ 46 :: q ∧ 46 ∉ p := by
  by_cases h : 46 ∈ l
  · exact .inr (List.eq_append_cons_of_mem h)
  · exact .inl h
theorem dg_iff {c : Nat} : dg c = true ↔ 48 ≤ c ∧ c ≤ 57 := by simp [dg]
theorem figs_iff {k : Nat} {l : List Nat} : figs k l = true ↔ (1 ≤ l.length ∧ l.length ≤ k) ∧ NumText.AllDigits l := by
  unfold figs NumText.AllDigits
  rw [Bool.and_eq_true, Bool.and_eq_true, decide_eq_true_eq, decide_eq_true_eq, List.all_eq_true]
  constructor
  · rintro ⟨h, g⟩
    exact ⟨h, fun c hc => dg_iff.mp (g c hc)⟩
  · rintro ⟨h, g⟩
    exact ⟨h, fun c hc => dg_iff.mpr (g c hc)⟩
/-! values -/
theorem foldl_val : ∀ (l : List Nat) (a : Nat), l.foldl (fun acc c => acc * 10 + (c - 48)) a = a * 10 ^ l.length + val l
  | [], a => by simp [val, NumText.digitsVal]
  | c :: r, a => by
    have h1 := foldl_val r (a * 10 + (c - 48))
    have h2 := foldl_val r (0 * 10 + (c - 48))
    have h3 : val (c :: r) = r.foldl (fun acc c => acc * 10 + (c - 48)) (0 * 10 + (c - 48)) := rfl
    rw [List.foldl_cons, h1, h3, h2, List.length_cons, Nat.pow_succ]
    simp only [Nat.zero_mul, Nat.zero_add, Nat.add_mul, Nat.mul_assoc, Nat.add_assoc, Nat.mul_comm 10]
theorem val_app (a b : List Nat) : val (a ++ b) = val a * 10 ^ b.length + val b := by
  have e : val (a ++ b) = b.foldl (fun acc c => acc * 10 + (c - 48)) (val a) := by
    unfold val NumText.digitsVal
    rw [List.foldl_append]
  rw [e, foldl_val]
theorem val_zs : ∀ k, val (zs k) = 0
  | 0 => rfl
  | k + 1 => by
    have e : zs (k + 1) = zs k ++ [48] := by unfold zs; rw [List.replicate_succ']
    rw [e, val_app, val_zs k]
    rfl
theorem val_lt : ∀ {l : List Nat}, NumText.AllDigits l → val l < 10 ^ l.length
  | [], _ => by simp [val, NumText.digitsVal]
  | c :: r, h => by
    have e : val (c :: r) = val [c] * 10 ^ r.length + val r := val_app [c] r
    have i := val_lt (l := r) h.tail
    have hc := h.head
    have v1 : val [c] = c - 48 := by simp [val, NumText.digitsVal]
    rw [e, v1, List.length_cons, Nat.pow_succ]
    have : (c - 48) * 10 ^ r.length ≤ 9 * 10 ^ r.length := Nat.mul_le_mul_right _ (by omega)
    omega
theorem zs_len (k : Nat) : (zs k).length = k := List.length_replicate
theorem zs_digits (k : Nat) : NumText.AllDigits (zs k) := fun c hc => by
  have e := List.eq_of_mem_replicate hc
  omega
theorem digits_app {a b : List Nat} (h : NumText.AllDigits a) (g : NumText.AllDigits b) : NumText.AllDigits (a ++ b) := fun c hc => by
  rcases List.mem_append.mp hc with q | q
  · exact h c q
  · exact g c q
theorem due_small {m : Nat} {l : List Nat} {n : Int} (h : due m l = some n) : n.natAbs < 10 ^ (cap m + m) := by
  have sg : ∀ k : Nat, (sgn l k).natAbs = k := fun k => by
    unfold sgn
    split <;> omega
  have up : ∀ {x : List Nat}, NumText.AllDigits x → x.length ≤ cap m + m → val x < 10 ^ (cap m + m) := fun h g => Nat.lt_of_lt_of_le (val_lt h) (Nat.pow_le_pow_right (by decide) g)
  rcases two_ways (body l) with w | ⟨p, q, e, w⟩
  · rw [due_plain w] at h
    split at h
    · rename_i f
      obtain ⟨⟨_, f2⟩, f3⟩ := figs_iff.mp f
      rw [← Option.some.inj h, sg]
      exact up (digits_app f3 (zs_digits m)) (by rw [List.length_append, zs_len]; omega)
    · cases h
  · rw [due_dot e w] at h
    split at h
    · rename_i f
      obtain ⟨f, g⟩ := f
      obtain ⟨⟨_, f2⟩, f3⟩ := figs_iff.mp f
      obtain ⟨⟨_, g2⟩, g3⟩ := figs_iff.mp g
      rw [← Option.some.inj h, sg]
      exact up (digits_app f3 (digits_app g3 (zs_digits _))) (by rw [List.length_append, List.length_append, zs_len]; omega)
    · cases h
/-! figures of a number -/
def padL (k n : Nat) : List Nat := zs (k - (numL n).length) ++ numL n
def dig : Nat → Nat → List Nat
  | 0, _ => []
  | k + 1, n => dig k (n / 10) ++ [48 + n % 10]
theorem dig_len : ∀ k n, (dig k n).length = k
  | 0, _ => rfl
  | k + 1, n => by rw [dig, List.length_append, dig_len k]; rfl
theorem dig_cons : ∀ k n, dig (k + 1) n = (48 + n / 10 ^ k % 10) :: dig k n
  | 0, n => by simp [dig]
  | k + 1, n => by
    have i := dig_cons k (n / 10)
    rw [dig, i, dig]
    have e : n / 10 / 10 ^ k = n / 10 ^ (k + 1) := by rw [Nat.div_div_eq_div_mul, Nat.pow_succ, Nat.mul_comm 10]
    rw [e]
    rfl
theorem dig_zero : ∀ k, dig k 0 = zs k
  | 0 => rfl
  | k + 1 => by
    rw [dig, Nat.zero_div, dig_zero k]
    show zs k ++ [48] = zs (k + 1)
    unfold zs
    rw [List.replicate_succ']
theorem numL_pos (n : Nat) : 0 < (numL n).length := List.length_pos_iff.mpr (numL_ne n)
theorem dig_pad : ∀ k n, n < 10 ^ k → 0 < k → dig k n = padL k n
  | 0, _, _, h => by omega
  | k + 1, n, h, _ => by
    by_cases c : n < 10
    · have e : n / 10 = 0 := by omega
      have e2 : n % 10 = n := by omega
      rw [dig, e, e2, dig_zero]
      unfold padL
      rw [numL_lt c]
      show zs k ++ [48 + n] = zs (k + 1 - 1) ++ [48 + n]
      rw [Nat.add_sub_cancel]
    · have k0 : 0 < k := by
        cases k with
        | zero => simp at h; omega
        | succ k => omega
      have d : n / 10 < 10 ^ k := by
        rw [Nat.pow_succ] at h
        omega
      have i := dig_pad k (n / 10) d k0
      rw [dig, i]
      unfold padL
      rw [numL_step (n := n) (by omega), List.length_append]
      show (zs _ ++ numL (n / 10)) ++ [48 + n % 10] = zs (k + 1 - ((numL (n / 10)).length + 1)) ++ (numL (n / 10) ++ [48 + n % 10])
      rw [Nat.add_sub_add_right, List.append_assoc]
theorem numL_ge : ∀ k n, 10 ^ k ≤ n → k < (numL n).length
  | 0, n, _ => numL_pos n
  | k + 1, n, h => by
    rw [Nat.pow_succ] at h
    have p : 0 < 10 ^ k := Nat.pow_pos (by decide)
    have i := numL_ge k (n / 10) (by omega)
    rw [numL_step (n := n) (by omega), List.length_append]
    show k + 1 < (numL (n / 10)).length + 1
    omega
theorem loop_end {m k n : Nat} (h1 : n < 10 ^ k) (h2 : m + 1 ≤ k) (h3 : k = m + 1 ∨ 10 ^ (k - 1) ≤ n) : dig k n = padL (m + 1) n := by
  rw [dig_pad k n h1 (by omega)]
  rcases h3 with rfl | h3
  · rfl
  · have l1 := numL_ge (k - 1) n h3
    unfold padL
    rw [show k - (numL n).length = 0 by omega, show m + 1 - (numL n).length = 0 by omega]
theorem padL_val (k n : Nat) : val (padL k n) = n := by
  unfold padL
  rw [val_app, val_zs]
  show 0 * _ + NumText.digitsVal (numL n) = n
  rw [numL_val]
  omega
theorem padL_digits (k n : Nat) : NumText.AllDigits (padL k n) := digits_app (zs_digits _) (numL_digits n)
theorem padL_len (k n : Nat) : k ≤ (padL k n).length := by
  unfold padL
  rw [List.length_append, zs_len]
  omega
theorem padL_le {k n j : Nat} (h : n < 10 ^ j) (j0 : 0 < j) (kj : k ≤ j) : (padL k n).length ≤ j := by
  have := numL_len j0 h
  unfold padL
  rw [List.length_append, zs_len]
  omega
def shownL (m : Nat) (n : Int) : List Nat :=
  (if n < 0 then [45] else []) ++ (if m = 0 then padL 1 n.natAbs else (padL (m + 1) n.natAbs).take ((padL (m + 1) n.natAbs).length - m) ++ 46 :: (padL (m + 1) n.natAbs).drop ((padL (m + 1) n.natAbs).length - m))
theorem body_shown {m : Nat} {n : Int} {x : List Nat} {d : Nat} {r : List Nat} (hx : x = d :: r) (hd : 48 ≤ d ∧ d ≤ 57) : body ((if n < 0 then [45] else []) ++ x) = x ∧ ∀ k, sgn ((if n < 0 then [45] else []) ++ x) k = if n < 0 then -(k : Int) else k := by
  subst hx
  by_cases c : n < 0
  · rw [if_pos c]
    refine ⟨?_, fun k => ?_⟩
    · unfold body
      rw [if_pos (.inr rfl)]
      rfl
    · unfold sgn
      rw [if_pos c, if_pos (show List.take 1 ([45] ++ d :: r) = [45] from rfl)]
  · rw [if_neg c]
    refine ⟨?_, fun k => ?_⟩
    · unfold body
      rw [if_neg]
      · rfl
      · simp
        omega
    · unfold sgn
      rw [if_neg c, if_neg]
      simp
      omega
theorem dot_free {x : List Nat} (h : NumText.AllDigits x) : 46 ∉ x := fun q => by
  have := h 46 q
  omega
theorem back {m : Nat} {n : Int} (h : n.natAbs < 10 ^ (cap m + m)) : due m (shownL m n) = some n := by
  have cp : 0 < cap m := by unfold cap; split <;> omega
  have fin : ∀ k : Nat, k = n.natAbs → (if n < 0 then -(k : Int) else (k : Int)) = n := fun k e => by
    subst e
    split <;> omega
  by_cases m0 : m = 0
  · subst m0
    unfold shownL
    rw [if_pos rfl]
    have dgs := padL_digits 1 n.natAbs
    have len := padL_len 1 n.natAbs
    have le : (padL 1 n.natAbs).length ≤ 9 := padL_le h (by decide) (by decide)
    cases e : padL 1 n.natAbs with
    | nil =>
      rw [e] at len
      simp at len
    | cons d r =>
      have b := body_shown (m := 0) (n := n) (x := d :: r) rfl (dgs d (by rw [e]; exact List.mem_cons_self))
      rw [due_plain (by rw [b.1, ← e]; exact dot_free dgs), b.1, b.2, if_pos]
      · rw [← e, show zs 0 = [] from rfl, List.append_nil, padL_val, fin _ rfl]
      · rw [← e]
        exact figs_iff.mpr ⟨⟨len, le⟩, dgs⟩
  · unfold shownL
    rw [if_neg m0]
    have dgs := padL_digits (m + 1) n.natAbs
    have len := padL_len (m + 1) n.natAbs
    have le : (padL (m + 1) n.natAbs).length ≤ cap m + m := padL_le h (by omega) (by omega)
    have v := padL_val (m + 1) n.natAbs
    generalize padL (m + 1) n.natAbs = x at dgs len le v
    have dA : NumText.AllDigits (x.take (x.length - m)) := fun c hc => dgs c (List.mem_of_mem_take hc)
    have dB : NumText.AllDigits (x.drop (x.length - m)) := fun c hc => dgs c (List.mem_of_mem_drop hc)
    have lA : (x.take (x.length - m)).length = x.length - m := by rw [List.length_take]; omega
    have lB : (x.drop (x.length - m)).length = m := by rw [List.length_drop]; omega
    have AB : x.take (x.length - m) ++ x.drop (x.length - m) = x := List.take_append_drop _ _
    generalize x.take (x.length - m) = A at dA lA AB
    generalize x.drop (x.length - m) = B at dB lB AB
    cases A with
    | nil =>
      simp at lA
      omega
    | cons d r =>
      have b := body_shown (m := m) (n := n) (x := (d :: r) ++ 46 :: B) rfl (dA d List.mem_cons_self)
      rw [due_dot b.1 (dot_free dA), b.2, if_pos]
      · rw [lB, Nat.sub_self, show zs 0 = [] from rfl, List.append_nil, AB, v, fin _ rfl]
      · exact ⟨figs_iff.mpr ⟨⟨by simp, by omega⟩, dA⟩, figs_iff.mpr ⟨⟨by omega, by omega⟩, dB⟩⟩
end K02
set_option Elab.async false
set_option linter.all false
set_option maxRecDepth 100000
set_option maxHeartbeats 8000000
namespace K21
open PySem PySem.Spec PyProof.Rows L2 Bs Xg TL K02
abbrev sReadAs : Stmt := top 13
abbrev sIsFig : Stmt := top 14
abbrev sReadAm : Stmt := top 15
def S (l : List Nat) : Str := ⟨l.toArray⟩
theorem tl_S (l : List Nat) : tl (S l) = l := rfl
theorem S_len (l : List Nat) : (S l).length = l.length := by simp [S, Str.length]
theorem S_tl (z : Str) : S (tl z) = z := mk_tl z
def ov : Option Int → V
  | none => .non
  | some i => .int i
theorem asc_dig : ∀ c, c < 128 → Unicode.isDigit c = dg c := by decide +kernel
theorem is_figs {z : Str} {k : Nat} : (decide (1 ≤ z.length) && decide (z.length ≤ k) && (Txt.isascii z && Txt.isdigit z)) = figs k (tl z) := by
  unfold Txt.isascii Txt.isdigit figs
  have e1 : z.cps.all (· < 128) = (tl z).all (fun c => decide (c < 128)) := by simp [tl]
  have e2 : z.cps.all Unicode.isDigit = (tl z).all Unicode.isDigit := by simp [tl]
  rw [e1, e2, len_tl]
  by_cases h : 1 ≤ (tl z).length ∧ (tl z).length ≤ k
  · have p : decide ((tl z).length > 0) = true := decide_eq_true (by omega)
    rw [decide_eq_true h.1, decide_eq_true h.2, p]
    simp only [Bool.true_and]
    generalize tl z = l
    induction l with
    | nil => rfl
    | cons c r ih =>
      simp only [List.all_cons]
      by_cases a : c < 128
      · rw [asc_dig c a, decide_eq_true a]
        cases dg c
        · simp
        · simp only [Bool.true_and]
          exact ih
      · have n : dg c = false := by
          unfold dg
          rw [decide_eq_false (show ¬ c ≤ 57 by omega), Bool.and_false]
        rw [decide_eq_false a, n]
        rfl
  · have n : (decide (1 ≤ (tl z).length) && decide ((tl z).length ≤ k)) = false := by
      rw [Bool.and_eq_false_iff, decide_eq_false_iff_not, decide_eq_false_iff_not]
      omega
    rw [n]
    rfl
section
variable {P : Program} {w : World} {K : PySem.W.Frag} {mg : Str → Option Value} {base : Heap}
theorem scIF : FnScope ["text", "most"] ["text", "most"] (defScope sIsFig) := ⟨rfl, rfl, rfl, by decide +kernel, rfl, by decide +kernel, by decide +kernel⟩
def spIsFig : Sp := fun vs H Q _ => ∃ (z : Str) (k : Nat), vs = [.str z, .int (k : Int)] ∧ z.length ≤ 1000 ∧ Q (.bl (figs k (tl z))) H
theorem ok_isfig {f : Addr} {fd : FuncData} (F : Fun K "is_figures" "is_figures" sIsFig f fd) (T : Free mg) : FnOk P w K mg base CX0 1 f fd ["text", "most"] spIsFig := by
  refine F.ok scIF (fun vs H Q E h => ?_) (fun cdv A outer s H vs Q E hr h => ?_)
  · obtain ⟨z, k, rfl, _⟩ := h
    rfl
  · obtain ⟨z, k, rfl, zl, q⟩ := h
    refine ⟨_, pss_one (ps_ret (pe_and (pe_chain op_le op_le pe_int (pe_callB call_len_str (by rfl) T.len PySem.boot_len (pa_cons (pv 0) pa_nil)) (pv 1)) (pe_and (pe_m0 PySem.F.slot_str_isascii PySem.F.type_str_isascii mt_isascii (pv 0)) (pe_one (pe_m0 PySem.F.slot_str_isdigit PySem.F.type_str_isdigit mt_isdigit (pv 0)))))), ?_⟩
    have line : z.length ≤ sizeLine := Nat.le_trans zl (by decide)
    rw [← is_figs] at q
    refine ⟨_, rfl, _, rfl, line, _, _, rfl, rfl, _, rfl, ?_⟩
    by_cases c1 : (1 : Int) ≤ (z.length : Nat)
    · rw [decide_eq_true c1]
      refine iteT ?_
      refine ⟨_, rfl, _, _, rfl, rfl, _, rfl, ?_⟩
      rw [decide_eq_true (show 1 ≤ z.length by omega), Bool.true_and] at q
      by_cases c2 : ((z.length : Nat) : Int) ≤ (k : Int)
      · rw [decide_eq_true c2]
        refine iteT ?_
        rw [decide_eq_true (show z.length ≤ k by omega), Bool.true_and] at q
        refine ⟨_, rfl, ⟨_, rfl⟩, _, rfl, rfl, trivial, _, rfl, ?_⟩
        cases ea : Txt.isascii z with
        | true =>
          refine iteT ?_
          rw [ea, Bool.true_and] at q
          exact ⟨_, rfl, ⟨_, rfl⟩, _, rfl, rfl, trivial, q⟩
        | false =>
          refine iteF ?_
          rw [ea] at q
          exact q
      · rw [decide_eq_false c2]
        refine iteF ?_
        rw [decide_eq_false (show ¬ z.length ≤ k by omega)] at q
        exact q
    · rw [decide_eq_false c1]
      refine iteF ?_
      rw [decide_eq_false (show ¬ 1 ≤ z.length by omega)] at q
      exact ⟨_, rfl, q⟩
end
/-! slices, starts, pads as lists -/
theorem tl_cut_to (z : Str) (k : Nat) : tl (cutS z none (some (k : Int))) = (tl z).take k := by
  show ((tl z).drop (HT.sIx z.length 0 none)).take (HT.sIx z.length z.length (some (k : Int)) - HT.sIx z.length 0 none) = (tl z).take k
  rw [HT.sIx_none, HT.sIx_nat, List.drop_zero, Nat.sub_zero, len_tl]
  by_cases h : k ≤ (tl z).length
  · rw [Nat.min_eq_left h]
  · rw [Nat.min_eq_right (by omega), List.take_of_length_le (Nat.le_refl _), List.take_of_length_le (by omega)]
theorem tl_cut_from (z : Str) (k : Nat) : tl (cutS z (some (k : Int)) none) = (tl z).drop k := by
  show ((tl z).drop (HT.sIx z.length 0 (some (k : Int)))).take (HT.sIx z.length z.length none - HT.sIx z.length 0 (some (k : Int))) = (tl z).drop k
  rw [HT.sIx_none, HT.sIx_nat, len_tl]
  by_cases h : k ≤ (tl z).length
  · rw [Nat.min_eq_left h, List.take_of_length_le (by rw [List.length_drop]; omega)]
  · rw [Nat.min_eq_right (by omega), Nat.sub_self, List.take_zero, List.drop_of_length_le (by omega)]
theorem starts_minus (z : Str) : Txt.startswith z (Str.ofString "-") = decide ((tl z).take 1 = [45]) := by
  have hy : tl (Str.ofString "-") ≠ [] := by decide +kernel
  have key : Txt.startswith z (Str.ofString "-") = true ↔ pre (tl (Str.ofString "-")) ((tl z).drop 0) = true := by
    rw [← at_iff hy 0]
    unfold Txt.startswith
    rw [Bool.and_eq_true, decide_eq_true_eq]
    rfl
  have pe : (pre (tl (Str.ofString "-")) ((tl z).drop 0) = true) ↔ (tl z).take 1 = [45] := by
    have e : tl (Str.ofString "-") = [45] := by decide +kernel
    rw [e, List.drop_zero]
    unfold pre
    exact beq_iff_eq
  cases e : Txt.startswith z (Str.ofString "-") with
  | true => exact (decide_eq_true (pe.mp (key.mp e))).symm
  | false =>
    refine (decide_eq_false fun q => ?_).symm
    rw [key.mpr (pe.mpr q)] at e
    cases e
theorem tl_ljust (z : Str) (m : Nat) : tl (Txt.ljustF z (m : Int) 48) = tl z ++ zs (m - (tl z).length) := by
  unfold Txt.ljustF
  by_cases h : (m : Int) ≤ (z.length : Nat)
  · rw [if_pos h]
    rw [len_tl] at h
    rw [show m - (tl z).length = 0 by omega]
    exact (List.append_nil _).symm
  · rw [if_neg h, Int.toNat_natCast, len_tl]
    simp [Builtin.Str.padded, zs, tl]
theorem pad_ok (m : Nat) (h : m ≤ 1000) : PadOk (m : Int) = true := by
  have key : ∀ m : Nat, m ≤ 1000 → PadOk (m : Int) = true := by decide +kernel
  exact key m h
theorem part_plain {z : Str} (h : 46 ∉ tl z) : Txt.partition z (Str.ofString ".") = (z, Str.empty, Str.empty) := partition_none (s := 46) (S := []) (by decide +kernel) h
theorem part_dot {z : Str} {p q : List Nat} (e : tl z = p ++ 46 :: q) (h : 46 ∉ p) : Txt.partition z (Str.ofString ".") = (S p, Str.ofString ".", S q) := by
  have d : tl (Str.ofString ".") = [46] := by decide +kernel
  have e2 : z = S p ++ Str.ofString "." ++ S q := by
    apply ext_tl
    rw [tl_append, tl_append, d, e, tl_S, tl_S]
    simp
  rw [e2]
  exact partition_app (s := 46) (S := []) d h
theorem tl_empty : tl Str.empty = [] := by decide +kernel
theorem str_ne {x y : Str} (h : tl x ≠ tl y) : V.str x ≠ V.str y := fun q => h (by rw [V.str.inj q])
theorem intTextD {z : Str} (h : NumText.AllDigits (tl z)) (n : tl z ≠ []) (l : z.length ≤ 600) : intText? z = some ((val (tl z) : Nat) : Int) := intText_digits h n (Nat.le_trans l (by decide))
section
variable {P : Program} {w : World} {K : PySem.W.Frag} {mg : Str → Option Value} {base : Heap}
abbrev nRA : List Str := ["text", "most", "places", "unsigned", "whole", "point", "behind", "number"]
theorem scRA : FnScope nRA ["text", "most", "places"] (defScope sReadAm) := ⟨rfl, rfl, rfl, by decide +kernel, rfl, by decide +kernel, by decide +kernel⟩
def spReadAm : Sp := fun vs H Q _ => ∃ (z : Str) (m : Nat), vs = [.str z, .int (cap m : Nat), .int (m : Int)] ∧ z.length ≤ 500 ∧ m ≤ 4 ∧ ∀ H', Same H H' → Q (ov (due m (tl z))) H'
theorem ok_readam {f fI : Addr} {fd fdI : FuncData} (F : Fun K "read_amount" "read_amount" sReadAm f fd) (T : Free mg) (FI : Fun K "is_figures" "is_figures" sIsFig fI fdI) (bI : Binds K fdI ["text", "most"] []) (gI : mg "is_figures" = some (.ref fI)) :
    FnOk P w K mg base CX0 2 f fd ["text", "most", "places"] spReadAm := by
  have GI : FnOk P w K mg base CX0 1 fI fdI ["text", "most"] spIsFig := ok_isfig FI T
  refine F.ok scRA (fun vs H Q E h => ?_) (fun cdv A outer s H vs Q E hr h => ?_)
  · obtain ⟨z, m, rfl, _⟩ := h
    rfl
  · obtain ⟨z, m, rfl, zl, ml, q⟩ := h
    have line : z.length ≤ sizeLine := Nat.le_trans zl (by decide)
    refine ⟨_,pss_cons (ps_set (i := 3) scRA.nd rfl (Or.inl rfl) (pe_ifExp (pt_cmpR op_in_seq (pe_slice sl_str (pv 0) po_none (po_some pe_int)) (pe_tup (pa_cons pe_str (pa_cons pe_str pa_nil))) (by rfl)) (pe_slice sl_str (pv 0) (po_some pe_int) po_none) (pv 0)))
      (pss_cons (ps_asg (pe_partition (pv 3) pe_str) (pg_tup rfl (pgs_cons (pg_name (i := 4) scRA.nd rfl (Or.inl rfl)) (pgs_cons (pg_name (i := 5) scRA.nd rfl (Or.inl rfl)) (pgs_cons (pg_name (i := 6) scRA.nd rfl (Or.inl rfl)) pgs_nil)))))
      (pss_cons (ps_if (pt_not (pt_val (pe_call GI hr (by rfl) gI FI.kp bI .nil pass0 (pa_cons (pv 4) (pa_cons (pv 1) pa_nil))))) (pss_one (ps_ret pe_non)) pss_nil)
      (pss_cons (ps_if (PW.pt (pw_and (pt_cmpR op_ne (pv 5) pe_str (nomark _)) (pw_and1 (pt_not (pt_val (pe_call GI hr (by rfl) gI FI.kp bI .nil pass0 (pa_cons (pv 6) (pa_cons (pv 2) pa_nil)))))))) (pss_one (ps_ret pe_non)) pss_nil)
      (pss_cons (ps_set (i := 7) scRA.nd rfl (Or.inl rfl) (pe_callTy call_int_str (by rfl) T.int (by decide +kernel) (pa_cons (pe_op op_add_str (pv 4) (pe_bm PySem.F.plainAttrs_str PySem.F.slot_str_ljust PySem.F.type_str_ljust mt_ljustF (pv 6) (pa_cons (pv 2) (pa_cons pe_str pa_nil)))) pa_nil)))
      (pss_one (ps_ret (pe_ifExp (pt_val (pe_m1 PySem.F.slot_str_startswith PySem.F.type_str_startswith mt_startswith (pv 0) pe_str)) (pe_un un_neg (pv 7)) (pv 7)))))))), ?_⟩
    refine cutA (fun v H' => v = .str (S (body (tl z))) ∧ Same H H') (fun Q' q' => ?_) ?_
    · refine ⟨_, rfl, _, rfl, z, rfl, line, (by show 2 ≤ sizeLine; decide), fun t ht => ⟨t, _, rfl, .inr (SqT.of upd_same), rfl, rfl, _, rfl, ?_⟩⟩
      have e1 : (if false = true then !inV (.str (cutS z none (some 1))) [V.str (Str.ofString "+"), V.str (Str.ofString "-")] else inV (.str (cutS z none (some 1))) [V.str (Str.ofString "+"), V.str (Str.ofString "-")]) = decide (List.take 1 (tl z) = [43] ∨ List.take 1 (tl z) = [45]) := by
        have c1 : tl (cutS z none (some 1)) = (tl z).take 1 := tl_cut_to z 1
        have b : ∀ y : Str, (y == cutS z none (some 1)) = decide ((tl z).take 1 = tl y) := by
          intro y
          rw [← c1]
          by_cases e : y = cutS z none (some 1)
          · rw [← e]
            simp
          · rw [decide_eq_false (fun q => e (ext_tl q.symm))]
            exact beq_eq_false_iff_ne.mpr e
        show (((Str.ofString "+") == cutS z none (some 1)) || (((Str.ofString "-") == cutS z none (some 1)) || false)) = _
        rw [b, b, show tl (Str.ofString "+") = [43] by decide +kernel, show tl (Str.ofString "-") = [45] by decide +kernel, Bool.or_false]
        simp
      rw [e1]
      refine ite2 (fun c => ?_) (fun c => ?_)
      · have c' := of_decide_eq_true c
        refine ⟨_, rfl, _, rfl, z, rfl, line, ?_⟩
        refine q' _ _ ⟨?_, Same.new ht⟩
        have e : body (tl z) = (tl z).drop 1 := if_pos c'
        rw [e, ← tl_cut_from z 1, S_tl]
        rfl
      · have c' : ¬ (List.take 1 (tl z) = [43] ∨ List.take 1 (tl z) = [45]) := fun x => c (decide_eq_true x)
        refine ⟨_, rfl, ?_⟩
        refine q' _ _ ⟨?_, Same.new ht⟩
        have e : body (tl z) = tl z := if_neg c'
        rw [e, S_tl]
    · rintro v H1 ⟨rfl, s1⟩
      have bl : (body (tl z)).length ≤ 500 := by
        rw [len_tl] at zl
        unfold body
        split
        · rw [List.length_drop]; omega
        · exact zl
      have bline : (S (body (tl z))).length ≤ sizeLine := by rw [S_len]; exact Nat.le_trans bl (by decide)
      refine ⟨_, rfl, ⟨_, rfl⟩, _, _, rfl, rfl, rfl, bline, fun t ht => ?_⟩
      rcases two_ways (body (tl z)) with w | ⟨p, r, e, w⟩
      · rw [due_plain w] at q
        refine ⟨t, _, rfl, SqT.of upd_same, rfl, _, _, rfl, _, _, rfl, _, _, rfl, rfl, ?_⟩
        rw [part_plain (z := S (body (tl z))) w]
        have s2 : Same H (upd H1 t (.tup [.str (S (body (tl z))), .str Str.empty, .str Str.empty])) := s1.trans (Same.new ht)
        refine ⟨_, rfl, _, rfl, S (body (tl z)), cap m, rfl, by rw [S_len]; omega, _, rfl, ?_⟩
        show (if (!figs (cap m) (body (tl z))) = true then _ else _)
        cases hf : figs (cap m) (body (tl z)) with
        | false =>
          refine iteT ?_
          rw [hf] at q
          exact q _ s2
        | true =>
          refine iteF ?_
          rw [if_pos hf] at q
          have e0 : V.str Str.empty = V.str (Str.ofString "") := rfl
          refine ⟨_, rfl, rfl, _, rfl, ?_⟩
          rw [decide_eq_true e0]
          refine iteF ?_
          refine iteF ?_
          obtain ⟨⟨f1, f2⟩, f3⟩ := figs_iff.mp hf
          have jl : tl (Txt.ljustF Str.empty (m : Int) 48) = zs m := by
            rw [tl_ljust, tl_empty]
            rfl
          have nl : tl (S (body (tl z)) ++ Txt.ljustF Str.empty (m : Int) 48) = body (tl z) ++ zs m := by rw [tl_append, tl_S, jl]
          have ll : (Txt.ljustF Str.empty (m : Int) 48).length = m := by rw [len_tl, jl, zs_len]
          refine ⟨_, rfl, _, rfl, rfl, _, rfl, _, _, 48, rfl, rfl, pad_ok m (by omega), _, _, rfl, rfl, ?_, _, ((val (body (tl z) ++ zs m) : Nat) : Int), rfl, ?_, ?_, ?_⟩
          · rw [S_len, ll]
            exact Nat.le_trans (show _ ≤ 600 by omega) (by decide)
          · have g := intTextD (z := S (body (tl z)) ++ Txt.ljustF Str.empty (m : Int) 48) (by rw [nl]; exact digits_app f3 (zs_digits m)) (by rw [nl]; intro x; have y := congrArg List.length x; rw [List.length_append, List.length_nil] at y; omega) (by rw [len_tl, nl, List.length_append, zs_len]; omega)
            rw [nl] at g
            exact g
          · rw [len_tl, nl, List.length_append, zs_len]
            omega
          · refine ⟨_, rfl, ⟨_, rfl⟩, _, _, rfl, rfl, _, rfl, ?_⟩
            rw [starts_minus]
            have q2 := q _ s2
            unfold sgn at q2
            refine ite2 (fun c => ?_) (fun c => ?_)
            · rw [if_pos (of_decide_eq_true c)] at q2
              exact ⟨_, rfl, _, rfl, q2⟩
            · rw [if_neg (fun x => c (decide_eq_true x))] at q2
              exact ⟨_, rfl, q2⟩
      · rw [due_dot e w] at q
        have pl : p.length + r.length + 1 ≤ 500 := by
          rw [e, List.length_append, List.length_cons] at bl
          omega
        refine ⟨t, _, rfl, SqT.of upd_same, rfl, _, _, rfl, _, _, rfl, _, _, rfl, rfl, ?_⟩
        rw [part_dot (z := S (body (tl z))) e w]
        have s2 : Same H (upd H1 t (.tup [.str (S p), .str (Str.ofString "."), .str (S r)])) := s1.trans (Same.new ht)
        refine ⟨_, rfl, _, rfl, S p, cap m, rfl, by rw [S_len]; omega, _, rfl, ?_⟩
        show (if (!figs (cap m) p) = true then _ else _)
        cases hf : figs (cap m) p with
        | false =>
          refine iteT ?_
          rw [if_neg (by rw [hf]; simp)] at q
          exact q _ s2
        | true =>
          refine iteF ?_
          have e0 : V.str (Str.ofString ".") ≠ V.str (Str.ofString "") := str_ne (by decide +kernel)
          refine ⟨_, rfl, rfl, _, rfl, ?_⟩
          rw [decide_eq_false e0]
          refine iteT ?_
          refine ⟨_, rfl, _, rfl, S r, m, rfl, by rw [S_len]; omega, _, rfl, ?_⟩
          show (if (!figs m r) = true then _ else _)
          cases hg : figs m r with
          | false =>
            refine iteT ?_
            rw [if_neg (by rw [hg]; simp)] at q
            exact q _ s2
          | true =>
            refine iteF ?_
            rw [if_pos ⟨hf, hg⟩] at q
            obtain ⟨⟨f1, f2⟩, f3⟩ := figs_iff.mp hf
            obtain ⟨⟨g1, g2⟩, g3⟩ := figs_iff.mp hg
            have jl : tl (Txt.ljustF (S r) (m : Int) 48) = r ++ zs (m - r.length) := tl_ljust (S r) m
            have nl : tl (S p ++ Txt.ljustF (S r) (m : Int) 48) = p ++ (r ++ zs (m - r.length)) := by rw [tl_append, tl_S, jl]
            have ll : (Txt.ljustF (S r) (m : Int) 48).length ≤ m := by rw [len_tl, jl, List.length_append, zs_len]; omega
            refine ⟨_, rfl, _, rfl, rfl, _, rfl, _, _, 48, rfl, rfl, pad_ok m (by omega), _, _, rfl, rfl, ?_, _, ((val (p ++ (r ++ zs (m - r.length))) : Nat) : Int), rfl, ?_, ?_, ?_⟩
            · show (S p).length + (Txt.ljustF (S r) (m : Int) 48).length ≤ sizeLine
              rw [S_len]
              exact Nat.le_trans (show _ ≤ 600 by omega) (by decide)
            · have g := intTextD (z := S p ++ Txt.ljustF (S r) (m : Int) 48) (by rw [nl]; exact digits_app f3 (digits_app g3 (zs_digits _))) (by rw [nl]; intro x; have y := congrArg List.length x; rw [List.length_append, List.length_nil] at y; omega) (by rw [len_tl, nl, List.length_append, List.length_append, zs_len]; omega)
              rw [nl] at g
              exact g
            · rw [len_tl, nl, List.length_append, List.length_append, zs_len]
              omega
            · refine ⟨_, rfl, ⟨_, rfl⟩, _, _, rfl, rfl, _, rfl, ?_⟩
              rw [starts_minus]
              have q2 := q _ s2
              unfold sgn at q2
              refine ite2 (fun c => ?_) (fun c => ?_)
              · rw [if_pos (of_decide_eq_true c)] at q2
                exact ⟨_, rfl, _, rfl, q2⟩
              · rw [if_neg (fun x => c (decide_eq_true x))] at q2
                exact ⟨_, rfl, q2⟩
end
end K21
set_option Elab.async false
set_option linter.all false
set_option maxRecDepth 100000
set_option maxHeartbeats 4000000
namespace K21
open PySem PySem.Spec PyProof.Rows L2 Bs Xg TL
theorem HandAt.old {H : Hp} {h D : Addr} {n : Nat} {l : List V} (a : HandAt H h n) (ne : h ≠ D) : HandAt (upd H D (.lst l)) h n := by
  obtain ⟨g, t, c, e, q⟩ := a
  exact ⟨g, t, c, by rw [upd_ne ne]; exact e, q⟩
theorem HandAt.fresh {H : Hp} {h D : Addr} {n : Nat} (a : HandAt H h n) (nD : H D = none) : h ≠ D := by
  obtain ⟨g, t, c, e, _⟩ := a
  exact ne_of_none e nD
/-! ### a comprehension that makes one value a turn, by a hand or without -/
section
variable {J : It} {n : Nat} {Gd : Hp → Prop} {Y : Nat → Hp → V → Hp → Prop}
theorem lc_map (w : Walk J n Gd Y) {i : Nat} {te : TE} {σ : L2.St} {H : Hp} {D h : Addr} {Q : Hp → Prop} {Z : Nat → V → Prop} (I : Nat → Hp → Prop) (W : Nat → V → Hp → Prop)
    (nD : H D = none) (nh : D ≠ h) (hY : ∀ j G x G', Y j G x G' → G' = G ∧ Z j x) (hG : ∀ G, But h H G → Gd G)
    (st : ∀ j y G G', (∀ b o, b ≠ D → b ≠ h → G b = some o → G' b = some o) → (∃ l, G D = some (.lst l)) → W j y G → W j y G')
    (small : n < 100000) (wp : ∀ x, wipe ((wipe σ [i]).set i (some x)) [i] = wipe σ [i]) (I0 : I 0 H) (ID : ∀ j G l, I j G → I j (upd G D (.lst l)))
    (turn : ∀ j x G (Q' : VK), j < n → Z j x → But h H G → I j G → (∃ l, G D = some (.lst l)) → (∀ y G', But h G G' → I (j + 1) G' → W j y G' → Q' y G') → te ((wipe σ [i]).set i (some x)) G Q')
    (fin : ∀ G ys, But h H G → I n G → G D = some (.lst ys) → ys.length = n → (∀ j y, ys[j]? = some y → W j y G) → Q G) :
    ∃ W' : Nat → Nat → Hp → Prop, (∃ m, W' 0 m (upd H D (.lst []))) ∧ ∀ j m G, W' j m G →
      (J.stop j G ∧ Q G) ∨ (J.go j G ∧ ∃ Nx : Hp → Prop, (∀ G', Nx G' → ∃ m', m' < m ∧ W' (j + 1) m' G') ∧ ∀ x G', J.yld j G x G' → gName i x (wipe σ [i]) G' fun σ2 H2 => wipe σ2 [i] = wipe σ [i] ∧ tYes σ2 H2 fun b H3 =>
        if b = true then te σ2 H3 fun y H4 => ∃ acc, H4 D = some (.lst acc) ∧ acc.length < sizeLine ∧ Nx (upd H4 D (.lst (acc ++ [y]))) else Nx H3) := by
  have oldD : ∀ G l, But h H G → But h H (upd G D (.lst l)) := by
    intro G l b c o nc e
    rw [upd_ne (ne_of_none e nD)]
    exact b c o nc e
  refine lc_it w (fun j G => But h H G ∧ I j G ∧ ∃ ys, G D = some (.lst ys) ∧ ys.length = j ∧ ∀ m y, ys[m]? = some y → W m y G) ⟨oldD _ _ (But.refl h H), ID _ _ _ I0, [], upd_same, rfl, fun m y e => by simp at e⟩ (fun j G _ q => hG G q.1) ?_ ?_
  · rintro j x G G' hj ⟨bt, ij, ys, eD, ly, hw⟩ hy
    obtain ⟨rfl, z⟩ := hY _ _ _ _ hy
    refine ⟨wp x, yes ?_⟩
    refine turn j x G' _ hj z bt ij ⟨_, eD⟩ fun y G2 bt2 ij2 wy => ?_
    have eD2 : G2 D = some (.lst ys) := bt2 D _ nh eD
    have kp : ∀ b o, b ≠ D → G2 b = some o → upd G2 D (.lst (ys ++ [y])) b = some o := fun b o nb e => by rw [upd_ne nb]; exact e
    refine ⟨ys, eD2, ?_, oldD _ _ (bt.trans bt2), ID _ _ _ ij2, ys ++ [y], upd_same, by rw [List.length_append, ly]; rfl, fun m y' e => ?_⟩
    · rw [ly, sizeLine_eq]
      omega
    · by_cases hm : m < ys.length
      · rw [List.getElem?_append_left hm] at e
        exact st _ _ _ _ (fun b o nb nb2 eb => kp b o nb (bt2 b o nb2 eb)) ⟨_, eD⟩ (hw m y' e)
      · have hm' : m = ys.length := by
          have := (List.getElem?_eq_some_iff.mp e).1
          rw [List.length_append] at this
          simp at this
          omega
        subst hm'
        rw [List.getElem?_append_right (Nat.le_refl _)] at e
        simp at e
        subst e
        rw [ly]
        exact st _ _ _ _ (fun b o nb _ eb => kp b o nb eb) ⟨_, eD2⟩ wy
  · rintro G ⟨bt, ij, ys, eD, ly, hw⟩
    exact fin G ys bt ij eD ly hw
end
section
variable {J : It} {n : Nat} {Gd : Hp → Prop} {Y : Nat → Hp → V → Hp → Prop}
/-- a comprehension whose turns change nothing that was there -/
theorem lc_val (w : Walk J n Gd Y) {i : Nat} {te : TE} {σ : L2.St} {H : Hp} {D : Addr} {Q : Hp → Prop} {Z : Nat → V → Prop} (f : Nat → V)
    (nD : H D = none) (hY : ∀ j G x G', Y j G x G' → G' = G ∧ Z j x) (hG : ∀ G, Same H G → Gd G) (small : n < 100000) (wp : ∀ x, wipe ((wipe σ [i]).set i (some x)) [i] = wipe σ [i])
    (turn : ∀ j x G (Q' : VK), j < n → Z j x → Same H G → (∀ G', Same G G' → Q' (f j) G') → te ((wipe σ [i]).set i (some x)) G Q')
    (fin : ∀ G, Same H G → G D = some (.lst ((List.range n).map f)) → Q G) :
    ∃ W' : Nat → Nat → Hp → Prop, (∃ m, W' 0 m (upd H D (.lst []))) ∧ ∀ j m G, W' j m G →
      (J.stop j G ∧ Q G) ∨ (J.go j G ∧ ∃ Nx : Hp → Prop, (∀ G', Nx G' → ∃ m', m' < m ∧ W' (j + 1) m' G') ∧ ∀ x G', J.yld j G x G' → gName i x (wipe σ [i]) G' fun σ2 H2 => wipe σ2 [i] = wipe σ [i] ∧ tYes σ2 H2 fun b H3 =>
        if b = true then te σ2 H3 fun y H4 => ∃ acc, H4 D = some (.lst acc) ∧ acc.length < sizeLine ∧ Nx (upd H4 D (.lst (acc ++ [y]))) else Nx H3) := by
  refine lc_it w (fun j G => Same H G ∧ G D = some (.lst ((List.range j).map f))) ⟨Same.new nD, upd_same⟩ (fun j G _ q => hG G q.1) ?_ ?_
  · rintro j x G G' hj ⟨sG, eD⟩ hy
    obtain ⟨rfl, z⟩ := hY _ _ _ _ hy
    refine ⟨wp x, yes ?_⟩
    refine turn j x G' _ hj z sG fun G2 s2 => ⟨_, s2 _ _ eD, ?_, fun b o eo => ?_, ?_⟩
    · rw [List.length_map, List.length_range, sizeLine_eq]
      omega
    · rw [upd_ne (ne_of_none eo nD)]
      exact s2 _ _ (sG b o eo)
    · rw [upd_same, List.range_succ, List.map_append]
      rfl
  · rintro G ⟨sG, eD⟩
    exact fin G sG eD
end
theorem range_at {α β : Type} (xs : List α) (f : α → β) (g : Nat → β) (h : ∀ j x, xs[j]? = some x → g j = f x) : (List.range xs.length).map g = xs.map f := by
  apply List.ext_getElem
  · simp
  · intro j h1 h2
    rw [List.getElem_map, List.getElem_map, List.getElem_range]
    exact h j _ (List.getElem?_eq_getElem _)
theorem yat {xs : List V} : ∀ j G x G', YAt xs j G x G' → G' = G ∧ xs[j]? = some x := fun _ _ _ _ h => h
theorem But.sub {h : Addr} {H H' : Hp} (b : But h H H') (n : H h = none) : Same H H' := fun c o e => b c o (ne_of_none e n) e
/-! ### a comprehension that makes new things -/
section
variable {J : It} {n : Nat} {Gd : Hp → Prop} {Y : Nat → Hp → V → Hp → Prop}
theorem lc_new (w : Walk J n Gd Y) {i : Nat} {te : TE} {σ : L2.St} {H : Hp} {D : Addr} {Q : Hp → Prop} {Z : Nat → V → Prop} (W : Nat → V → Hp → Prop)
    (nD : H D = none) (hY : ∀ j G x G', Y j G x G' → G' = G ∧ Z j x) (hG : ∀ G, Same H G → Gd G)
    (st : ∀ j y G G', (∀ b o, b ≠ D → G b = some o → G' b = some o) → (∃ l, G D = some (.lst l)) → W j y G → W j y G')
    (small : n < 100000) (wp : ∀ x, wipe ((wipe σ [i]).set i (some x)) [i] = wipe σ [i])
    (turn : ∀ j x G (Q' : VK), j < n → Z j x → Same H G → (∀ y G', Same G G' → W j y G' → Q' y G') → te ((wipe σ [i]).set i (some x)) G Q')
    (fin : ∀ G ys, Same H G → G D = some (.lst ys) → ys.length = n → (∀ j y, ys[j]? = some y → W j y G) → Q G) :
    ∃ W' : Nat → Nat → Hp → Prop, (∃ m, W' 0 m (upd H D (.lst []))) ∧ ∀ j m G, W' j m G →
      (J.stop j G ∧ Q G) ∨ (J.go j G ∧ ∃ Nx : Hp → Prop, (∀ G', Nx G' → ∃ m', m' < m ∧ W' (j + 1) m' G') ∧ ∀ x G', J.yld j G x G' → gName i x (wipe σ [i]) G' fun σ2 H2 => wipe σ2 [i] = wipe σ [i] ∧ tYes σ2 H2 fun b H3 =>
        if b = true then te σ2 H3 fun y H4 => ∃ acc, H4 D = some (.lst acc) ∧ acc.length < sizeLine ∧ Nx (upd H4 D (.lst (acc ++ [y]))) else Nx H3) := by
  refine lc_it w (fun j G => Same H G ∧ ∃ ys, G D = some (.lst ys) ∧ ys.length = j ∧ ∀ m y, ys[m]? = some y → W m y G) ⟨Same.new nD, [], upd_same, rfl, fun m y e => by simp at e⟩ (fun j G _ q => hG G q.1) ?_ ?_
  · rintro j x G G' hj ⟨sG, ys, eD, ly, hw⟩ hy
    obtain ⟨rfl, z⟩ := hY _ _ _ _ hy
    refine ⟨wp x, yes ?_⟩
    refine turn j x G' _ hj z sG fun y G2 s2 wy => ?_
    have eD2 : G2 D = some (.lst ys) := s2 _ _ eD
    have kp : ∀ b o, b ≠ D → G2 b = some o → upd G2 D (.lst (ys ++ [y])) b = some o := fun b o nb e => by rw [upd_ne nb]; exact e
    refine ⟨ys, eD2, ?_, fun b o e => ?_, ys ++ [y], upd_same, by rw [List.length_append, ly]; rfl, fun m y' e => ?_⟩
    · rw [ly, sizeLine_eq]
      omega
    · rw [upd_ne (ne_of_none e nD)]
      exact s2 _ _ (sG b o e)
    · by_cases hm : m < ys.length
      · rw [List.getElem?_append_left hm] at e
        exact st _ _ _ _ (fun b o nb eb => kp b o nb (s2 b o eb)) ⟨_, eD⟩ (hw m y' e)
      · have hm' : m = ys.length := by
          have := (List.getElem?_eq_some_iff.mp e).1
          rw [List.length_append] at this
          simp at this
          omega
        subst hm'
        rw [List.getElem?_append_right (Nat.le_refl _)] at e
        simp at e
        subst e
        rw [ly]
        exact st _ _ _ _ (fun b o nb eb => kp b o nb eb) ⟨_, eD2⟩ wy
  · rintro G ⟨sG, ys, eD, ly, hw⟩
    exact fin G ys sG eD ly hw
/-- [x for x in XS if x is not None] -/
theorem lc_keep {K : PySem.W.Frag} {i a D : Addr} {σ : L2.St} {H : Hp} {Q : Hp → Prop} {xs : List V} (e : SqL K H a xs) (nD : H D = none) (few : xs.length < 1000)
    (wp : ∀ x, wipe ((wipe σ [i]).set i (some x)) [i] = wipe σ [i]) (gt : ∀ x, ((wipe σ [i]).set i (some x))[i]? = some (some x)) {tt : TT}
    (ht : ∀ x G (F : Bool → Hp → Prop), x ∈ xs → F (!decide (x = .non)) G → tt ((wipe σ [i]).set i (some x)) G F)
    (fin : ∀ G, Same H G → G D = some (.lst (xs.filter fun x => !decide (x = .non))) → Q G) :
    ∃ W' : Nat → Nat → Hp → Prop, (∃ m, W' 0 m (upd H D (.lst []))) ∧ ∀ j m G, W' j m G →
      ((Itl K a).stop j G ∧ Q G) ∨ ((Itl K a).go j G ∧ ∃ Nx : Hp → Prop, (∀ G', Nx G' → ∃ m', m' < m ∧ W' (j + 1) m' G') ∧ ∀ x G', (Itl K a).yld j G x G' → gName i x (wipe σ [i]) G' fun σ2 H2 => wipe σ2 [i] = wipe σ [i] ∧ tt σ2 H2 fun b H3 =>
        if b = true then tVar i σ2 H3 fun y H4 => ∃ acc, H4 D = some (.lst acc) ∧ acc.length < sizeLine ∧ Nx (upd H4 D (.lst (acc ++ [y]))) else Nx H3) := by
  refine lc_it (walk_list (K := K) (a := a) (xs := xs)) (fun j G => Same H G ∧ G D = some (.lst ((xs.take j).filter fun x => !decide (x = .non)))) ⟨Same.new nD, by rw [List.take_zero]; exact upd_same⟩ (fun j G _ q => sameL q.1 e) ?_ ?_
  · rintro j x G G' hj ⟨sG, eD⟩ ⟨rfl, hx⟩
    refine ⟨wp x, ht x G' _ (List.mem_of_getElem? hx) ?_⟩
    have tk : xs.take (j + 1) = xs.take j ++ [x] := by rw [List.take_succ, hx]; rfl
    by_cases c : x = .non
    · rw [decide_eq_true c]
      show Same H G' ∧ _
      rw [tk, List.filter_append]
      refine ⟨sG, ?_⟩
      rw [eD, c]
      simp
    · rw [decide_eq_false c]
      refine ⟨x, gt x, _, eD, ?_, ?_, ?_⟩
      · have := List.length_filter_le (fun x => !decide (x = V.non)) (xs.take j)
        rw [List.length_take] at this
        rw [sizeLine_eq]
        omega
      · intro b o e
        rw [upd_ne (ne_of_none e nD)]
        exact sG b o e
      · rw [upd_same, tk, List.filter_append]
        simp [c]
  · rintro G ⟨sG, eD⟩
    rw [List.take_length] at eD
    exact fin G sG eD
end
end K21
set_option Elab.async false
set_option linter.all false
set_option maxRecDepth 100000
set_option maxHeartbeats 8000000
namespace K21
open PySem PySem.Spec PyProof.Rows L2 Bs Xg TL K02
abbrev sLeap : Stmt := top 3
abbrev sDin : Stmt := top 4
abbrev sAhead : Stmt := top 5
abbrev sNum : Stmt := top 6
/-! ### the calendar -/
def leapB (y : Nat) : Bool := decide (y % 4 = 0) && (!decide (y % 100 = 0) || decide (y % 400 = 0))
def monL : List Int := [31, 28, 31, 30, 31, 30, 31, 31, 30, 31, 30, 31]
def dinI (y m : Nat) : Int := monL.getD (m - 1) 0 + if m = 2 ∧ leapB y = true then 1 else 0
def aheadI (y : Nat) : Int := (((y - 1) * 365 + (y - 1) / 4 - (y - 1) / 100 + (y - 1) / 400 : Nat) : Int)
def sumI (y m : Nat) : Int := ((List.range (m - 1)).map fun j => dinI y (1 + j)).sum
def numI (y m d : Nat) : Option Int := if 1 ≤ y ∧ 1 ≤ m ∧ m ≤ 12 ∧ 1 ≤ d ∧ (d : Int) ≤ dinI y m then some (aheadI y + sumI y m + d - 1) else none
theorem mon_at : ∀ m : Nat, m < 13 → 1 ≤ m → atI (monL.map V.int) ((m : Int) - 1) = some (.int (monL.getD (m - 1) 0)) := by decide +kernel
section
variable {P : Program} {w : World} {K : PySem.W.Frag} {mg : Str → Option Value} {base : Heap}
theorem scLp : FnScope ["year"] ["year"] (defScope sLeap) := ⟨rfl, rfl, rfl, by decide +kernel, rfl, by decide +kernel, by decide +kernel⟩
def spLeap : Sp := fun vs H Q _ => ∃ y : Nat, vs = [.int (y : Int)] ∧ Q (.bl (leapB y)) H
theorem ok_leap {f : Addr} {fd : FuncData} (F : Fun K "is_leap" "is_leap" sLeap f fd) : FnOk P w K mg base CX0 1 f fd ["year"] spLeap := by
  refine F.ok scLp (fun vs H Q E h => ?_) (fun cdv A outer s H vs Q E hr h => ?_)
  · obtain ⟨y, rfl, _⟩ := h
    rfl
  · obtain ⟨y, rfl, q⟩ := h
    refine ⟨_, pss_one (ps_ret (pe_and (pe_cmpR op_eq (pe_op op_mod (pv 0) pe_int) pe_int (nomark _)) (pe_one (pe_or (pe_cmpR op_ne (pe_op op_mod (pv 0) pe_int) pe_int (nomark _)) (pe_one (pe_cmpR op_eq (pe_op op_mod (pv 0) pe_int) pe_int (nomark _))))))), ?_⟩
    have e4 : decide (V.int ((y : Int) % 4) = V.int 0) = decide (y % 4 = 0) := decide_eq_decide.mpr ⟨fun h => by have := V.int.inj h; omega, fun h => congrArg V.int (by omega)⟩
    have e100 : decide (V.int ((y : Int) % 100) = V.int 0) = decide (y % 100 = 0) := decide_eq_decide.mpr ⟨fun h => by have := V.int.inj h; omega, fun h => congrArg V.int (by omega)⟩
    have e400 : decide (V.int ((y : Int) % 400) = V.int 0) = decide (y % 400 = 0) := decide_eq_decide.mpr ⟨fun h => by have := V.int.inj h; omega, fun h => congrArg V.int (by omega)⟩
    unfold leapB at q
    refine ⟨_, rfl, _, _, rfl, rfl, (by decide : (0 : Int) < 4), rfl, _, rfl, ?_⟩
    rw [e4]
    cases c1 : decide (y % 4 = 0) with
    | false => rw [c1] at q; exact iteF q
    | true =>
      rw [c1, Bool.true_and] at q
      refine iteT ⟨_, rfl, _, _, rfl, rfl, (by decide : (0 : Int) < 100), rfl, _, rfl, ?_⟩
      rw [e100]
      cases c2 : decide (y % 100 = 0) with
      | false => rw [c2] at q; exact iteT q
      | true =>
        rw [c2] at q
        refine iteF ⟨_, rfl, _, _, rfl, rfl, (by decide : (0 : Int) < 400), rfl, ?_⟩
        rw [e400]
        exact q
theorem scDi : FnScope ["year", "month"] ["year", "month"] (defScope sDin) := ⟨rfl, rfl, rfl, by decide +kernel, rfl, by decide +kernel, by decide +kernel⟩
def spDin : Sp := fun vs H Q _ => ∃ y m : Nat, vs = [.int (y : Int), .int (m : Int)] ∧ 1 ≤ m ∧ m ≤ 12 ∧ Q (.int (dinI y m)) H
/-- the calendar's constants and defs -/
structure Cal (K : PySem.W.Frag) (mg : Str → Option Value) (cM fLp fDi fAh fNu : Addr) (dLp dDi dAh dNu : FuncData) : Prop where
  gM : mg "MONTHS" = some (.ref cM)
  sM : ∀ H, SqT K H cM (monL.map V.int)
  gF : ∃ t, mg "FEBRUARY" = some (.int 2 t)
  Lp : Fun K "is_leap" "is_leap" sLeap fLp dLp
  bLp : Binds K dLp ["year"] []
  gLp : mg "is_leap" = some (.ref fLp)
  Di : Fun K "days_in" "days_in" sDin fDi dDi
  bDi : Binds K dDi ["year", "month"] []
  gDi : mg "days_in" = some (.ref fDi)
  Ah : Fun K "days_ahead" "days_ahead" sAhead fAh dAh
  bAh : Binds K dAh ["year"] []
  gAh : mg "days_ahead" = some (.ref fAh)
  Nu : Fun K "number_of" "number_of" sNum fNu dNu
  bNu : Binds K dNu ["year", "month", "day"] []
  gNu : mg "number_of" = some (.ref fNu)
variable {cM fLp fDi fAh fNu : Addr} {dLp dDi dAh dNu : FuncData}
theorem ok_din (C : Cal K mg cM fLp fDi fAh fNu dLp dDi dAh dNu) : FnOk P w K mg base CX0 2 fDi dDi ["year", "month"] spDin := by
  have GLp : FnOk P w K mg base CX0 1 fLp dLp ["year"] spLeap := ok_leap C.Lp
  have FLp := C.Lp
  have bLp := C.bLp
  have gLp := C.gLp
  have gM := C.gM
  obtain ⟨tF, gF⟩ := C.gF
  refine C.Di.ok scDi (fun vs H Q E h => ?_) (fun cdv A outer s H vs Q E hr h => ?_)
  · obtain ⟨y, m, rfl, _⟩ := h
    rfl
  · obtain ⟨y, m, rfl, m1, m12, q⟩ := h
    refine ⟨_, pss_cons (ps_if (PW.pt (pw_and (pt_cmpR op_eq (pv 1) (pe_glob (v := V.int 2) rfl gF ⟨_, rfl⟩) (nomark _)) (pw_and1 (pt_val (pe_call GLp (hr.mono (by decide)) (by rfl) gLp FLp.kp bLp .nil pass0 (pa_cons (pv 0) pa_nil)))))) (pss_one (ps_ret (pe_op op_add (pe_ix ix_tup (pe_glob (v := V.ref cM) rfl gM rfl) (pe_op op_sub (pv 1) pe_int) (fun _ _ => rfl)) pe_int))) (pss_nil))
      (pss_one (ps_ret (pe_ix ix_tup (pe_glob (v := V.ref cM) rfl gM rfl) (pe_op op_sub (pv 1) pe_int) (fun _ _ => rfl)))), ?_⟩
    have e2 : decide (V.int (m : Int) = V.int 2) = decide (m = 2) := decide_eq_decide.mpr ⟨fun h => by have := V.int.inj h; omega, fun h => by rw [h]; rfl⟩
    have am := mon_at m (by omega) m1
    refine ⟨_, rfl, rfl, _, rfl, ?_⟩
    rw [e2]
    unfold dinI at q
    by_cases c2 : m = 2
    · rw [decide_eq_true c2]
      refine iteT ⟨_, rfl, y, rfl, _, rfl, ?_⟩
      cases cl : leapB y with
      | true =>
        rw [if_pos ⟨c2, cl⟩] at q
        exact iteT ⟨_, rfl, _, _, rfl, rfl, cM, _, _, _, rfl, rfl, C.sM H, am, _, _, rfl, rfl, q⟩
      | false =>
        rw [if_neg (fun h => by rw [cl] at h; exact nomatch h.2), Int.add_zero] at q
        exact iteF ⟨_, rfl, _, _, rfl, rfl, cM, _, _, _, rfl, rfl, C.sM H, am, q⟩
    · rw [decide_eq_false c2]
      rw [if_neg (fun h => c2 h.1), Int.add_zero] at q
      exact iteF ⟨_, rfl, _, _, rfl, rfl, cM, _, _, _, rfl, rfl, C.sM H, am, q⟩
theorem scAh : FnScope ["year", "past"] ["year"] (defScope sAhead) := ⟨rfl, rfl, rfl, by decide +kernel, rfl, by decide +kernel, by decide +kernel⟩
def spAhead : Sp := fun vs H Q _ => ∃ y : Nat, vs = [.int (y : Int)] ∧ 1 ≤ y ∧ y ≤ 100000 ∧ Q (.int (aheadI y)) H
theorem ok_ahead {f : Addr} {fd : FuncData} (F : Fun K "days_ahead" "days_ahead" sAhead f fd) : FnOk P w K mg base CX0 1 f fd ["year"] spAhead := by
  refine F.ok scAh (fun vs H Q E h => ?_) (fun cdv A outer s H vs Q E hr h => ?_)
  · obtain ⟨y, rfl, _⟩ := h
    rfl
  · obtain ⟨y, rfl, y1, y2, q⟩ := h
    refine ⟨_, pss_cons (ps_set (i := 1) scAh.nd rfl (Or.inl rfl) (pe_op op_sub (pv 0) pe_int))
      (pss_one (ps_ret (pe_op op_add (pe_op op_sub (pe_op op_add (pe_op op_mul (pv 1) pe_int) (pe_op op_fdiv (pv 1) pe_int)) (pe_op op_fdiv (pv 1) pe_int)) (pe_op op_fdiv (pv 1) pe_int)))), ?_⟩
    refine ⟨_, rfl, _, _, rfl, rfl, gN ?_⟩
    try dsimp only
    refine ⟨_, rfl, _, _, rfl, rfl, .inl ⟨by omega, by omega⟩, _, rfl, _, _, rfl, rfl, ⟨by decide, by decide⟩, _, _, rfl, rfl, _, rfl, _, _, rfl, rfl, ⟨by decide, by decide⟩, _, _, rfl, rfl, _, rfl, _, _, rfl, rfl, ⟨by decide, by decide⟩, _, _, rfl, rfl, ?_⟩
    have e : ((y : Int) - 1) * 365 + ((y : Int) - 1) / 4 - ((y : Int) - 1) / 100 + ((y : Int) - 1) / 400 = aheadI y := by
      unfold aheadI
      omega
    rw [← e] at q
    exact q
abbrev nNu : List Str := ["year", "month", "day", "months", "k"]
theorem scNu : FnScope nNu ["year", "month", "day"] (defScope sNum) := ⟨rfl, rfl, rfl, by decide +kernel, rfl, by decide +kernel, by decide +kernel⟩
def spNum : Sp := fun vs H Q _ => ∃ y m d : Nat, vs = [.int (y : Int), .int (m : Int), .int (d : Int)] ∧ y ≤ 9999 ∧ m ≤ 99 ∧ d ≤ 99 ∧ ∀ H', Same H H' → Q (ov (numI y m d)) H'
theorem ok_num (C : Cal K mg cM fLp fDi fAh fNu dLp dDi dAh dNu) (T : Free mg) : FnOk P w K mg base CX0 3 fNu dNu ["year", "month", "day"] spNum := by
  have GDi : FnOk P w K mg base CX0 2 fDi dDi ["year", "month"] spDin := ok_din C
  have GAh : FnOk P w K mg base CX0 1 fAh dAh ["year"] spAhead := ok_ahead C.Ah
  have FDi := C.Di
  have bDi := C.bDi
  have gDi := C.gDi
  have FAh := C.Ah
  have bAh := C.bAh
  have gAh := C.gAh
  have gM := C.gM
  refine C.Nu.ok scNu (fun vs H Q E h => ?_) (fun cdv A outer s H vs Q E hr h => ?_)
  · obtain ⟨y, m, d, rfl, _⟩ := h
    rfl
  · obtain ⟨y, m, d, rfl, yl, ml, dl, q⟩ := h
    refine ⟨_, pss_cons (ps_if (PW.pt (pw_or (pt_cmpR op_lt (pv 0) pe_int (nomark _)) (pw_or1 (pt_not (pt_chain op_le op_le pe_int (pv 1) (pe_callB call_len_seq (by rfl) T.len PySem.boot_len (pa_cons (pe_glob (v := V.ref cM) rfl gM rfl) pa_nil))))))) (pss_one (ps_ret pe_non)) (pss_nil))
      (pss_cons (ps_if (pt_not (pt_chain op_le op_le pe_int (pv 2) (pe_call GDi (hr.mono (by decide)) (by rfl) gDi FDi.kp bDi .nil pass0 (pa_cons (pv 0) (pa_cons (pv 1) pa_nil))))) (pss_one (ps_ret pe_non)) (pss_nil))
      (pss_cons (ps_setLc (i := 3) (own := [("k", 4)]) (g := gName 4) (tt := tYes) rfl scNu.nd rfl rfl (sw_true rfl rfl rfl rfl) (pi_range2 (by rfl) T.range (pa_cons pe_int (pa_cons (pv 1) pa_nil))) (blkOk_by (N := nNu) (sc := defScope sNum) (by decide +kernel)) (fun _ _ _ _ _ => pg_name (i := 4) scNu.nd rfl (Or.inl rfl)) (fun _ _ _ _ _ => pts_nil) (fun _ _ _ _ _ => (pe_call GDi (hr.mono (by decide)) (by rfl) gDi FDi.kp bDi .nil pass0 (pa_cons (pv 0) (pa_cons (pv 4) pa_nil)))))
      (pss_one (ps_ret (pe_op op_sub (pe_op op_add (pe_op op_add (pe_call GAh (hr.mono (by decide)) (by rfl) gAh FAh.kp bAh .nil pass0 (pa_cons (pv 0) pa_nil)) (pe_callB (cr_sum rfl) (by rfl) T.sum (by decide +kernel) (pa_cons (pv 3) pa_nil))) (pv 2)) pe_int))))), ?_⟩
    have qn : ¬ (1 ≤ y ∧ 1 ≤ m ∧ m ≤ 12 ∧ 1 ≤ d ∧ (d : Int) ≤ dinI y m) → ∀ H', Same H H' → Q .non H' := fun n H' s => by
      have z := q H' s
      unfold numI at z
      rw [if_neg n] at z
      exact z
    refine ⟨_, rfl, _, _, rfl, rfl, _, rfl, ?_⟩
    by_cases y1 : 1 ≤ y
    · rw [decide_eq_false (show ¬ (y : Int) < 1 by omega)]
      refine iteF ⟨_, rfl, _, _, rfl, rfl, _, rfl, ?_⟩
      by_cases m1 : 1 ≤ m
      · rw [decide_eq_true (show (1 : Int) ≤ (m : Int) by omega)]
        refine iteT ⟨cM, _, rfl, .inr (C.sM H), _, _, rfl, rfl, ?_⟩
        refine ⟨_, rfl, ?_⟩
        have l12 : (((monL.map V.int).length : Nat) : Int) = 12 := by decide
        rw [l12]
        by_cases m12 : m ≤ 12
        · rw [decide_eq_true (show (m : Int) ≤ 12 by omega)]
          refine iteF ?_
          refine ⟨_, rfl, _, _, rfl, rfl, _, rfl, ?_⟩
          by_cases d1 : 1 ≤ d
          · rw [decide_eq_true (show (1 : Int) ≤ (d : Int) by omega)]
            refine iteT ⟨_, rfl, _, rfl, y, m, rfl, m1, m12, _, _, rfl, rfl, ?_⟩
            refine ⟨_, rfl, ?_⟩
            by_cases dd : (d : Int) ≤ dinI y m
            · rw [decide_eq_true dd]
              refine iteF ?_
              unfold tNext
              dsimp only
              refine ⟨_, rfl, 1, (m : Int), rfl, ⟨by decide, by decide, by omega, by omega⟩, fun D nD => ?_⟩
              refine lc_val (walk_range (lo := 1) (n := ((m : Int) - 1).toNat)) (Z := fun j x => x = .int (1 + (j : Nat))) (fun j => .int (dinI y (1 + j))) nD (fun _ _ _ _ e => e) (fun _ _ => trivial) (by omega) (fun _ => rfl) ?_ ?_
              · rintro j x G Q' hj rfl sG kG
                exact ⟨_, rfl, _, rfl, y, 1 + j, by rw [Int.natCast_add]; rfl, by omega, by omega, kG G (Same.refl _)⟩
              · intro G sG eG
                refine gN ?_
                try dsimp only
                have em : ((m : Int) - 1).toNat = m - 1 := by omega
                rw [em] at eG
                refine ⟨_, rfl, y, rfl, y1, by omega, _, rfl, D, (List.range (m - 1)).map fun j => dinI y (1 + j), rfl, SqL.of ?_, _, _, rfl, rfl, _, rfl, _, _, rfl, rfl, _, _, rfl, rfl, ?_⟩
                · rw [eG, List.map_map]
                  rfl
                · have z := q G sG
                  unfold numI at z
                  rw [if_pos ⟨y1, m1, m12, d1, dd⟩] at z
                  exact z
            · rw [decide_eq_false dd]
              exact iteT (qn (fun h => dd h.2.2.2.2) H (Same.refl _))
          · rw [decide_eq_false (show ¬ (1 : Int) ≤ (d : Int) by omega)]
            exact iteF ⟨_, rfl, iteT (qn (fun h => d1 h.2.2.2.1) H (Same.refl _))⟩
        · rw [decide_eq_false (show ¬ (m : Int) ≤ 12 by omega)]
          exact iteT (qn (fun h => m12 h.2.2.1) H (Same.refl _))
      · rw [decide_eq_false (show ¬ (1 : Int) ≤ (m : Int) by omega)]
        exact iteF ⟨_, rfl, iteT (qn (fun h => m1 h.2.1) H (Same.refl _))⟩
    · rw [decide_eq_true (show (y : Int) < 1 by omega)]
      exact iteT (qn (fun h => y1 h.1) H (Same.refl _))
end
end K21
set_option Elab.async false
set_option linter.all false
set_option maxRecDepth 100000
set_option maxHeartbeats 4000000
/-! Xz: dict(zip(a, b)), a and b a list, a tuple, a text each. -/
namespace Xz
open PySem PySem.Spec PyProof.Rows L2
section
variable {prog : Program} {w : World} {A : Around} {E : Value → Shared → Prop} {s : Shared} {zz ti to tt ia ib : Addr} {fa fb : List Addr} {na nb j : Nat} {Pa Pb : Nat → Value → Prop} {Sa Sb : Nat → Heap → Prop} {fl : Bool} {ot : Obj}
/-- the next pair, while the tuple given out before is still there -/
theorem held_item {Q : Value → Shared → Prop} (S : ZipSep2 zz ti to ia ib fa fb) (Da : Draws prog w A ia fa na Pa Sa) (Db : Draws prog w A ib fb nb Pb Sb) (hz : IsZipHeld s.heap zz ti to tt fl) (ht : s.heap.get? tt = some ot)
    (hti : IsTupOf2 s.heap ti (.ref ia) (.ref ib)) (sa : Sa j s.heap) (sb : Sb j s.heap) (la : j < na) (lb : j < nb)
    (fin : ∀ x y h' tk, Pa j x → Pb j y → IsZipHeld h' zz ti to tt true → Sa (j + 1) h' → Sb (j + 1) h' → IsTupOf2 h' s.heap.objs.size x y → h'.objs.size = s.heap.objs.size + 1 →
      (∀ c o, c ≠ zz → c ≠ ia → c ≠ ib → s.heap.get? c = some o → h'.get? c = some o) → Q (.ref s.heap.objs.size) { s with heap := h', toks := tk }) :
    wpAny (model prog w) A (Builtin.«zip.__next__» ⟨[.ref zz], []⟩) (fun r s' => ∃ v, r = .done (.ret v) ∧ Q v s') E s := by
  obtain ⟨hp, gg, dd, tk0, oo⟩ := s
  show wpAny _ _ (field (.ref zz) 2 >>= _) _ _ _
  refine wpAny_bind (wpAny_field hz rfl (x := Value.bool false) rfl ?_)
  show wpAny _ _ (field (.ref zz) 3 >>= _) _ _ _
  refine wpAny_bind (wpAny_field hz rfl (x := Value.ref ti) rfl ?_)
  refine wpAny_bind (wpAny_seqItems hti rfl ?_)
  show wpAny _ _ (Builtin.SmallTypes.ownedTupleIsFree (.ref zz) >>= _) _ _ _
  refine wpAny_bind (wpAny_tupleHeld_zip hz ht fun h1 hz1 s1 => ?_)
  replace s1 : Heap.SameBut zz hp h1 := s1
  simp only [Bool.false_eq_true, if_false]
  refine wpAny_bind ?_
  rw [← Array.forIn_toList]
  simp only [List.forIn_cons, List.forIn_nil]
  refine wpAny_bind (wpAny_bind (wpAny_holding ?_))
  show wpAny _ _ (Builtin.SmallTypes.nextOf (.ref ia) >>= _) _ _ ⟨h1, gg, dd, tk0, oo⟩
  refine wpAny_bind (Da.item j _ _ _ la (Da.over sa s1 S.zf1) fun x h2 tk2 px sa2 s2 => wpAny_pure (wpAny_pure ?_))
  replace s2 : Heap.SameBut ia h1 h2 := s2
  refine wpAny_bind (wpAny_bind (wpAny_holding ?_))
  show wpAny _ _ (Builtin.SmallTypes.nextOf (.ref ib) >>= _) _ _ ⟨h2, gg, dd, tk2, oo⟩
  refine wpAny_bind (Db.item j _ _ _ lb (Db.over (Db.over sb s1 S.zf2) s2 S.sep1_2) fun y h3 tk3 py sb3 s3 => wpAny_pure (wpAny_pure (wpAny_pure ?_)))
  replace s3 : Heap.SameBut ib h2 h3 := s3
  show wpAny _ _ (newTuple [x, y] >>= _) _ _ ⟨h3, gg, dd, tk3, oo⟩
  refine wpAny_bind (wpAny_newTuple ?_)
  have size : h3.objs.size = hp.objs.size := by rw [s3.1, s2.1, s1.1]
  have hz3 : IsZipHeld h3 zz ti to tt true := s3.extBut _ _ S.zi2 (s2.extBut _ _ S.zi1 hz1)
  have old : ∀ c o, c ≠ zz → c ≠ ia → c ≠ ib → hp.get? c = some o → h3.get? c = some o := fun c o c1 c2 c3 e => s3.extBut _ _ c3 (s2.extBut _ _ c2 (s1.extBut _ _ c1 e))
  have sa3 : Sa (j + 1) h3 := Da.over sa2 s3 S.sep2_1
  have pu : ∀ b ∈ fa, ∀ o, h3.get? b = some o → (h3.push { cls := .type "tuple", data := .seq #[x, y] }).get? b = some o := fun b _ o e => Heap.get?_push_of_some _ e
  have pu2 : ∀ b ∈ fb, ∀ o, h3.get? b = some o → (h3.push { cls := .type "tuple", data := .seq #[x, y] }).get? b = some o := fun b _ o e => Heap.get?_push_of_some _ e
  have two : IsTupOf2 (h3.push { cls := .type "tuple", data := .seq #[x, y] }) h3.objs.size x y := Heap.get?_push_size _ rfl
  have more : (h3.push { cls := .type "tuple", data := .seq #[x, y] }).objs.size = h3.objs.size + 1 := Heap.size_push ..
  refine wpAny_pure ⟨_, rfl, ?_⟩
  show Q (.ref h3.objs.size) _
  rw [size] at two more ⊢
  exact fin x y _ tk3 px py (Heap.get?_push_of_some _ hz3) (Da.frame _ _ _ sa3 pu) (Db.frame _ _ _ sb3 pu2) two more fun c o c1 c2 c3 e => Heap.get?_push_of_some _ (old c o c1 c2 c3 e)
/-- the end, likewise -/
theorem held_end {Q : Fin → Shared → Prop} (S : ZipSep2 zz ti to ia ib fa fb) (Da : Draws prog w A ia fa na Pa Sa) (Db : Draws prog w A ib fb nb Pb Sb) (hz : IsZipHeld s.heap zz ti to tt fl) (ht : s.heap.get? tt = some ot)
    (hti : IsTupOf2 s.heap ti (.ref ia) (.ref ib)) (sa : Sa j s.heap) (sb : Sb j s.heap) (la : j ≤ na) (lb : j ≤ nb) (e0 : j = na ∨ j = nb)
    (fin : ∀ h' e tk, (∀ c o, c ≠ zz → c ≠ ia → c ≠ ib → s.heap.get? c = some o → h'.get? c = some o) → (∃ o, h'.get? e = some o ∧ o.cls = .type "StopIteration") → E (.ref e) { s with heap := h', toks := tk }) :
    wpAny (model prog w) A (Builtin.«zip.__next__» ⟨[.ref zz], []⟩) Q E s := by
  obtain ⟨hp, gg, dd, tk0, oo⟩ := s
  show wpAny _ _ (field (.ref zz) 2 >>= _) _ _ _
  refine wpAny_bind (wpAny_field hz rfl (x := Value.bool false) rfl ?_)
  show wpAny _ _ (field (.ref zz) 3 >>= _) _ _ _
  refine wpAny_bind (wpAny_field hz rfl (x := Value.ref ti) rfl ?_)
  refine wpAny_bind (wpAny_seqItems hti rfl ?_)
  show wpAny _ _ (Builtin.SmallTypes.ownedTupleIsFree (.ref zz) >>= _) _ _ _
  refine wpAny_bind (wpAny_tupleHeld_zip hz ht fun h1 hz1 s1 => ?_)
  replace s1 : Heap.SameBut zz hp h1 := s1
  simp only [Bool.false_eq_true, if_false]
  refine wpAny_bind ?_
  rw [← Array.forIn_toList]
  simp only [List.forIn_cons, List.forIn_nil]
  refine wpAny_bind (wpAny_bind (wpAny_holding ?_))
  show wpAny _ _ (Builtin.SmallTypes.nextOf (.ref ia) >>= _) _ _ ⟨h1, gg, dd, tk0, oo⟩
  by_cases ea : j = na
  · subst ea
    exact wpAny_bind (Da.done _ _ _ (Da.over sa s1 S.zf1) fun h2 e k2 st => fin h2 e _ (fun c o c1 c2 _ q => k2 _ _ c2 (s1.extBut _ _ c1 q)) st)
  · have eb : j = nb := e0.elim (fun q => absurd q ea) id
    refine wpAny_bind (Da.item j _ _ _ (by omega) (Da.over sa s1 S.zf1) fun x h2 tk2 px sa2 s2 => wpAny_pure (wpAny_pure ?_))
    replace s2 : Heap.SameBut ia h1 h2 := s2
    refine wpAny_bind (wpAny_bind (wpAny_holding ?_))
    show wpAny _ _ (Builtin.SmallTypes.nextOf (.ref ib) >>= _) _ _ ⟨h2, gg, dd, tk2, oo⟩
    subst eb
    exact wpAny_bind (Db.done _ _ _ (Db.over (Db.over sb s1 S.zf2) s2 S.sep1_2) fun h3 e k3 st => fin h3 e _ (fun c o c1 c2 c3 q => k3 _ _ c3 (s2.extBut _ _ c2 (s1.extBut _ _ c1 q))) st)
end
end Xz
set_option Elab.async false
set_option linter.all false
set_option maxRecDepth 100000
set_option maxHeartbeats 4000000
/-! Xk: dict(zip(a, b)), a and b a list, a tuple, a text each: the rule. -/
namespace Xk
open PySem PySem.Spec PyProof.Rows L2 Xz
section
variable {prog : Program} {w : World} {A : Around} {E : Value → Shared → Prop} {s : Shared} {zz ti to tt ia ib : Addr} {fa fb : List Addr} {na nb j : Nat} {Pa Pb : Nat → Value → Prop} {Sa Sb : Nat → Heap → Prop} {fl : Bool} {ot : Obj}
theorem turn_item {Q : Option Value → Shared → Prop} (S : ZipSep2 zz ti to ia ib fa fb) (Da : Draws prog w A.in1 ia fa na Pa Sa) (Db : Draws prog w A.in1 ib fb nb Pb Sb) (hz : IsZipHeld s.heap zz ti to tt fl) (ht : s.heap.get? tt = some ot)
    (hti : IsTupOf2 s.heap ti (.ref ia) (.ref ib)) (sa : Sa j s.heap) (sb : Sb j s.heap) (la : j < na) (lb : j < nb)
    (fin : ∀ x y h' tk, Pa j x → Pb j y → IsZipHeld h' zz ti to tt true → Sa (j + 1) h' → Sb (j + 1) h' → IsTupOf2 h' s.heap.objs.size x y → h'.objs.size = s.heap.objs.size + 1 →
      (∀ c o, c ≠ zz → c ≠ ia → c ≠ ib → s.heap.get? c = some o → h'.get? c = some o) → Q (some (.ref s.heap.objs.size)) { s with heap := h', toks := tk }) :
    wpAny (model prog w) A (pyNext (.ref zz)) Q E s := by
  have ty : s.TypeIs (.ref zz) "zip" := ⟨_, hz, rfl⟩
  unfold pyNext
  refine wpAny_bind (wpAny_attempt (wpAny_callSpecial?_slot (name := Str.ofString "__next__") ty F.slot_zip_next ?_))
  refine wpAny_call_entry F.slot_zip_next ty F.entry_zip_next ?_ (F.args_zip_next_1 _)
  exact held_item S Da Db hz ht hti sa sb la lb fun x y h' tk p1 p2 p3 p4 p5 p6 p7 p8 => wpAny_pure (fin x y h' tk p1 p2 p3 p4 p5 p6 p7 p8)
theorem turn_end {Q : Option Value → Shared → Prop} (S : ZipSep2 zz ti to ia ib fa fb) (Da : Draws prog w A.in1 ia fa na Pa Sa) (Db : Draws prog w A.in1 ib fb nb Pb Sb) (hz : IsZipHeld s.heap zz ti to tt fl) (ht : s.heap.get? tt = some ot)
    (hti : IsTupOf2 s.heap ti (.ref ia) (.ref ib)) (sa : Sa j s.heap) (sb : Sb j s.heap) (la : j ≤ na) (lb : j ≤ nb) (e0 : j = na ∨ j = nb)
    (fin : ∀ h' tk, (∀ c o, c ≠ zz → c ≠ ia → c ≠ ib → s.heap.get? c = some o → h'.get? c = some o) → Q none { s with heap := h', toks := tk }) :
    wpAny (model prog w) A (pyNext (.ref zz)) Q E s := by
  have ty : s.TypeIs (.ref zz) "zip" := ⟨_, hz, rfl⟩
  unfold pyNext
  refine wpAny_bind (wpAny_attempt (wpAny_callSpecial?_slot (name := Str.ofString "__next__") ty F.slot_zip_next ?_))
  refine wpAny_call_entry F.slot_zip_next ty F.entry_zip_next ?_ (F.args_zip_next_1 _)
  refine held_end S Da Db hz ht hti sa sb la lb e0 fun h' e tk kp st => ?_
  obtain ⟨o, ho, hc⟩ := st
  exact wpAny_bind (wpAny_isInstance (T := "StopIteration") (b := true) ⟨o, ho, hc⟩ isSubtype_stop (wpAny_pure (fin h' tk kp)))
/-- a zip of any two as the pairs of a dict -/
theorem pairs2 (S : ZipSep2 zz ti to ia ib fa fb) (Da : ∀ A : Around, A.handled = none → Draws prog w A ia fa na Pa Sa) (Db : ∀ A : Around, A.handled = none → Draws prog w A ib fb nb Pb Sb)
    (ta : ∀ i h, Sa i h → ∀ b ∈ fa, ∃ o, h.get? b = some o) (tb : ∀ i h, Sb i h → ∀ b ∈ fb, ∃ o, h.get? b = some o) :
    PairArg prog w "zip" zz (zz :: ti :: to :: (fa ++ fb)) [zz, to, ia, ib] (min na nb) (fun i k v => Pa i k ∧ Pb i v)
      (fun h => IsZip h zz ti to .none ∧ IsTupOf2 h ti (.ref ia) (.ref ib) ∧ (∃ x y, IsTupOf2 h to x y) ∧ Sa 0 h ∧ Sb 0 h) where
  type := fun s q => ⟨_, q.1, rfl⟩
  notDict := by decide
  keep := fun h h' q kp => by
    obtain ⟨q1, q2, ⟨x, y, q3⟩, q4, q5⟩ := q
    exact ⟨kp _ _ q1, kp _ _ q2, ⟨x, y, kp _ _ q3⟩, (Da {} rfl).frame _ _ _ q4 fun b _ o e => kp b o e, (Db {} rfl).frame _ _ _ q5 fun b _ o e => kp b o e⟩
  there := fun h q b hb => by
    obtain ⟨q1, q2, ⟨x, y, q3⟩, q4, q5⟩ := q
    rcases List.mem_cons.mp hb with rfl | hb
    · exact ⟨_, q1⟩
    rcases List.mem_cons.mp hb with rfl | hb
    · exact ⟨_, q2⟩
    rcases List.mem_cons.mp hb with rfl | hb
    · exact ⟨_, q3⟩
    rcases List.mem_append.mp hb with hb | hb
    · exact ta _ _ q4 _ hb
    · exact tb _ _ q5 _ hb
  sub := fun b hb => by
    have e : b = zz ∨ b = to ∨ b = ia ∨ b = ib := by simpa using hb
    have m1 := S.mem1
    have m2 := S.mem2
    rcases e with rfl | rfl | rfl | rfl <;> simp [m1, m2]
  noKeys := fun A s Q E hA q fin => getAttrOr_miss_zip q.1 rfl rfl rfl zip_no_keys (by decide +kernel) hA fin
  iter := fun A s d Q E hA q hd nd fin => by
    obtain ⟨q1, q2, ⟨x, y, q3⟩, q4, q5⟩ := q
    have d0 : d ≠ zz := fun e => nd (by simp [e])
    have d1 : d ≠ ti := fun e => nd (by simp [e])
    have d2 : d ≠ to := fun e => nd (by simp [e])
    have d3 : d ∉ fa := fun e => nd (by simp [e])
    have d4 : d ∉ fb := fun e => nd (by simp [e])
    have d5 : d ≠ ia := fun e => d3 (by rw [e]; exact S.mem1)
    have d6 : d ≠ ib := fun e => d4 (by rw [e]; exact S.mem2)
    refine wpAny_pyIter_zip q1 (fin zz [zz, to, ia, ib] (fun i h => IsTupOf2 h ti (.ref ia) (.ref ib) ∧ Sa i h ∧ Sb i h ∧
      ((IsZip h zz ti to .none ∧ ∃ x y, IsTupOf2 h to x y) ∨ ∃ tt fl ot, IsZipHeld h zz ti to tt fl ∧ h.get? tt = some ot ∧ tt ≠ zz ∧ tt ≠ ia ∧ tt ≠ ib ∧ tt ≠ d)) s.heap s.toks ?_
      ⟨q2, q4, q5, .inl ⟨q1, x, y, q3⟩⟩ (fun _ _ e => e) fun b hb => .inl hb)
    have inA : A.in1.handled = none := by simp [hA]
    exact {
      off := fun hm => by
        have e : d = zz ∨ d = to ∨ d = ia ∨ d = ib := by simpa using hm
        rcases e with e | e | e | e
        · exact d0 e
        · exact d2 e
        · exact d5 e
        · exact d6 e
      frame := fun i h1 h2 st kp => by
        obtain ⟨p2, p4, p5, p1⟩ := st
        refine ⟨kp _ _ (Ne.symm d1) p2, (Da {} rfl).frame _ _ _ p4 fun b hb o e => kp b o (fun z => d3 (z ▸ hb)) e, (Db {} rfl).frame _ _ _ p5 fun b hb o e => kp b o (fun z => d4 (z ▸ hb)) e, ?_⟩
        rcases p1 with ⟨p1, x, y, p3⟩ | ⟨tt, fl, ot, p1, p3, r1, r2, r3, r4⟩
        · exact .inl ⟨kp _ _ (Ne.symm d0) p1, x, y, kp _ _ (Ne.symm d2) p3⟩
        · exact .inr ⟨tt, fl, ot, kp _ _ (Ne.symm d0) p1, kp _ _ r4 p3, r1, r2, r3, r4⟩
      item := fun i s1 Q1 E1 hi st hds fin1 => by
        obtain ⟨p2, p4, p5, p1⟩ := st
        have ja : i < na := by omega
        have jb : i < nb := by omega
        have up : ∀ {c o}, s1.heap.get? c = some o → s1.heap.objs.size ≠ c := fun e => Nat.ne_of_gt (Heap.lt_size e)
        have u1 : s1.heap.objs.size ≠ ia := let ⟨_, e⟩ := (Da {} rfl).live _ _ p4; up e
        have u2 : s1.heap.objs.size ≠ ib := let ⟨_, e⟩ := (Db {} rfl).live _ _ p5; up e
        rcases p1 with ⟨p1, x, y, p3⟩ | ⟨tt, fl, ot, p1, p3, r1, r2, r3, r4⟩
        · refine wpAny_pyNext_zipD2_item S (Da _ inA) (Db _ inA) p1 p2 p3 p4 p5 ja jb fun x1 x2 h' tk y1 y2 z1 z2 z3 z4 z5 z6 kp => ?_
          exact fin1 s1.heap.objs.size _ _ h' tk ⟨y1, y2⟩ (.inl ⟨_, z5, rfl, _, rfl⟩)
            ⟨kp _ _ S.TIz S.TITO S.TIi1 S.TIi2 p2, z3, z4, .inr ⟨s1.heap.objs.size, false, _, z1, z5, up p1, u1, u2, Nat.ne_of_gt hds⟩⟩
            fun c o hc e => kp c o (fun z => hc (by simp [z])) (fun z => hc (by simp [z])) (fun z => hc (by simp [z])) (fun z => hc (by simp [z])) e
        · refine turn_item S (Da _ inA) (Db _ inA) p1 p3 p2 p4 p5 ja jb fun x1 x2 h' tk y1 y2 z1 z3 z4 z5 z6 kp => ?_
          exact fin1 s1.heap.objs.size _ _ h' tk ⟨y1, y2⟩ (.inl ⟨_, z5, rfl, _, rfl⟩)
            ⟨kp _ _ S.TIz S.TIi1 S.TIi2 p2, z3, z4, .inr ⟨tt, true, ot, z1, kp _ _ r1 r2 r3 p3, r1, r2, r3, r4⟩⟩
            fun c o hc e => kp c o (fun z => hc (by simp [z])) (fun z => hc (by simp [z])) (fun z => hc (by simp [z])) e
      done := fun s1 Q1 E1 st fin1 => by
        obtain ⟨p2, p4, p5, p1⟩ := st
        rcases p1 with ⟨p1, x, y, p3⟩ | ⟨tt, fl, ot, p1, p3, r1, r2, r3, r4⟩
        · exact wpAny_pyNext_zipD2_end S (Da _ inA) (Db _ inA) p1 p2 p3 p4 p5 (by omega) (by omega) (by omega) fun h' tk kp => fin1 h' tk fun c o hc e =>
            kp c o (fun z => hc (by simp [z])) (fun z => hc (by simp [z])) (fun z => hc (by simp [z])) (fun z => hc (by simp [z])) e
        · exact turn_end S (Da _ inA) (Db _ inA) p1 p3 p2 p4 p5 (by omega) (by omega) (by omega) fun h' tk kp => fin1 h' tk fun c o hc e =>
            kp c o (fun z => hc (by simp [z])) (fun z => hc (by simp [z])) (fun z => hc (by simp [z])) e }
end
/-- what a value gives, item by item, where it stands -/
structure Gives (prog : Program) (w : World) (h : Heap) (u : Value) (n : Nat) (Pv : Nat → Value → Prop) : Prop where
  ex : ∃ (o : Obj) (Hh : Heap → Prop) (fo : List Addr), Begins u o Hh ∧ Hh h ∧ (∀ b ∈ fo, ∃ q, h.get? b = some q) ∧
    ∀ it, it ∉ fo → ∃ S : Nat → Heap → Prop, (∀ A : Around, A.handled = none → Draws prog w A it (it :: fo) n Pv S) ∧ (∀ h', h'.get? it = some o → (∀ b q, h.get? b = some q → h'.get? b = some q) → S 0 h') ∧
      (∀ i h', S i h' → ∀ b ∈ it :: fo, ∃ q, h'.get? b = some q)
section
variable {prog : Program} {w : World} {h : Heap}
theorem gives_list {p : Addr} {items : Array Value} (q : h.IsList p items) : Gives prog w h (.ref p) items.size fun i v => items[i]? = some v :=
  ⟨_, _, [p], begins_list p items, q, fun b hb => by
    rw [List.mem_singleton.mp hb]
    exact let ⟨o, e, _⟩ := q; ⟨o, e⟩,
   fun it hn => ⟨_, fun A hA => Draws.list hA it p (fun e => hn (by simp [e])) items, fun h' e kp => ⟨⟨_, e, rfl, rfl⟩, q.at fun o z => kp p o z⟩, fun i h' st b hb => by
    rcases List.mem_cons.mp hb with rfl | hb
    · exact let ⟨o, e, _⟩ := st.1; ⟨o, e⟩
    · rw [List.mem_singleton.mp hb]
      exact let ⟨o, e, _⟩ := st.2; ⟨o, e⟩⟩⟩
theorem gives_tuple {p : Addr} {items : Array Value} (q : h.IsTuple p items) : Gives prog w h (.ref p) items.size fun i v => items[i]? = some v :=
  ⟨_, _, [p], begins_tuple p items, q, fun b hb => by
    rw [List.mem_singleton.mp hb]
    exact let ⟨o, e, _⟩ := q; ⟨o, e⟩,
   fun it hn => ⟨_, fun A hA => Draws.tuple hA it p (fun e => hn (by simp [e])) items, fun h' e kp => ⟨⟨_, e, rfl, rfl⟩, q.at fun o z => kp p o z⟩, fun i h' st b hb => by
    rcases List.mem_cons.mp hb with rfl | hb
    · exact let ⟨o, e, _⟩ := st.1; ⟨o, e⟩
    · rw [List.mem_singleton.mp hb]
      exact let ⟨o, e, _⟩ := st.2; ⟨o, e⟩⟩⟩
theorem gives_text (x : Str) (t : Tok) : Gives prog w h (.str x t) x.cps.size fun i v => ∃ c u, x.cps[i]? = some c ∧ v = .str ⟨#[c]⟩ u :=
  ⟨_, _, [], begins_text x t, trivial, fun b hb => (List.not_mem_nil hb).elim,
   fun it hn => ⟨_, fun A hA => Draws.text hA it x t, fun h' e kp => ⟨_, e, rfl, rfl⟩, fun i h' st b hb => by
    rw [List.mem_singleton.mp hb]
    exact let ⟨o, e, _⟩ := st; ⟨o, e⟩⟩⟩
end
section
variable {prog : Program} {w : World} {A : Around} {E : Value → Shared → Prop} {s : Shared}
/-- dict of a zip of two values -/
theorem call_zip_dict {u1 u2 : Value} {n1 n2 : Nat} {P1 P2 : Nat → Value → Prop} {K : Type} [DecidableEq K] {knd : KeyKind prog w K} {kvs : List (K × Value)} {Q : Value → Shared → Prop} (g1 : Gives prog w s.heap u1 n1 P1) (g2 : Gives prog w s.heap u2 n2 P2) (calm : A.handled = none)
    (len : kvs.length = min n1 n2) (few : min n1 n2 ≤ sizeLine) (are : ∀ i k v, P1 i k → P2 i v → ∃ q, kvs[i]? = some (q, v) ∧ knd.is q k = true)
    (fin : ∀ (a : Addr) h' tk, s.heap.objs.size ≤ a → h'.DictOf knd a (merged [] kvs) → (∀ b o, s.heap.get? b = some o → h'.get? b = some o) → Q (.ref a) { s with heap := h', toks := tk }) :
    wpAny (model prog w) A (call (.type "zip") [u1, u2]) (fun v s1 => wpAny (model prog w) A (call (.type "dict") [v]) Q E s1) E s := by
  obtain ⟨o1, H1, f1, b1, x1, l1, r1⟩ := g1.ex
  obtain ⟨o2, H2, f2, b2, x2, l2, r2⟩ := g2.ex
  refine zip_begins2 b1 b2 x1 x2 fun h' hz hti hto e1 e2 sz kp => ?_
  have lo : ∀ b ∈ f1, b < s.heap.objs.size := fun b hb => let ⟨_, e⟩ := l1 b hb; Heap.lt_size e
  have lo2 : ∀ b ∈ f2, b < s.heap.objs.size := fun b hb => let ⟨_, e⟩ := l2 b hb; Heap.lt_size e
  have off : ∀ k, s.heap.objs.size + k ∉ f1 := fun k hm => absurd (lo _ hm) (Nat.not_lt.mpr (Nat.le_add_right _ _))
  have off2 : ∀ k, s.heap.objs.size + k ∉ f2 := fun k hm => absurd (lo2 _ hm) (Nat.not_lt.mpr (Nat.le_add_right _ _))
  obtain ⟨S1, D1, z1, t1⟩ := r1 s.heap.objs.size (off 0)
  obtain ⟨S2, D2, z2, t2⟩ := r2 (s.heap.objs.size + 1) (off2 1)
  have ap : ZipSep2 (s.heap.objs.size + 4) (s.heap.objs.size + 2) (s.heap.objs.size + 3) s.heap.objs.size (s.heap.objs.size + 1) (s.heap.objs.size :: f1) ((s.heap.objs.size + 1) :: f2) := by
    constructor
    · exact Nat.ne_of_lt (by omega)
    · exact Nat.ne_of_lt (by omega)
    · exact Nat.ne_of_lt (by omega)
    · exact Nat.ne_of_gt (by omega)
    · exact List.mem_cons_self
    · exact fun q => (List.mem_cons.mp q).elim (fun e => absurd e (Nat.ne_of_gt (by omega))) (off 4)
    · exact fun q => (List.mem_cons.mp q).elim (fun e => absurd e (Nat.ne_of_gt (by omega))) (off 3)
    · exact Nat.ne_of_gt (by omega)
    · exact List.mem_cons_self
    · exact fun q => (List.mem_cons.mp q).elim (fun e => absurd e (Nat.ne_of_gt (by omega))) (off2 4)
    · exact fun q => (List.mem_cons.mp q).elim (fun e => absurd e (Nat.ne_of_gt (by omega))) (off2 3)
    · exact fun q => (List.mem_cons.mp q).elim (fun e => absurd e (Nat.ne_of_lt (by omega))) (off2 0)
    · exact fun q => (List.mem_cons.mp q).elim (fun e => absurd e (Nat.ne_of_gt (by omega))) (off 1)
  refine call_dict_pairs (s := { s with heap := h' }) (pairs2 ap D1 D2 t1 t2) calm ⟨hz, hti, ⟨_, _, hto⟩, z1 h' e1 kp, z2 h' e2 kp⟩ ⟨len, fun i k v q => are i k v q.1 q.2⟩ few fun h2 tk hd kp2 => ?_
  refine fin h'.objs.size h2 tk (by rw [sz]; omega) hd fun b o e => kp2 b o (fun hm => ?_) (kp b o e)
  have q : b = s.heap.objs.size + 4 ∨ b = s.heap.objs.size + 3 ∨ b = s.heap.objs.size ∨ b = s.heap.objs.size + 1 := by simpa using hm
  have lt := Heap.lt_size e
  rcases q with q | q | q | q
  · rw [q] at lt; exact absurd lt (Nat.not_lt.mpr (Nat.le_add_right _ _))
  · rw [q] at lt; exact absurd lt (Nat.not_lt.mpr (Nat.le_add_right _ _))
  · rw [q] at lt; exact absurd lt (Nat.lt_irrefl _)
  · rw [q] at lt; exact absurd lt (Nat.not_lt.mpr (Nat.le_add_right _ _))
end
/-- the keys that a tuple, a list, a text gives -/
def KeysOf (K : PySem.W.Frag) (H : Hp) (x : V) (ks : List Key) : Prop :=
  (∃ p, x = .ref p ∧ (SqT K H p (ks.map kV) ∨ SqL K H p (ks.map kV))) ∨ ∃ t : Str, x = .str t ∧ t.cps.size ≤ sizeLine ∧ ks = t.cps.toList.map fun c => Sum.inr (⟨#[c]⟩ : Str)
theorem kv_zip : ∀ {ks : List Key} {ys : List V} {its : List Value}, Vals ys its → KV (ks.zip ys) (ks.zip its)
  | [], _, _, _ => by simp only [List.zip_nil_left]; exact .nil
  | _ :: _, _, _, .nil => by simp only [List.zip_nil_right]; exact .nil
  | k :: ks, _, _, .cons r t => by
    simp only [List.zip_cons_cons]
    exact .cons ⟨rfl, r⟩ (kv_zip t)
section
variable {X : Cx}
theorem keys_give {pins : List (Addr × Obj)} {σ : L2.St} {H : Hp} {s : Shared} {x : V} {u : Value} {ks : List Key} (I : Inv X pins σ H s) (r : RelV x u) (k : KeysOf X.K H x ks) :
    ∃ (n : Nat) (Pv : Nat → Value → Prop), Gives X.prog X.w s.heap u n Pv ∧ ks.length = n ∧ n ≤ sizeLine ∧ ∀ (i : Nat) (key : Value), Pv i key → ∃ q : Key, ks[i]? = some q ∧ (mixKind X.prog X.w).is q key = true := by
  have go : ∀ {its : List Value}, Vals (ks.map kV) its → ∀ (i : Nat) (key : Value), its.toArray[i]? = some key → ∃ q : Key, ks[i]? = some q ∧ (mixKind X.prog X.w).is q key = true := by
    intro its rv i key e
    have hl := rv.length
    rw [List.length_map] at hl
    have e' : its[i]? = some key := by simpa using e
    have hi : i < ks.length := by
      have := (List.getElem?_eq_some_iff.mp e').1
      omega
    have ek : (ks.map kV)[i]? = some (kV ks[i]) := by simp [hi]
    obtain ⟨u', e2, r2⟩ := rv.get ek
    rw [e'] at e2
    cases Option.some.inj e2
    exact ⟨ks[i], by simp [hi], kV_is r2⟩
  rcases k with ⟨p, rfl, hq⟩ | ⟨t, rfl, ht, rfl⟩
  · cases r
    rcases hq with hq | hq
    · obtain ⟨its, rv, pl, hz⟩ := I.tuple hq
      have hl := rv.length
      rw [List.length_map] at hl hz
      exact ⟨_, _, gives_tuple pl, by simp [hl], by simp; omega, go rv⟩
    · obtain ⟨its, rv, pl, hz⟩ := I.list hq
      have hl := rv.length
      rw [List.length_map] at hl hz
      exact ⟨_, _, gives_list pl.isList, by simp [hl], by simp; omega, go rv⟩
  · obtain ⟨tk, rfl⟩ := r
    refine ⟨_, _, gives_text t tk, by simp, ht, ?_⟩
    rintro i key ⟨c, u, e, rfl⟩
    refine ⟨Sum.inr (⟨#[c]⟩ : Str), ?_, kV_is (k := Sum.inr (⟨#[c]⟩ : Str)) ⟨u, rfl⟩⟩
    rw [List.getElem?_map, Array.getElem?_toList, e]
    rfl
def tDictZip (K : PySem.W.Frag) (ta : TA) : TE := fun σ H Q => ta σ H fun vs H1 => ∃ x b ks ys, vs = [x, .ref b] ∧ KeysOf K H1 x ks ∧ SqL K H1 b ys ∧ ∀ p, H1 p = none → Q (.ref p) (upd H1 p (.dK (mergeK [] (ks.zip ys))))
theorem pe_dictZip {e e2 : Expr} {ta : TA} {p p2 q pos : Pos} (hc : X.calm = true) (g1 : Gl X "dict") (m1 : X.mg "dict" = none) (g2 : Gl X "zip") (m2 : X.mg "zip" = none) (ha : PA X [e, e2] ta)
    (na : starEach [.Call (.Name "zip" p2) [e, e2] [] q] X.env = (false, eval (.Call (.Name "zip" p2) [e, e2] [] q) X.env) :: starEach [] X.env := by rfl)
    (hs : starEach [e, e2] X.env = (false, eval e X.env) :: starEach [e2] X.env := by rfl) (hpl : (backTo q (starEach [e2] X.env)).any (·.1) = false := by rfl) :
    PE X (.Call (.Name "dict" p) [.Call (.Name "zip" p2) [e, e2] [] q] [] pos) (tDictZip X.K ta) := by
  constructor
  intro pins s σ H Q I h
  refine Call_ (ld_blt I g1 m1 PyProof.Rows.boot_dict ?_)
  refine callWith_type1 (args_cons ?_ na) na (by rfl)
  refine Call_ (ld_blt I g2 m2 PyProof.Rows.boot_zip (PyProof.Rows.callWith_type1 (thn (ha.run q pins s σ H _ I h) fun us s1 ⟨vs, H1, I1, r1, q1⟩ => ?_) hs hpl))
  obtain ⟨x, b, ks, ys, ex, hk, hy, q1⟩ := q1
  subst ex
  obtain ⟨u1, u2, eu, ru1, ru2⟩ := vals2 r1
  subst eu
  cases ru2
  obtain ⟨n1, P1, gv1, l1, z1, is1⟩ := keys_give I1 ru1 hk
  obtain ⟨its, rv, pl, hz⟩ := I1.list hy
  have l2 : ys.length = its.toArray.size := by rw [List.size_toArray]; exact rv.length
  refine thn (call_zip_dict (kvs := ks.zip its) (knd := mixKind X.prog X.w) gv1 (gives_list pl.isList) (I1.ok.hd hc) (by simp [l1]) (by omega) (fun i k v p1 p2 => ?_) fun a h' tk la hd kp => ?_) fun v s2 q2 => PyProof.Rows.args_nil q2
  · obtain ⟨kk, e1, e2⟩ := is1 i k p1
    exact ⟨kk, List.getElem?_zip_eq_some.mpr ⟨e1, by simpa using p2⟩, e2⟩
  · have hm : (a == sysModules) = false := beq_eq_false_iff_ne.mpr (Nat.ne_of_gt (Nat.lt_of_lt_of_le I1.big la))
    have len : (mergeK [] (ks.zip ys)).length ≤ sizeLine := by
      refine Nat.le_trans (length_mergeK _ []) ?_
      simp only [List.length_nil, Nat.zero_add, List.length_zip]
      omega
    exact ⟨.ref a, _, I1.laid (t' := tk) kp la (show ObjOk X.prog X.w _ _ _ (.dK (mergeK [] (ks.zip ys))) from ⟨len, hm, merged [] (ks.zip its), KV.merge (kv_zip rv) .nil, hd⟩), rfl, q1 _ (I1.hok.fresh la)⟩
end
end Xk
set_option Elab.async false
set_option linter.all false
set_option maxRecDepth 100000
set_option maxHeartbeats 4000000
/-! Xl: for a, b in zip(t, l): a tuple and a list. -/
namespace Xl
open PySem PySem.Spec PyProof.Rows L2 Xz
/-- the tuple at a and the list at b as they stand at each turn -/
def ItTL (K : PySem.W.Frag) (a b : Addr) : It :=
  ⟨fun i H => ∃ (xs ys : List V) (x y : V), SqT K H a xs ∧ SqL K H b ys ∧ xs[i]? = some x ∧ ys[i]? = some y,
    fun i H v H' => ∃ T x y, v = .ref T ∧ H T = none ∧ H' = upd H T (.tup [x, y]) ∧ (∀ xs, SqT K H a xs → xs[i]? = some x) ∧ ∀ ys, SqL K H b ys → ys[i]? = some y,
    fun i H => ∃ xs ys : List V, SqT K H a xs ∧ SqL K H b ys ∧ ((i = xs.length ∧ i ≤ ys.length) ∨ (i ≤ xs.length ∧ i = ys.length))⟩
theorem offT {h : Heap} {a ia : Addr} {i : Nat} {items : Array Value} (p : h.IsTupleIter ia a i) (q : h.IsTuple a items) : a ≠ ia := by
  rintro rfl
  obtain ⟨o1, g1, c1, _⟩ := p
  obtain ⟨o2, g2, c2, _⟩ := q
  rw [g1] at g2
  cases g2
  rw [c1] at c2
  simp at c2
theorem offL {h : Heap} {a ia : Addr} {i : Nat} {items : Array Value} (p : h.IsListIter ia a i) (q : h.IsList a items) : a ≠ ia := by
  rintro rfl
  obtain ⟨o1, g1, c1, _⟩ := p
  obtain ⟨o2, g2, c2, _⟩ := q
  rw [g1] at g2
  cases g2
  rw [c1] at c2
  simp at c2
theorem turnTL {P : Program} {w : World} {K : PySem.W.Frag} {elts : List Expr} {kk : Nat} {tpos : Pos} {a b zz ti to ia ib : Addr} (S : ZipSep2 zz ti to ia ib [ia, a] [ib, b]) :
    Turn P w K (.Tuple elts kk tpos) (ItTL K a b) [zz, ti, to, ia, ib] zz (fun i h => IsZip h zz ti to .none ∧ IsTupOf2 h ti (.ref ia) (.ref ib) ∧ (∃ x y, IsTupOf2 h to x y) ∧ h.IsTupleIter ia a i ∧ h.IsListIter ib b i) where
  mem := by simp
  obj := fun i h st c hc => by
    obtain ⟨q1, q2, ⟨x, y, q3⟩, ⟨o1, e1, _, d1⟩, ⟨o2, e2, _, d2⟩⟩ := st
    have e : c = zz ∨ c = ti ∨ c = to ∨ c = ia ∨ c = ib := by simpa using hc
    rcases e with rfl | rfl | rfl | rfl | rfl
    · exact ⟨_, q1, fun v q => nomatch q⟩
    · exact ⟨_, q2, fun v q => nomatch q⟩
    · exact ⟨_, q3, fun v q => nomatch q⟩
    · exact ⟨o1, e1, fun v q => by rw [d1] at q; cases q⟩
    · exact ⟨o2, e2, fun v q => by rw [d2] at q; cases q⟩
  keep := fun i h h' st kp => by
    obtain ⟨q1, q2, ⟨x, y, q3⟩, q4, q5⟩ := st
    exact ⟨kp zz (by simp) _ q1, kp ti (by simp) _ q2, ⟨x, y, kp to (by simp) _ q3⟩, q4.at fun o q => kp ia (by simp) o q, q5.at fun o q => kp ib (by simp) o q⟩
  item := by
    intro X hP hw hK hc i pins s σ H E I hf st hg
    subst hP hw hK
    obtain ⟨q1, q2, ⟨x0, y0, q3⟩, q4, q5⟩ := st
    obtain ⟨xs, ys, x, y, hqx, hqy, hx, hy⟩ := hg
    obtain ⟨its, rv, p, _⟩ := I.tuple hqx
    obtain ⟨its2, rv2, p2, _⟩ := I.list hqy
    obtain ⟨u, hu, ru⟩ := rv.get hx
    obtain ⟨u2, hu2, ru2⟩ := rv2.get hy
    have zl : zz < s.heap.objs.size := Heap.lt_size q1
    have calm : X.A.in1.handled = none := by simpa using I.ok.hd hc
    have D1 := Draws.tuple (prog := X.prog) (w := X.w) calm ia a (offT q4 p) its.toArray
    have D2 := Draws.list (prog := X.prog) (w := X.w) calm ib b (offL q5 p2.isList) its2.toArray
    have lx : i < its.toArray.size := by
      have := (List.getElem?_eq_some_iff.mp hu).1
      simpa using this
    have ly : i < its2.toArray.size := by
      have := (List.getElem?_eq_some_iff.mp hu2).1
      simpa using this
    refine wpAny_pyNext_zipD2_item S D1 D2 q1 q2 q3 ⟨q4, p⟩ ⟨q5, p2.isList⟩ lx ly fun x1 x2 h' tk y1 y2 z1 z2 z3 z4 z5 z6 kp => ?_
    rw [List.getElem?_toArray, hu] at y1
    rw [List.getElem?_toArray, hu2] at y2
    cases y1
    cases y2
    refine ⟨_, rfl, wpAny_letOwnedTupleGo_zip (s := { s with heap := h', toks := tk }) z1 fun h'' z'' sb => ?_⟩
    have hT2 : h''.get? s.heap.objs.size = some { cls := .type "tuple", data := .seq #[u, u2] } := (sb.2 _ (Nat.ne_of_gt zl)).trans z5
    have new : ObjOk X.prog X.w (upd H s.heap.objs.size (.tup [x, y])) h'' s.heap.objs.size (.tup [x, y]) :=
      ⟨by show 2 ≤ sizeLine; decide, [u, u2], .cons ru (.cons ru2 .nil), ⟨_, hT2, rfl, _, rfl⟩⟩
    have I1 : Inv X pins σ (upd H s.heap.objs.size (.tup [x, y])) { s with heap := h'', toks := tk } :=
      I.turnedNew (t' := tk) (ch := [zz, ti, to, ia, ib]) (fun c o hb q => (sb.2 c (fun q' => hb (by simp [q']))).trans (kp c o (fun q' => hb (by simp [q'])) (fun q' => hb (by simp [q'])) (fun q' => hb (by simp [q'])) (fun q' => hb (by simp [q'])) q)) hf (Nat.le_refl _) new
    refine ⟨.ref s.heap.objs.size, _, I1, rfl, ⟨_, x, y, rfl, I.hok.fresh (Nat.le_refl _), rfl, fun l hl => by rw [I.tuple_inj hl hqx]; exact hx, fun l hl => by rw [I.list_inj hl hqy]; exact hy⟩, ⟨z'', ?_, ⟨u, u2, ?_⟩, ?_, ?_⟩, fun c hcm => ?_⟩
    · exact (sb.2 _ S.TIz).trans (kp _ _ S.TIz S.TITO S.TIi1 S.TIi2 q2)
    · exact (sb.2 _ S.TOz).trans z2
    · exact z3.1.at fun o q => (sb.2 _ (Ne.symm S.zi1)).trans q
    · exact z4.1.at fun o q => (sb.2 _ (Ne.symm S.zi2)).trans q
    · have hlt : c < s.heap.objs.size := by
        have e : c = zz ∨ c = ti ∨ c = to ∨ c = ia ∨ c = ib := by simpa using hcm
        rcases e with rfl | rfl | rfl | rfl | rfl
        · exact zl
        · exact Heap.lt_size q2
        · exact Heap.lt_size q3
        · obtain ⟨_, e1, _⟩ := q4; exact Heap.lt_size e1
        · obtain ⟨_, e2, _⟩ := q5; exact Heap.lt_size e2
      rw [upd_ne (Nat.ne_of_lt hlt)]
      exact (hf c hcm).1
  done := by
    intro X hP hw hK hc i pins s σ H E I hf st hg
    subst hP hw hK
    obtain ⟨q1, q2, ⟨x0, y0, q3⟩, q4, q5⟩ := st
    obtain ⟨xs, ys, hqx, hqy, hend⟩ := hg
    obtain ⟨its, rv, p, _⟩ := I.tuple hqx
    obtain ⟨its2, rv2, p2, _⟩ := I.list hqy
    have l1 := rv.length
    have l2 := rv2.length
    have calm : X.A.in1.handled = none := by simpa using I.ok.hd hc
    have D1 := Draws.tuple (prog := X.prog) (w := X.w) calm ia a (offT q4 p) its.toArray
    have D2 := Draws.list (prog := X.prog) (w := X.w) calm ib b (offL q5 p2.isList) its2.toArray
    exact wpAny_pyNext_zipD2_end S D1 D2 q1 q2 q3 ⟨q4, p⟩ ⟨q5, p2.isList⟩ (by simp; omega) (by simp; omega) (by simp; omega) fun h' tk kp => ⟨rfl, I.turnedL (t' := tk) (ch := [zz, ti, to, ia, ib]) (fun c o hb q =>
      kp c o (fun q' => hb (by simp [q'])) (fun q' => hb (by simp [q'])) (fun q' => hb (by simp [q'])) (fun q' => hb (by simp [q'])) q) hf⟩
  self := fun A i s Q E st h => wpAny_pyIter_zip st.1 h
def iZipTL (K : PySem.W.Frag) (ta : TA) : TI := fun σ H R => ta σ H fun vs H1 => ∃ a b xs ys, vs = [.ref a, .ref b] ∧ SqT K H1 a xs ∧ SqL K H1 b ys ∧ R (ItTL K a b) H1
theorem pi_zipTL {X : Cx} {e e2 : Expr} {ta : TA} {p pos tpos : Pos} {elts : List Expr} {kk : Nat} (hg : Gl X "zip") (hm : X.mg "zip" = none) (ha : PA X [e, e2] ta)
    (hs : starEach [e, e2] X.env = (false, eval e X.env) :: starEach [e2] X.env := by rfl) (hpl : (backTo pos (starEach [e2] X.env)).any (·.1) = false := by rfl) :
    PI X (.Tuple elts kk tpos) (.Call (.Name "zip" p) [e, e2] [] pos) (iZipTL X.K ta) := by
  refine ⟨fun pins s σ H R I h => ?_⟩
  refine Call_ (ld_blt I hg hm PyProof.Rows.boot_zip (PyProof.Rows.callWith_type1 (thn (ha.run pos pins s σ H _ I h) fun us s1 ⟨vs, H1, I1, r1, q1⟩ => ?_) hs hpl))
  obtain ⟨a, b, xs, ys, ex, hqx, hqy, q⟩ := q1
  subst ex
  obtain ⟨u1, u2, eu, r, r'⟩ := vals2 r1
  subst eu
  cases r
  cases r'
  obtain ⟨its, rv, p1, _⟩ := I1.tuple hqx
  obtain ⟨its2, rv2, p2, _⟩ := I1.list hqy
  have la : a < s1.heap.objs.size := let ⟨_, e, _⟩ := p1; Heap.lt_size e
  have lb : b < s1.heap.objs.size := p2.lt
  have oa : ∀ k, s1.heap.objs.size + k ≠ a := fun k e => absurd la (by rw [← e]; exact Nat.not_lt.mpr (Nat.le_add_right _ _))
  have ob : ∀ k, s1.heap.objs.size + k ≠ b := fun k e => absurd lb (by rw [← e]; exact Nat.not_lt.mpr (Nat.le_add_right _ _))
  have ap : ZipSep2 (s1.heap.objs.size + 4) (s1.heap.objs.size + 2) (s1.heap.objs.size + 3) s1.heap.objs.size (s1.heap.objs.size + 1) [s1.heap.objs.size, a] [s1.heap.objs.size + 1, b] := by
    constructor
    · exact Nat.ne_of_lt (by omega)
    · exact Nat.ne_of_lt (by omega)
    · exact Nat.ne_of_lt (by omega)
    · exact Nat.ne_of_gt (by omega)
    · exact List.mem_cons_self
    · simpa using oa 4
    · simpa using oa 3
    · exact Nat.ne_of_gt (by omega)
    · exact List.mem_cons_self
    · simpa using ob 4
    · simpa using ob 3
    · simpa using ob 0
    · simpa using oa 1
  refine zip_begins2 (begins_tuple a its.toArray) (begins_list b its2.toArray) p1 p2.isList fun h' hz hti hto e1 e2 sz kp => wpAny_pyIter_zip hz ?_
  have I2 : Inv X pins σ H1 { s1 with heap := h' } := I1.kept (t' := s1.toks) kp
  refine ⟨s1.heap.objs.size + 4, [s1.heap.objs.size + 4, s1.heap.objs.size + 2, s1.heap.objs.size + 3, s1.heap.objs.size, s1.heap.objs.size + 1], _, _, H1, rfl, I2, turnTL ap, ⟨hz, hti, ⟨_, _, hto⟩, ⟨_, e1, rfl, rfl⟩, ⟨_, e2, rfl, rfl⟩⟩, fun c hcm => ?_, q⟩
  have e : c = s1.heap.objs.size + 4 ∨ c = s1.heap.objs.size + 2 ∨ c = s1.heap.objs.size + 3 ∨ c = s1.heap.objs.size ∨ c = s1.heap.objs.size + 1 := by simpa using hcm
  have le : s1.heap.objs.size ≤ c := by
    rcases e with rfl | rfl | rfl | rfl | rfl
    · exact Nat.le_add_right _ _
    · exact Nat.le_add_right _ _
    · exact Nat.le_add_right _ _
    · exact Nat.le_refl _
    · exact Nat.le_add_right _ _
  exact I1.fpOk le (I1.hok.fresh le)
end Xl
set_option Elab.async false
set_option linter.all false
set_option maxRecDepth 100000
set_option maxHeartbeats 4000000
/-! k21: days, forms -/
namespace K21
open PySem PySem.Spec PyProof.Rows L2 Bs Xg TL Xk K02
theorem u1 {n : Nat} (h : n + 64 < cLine) : n + 1 < cLine := by omega
abbrev sRs : Stmt := top 13
abbrev sRD : Stmt := top 16
abbrev sDo : Stmt := top 17
def dayP (Y M D : List Nat) : Option Int := if Y.length = 4 ∧ figs 4 Y = true ∧ figs 2 M = true ∧ figs 2 D = true then numI (val Y) (val M) (val D) else none
/-- year, month, day of three parts as a text tells their order -/
def ord3 (o : Str) (p : List Str) : Str × Str × Str :=
  if o = Str.ofString "ymd" then (p.getD 0 Str.empty, p.getD 1 Str.empty, p.getD 2 Str.empty)
  else if o = Str.ofString "dmy" then (p.getD 2 Str.empty, p.getD 1 Str.empty, p.getD 0 Str.empty)
  else (p.getD 2 Str.empty, p.getD 0 Str.empty, p.getD 1 Str.empty)
def dayQ (o : Str) (p : List Str) : Option Int := dayP (tl (ord3 o p).1) (tl (ord3 o p).2.1) (tl (ord3 o p).2.2)
def dayS (o z : Str) : List Str → Option Int
  | [] => none
  | s :: r => if (Txt.split z s).length = 3 then dayQ o (Txt.split z s) else dayS o z r
def btw : List Str := [Str.ofString "-", Str.ofString ".", Str.ofString "/"]
def IsOrd (o : Str) : Prop := o = Str.ofString "ymd" ∨ o = Str.ofString "dmy" ∨ o = Str.ofString "mdy"
section
variable {P : Program} {w : World} {K : PySem.W.Frag} {mg : Str → Option Value} {base : Heap}
variable {cM fLp fDi fAh fNu : Addr} {dLp dDi dAh dNu : FuncData}
theorem scDo : FnScope ["parts", "year", "month", "day"] ["parts"] (defScope sDo) := ⟨rfl, rfl, rfl, by decide +kernel, rfl, by decide +kernel, by decide +kernel⟩
def spDo : Sp := fun vs H Q _ => ∃ (p : Addr) (kvs : List (Key × V)) (Y M D : Str), vs = [.ref p] ∧ H p = some (.dK kvs) ∧ valV kvs (Sum.inr (Str.ofString "y")) = some (.str Y) ∧ valV kvs (Sum.inr (Str.ofString "m")) = some (.str M) ∧ valV kvs (Sum.inr (Str.ofString "d")) = some (.str D) ∧
  Y.length ≤ 500 ∧ M.length ≤ 500 ∧ D.length ≤ 500 ∧ ∀ H', Same H H' → Q (ov (dayP (tl Y) (tl M) (tl D))) H'
structure Frm (K : PySem.W.Frag) (mg : Str → Option Value) (cB fIF fRA fRD fDo fRs : Addr) (dIF dRA dRD dDo dRs : FuncData) : Prop where
  gB : mg "BETWEEN" = some (.ref cB)
  sB : ∀ H, SqT K H cB (btw.map V.str)
  g9 : ∃ t, mg "WHOLE_FIGURES" = some (.int 9 t)
  g8 : ∃ t, mg "AMOUNT_FIGURES" = some (.int 8 t)
  gY : ∃ t, mg "YEAR_FIGURES" = some (.int 4 t)
  gD : ∃ t, mg "DAY_FIGURES" = some (.int 2 t)
  IF : Fun K "is_figures" "is_figures" sIsFig fIF dIF
  bIF : Binds K dIF ["text", "most"] []
  gIF : mg "is_figures" = some (.ref fIF)
  RA : Fun K "read_amount" "read_amount" sReadAm fRA dRA
  bRA : Binds K dRA ["text", "most", "places"] []
  gRA : mg "read_amount" = some (.ref fRA)
  RD : Fun K "read_day" "read_day" sRD fRD dRD
  bRD : Binds K dRD ["text", "order"] []
  gRD : mg "read_day" = some (.ref fRD)
  Do : Fun K "day_of" "day_of" sDo fDo dDo
  bDo : Binds K dDo ["parts"] []
  gDo : mg "day_of" = some (.ref fDo)
  Rs : Fun K "read_as" "read_as" sRs fRs dRs
  bRs : Binds K dRs ["form", "text"] []
  gRs : mg "read_as" = some (.ref fRs)
variable {cB fIF fRA fRD fDo fRs : Addr} {dIF dRA dRD dDo dRs : FuncData}
theorem ok_dayof (C : Cal K mg cM fLp fDi fAh fNu dLp dDi dAh dNu) (F : Frm K mg cB fIF fRA fRD fDo fRs dIF dRA dRD dDo dRs) (T : Free mg) : FnOk P w K mg base CX0 4 fDo dDo ["parts"] spDo := by
  have GIF : FnOk P w K mg base CX0 1 fIF dIF ["text", "most"] spIsFig := ok_isfig F.IF T
  have GNu : FnOk P w K mg base CX0 3 fNu dNu ["year", "month", "day"] spNum := ok_num C T
  have FIF := F.IF
  have bIF := F.bIF
  have gIF := F.gIF
  have FNu := C.Nu
  have bNu := C.bNu
  have gNu := C.gNu
  obtain ⟨t4, gY⟩ := F.gY
  obtain ⟨t2, gD⟩ := F.gD
  refine F.Do.ok scDo (fun vs H Q E h => ?_) (fun cdv A outer s H vs Q E hr h => ?_)
  · obtain ⟨p, kvs, Y, M, D, rfl, _⟩ := h
    rfl
  · obtain ⟨p, kvs, Y, M, D, rfl, hp, hY, hM, hD, lY, lM, lD, q⟩ := h
    refine ⟨_, pss_cons (ps_par3 (i := 1) (j := 2) (l := 3) rfl scDo.nd rfl rfl rfl (by decide) (by decide) (by decide) rfl rfl rfl (pa_cons (pe_dget (u1 hr.units) (pv 0) pe_str (fun _ _ => rfl)) (pa_cons (pe_dget (u1 hr.units) (pv 0) pe_str (fun _ _ => rfl)) (pa_cons (pe_dget (u1 hr.units) (pv 0) pe_str (fun _ _ => rfl)) pa_nil))) (by rfl))
      (pss_cons (ps_if (PW.pt (pw_or (pt_cmpR op_ne (pe_callB call_len_str (by rfl) T.len PySem.boot_len (pa_cons (pv 1) pa_nil)) (pe_glob (v := V.int 4) rfl gY ⟨_, rfl⟩) (nomark _)) (pw_or1 (pt_not (pt_val (pe_call GIF (hr.mono (by decide)) (by rfl) gIF FIF.kp bIF .nil pass0 (pa_cons (pv 1) (pa_cons (pe_glob (v := V.int 4) rfl gY ⟨_, rfl⟩) pa_nil)))))))) (pss_one (ps_ret pe_non)) (pss_nil))
      (pss_cons (ps_if (PW.pt (pw_or (pt_not (pt_val (pe_call GIF (hr.mono (by decide)) (by rfl) gIF FIF.kp bIF .nil pass0 (pa_cons (pv 2) (pa_cons (pe_glob (v := V.int 2) rfl gD ⟨_, rfl⟩) pa_nil))))) (pw_or1 (pt_not (pt_val (pe_call GIF (hr.mono (by decide)) (by rfl) gIF FIF.kp bIF .nil pass0 (pa_cons (pv 3) (pa_cons (pe_glob (v := V.int 2) rfl gD ⟨_, rfl⟩) pa_nil)))))))) (pss_one (ps_ret pe_non)) (pss_nil))
      (pss_one (ps_ret (pe_call GNu (hr.mono (by decide)) (by rfl) gNu FNu.kp bNu .nil pass0 (pa_cons (pe_callTy call_int_str (by rfl) T.int (by decide +kernel) (pa_cons (pv 1) pa_nil)) (pa_cons (pe_callTy call_int_str (by rfl) T.int (by decide +kernel) (pa_cons (pv 2) pa_nil)) (pa_cons (pe_callTy call_int_str (by rfl) T.int (by decide +kernel) (pa_cons (pv 3) pa_nil)) pa_nil)))))))), ?_⟩
    have no : ¬ ((tl Y).length = 4 ∧ figs 4 (tl Y) = true ∧ figs 2 (tl M) = true ∧ figs 2 (tl D) = true) → Q .non H := fun n => by
      have z := q H (Same.refl _)
      unfold dayP at z
      rw [if_neg n] at z
      exact z
    refine ⟨_, rfl, p, _, rfl, hY ▸ DGet.k hp, _, rfl, p, _, rfl, hM ▸ DGet.k hp, _, rfl, p, _, rfl, hD ▸ DGet.k hp, _, _, _, rfl, ?_⟩
    have line : ∀ {z : Str}, z.length ≤ 500 → z.length ≤ sizeLine := fun h => Nat.le_trans h (by decide)
    refine ⟨_, rfl, Y, rfl, line lY, ?_⟩
    refine ⟨rfl, _, rfl, ?_⟩
    have e4 : decide (V.int (Y.length : Nat) = V.int 4) = decide ((tl Y).length = 4) := decide_eq_decide.mpr ⟨fun h => by have := V.int.inj h; rw [len_tl] at this; omega, fun h => congrArg V.int (by rw [len_tl]; omega)⟩
    rw [e4]
    by_cases y4 : (tl Y).length = 4
    · rw [decide_eq_true y4]
      refine iteF ⟨_, rfl, Y, 4, rfl, by omega, _, rfl, ?_⟩
      cases fy : figs 4 (tl Y) with
      | false => exact iteT (no fun h => by rw [fy] at h; exact absurd h.2.1 (by decide))
      | true =>
        refine iteF ?_
        unfold tNext
        dsimp only
        refine ⟨_, rfl, M, 2, rfl, by omega, _, rfl, ?_⟩
        cases fm : figs 2 (tl M) with
        | false => exact iteT (no fun h => by rw [fm] at h; exact absurd h.2.2.1 (by decide))
        | true =>
          refine iteF ⟨_, rfl, D, 2, rfl, by omega, _, rfl, ?_⟩
          cases fd : figs 2 (tl D) with
          | false => exact iteT (no fun h => by rw [fd] at h; exact absurd h.2.2.2 (by decide))
          | true =>
            refine iteF ?_
            dsimp only
            have gy := figs_iff.mp fy
            have gm := figs_iff.mp fm
            have gd := figs_iff.mp fd
            have ne : ∀ {l : List Nat}, 1 ≤ l.length → l ≠ [] := fun h e => by rw [e] at h; simp at h
            have z := q
            unfold dayP at z
            simp only [if_pos (show (tl Y).length = 4 ∧ figs 4 (tl Y) = true ∧ figs 2 (tl M) = true ∧ figs 2 (tl D) = true from ⟨y4, fy, fm, fd⟩)] at z
            have vy := val_lt gy.2
            have vm := val_lt gm.2
            have vd := val_lt gd.2
            have py : 10 ^ (tl Y).length ≤ 10 ^ 4 := Nat.pow_le_pow_right (by decide) gy.1.2
            have pm : 10 ^ (tl M).length ≤ 10 ^ 2 := Nat.pow_le_pow_right (by decide) gm.1.2
            have pd : 10 ^ (tl D).length ≤ 10 ^ 2 := Nat.pow_le_pow_right (by decide) gd.1.2
            refine ⟨_, rfl, Y, _, rfl, intTextD gy.2 (ne gy.1.1) (by omega), by omega, _, rfl, M, _, rfl, intTextD gm.2 (ne gm.1.1) (by omega), by omega, _, rfl, D, _, rfl, intTextD gd.2 (ne gd.1.1) (by omega), by omega, val (tl Y), val (tl M), val (tl D), rfl, by omega, by omega, by omega, z⟩
    · rw [decide_eq_false y4]
      exact iteT (no fun h => y4 h.1)
end
end K21
set_option Elab.async false
set_option linter.all false
set_option maxRecDepth 100000
set_option maxHeartbeats 4000000
/-! k21: a text cut at a sign -/
namespace K21
open PySem PySem.Spec PyProof.Rows L2 Bs Xg TL K02
def cutAt (s : Nat) : List Nat → List (List Nat)
  | [] => [[]]
  | c :: r => if c = s then [] :: cutAt s r else (c :: (cutAt s r).headD []) :: (cutAt s r).tail
theorem cutAt_cons (s c : Nat) (r : List Nat) : cutAt s (c :: r) = if c = s then [] :: cutAt s r else (c :: (cutAt s r).headD []) :: (cutAt s r).tail := rfl
theorem cutAt_ne (s : Nat) : ∀ l, cutAt s l ≠ []
  | [] => by simp [cutAt]
  | c :: r => by
    unfold cutAt
    split <;> simp
theorem headTail {α : Type} {l : List α} (d : α) (h : l ≠ []) : l.headD d :: l.tail = l := by
  cases l with
  | nil => exact absurd rfl h
  | cons a r => rfl
theorem spl_cut (s : Nat) : ∀ (l acc : List Nat), spl [s] 0 acc l = (acc ++ (cutAt s l).headD []) :: (cutAt s l).tail
  | [], acc => by simp [spl_nil, cutAt]
  | c :: r, acc => by
    by_cases e : c = s
    · have h : pre [s] (c :: r) = true := by simp [pre, e]
      rw [spl_hit h]
      show acc :: spl [s] 0 [] r = _
      rw [spl_cut s r [], cutAt_cons, if_pos e, List.nil_append, headTail _ (cutAt_ne s r)]
      simp
    · have h : pre [s] (c :: r) = false := by simp [pre, e]
      rw [spl_miss h, spl_cut s r (acc ++ [c])]
      rw [cutAt_cons, if_neg e]
      simp
theorem split_cut (z : Str) {s : Nat} (hs : s < 256) : Txt.split z ⟨#[s]⟩ = (cutAt s (tl z)).map K21.S := by
  have h := SX.split_S (a := tl z) (b := [s]) (by simp) (by simp [hs])
  have ez : SX.S (tl z) = z := S_tl z
  rw [ez, spl_cut, List.nil_append, headTail _ (cutAt_ne _ _)] at h
  exact h
theorem cutAt_mem (s : Nat) : ∀ l, ∀ p ∈ cutAt s l, p.length ≤ l.length ∧ s ∉ p ∧ ∀ c ∈ p, c ∈ l
  | [], p, hp => by
    have e : p = [] := by simpa [cutAt] using hp
    subst e
    simp
  | c :: r, p, hp => by
    have ih := cutAt_mem s r
    rw [cutAt_cons] at hp
    by_cases e : c = s
    · rw [if_pos e] at hp
      rcases List.mem_cons.mp hp with rfl | hp
      · simp
      · obtain ⟨h1, h2, h3⟩ := ih p hp
        exact ⟨by simp; omega, h2, fun d hd => List.mem_cons_of_mem _ (h3 d hd)⟩
    · rw [if_neg e] at hp
      have hh := headTail [] (cutAt_ne s r)
      rcases List.mem_cons.mp hp with rfl | hp
      · obtain ⟨h1, h2, h3⟩ := ih ((cutAt s r).headD []) (by rw [← hh]; simp)
        refine ⟨by simpa using h1, ?_, ?_⟩
        · intro q
          rcases List.mem_cons.mp q with q | q
          · exact e q.symm
          · exact h2 q
        · intro d hd
          rcases List.mem_cons.mp hd with rfl | hd
          · exact List.mem_cons_self
          · exact List.mem_cons_of_mem _ (h3 d hd)
      · obtain ⟨h1, h2, h3⟩ := ih p (by rw [← hh]; exact List.mem_cons_of_mem _ hp)
        exact ⟨by simp; omega, h2, fun d hd => List.mem_cons_of_mem _ (h3 d hd)⟩
theorem cutAt_count (s : Nat) : ∀ l, (cutAt s l).length = l.count s + 1
  | [] => by simp [cutAt]
  | c :: r => by
    have ih := cutAt_count s r
    rw [cutAt_cons]
    by_cases e : c = s
    · rw [if_pos e, e]
      simp [ih]
    · rw [if_neg e, List.count_cons_of_ne e]
      simp [ih]
/-- the parts' signs are all but the sign -/
theorem cutAt_flat (s : Nat) : ∀ l, (cutAt s l).flatten = l.filter (fun c => !decide (c = s))
  | [] => by simp [cutAt]
  | c :: r => by
    have ih := cutAt_flat s r
    rw [cutAt_cons]
    by_cases e : c = s
    · rw [if_pos e]
      simp [ih, e]
    · rw [if_neg e, List.flatten_cons, List.filter_cons]
      have hh := headTail [] (cutAt_ne s r)
      rw [← hh, List.flatten_cons] at ih
      simp only [decide_eq_false e, Bool.not_false, if_true]
      rw [← ih]
      simp
theorem ofS1 : Str.ofString "-" = ⟨#[45]⟩ ∧ Str.ofString "." = ⟨#[46]⟩ ∧ Str.ofString "/" = ⟨#[47]⟩ := by decide +kernel
end K21
set_option Elab.async false
set_option linter.all false
set_option maxRecDepth 100000
set_option maxHeartbeats 4000000
/-! k21: a day read -/
namespace K21
open PySem PySem.Spec PyProof.Rows L2 Bs Xg TL Xk K02
def ky (c : String) : Key := Sum.inr (Str.ofString c)
theorem merge3 {k1 k2 k3 : Key} {a b c : V} (n12 : k1 ≠ k2) (n13 : k1 ≠ k3) (n23 : k2 ≠ k3) : mergeK [] [(k1, a), (k2, b), (k3, c)] = [(k1, a), (k2, b), (k3, c)] := by
  simp [mergeK, putK, n12, n13, n23]
theorem ord_vals {o : Str} (h : IsOrd o) (a b c : Str) : ∃ kvs, mergeK [] ((o.cps.toList.map fun c => (Sum.inr (⟨#[c]⟩ : Str) : Key)).zip ([a, b, c].map V.str)) = kvs ∧
    valV kvs (ky "y") = some (.str (ord3 o [a, b, c]).1) ∧ valV kvs (ky "m") = some (.str (ord3 o [a, b, c]).2.1) ∧ valV kvs (ky "d") = some (.str (ord3 o [a, b, c]).2.2) := by
  have nym : ky "y" ≠ ky "m" := by decide +kernel
  have nyd : ky "y" ≠ ky "d" := by decide +kernel
  have nmd : ky "m" ≠ ky "d" := by decide +kernel
  have n1 : Str.ofString "dmy" ≠ Str.ofString "ymd" := by decide +kernel
  have n2 : Str.ofString "mdy" ≠ Str.ofString "ymd" := by decide +kernel
  have n3 : Str.ofString "mdy" ≠ Str.ofString "dmy" := by decide +kernel
  rcases h with rfl | rfl | rfl
  · have e : ((Str.ofString "ymd").cps.toList.map fun c => (Sum.inr (⟨#[c]⟩ : Str) : Key)) = [ky "y", ky "m", ky "d"] := by decide +kernel
    rw [e]
    refine ⟨_, merge3 nym nyd nmd, ?_, ?_, ?_⟩ <;> simp [valV, ord3, nym, nyd, nmd]
  · have e : ((Str.ofString "dmy").cps.toList.map fun c => (Sum.inr (⟨#[c]⟩ : Str) : Key)) = [ky "d", ky "m", ky "y"] := by decide +kernel
    rw [e]
    refine ⟨_, merge3 nmd.symm nyd.symm nym.symm, ?_, ?_, ?_⟩ <;> simp [valV, ord3, nym, nyd, nmd, nym.symm, nyd.symm, nmd.symm, n1]
  · have e : ((Str.ofString "mdy").cps.toList.map fun c => (Sum.inr (⟨#[c]⟩ : Str) : Key)) = [ky "m", ky "d", ky "y"] := by decide +kernel
    rw [e]
    refine ⟨_, merge3 nmd nym.symm nyd.symm, ?_, ?_, ?_⟩ <;> simp [valV, ord3, nym, nyd, nmd, nym.symm, nyd.symm, nmd.symm, n2, n3]
theorem ord_len {o : Str} (h : IsOrd o) : o.length = 3 := by
  rcases h with rfl | rfl | rfl <;> decide +kernel
theorem btw_at {i : Nat} {x : V} (h : (btw.map V.str)[i]? = some x) : ∃ s, s < 256 ∧ x = .str ⟨#[s]⟩ ∧ btw.drop i = (⟨#[s]⟩ : Str) :: btw.drop (i + 1) := by
  have e : btw = [⟨#[45]⟩, ⟨#[46]⟩, ⟨#[47]⟩] := by unfold btw; rw [ofS1.1, ofS1.2.1, ofS1.2.2]
  rw [e] at h ⊢
  match i, h with
  | 0, h => exact ⟨45, by decide, by simpa using h.symm, rfl⟩
  | 1, h => exact ⟨46, by decide, by simpa using h.symm, rfl⟩
  | 2, h => exact ⟨47, by decide, by simpa using h.symm, rfl⟩
  | n + 3, h => simp at h
theorem parts_le {z : Str} {s : Nat} (hs : s < 256) : ∀ p ∈ Txt.split z ⟨#[s]⟩, p.length ≤ z.length := by
  intro p hp
  rw [split_cut z hs] at hp
  obtain ⟨l, hl, rfl⟩ := List.mem_map.mp hp
  rw [S_len, len_tl]
  exact (cutAt_mem s _ l hl).1
section
variable {P : Program} {w : World} {K : PySem.W.Frag} {mg : Str → Option Value} {base : Heap}
variable {cM fLp fDi fAh fNu : Addr} {dLp dDi dAh dNu : FuncData} {cB fIF fRA fRD fDo fRs : Addr} {dIF dRA dRD dDo dRs : FuncData}
theorem scRD : FnScope ["text", "order", "sign", "parts"] ["text", "order"] (defScope sRD) := ⟨rfl, rfl, rfl, by decide +kernel, rfl, by decide +kernel, by decide +kernel⟩
def spRD : Sp := fun vs H Q _ => ∃ (z o : Str), vs = [.str z, .str o] ∧ z.length ≤ 400 ∧ IsOrd o ∧ ∀ H', Same H H' → Q (ov (dayS o z btw)) H'
theorem ok_readday (C : Cal K mg cM fLp fDi fAh fNu dLp dDi dAh dNu) (F : Frm K mg cB fIF fRA fRD fDo fRs dIF dRA dRD dDo dRs) (T : Free mg) : FnOk P w K mg base CX0 5 fRD dRD ["text", "order"] spRD := by
  have GDo : FnOk P w K mg base CX0 4 fDo dDo ["parts"] spDo := ok_dayof C F T
  have FDo := F.Do
  have bDo := F.bDo
  have gDo := F.gDo
  have gB := F.gB
  refine F.RD.ok scRD (fun vs H Q E h => ?_) (fun cdv A outer s H vs Q E hr h => ?_)
  · obtain ⟨z, o, rfl, _⟩ := h
    rfl
  · obtain ⟨z, o, rfl, zl, io, q⟩ := h
    refine ⟨_, pss_cons (ps_for PassesOwn.never rfl (pi_tup (pe_glob (v := V.ref cB) rfl gB rfl)) (pg_name (i := 2) scRD.nd rfl (Or.inl rfl)) (pss_cons (ps_set (i := 3) scRD.nd rfl (Or.inl rfl) (pe_split (pv 0) (pv 2)))
      (pss_one (ps_if (pt_cmpR op_eq (pe_callB call_len_seq (by rfl) T.len PySem.boot_len (pa_cons (pv 3) pa_nil)) (pe_callB call_len_str (by rfl) T.len PySem.boot_len (pa_cons (pv 1) pa_nil)) (nomark _)) (pss_one (ps_ret (pe_call GDo (hr.mono (by decide)) (by rfl) gDo FDo.kp bDo .nil pass0 (pa_cons (pe_dictZip rfl rfl T.dict rfl T.zip (pa_cons (pv 1) (pa_cons (pv 3) pa_nil))) pa_nil)))) (pss_nil)))))
      (pss_one (ps_ret pe_non)), ?_⟩
    refine ⟨cB, rfl, ⟨_, F.sB _⟩, for_tup (xs := btw.map V.str) (fun j σ G => Same H G ∧ (∃ u3 u4, σ = [some (.str z), some (.str o), u3, u4]) ∧ dayS o z (btw.drop j) = dayS o z btw) ⟨Same.refl _, ⟨none, none, rfl⟩, rfl⟩ (fun j σ G _ pv => F.sB _) ?_ ?_⟩
    · rintro j x σ G hx ⟨sG, ⟨u3, u4, rfl⟩, hd⟩
      obtain ⟨s1, s1l, rfl, e1⟩ := btw_at hx
      refine gN ?_
      try dsimp only
      refine ⟨_, rfl, ⟨_, rfl⟩, _, rfl, z, ⟨#[s1]⟩, rfl, rfl, rfl, Nat.le_trans (Nat.add_le_add_right zl 2) (by decide), fun t ht => ?_⟩
      have lo := ord_len io
      refine ⟨_, rfl, t, _, rfl, .inl (SqL.of upd_same), _, rfl, o, rfl, by rw [lo]; decide, ?_⟩
      refine ⟨rfl, _, rfl, ?_⟩
      have e3 : decide (V.int (((Txt.split z ⟨#[s1]⟩).map V.str).length : Nat) = V.int (o.length : Nat)) = decide ((Txt.split z ⟨#[s1]⟩).length = 3) := decide_eq_decide.mpr ⟨fun h => by have := V.int.inj h; rw [List.length_map, lo] at this; omega, fun h => congrArg V.int (by rw [List.length_map, lo]; omega)⟩
      rw [e3]
      have sT : Same H (upd G t (.lst ((Txt.split z ⟨#[s1]⟩).map V.str))) := sG.trans (Same.new ht)
      by_cases l3 : (Txt.split z ⟨#[s1]⟩).length = 3
      · rw [decide_eq_true l3]
        refine iteT ?_
        have hd' : dayQ o (Txt.split z ⟨#[s1]⟩) = dayS o z btw := by
          rw [← hd, e1]
          exact (if_pos l3).symm
        have pl := parts_le (z := z) s1l
        generalize Txt.split z ⟨#[s1]⟩ = parts at *
        obtain ⟨a, b, c, rfl⟩ : ∃ a b c, parts = [a, b, c] := by
          match parts, l3 with
          | [a, b, c], _ => exact ⟨a, b, c, rfl⟩
        obtain ⟨kvs, ek, vy, vm, vd⟩ := ord_vals io a b c
        have la : a.length ≤ 500 := Nat.le_trans (pl a (by simp)) (by omega)
        have lb : b.length ≤ 500 := Nat.le_trans (pl b (by simp)) (by omega)
        have lc : c.length ≤ 500 := Nat.le_trans (pl c (by simp)) (by omega)
        refine ⟨_, rfl, _, rfl, .str o, t, _, _, rfl, .inr ⟨o, rfl, ?_, rfl⟩, SqL.of upd_same, fun p np => ?_⟩
        · have : o.cps.size = 3 := lo
          rw [this]
          decide
        · rw [ek]
          have l1 : (ord3 o [a, b, c]).1.length ≤ 500 ∧ (ord3 o [a, b, c]).2.1.length ≤ 500 ∧ (ord3 o [a, b, c]).2.2.length ≤ 500 := by
            unfold ord3
            split
            · exact ⟨la, lb, lc⟩
            · split
              · exact ⟨lc, lb, la⟩
              · exact ⟨lc, la, lb⟩
          refine ⟨p, kvs, _, _, _, rfl, upd_same, vy, vm, vd, l1.1, l1.2.1, l1.2.2, fun G2 s2 => ?_⟩
          have z1 := q G2 ((sT.trans (Same.new np)).trans s2)
          rw [← hd'] at z1
          exact z1
      · rw [decide_eq_false l3]
        refine iteF ?_
        unfold tNext
        dsimp only
        refine ⟨sT, ⟨_, _, rfl⟩, ?_⟩
        rw [← hd, e1]
        exact (if_neg l3).symm
    · rintro σ G ⟨sG, _, hd⟩
      have z1 := q G sG
      rw [← hd] at z1
      exact z1
end
end K21
set_option Elab.async false
set_option linter.all false
set_option maxRecDepth 100000
set_option maxHeartbeats 4000000
/-! k21: read as a form tells -/
namespace K21
open PySem PySem.Spec PyProof.Rows L2 Bs Xg TL Xk K02
inductive Fm where
  | whole | amount (m : Nat) | day (o : Str)
def Fm.vals : Fm → List V
  | .whole => [.str "whole"]
  | .amount m => [.str "amount", .int (m : Int)]
  | .day o => [.str "day", .str o]
def Fm.ok : Fm → Prop
  | .whole => True
  | .amount m => 1 ≤ m ∧ m ≤ 4
  | .day o => IsOrd o
def readP (f : Fm) (z : Str) : Option Int :=
  match f with
  | .whole => due 0 (tl z)
  | .amount m => due m (tl z)
  | .day o => dayS o z btw
section
variable {P : Program} {w : World} {K : PySem.W.Frag} {mg : Str → Option Value} {base : Heap}
variable {cM fLp fDi fAh fNu : Addr} {dLp dDi dAh dNu : FuncData} {cB fIF fRA fRD fDo fRs : Addr} {dIF dRA dRD dDo dRs : FuncData}
theorem scRs : FnScope ["form", "text"] ["form", "text"] (defScope sRs) := ⟨rfl, rfl, rfl, by decide +kernel, rfl, by decide +kernel, by decide +kernel⟩
def spRs (K : PySem.W.Frag) : Sp := fun vs H Q _ => ∃ (p : Addr) (f : Fm) (z : Str), vs = [.ref p, .str z] ∧ SqT K H p f.vals ∧ f.ok ∧ z.length ≤ 400 ∧ ∀ H', Same H H' → Q (ov (readP f z)) H'
theorem ok_readas (C : Cal K mg cM fLp fDi fAh fNu dLp dDi dAh dNu) (F : Frm K mg cB fIF fRA fRD fDo fRs dIF dRA dRD dDo dRs) (T : Free mg) : FnOk P w K mg base CX0 6 fRs dRs ["form", "text"] (spRs K) := by
  have GRD : FnOk P w K mg base CX0 5 fRD dRD ["text", "order"] spRD := ok_readday C F T
  have FRD := F.RD
  have bRD := F.bRD
  have gRD := F.gRD
  have GRA : FnOk P w K mg base CX0 2 fRA dRA ["text", "most", "places"] spReadAm := ok_readam F.RA T F.IF F.bIF F.gIF
  have FRA := F.RA
  have bRA := F.bRA
  have gRA := F.gRA
  obtain ⟨t9, g9⟩ := F.g9
  obtain ⟨t8, g8⟩ := F.g8
  refine F.Rs.ok scRs (fun vs H Q E h => ?_) (fun cdv A outer s H vs Q E hr h => ?_)
  · obtain ⟨p, f, z, rfl, _⟩ := h
    rfl
  · obtain ⟨p, f, z, rfl, hp, fo, zl, q⟩ := h
    refine ⟨_, pss_cons (ps_if (pt_cmpR op_eq (pe_ix ix_tup (pv 0) pe_int (fun _ _ => rfl)) pe_str (nomark _)) (pss_one (ps_ret (pe_call GRA (hr.mono (by decide)) (by rfl) gRA FRA.kp bRA .nil pass0 (pa_cons (pv 1) (pa_cons (pe_glob (v := V.int 9) rfl g9 ⟨_, rfl⟩) (pa_cons pe_int pa_nil)))))) (pss_nil))
      (pss_cons (ps_if (pt_cmpR op_eq (pe_ix ix_tup (pv 0) pe_int (fun _ _ => rfl)) pe_str (nomark _)) (pss_one (ps_ret (pe_call GRA (hr.mono (by decide)) (by rfl) gRA FRA.kp bRA .nil pass0 (pa_cons (pv 1) (pa_cons (pe_glob (v := V.int 8) rfl g8 ⟨_, rfl⟩) (pa_cons (pe_ix ix_tup (pv 0) pe_int (fun _ _ => rfl)) pa_nil)))))) (pss_nil))
      (pss_one (ps_ret (pe_call GRD (hr.mono (by decide)) (by rfl) gRD FRD.kp bRD .nil pass0 (pa_cons (pv 1) (pa_cons (pe_ix ix_tup (pv 0) pe_int (fun _ _ => rfl)) pa_nil)))))), ?_⟩
    have d1 : V.str "amount" ≠ V.str "whole" := by decide +kernel
    have d2 : V.str "day" ≠ V.str "whole" := by decide +kernel
    have d3 : V.str "day" ≠ V.str "amount" := by decide +kernel
    cases f with
    | whole =>
      refine ⟨_, rfl, p, _, _, _, rfl, rfl, hp, rfl, ?_⟩
      refine ⟨rfl, _, rfl, ?_⟩
      rw [decide_eq_true rfl]
      exact iteT ⟨_, rfl, z, 0, rfl, by omega, by omega, q⟩
    | amount m =>
      obtain ⟨m1, m4⟩ := fo
      refine ⟨_, rfl, p, _, _, _, rfl, rfl, hp, rfl, ?_⟩
      refine ⟨rfl, _, rfl, ?_⟩
      rw [decide_eq_false d1]
      refine iteF ?_
      unfold tNext
      dsimp only
      refine ⟨_, rfl, p, _, _, _, rfl, rfl, hp, rfl, ?_⟩
      refine ⟨rfl, _, rfl, ?_⟩
      rw [decide_eq_true rfl]
      have cm : cap m = 8 := if_neg (by omega)
      refine iteT ⟨_, rfl, _, rfl, p, _, _, _, rfl, rfl, hp, rfl, z, m, ?_, by omega, m4, q⟩
      rw [cm]
      rfl
    | day o =>
      refine ⟨_, rfl, p, _, _, _, rfl, rfl, hp, rfl, ?_⟩
      refine ⟨rfl, _, rfl, ?_⟩
      rw [decide_eq_false d2]
      refine iteF ?_
      unfold tNext
      dsimp only
      refine ⟨_, rfl, p, _, _, _, rfl, rfl, hp, rfl, ?_⟩
      refine ⟨rfl, _, rfl, ?_⟩
      rw [decide_eq_false d3]
      refine iteF ?_
      try dsimp only
      exact ⟨_, rfl, _, rfl, p, _, _, _, rfl, rfl, hp, rfl, z, o, rfl, zl, fo, q⟩
end
end K21
set_option Elab.async false
set_option linter.all false
set_option maxRecDepth 100000
set_option maxHeartbeats 4000000
/-! k21: comprehensions of dicts -/
namespace K21
open PySem PySem.Spec PyProof.Rows L2 Bs Xg TL Xk Xl
theorem walk_zipTL {K : PySem.W.Frag} {a b : Addr} {xs ys : List V} {n : Nat} (hx : xs.length = n) (hy : ys.length = n) : Walk (ItTL K a b) n (fun H => SqT K H a xs ∧ SqL K H b ys) (YPair (fun i => xs[i]?) (fun i => ys[i]?)) := by
  refine ⟨fun i _ hi q => ⟨xs, ys, xs[i], ys[i], q.1, q.2, by simp [hx, hi], by simp [hy, hi]⟩, fun _ q => ⟨xs, ys, q.1, q.2, .inl ⟨hx.symm, by omega⟩⟩, fun i G x G' _ q y => ?_⟩
  obtain ⟨T, x1, y1, e1, e2, e3, e4, e5⟩ := y
  exact ⟨T, x1, y1, e1, e2, e3, e4 xs q.1, e5 ys q.2⟩
theorem putK_new {kvs : List (Key × V)} {k : Key} {v : V} (h : k ∉ kvs.map Prod.fst) : putK kvs k v = kvs ++ [(k, v)] := by
  unfold putK
  rw [if_neg]
  intro q
  rw [List.any_eq_true] at q
  obtain ⟨x, hx, e⟩ := q
  exact h (List.mem_map.mpr ⟨x, hx, of_decide_eq_true e⟩)
theorem merge_new : ∀ {more kvs : List (Key × V)}, ((kvs ++ more).map Prod.fst).Nodup → mergeK kvs more = kvs ++ more
  | [], kvs, _ => by simp [mergeK]
  | (k, v) :: r, kvs, h => by
    have hk : k ∉ kvs.map Prod.fst := by
      rw [List.map_append, List.nodup_append] at h
      intro q
      exact h.2.2 k q k (by simp) rfl
    show mergeK (putK kvs k v) r = _
    rw [putK_new hk, merge_new (by simpa using h)]
    simp
section
variable {J : It} {n : Nat} {Gd : Hp → Prop} {Y : Nat → Hp → V → Hp → Prop}
theorem dc_val (w : Walk J n Gd Y) {g : TG} {tk tv : TE} {vs : List Nat} {σ : L2.St} {H : Hp} {D : Addr} {Q : Hp → Prop} (kvs : List (Key × V)) (len : kvs.length = n) (nod : (kvs.map Prod.fst).Nodup) (nD : H D = none) (hG : ∀ G, Same H G → Gd G) (small : n < 100000)
    (turn : ∀ j k v x G G' (R : V → V → Hp → Prop) (N : Hp → Prop), kvs[j]? = some (k, v) → Same H G → Y j G x G' → (∀ G2, Same G G2 → R (kV k) v G2) → g x (wipe σ vs) G' fun σ2 H2 => wipe σ2 vs = wipe σ vs ∧ tYes σ2 H2 fun b H3 =>
      if b = true then tk σ2 H3 fun y H4 => tv σ2 H4 fun z H5 => R y z H5 else N H3)
    (fin : ∀ G, Same H G → G D = some (.dK kvs) → Q G) :
    ∃ W : Nat → Nat → Hp → Prop, (∃ m, W 0 m (upd H D (.dK []))) ∧ ∀ i m G, W i m G →
      (J.stop i G ∧ Q G) ∨ (J.go i G ∧ ∃ Nx : Hp → Prop, (∀ H', Nx H' → ∃ m', m' < m ∧ W (i + 1) m' H') ∧ ∀ x H', J.yld i G x H' → g x (wipe σ vs) H' fun σ2 H2 => wipe σ2 vs = wipe σ vs ∧ tYes σ2 H2 fun b H3 =>
        if b = true then tk σ2 H3 fun y H4 => tv σ2 H4 fun z H5 => ∃ kvs k, y = kV k ∧ H5 D = some (.dK kvs) ∧ kvs.length < sizeLine ∧ Nx (upd H5 D (.dK (putK kvs k z))) else Nx H3) := by
  refine ⟨fun i m G => m = n - i ∧ i ≤ n ∧ Same H G ∧ G D = some (.dK (kvs.take i)), ⟨n, by simp, Nat.zero_le _, Same.new nD, upd_same⟩, ?_⟩
  rintro i m G ⟨rfl, hi, sG, eD⟩
  have q := hG G sG
  by_cases hlt : i < n
  · refine .inr ⟨w.goes i G hlt q, fun G2 => Same H G2 ∧ G2 D = some (.dK (kvs.take (i + 1))), fun H' p' => ⟨n - (i + 1), by omega, rfl, hlt, p'⟩, fun x H' y => ?_⟩
    have hk : kvs[i]? = some kvs[i] := List.getElem?_eq_getElem (by omega)
    refine turn i kvs[i].1 kvs[i].2 x G H' _ _ hk sG (w.yields i G x H' hlt q y) fun G2 s2 => ⟨kvs.take i, kvs[i].1, rfl, s2 _ _ eD, ?_, fun b o e => ?_, ?_⟩
    · rw [List.length_take, sizeLine_eq]
      omega
    · rw [upd_ne (ne_of_none e nD)]
      exact s2 _ _ (sG b o e)
    · have tk1 : kvs.take (i + 1) = kvs.take i ++ [kvs[i]] := by rw [List.take_succ, hk]; rfl
      have nk : kvs[i].1 ∉ (kvs.take i).map Prod.fst := by
        have nod2 : ((kvs.take (i + 1)).map Prod.fst).Nodup := by
          rw [List.map_take]
          exact nod.sublist (List.take_sublist _ _)
        rw [tk1, List.map_append, List.nodup_append] at nod2
        exact fun z => nod2.2.2 _ z _ (by simp) rfl
      rw [upd_same, putK_new nk, tk1]
  · have e : i = n := by omega
    subst e
    refine .inl ⟨w.stops G q, fin G sG ?_⟩
    rw [eD, List.take_of_length_le (by omega)]
end
end K21
set_option Elab.async false
set_option linter.all false
set_option maxRecDepth 100000
set_option maxHeartbeats 4000000
/-! k21: what a step does: cut -/
namespace K21
open PySem PySem.Spec PyProof.Rows L2 Bs Xg TL Xk Xl K02
abbrev sCW : Stmt := top 19
abbrev sCu : Stmt := top 22
def os : Option Str → V
  | none => .non
  | some z => .str z
def sp : Str := Str.ofString " "
def cw (z : Str) : Option Str := if Txt.stripChars z sp = Str.empty then none else some (Txt.stripChars z sp)
def tk (x : Str) : Key := Sum.inr x
def cutP (news : List Str) (sign : Str) : Option Str → List (Key × V) × Bool
  | none => (news.map fun x => (tk x, .non), false)
  | some z => if (Txt.split z sign).length = news.length then ((news.map tk).zip ((Txt.split z sign).map fun y => os (cw y)), false) else (news.map fun x => (tk x, .non), true)
theorem List.getElem?_map_eq_some {α β : Type} {f : α → β} {l : List α} {j : Nat} {y : β} (h : (l.map f)[j]? = some y) : ∃ x, l[j]? = some x ∧ f x = y := by
  rw [List.getElem?_map] at h
  exact Option.map_eq_some_iff.mp h
/-- a pair of a new dict and a truth -/
def Res (H : Hp) (p : Addr) (r : List (Key × V) × Bool) : Prop := ∃ d, H d = some (.dK r.1) ∧ H p = some (.tup [.ref d, .bl r.2])
section
variable {P : Program} {w : World} {K : PySem.W.Frag} {mg : Str → Option Value} {base : Heap}
theorem scCW : FnScope ["text", "worth"] ["text"] (defScope sCW) := ⟨rfl, rfl, rfl, by decide +kernel, rfl, by decide +kernel, by decide +kernel⟩
def spCW : Sp := fun vs H Q _ => ∃ z : Str, vs = [.str z] ∧ z.length ≤ 500 ∧ Q (os (cw z)) H
theorem ok_cw {f : Addr} {fd : FuncData} (F : Fun K "cell_worth" "cell_worth" sCW f fd) : FnOk P w K mg base CX0 1 f fd ["text"] spCW := by
  refine F.ok scCW (fun vs H Q E h => ?_) (fun cdv A outer s H vs Q E hr h => ?_)
  · obtain ⟨z, rfl, _⟩ := h
    rfl
  · obtain ⟨z, rfl, zl, q⟩ := h
    refine ⟨_, pss_cons (ps_set (i := 1) scCW.nd rfl (Or.inl rfl) (pe_bm PySem.F.plainAttrs_str PySem.F.slot_str_strip PySem.F.type_str_strip mt_stripChars (pv 0) (pa_cons pe_str pa_nil)))
      (pss_one (ps_ret (pe_ifExp (pt_cmpR op_eq (pv 1) pe_str (nomark _)) pe_non (pv 1)))), ?_⟩
    refine ⟨_, rfl, rfl, _, _, rfl, rfl, Nat.le_trans zl (by decide), ?_⟩
    try dsimp only
    refine ⟨_, rfl, ?_⟩
    refine ⟨rfl, _, rfl, ?_⟩
    have ee : decide (V.str (Txt.stripChars z (Str.ofString " ")) = V.str (Str.ofString "")) = decide (Txt.stripChars z sp = Str.empty) := decide_eq_decide.mpr ⟨fun h => V.str.inj h, fun h => congrArg V.str h⟩
    rw [ee]
    unfold cw at q
    by_cases c : Txt.stripChars z sp = Str.empty
    · rw [decide_eq_true c]
      rw [if_pos c] at q
      exact iteT q
    · rw [decide_eq_false c]
      rw [if_neg c] at q
      exact iteF ⟨_, rfl, q⟩
abbrev nCu : List Str := ["step", "text", "_", "sign", "news", "parts", "new", "part"]
theorem scCu : FnScope nCu ["step", "text"] (defScope sCu) := ⟨rfl, rfl, rfl, by decide +kernel, rfl, by decide +kernel, by decide +kernel⟩
def spCu (K : PySem.W.Frag) : Sp := fun vs H Q _ => ∃ (p nw : Addr) (a b c : V) (s : Nat) (news : List Str) (x : Option Str), vs = [.ref p, os x] ∧ SqT K H p [a, b, c, .str ⟨#[s]⟩, .ref nw] ∧ SqT K H nw (news.map V.str) ∧ s < 256 ∧ news.Nodup ∧ news.length ≤ 4 ∧
  (∀ z, x = some z → z.length ≤ 400) ∧ ∀ t H', Same H H' → Res H' t (cutP news ⟨#[s]⟩ x) → Q (.ref t) H'
theorem ok_cut {f fCW : Addr} {fd dCW : FuncData} (F : Fun K "cut_done" "cut_done" sCu f fd) (T : Free mg) (FCW : Fun K "cell_worth" "cell_worth" sCW fCW dCW) (bCW : Binds K dCW ["text"] []) (gCW : mg "cell_worth" = some (.ref fCW)) :
    FnOk P w K mg base CX0 2 f fd ["step", "text"] (spCu K) := by
  have GCW : FnOk P w K mg base CX0 1 fCW dCW ["text"] spCW := ok_cw FCW
  refine F.ok scCu (fun vs H Q E h => ?_) (fun cdv A outer s H vs Q E hr h => ?_)
  · obtain ⟨p, nw, a, b, c, s, news, x, rfl, _⟩ := h
    rfl
  · obtain ⟨p, nw, a, b, c, s1, news, x, rfl, hp, hn, sl, nod, few, xl, q⟩ := h
    refine ⟨_, pss_cons (ps_asg (pv 0) (pg_tup rfl (pgs_cons (pg_name (i := 2) scCu.nd rfl (Or.inl rfl)) (pgs_cons (pg_name (i := 2) scCu.nd rfl (Or.inl rfl)) (pgs_cons (pg_name (i := 2) scCu.nd rfl (Or.inl rfl)) (pgs_cons (pg_name (i := 3) scCu.nd rfl (Or.inl rfl)) (pgs_cons (pg_name (i := 4) scCu.nd rfl (Or.inl rfl)) pgs_nil)))))))
      (pss_cons (ps_if (pt_cmpR op_isN (pv 1) pe_non (nomark _)) (pss_one (ps_ret (pe_tup (pa_cons (pe_dc (own := [("new", 6)]) (g := gName 6) (tt := tYes) rfl scCu.nd (pi_tup (pv 4)) (blkOk_by (own := [("new", 6)]) (N := nCu) (sc := defScope sCu) (by decide +kernel)) (fun _ _ _ _ _ => (pg_name (i := 6) scCu.nd rfl (Or.inl rfl))) (fun _ _ _ _ _ => pts_nil) (fun _ _ _ _ _ => (pv 6)) (fun _ _ _ _ _ => pe_non)) (pa_cons pe_bl pa_nil))))) (pss_nil))
      (pss_cons (ps_set (i := 5) scCu.nd rfl (Or.inl rfl) (pe_split (pv 1) (pv 3)))
      (pss_cons (ps_if (pt_cmpR op_ne (pe_callB call_len_seq (by rfl) T.len PySem.boot_len (pa_cons (pv 5) pa_nil)) (pe_callB call_len_seq (by rfl) T.len PySem.boot_len (pa_cons (pv 4) pa_nil)) (nomark _)) (pss_one (ps_ret (pe_tup (pa_cons (pe_dc (own := [("new", 6)]) (g := gName 6) (tt := tYes) rfl scCu.nd (pi_tup (pv 4)) (blkOk_by (own := [("new", 6)]) (N := nCu) (sc := defScope sCu) (by decide +kernel)) (fun _ _ _ _ _ => (pg_name (i := 6) scCu.nd rfl (Or.inl rfl))) (fun _ _ _ _ _ => pts_nil) (fun _ _ _ _ _ => (pv 6)) (fun _ _ _ _ _ => pe_non)) (pa_cons pe_bl pa_nil))))) (pss_nil))
      (pss_one (ps_ret (pe_tup (pa_cons (pe_dc (own := [("new", 6), ("part", 7)]) (g := gTup K 2 (gCons (gName 6) (gCons (gName 7) gNil))) (tt := tYes) rfl scCu.nd (pi_zipTL rfl T.zip (pa_cons (pv 4) (pa_cons (pv 5) pa_nil))) (blkOk_by (own := [("new", 6), ("part", 7)]) (N := nCu) (sc := defScope sCu) (by decide +kernel)) (fun _ _ _ _ _ => (pg_tup rfl (pgs_cons (pg_name (i := 6) scCu.nd rfl (Or.inl rfl)) (pgs_cons (pg_name (i := 7) scCu.nd rfl (Or.inl rfl)) pgs_nil)))) (fun _ _ _ _ _ => pts_nil) (fun _ _ _ _ _ => (pv 6)) (fun _ _ _ _ _ => (pe_call GCW (hr.mono (by decide)) (by rfl) gCW FCW.kp bCW .nil pass0 (pa_cons (pv 7) pa_nil)))) (pa_cons pe_bl pa_nil)))))))), ?_⟩
    refine ⟨_, rfl, p, _, rfl, hp, rfl, _, _, rfl, ?_⟩
    refine ⟨_, _, rfl, ?_⟩
    refine ⟨_, _, rfl, ?_⟩
    refine ⟨_, _, rfl, ?_⟩
    refine ⟨_, _, rfl, ?_⟩
    refine ⟨rfl, ?_⟩
    try dsimp only
    refine ⟨_, rfl, rfl, _, rfl, ?_⟩
    have nodK : (news.map tk).Nodup := List.pairwise_map.mpr (nod.imp fun h e => h (Sum.inr.inj e))
    have s0 : Same H H := Same.refl H
    cases x with
    | none =>
      rw [decide_eq_true (show os none = V.non from rfl)]
      refine iteT ?_
      refine ⟨_, rfl, nw, rfl, ⟨_, sameT s0 hn⟩, fun D nD => ?_⟩
      refine dc_val (walk_tup (K := K) (a := nw) (xs := news.map V.str)) (news.map fun x => (tk x, .non)) (by simp) (by simpa [Function.comp_def] using nodK) nD (fun G s => sameT (s0.trans s) hn) (by rw [List.length_map]; omega) ?_ ?_
      · rintro j k v x G G' R N hk sG hy r
        obtain ⟨rfl, hx⟩ := hy
        obtain ⟨y, hy, ek⟩ := List.getElem?_map_eq_some hk
        rw [List.getElem?_map, hy] at hx
        cases hx
        cases ek
        refine gN ⟨rfl, yes ⟨_, rfl, r _ (Same.refl _)⟩⟩
      · intro G sG eD
        refine (show 2 ≤ sizeLine ∧ ∀ t : Addr, G t = none → Q (.ref t) (upd G t (.tup [.ref D, .bl false])) from ⟨by decide, fun t ht => ?_⟩)
        exact q t _ ((s0.trans sG).trans (Same.new ht)) ⟨D, (upd_ne (ne_of_none eD ht)).trans eD, upd_same⟩
    | some z =>
      have zl := xl z rfl
      rw [decide_eq_false (show ¬ os (some z) = V.non from fun h => nomatch h)]
      refine iteF ?_
      unfold tNext
      dsimp only
      refine ⟨_, rfl, ⟨_, rfl⟩, _, rfl, z, ⟨#[s1]⟩, rfl, rfl, rfl, Nat.le_trans (Nat.add_le_add_right zl 2) (by decide), fun D0 n0 => ?_⟩
      have sT : Same H (upd H D0 (.lst ((Txt.split z ⟨#[s1]⟩).map V.str))) := Same.new n0
      refine ⟨_, rfl, D0, _, rfl, .inl (SqL.of upd_same), _, rfl, nw, _, rfl, .inr (sameT sT hn), ?_⟩
      refine ⟨rfl, _, rfl, ?_⟩
      have ee : decide (V.int (((Txt.split z ⟨#[s1]⟩).map V.str).length : Nat) = V.int ((news.map V.str).length : Nat)) = decide ((Txt.split z ⟨#[s1]⟩).length = news.length) := decide_eq_decide.mpr ⟨fun h => by have := V.int.inj h; rw [List.length_map, List.length_map] at this; omega, fun h => congrArg V.int (by rw [List.length_map, List.length_map]; omega)⟩
      rw [ee]
      by_cases el : (Txt.split z ⟨#[s1]⟩).length = news.length
      · rw [decide_eq_true el]
        refine iteF ?_
        dsimp only
        have eP : cutP news ⟨#[s1]⟩ (some z) = ((news.map tk).zip ((Txt.split z ⟨#[s1]⟩).map fun y => os (cw y)), false) := if_pos el
        rw [eP] at q
        have pl := parts_le (z := z) sl
        generalize Txt.split z ⟨#[s1]⟩ = parts at *
        refine ⟨_, rfl, _, rfl, nw, D0, _, _, rfl, sameT sT hn, SqL.of upd_same, fun D nD => ?_⟩
        refine dc_val (walk_zipTL (K := K) (a := nw) (b := D0) (n := news.length) (List.length_map _) ((List.length_map _).trans el)) ((news.map tk).zip (parts.map fun y => os (cw y))) (by simp [el]) ?_ nD (fun G s => ⟨sameT (sT.trans s) hn, SqL.of (s _ _ upd_same)⟩) (by omega) ?_ ?_
        · rw [List.map_fst_zip (by simp [el])]
          exact nodK
        · rintro j k v x G G' R N hk sG ⟨TT, x1, y1, rfl, nT, rfl, e1, e2⟩ r
          obtain ⟨h1, h2⟩ := List.getElem?_zip_eq_some.mp hk
          replace e1 : (news.map V.str)[j]? = some x1 := e1
          replace e2 : (parts.map V.str)[j]? = some y1 := e2
          rw [List.getElem?_map] at h1 h2 e1 e2
          obtain ⟨a1, ha, rfl⟩ := Option.map_eq_some_iff.mp h1
          obtain ⟨b1, hb, rfl⟩ := Option.map_eq_some_iff.mp h2
          rw [ha] at e1
          rw [hb] at e2
          cases e1
          cases e2
          refine ⟨TT, _, rfl, SqT.of upd_same, rfl, _, _, rfl, ?_⟩
          refine ⟨_, _, rfl, ?_⟩
          refine ⟨rfl, rfl, yes ⟨_, rfl, _, rfl, b1, rfl, ?_, r _ (Same.new nT)⟩⟩
          exact Nat.le_trans (pl b1 (List.mem_of_getElem? hb)) (by omega)
        · intro G sG eD
          refine (show 2 ≤ sizeLine ∧ ∀ t : Addr, G t = none → Q (.ref t) (upd G t (.tup [.ref D, .bl false])) from ⟨by decide, fun t ht => ?_⟩)
          exact q t _ ((sT.trans sG).trans (Same.new ht)) ⟨D, (upd_ne (ne_of_none eD ht)).trans eD, upd_same⟩
      · rw [decide_eq_false el]
        refine iteT ?_
        have eP : cutP news ⟨#[s1]⟩ (some z) = (news.map fun x => (tk x, .non), true) := if_neg el
        rw [eP] at q
        refine ⟨_, rfl, nw, rfl, ⟨_, sameT sT hn⟩, fun D nD => ?_⟩
        refine dc_val (walk_tup (K := K) (a := nw) (xs := news.map V.str)) (news.map fun x => (tk x, .non)) (by simp) (by simpa [Function.comp_def] using nodK) nD (fun G s => sameT (sT.trans s) hn) (by rw [List.length_map]; omega) ?_ ?_
        · rintro j k v x G G' R N hk sG hy r
          obtain ⟨rfl, hx⟩ := hy
          obtain ⟨y, hy, ek⟩ := List.getElem?_map_eq_some hk
          rw [List.getElem?_map, hy] at hx
          cases hx
          cases ek
          refine gN ⟨rfl, yes ⟨_, rfl, r _ (Same.refl _)⟩⟩
        · intro G sG eD
          refine (show 2 ≤ sizeLine ∧ ∀ t : Addr, G t = none → Q (.ref t) (upd G t (.tup [.ref D, .bl true])) from ⟨by decide, fun t ht => ?_⟩)
          exact q t _ ((sT.trans sG).trans (Same.new ht)) ⟨D, (upd_ne (ne_of_none eD ht)).trans eD, upd_same⟩
end
end K21
set_option Elab.async false
set_option linter.all false
set_option maxRecDepth 100000
set_option maxHeartbeats 4000000
/-! k21: what a step does: glue, spell, read -/
namespace K21
open PySem PySem.Spec PyProof.Rows L2 Bs Xg TL Xk Xl K02
abbrev sGl : Stmt := top 23
abbrev sSp : Stmt := top 24
abbrev sRdn : Stmt := top 25
abbrev sMe : Stmt := top 26
section
variable {J : It} {n : Nat} {Gd : Hp → Prop} {Y : Nat → Hp → V → Hp → Prop} {α : Type}
theorem lc_fm (w : Walk J n Gd Y) {g : TG} {tt : TT} {te : TE} {vs : List Nat} {σ : L2.St} {H : Hp} {D : Addr} {Q : Hp → Prop} (xs : List α) (f : α → Option V) (len : xs.length = n) (nD : H D = none) (hG : ∀ G, Same H G → Gd G) (small : n < 100000)
    (turn : ∀ j a x G G' (R : V → Hp → Prop) (N : Hp → Prop), xs[j]? = some a → Same H G → Y j G x G' → (∀ v, f a = some v → ∀ G2, Same G G2 → R v G2) → (f a = none → ∀ G2, Same G G2 → N G2) → g x (wipe σ vs) G' fun σ2 H2 => wipe σ2 vs = wipe σ vs ∧ tt σ2 H2 fun b H3 =>
      if b = true then te σ2 H3 R else N H3)
    (fin : ∀ G, Same H G → G D = some (.lst (xs.filterMap f)) → Q G) :
    ∃ W : Nat → Nat → Hp → Prop, (∃ m, W 0 m (upd H D (.lst []))) ∧ ∀ i m G, W i m G →
      (J.stop i G ∧ Q G) ∨ (J.go i G ∧ ∃ Nx : Hp → Prop, (∀ H', Nx H' → ∃ m', m' < m ∧ W (i + 1) m' H') ∧ ∀ x H', J.yld i G x H' → g x (wipe σ vs) H' fun σ2 H2 => wipe σ2 vs = wipe σ vs ∧ tt σ2 H2 fun b H3 =>
        if b = true then te σ2 H3 fun y H4 => ∃ acc, H4 D = some (.lst acc) ∧ acc.length < sizeLine ∧ Nx (upd H4 D (.lst (acc ++ [y]))) else Nx H3) := by
  refine lc_it w (fun j G => Same H G ∧ G D = some (.lst ((xs.take j).filterMap f))) ⟨Same.new nD, by rw [List.take_zero]; exact upd_same⟩ (fun j G _ q => hG G q.1) ?_ ?_
  · rintro j x G G' hj ⟨sG, eD⟩ hy
    have hk : xs[j]? = some xs[j] := List.getElem?_eq_getElem (by omega)
    have tk : xs.take (j + 1) = xs.take j ++ [xs[j]] := by rw [List.take_succ, hk]; rfl
    refine turn j xs[j] x G G' _ _ hk sG hy (fun v hv G2 s2 => ⟨_, s2 _ _ eD, ?_, fun b o e => ?_, ?_⟩) (fun hv G2 s2 => ⟨sG.trans s2, ?_⟩)
    · have := List.length_filterMap_le f (xs.take j)
      rw [List.length_take] at this
      rw [sizeLine_eq]
      omega
    · rw [upd_ne (ne_of_none e nD)]
      exact s2 _ _ (sG b o e)
    · rw [upd_same, tk, List.filterMap_append]
      simp [hv]
    · rw [s2 _ _ eD, tk, List.filterMap_append]
      simp [hv]
  · rintro G ⟨sG, eD⟩
    rw [List.take_of_length_le (by omega)] at eD
    exact fin G sG eD
end
/-- a row: what stands at each column -/
def gluedP (f : Str → Option Str) (cols : List Str) (sep : Str) : Option Str := if cols.filterMap f = [] then none else some (Txt.join sep (cols.filterMap f))
section
variable {P : Program} {w : World} {K : PySem.W.Frag} {mg : Str → Option Value} {base : Heap}
abbrev nGl : List Str := ["step", "worths", "texts", "column"]
theorem scGl : FnScope nGl ["step", "worths"] (defScope sGl) := ⟨rfl, rfl, rfl, by decide +kernel, rfl, by decide +kernel, by decide +kernel⟩
def spGl (K : PySem.W.Frag) : Sp := fun vs H Q _ => ∃ (p r cs : Addr) (a b d : V) (sep : Str) (cols : List Str) (row : List (Key × V)) (f : Str → Option Str), vs = [.ref p, .ref r] ∧ SqT K H p [a, b, .ref cs, .str sep, d] ∧ SqT K H cs (cols.map V.str) ∧ H r = some (.dK row) ∧
  (∀ c ∈ cols, valV row (tk c) = some (os (f c)) ∧ ∀ z, f c = some z → z.length ≤ 400) ∧ sep.length ≤ 1 ∧ cols.length ≤ 4 ∧ ∀ H', Same H H' → Q (os (gluedP f cols sep)) H'
theorem ok_glued {f : Addr} {fd : FuncData} (F : Fun K "glued" "glued" sGl f fd) (T : Free mg) : FnOk P w K mg base CX0 1 f fd ["step", "worths"] (spGl K) := by
  refine F.ok scGl (fun vs H Q E h => ?_) (fun cdv A outer s H vs Q E hr h => ?_)
  · obtain ⟨p, r, cs, a, b, d, sep, cols, row, f, rfl, _⟩ := h
    rfl
  · obtain ⟨p, r, cs, a, b, d, sep, cols, row, f, rfl, hp, hc, hrow, hv, sl, cl, q⟩ := h
    refine ⟨_, pss_cons (ps_setLc (i := 2) (own := [("column", 3)]) (g := gName 3) (tt := tTest (tOp (fun x y H Q => y = .non ∧ Q (.bl (!decide (x = .non))) H) (tDGet (tVar 1) (tVar 3)) (tC .non))) rfl scGl.nd rfl rfl (sw_true rfl rfl rfl rfl) (pi_tup (pe_ix ix_tup (pv 0) pe_int (fun _ _ => rfl))) (blkOk_by (own := [("column", 3)]) (N := nGl) (sc := defScope sGl) (by decide +kernel)) (fun _ _ _ _ _ => (pg_name (i := 3) scGl.nd rfl (Or.inl rfl))) (fun _ _ _ _ _ => pts_one (pt_cmpR op_notN (pe_dget (u1 hr.units) (pv 1) (pv 3) (fun _ _ => rfl)) pe_non (nomark _))) (fun _ _ _ _ _ => (pe_dget (u1 hr.units) (pv 1) (pv 3) (fun _ _ => rfl))))
      (pss_one (ps_ret (pe_ifExp (pt_cmpR op_eq (pe_callB call_len_seq (by rfl) T.len PySem.boot_len (pa_cons (pv 2) pa_nil)) pe_int (nomark _)) pe_non (pe_join (pe_ix ix_tup (pv 0) pe_int (fun _ _ => rfl)) (pv 2))))), ?_⟩
    refine ⟨_, rfl, p, _, _, _, rfl, rfl, hp, rfl, cs, rfl, ⟨_, hc⟩, fun D nD => ?_⟩
    refine lc_fm (walk_tup (K := K) (a := cs) (xs := cols.map V.str)) cols (fun c => (f c).map V.str) (by simp) nD (fun G s => sameT s hc) (by simp; omega) ?_ ?_
    · rintro j c1 x G G' R N hk sG ⟨rfl, hx⟩ keep drop
      rw [List.getElem?_map, hk] at hx
      cases hx
      have hm := hv c1 (List.mem_of_getElem? hk)
      have dg : DGet G' r (.str c1) (some (os (f c1))) := hm.1 ▸ DGet.k (k := tk c1) (sG _ _ hrow)
      refine gN ⟨rfl, ?_⟩
      refine ⟨_, rfl, _, rfl, r, _, rfl, dg, rfl, _, rfl, ?_⟩
      cases ef : f c1 with
      | none =>
        rw [decide_eq_true (show os none = V.non from rfl)]
        exact drop (by rw [ef]; rfl) _ (Same.refl _)
      | some z1 =>
        rw [decide_eq_false (show ¬ os (some z1) = V.non from fun h => nomatch h)]
        rw [ef] at dg
        exact ⟨_, rfl, _, rfl, r, _, rfl, dg, keep _ (by rw [ef]; rfl) _ (Same.refl _)⟩
    · intro G sG eD
      have eL : cols.filterMap (fun c => (f c).map V.str) = (cols.filterMap f).map V.str := by
        rw [List.map_filterMap]
      rw [eL] at eD
      try dsimp only
      refine ⟨_, rfl, D, _, rfl, .inl (SqL.of eD), ?_⟩
      refine ⟨rfl, _, rfl, ?_⟩
      have z1 := q G sG
      unfold gluedP at z1
      have ee : decide (V.int (((cols.filterMap f).map V.str).length : Nat) = V.int 0) = decide (cols.filterMap f = []) := decide_eq_decide.mpr ⟨fun h => by have := V.int.inj h; rw [List.length_map] at this; exact List.length_eq_zero_iff.mp (by omega), fun h => by rw [h]; rfl⟩
      rw [ee]
      by_cases c0 : cols.filterMap f = []
      · rw [decide_eq_true c0]
        rw [if_pos c0] at z1
        exact iteT z1
      · rw [decide_eq_false c0]
        rw [if_neg c0] at z1
        refine iteF ⟨_, rfl, p, _, _, _, rfl, rfl, sameT sG hp, rfl, ⟨_, rfl⟩, _, rfl, sep, D, cols.filterMap f, rfl, rfl, .inl (SqL.of eD), ?_, z1⟩
        have fl : (cols.filterMap f).length ≤ 4 := Nat.le_trans (List.length_filterMap_le _ _) cl
        have fz : ∀ x ∈ cols.filterMap f, x.length ≤ 400 := by
          intro x hx
          obtain ⟨c2, h2, e2⟩ := List.mem_filterMap.mp hx
          exact (hv c2 h2).2 x e2
        have fs : ∀ l : List Str, (∀ x ∈ l, x.length ≤ 400) → (l.map (·.length)).sum ≤ l.length * 400 := by
          intro l
          induction l with
          | nil => intro _; simp
          | cons x l ih =>
            intro h
            have h1 := h x (by simp)
            have h2 := ih fun y hy => h y (by simp [hy])
            simp only [List.map_cons, List.sum_cons, List.length_cons]
            omega
        have s1 := fs _ fz
        have s2 : (cols.filterMap f).length * sep.length ≤ 4 * 1 := Nat.mul_le_mul fl sl
        omega
end
end K21
set_option Elab.async false
set_option linter.all false
set_option maxRecDepth 100000
set_option maxHeartbeats 4000000
/-! k21: what a step does: spell, read -/
namespace K21
open PySem PySem.Spec PyProof.Rows L2 Bs Xg TL Xk Xl K02
def spellP (x : Option Str) : List (Str × Option Str) → Option Str
  | [] => x
  | p :: r => if os x = .str p.1 then p.2 else spellP x r
/-- a tuple of pairs -/
def Pairs (K : PySem.W.Frag) (H : Hp) (a : Addr) (ps : List (Str × Option Str)) : Prop := ∃ qs : List Addr, qs.length = ps.length ∧ SqT K H a (qs.map V.ref) ∧ ∀ (j : Nat) (q : Addr) (p : Str × Option Str), qs[j]? = some q → ps[j]? = some p → SqT K H q [.str p.1, os p.2]
section
variable {P : Program} {w : World} {K : PySem.W.Frag} {mg : Str → Option Value} {base : Heap}
variable {cM fLp fDi fAh fNu : Addr} {dLp dDi dAh dNu : FuncData} {cB fIF fRA fRD fDo fRs : Addr} {dIF dRA dRD dDo dRs : FuncData}
theorem Pairs.same {H H' : Hp} {a : Addr} {ps : List (Str × Option Str)} (s : Same H H') (h : Pairs K H a ps) : Pairs K H' a ps := by
  obtain ⟨qs, l, h1, h2⟩ := h
  exact ⟨qs, l, sameT s h1, fun j q p e1 e2 => sameT s (h2 j q p e1 e2)⟩
theorem scSp : FnScope ["step", "text", "one", "other"] ["step", "text"] (defScope sSp) := ⟨rfl, rfl, rfl, by decide +kernel, rfl, by decide +kernel, by decide +kernel⟩
def spSp (K : PySem.W.Frag) : Sp := fun vs H Q _ => ∃ (p ts : Addr) (a b c : V) (ps : List (Str × Option Str)) (x : Option Str), vs = [.ref p, os x] ∧ SqT K H p [a, b, c, .ref ts] ∧ Pairs K H ts ps ∧ ∀ H', Same H H' → Q (os (spellP x ps)) H'
theorem ok_spelled {f : Addr} {fd : FuncData} (F : Fun K "spelled" "spelled" sSp f fd) : FnOk P w K mg base CX0 1 f fd ["step", "text"] (spSp K) := by
  refine F.ok scSp (fun vs H Q E h => ?_) (fun cdv A outer s H vs Q E hr h => ?_)
  · obtain ⟨p, ts, a, b, c, ps, x, rfl, _⟩ := h
    rfl
  · obtain ⟨p, ts, a, b, c, ps, x, rfl, hp, ⟨qs, lq, hq, hqs⟩, q⟩ := h
    refine ⟨_, pss_cons (ps_for PassesOwn.never rfl (pi_tup (pe_ix ix_tup (pv 0) pe_int (fun _ _ => rfl))) (pg_tup rfl (pgs_cons (pg_name (i := 2) scSp.nd rfl (Or.inl rfl)) (pgs_cons (pg_name (i := 3) scSp.nd rfl (Or.inl rfl)) pgs_nil))) (pss_one (ps_if (pt_cmpR op_eq (pv 2) (pv 1) (nomark _)) (pss_one (ps_ret (pv 3))) (pss_nil))))
      (pss_one (ps_ret (pv 1))), ?_⟩
    refine ⟨_, rfl, p, _, _, _, rfl, rfl, hp, rfl, ts, rfl, ⟨_, hq⟩, for_tup (xs := qs.map V.ref) (fun j σ G => Same H G ∧ (∃ u2 u3, σ = [some (.ref p), some (os x), u2, u3]) ∧ spellP x (ps.drop j) = spellP x ps) ⟨Same.refl _, ⟨none, none, rfl⟩, rfl⟩ (fun j σ G _ pv => sameT pv.1 hq) ?_ ?_⟩
    · rintro j x1 σ G hx ⟨sG, ⟨u2, u3, rfl⟩, hd⟩
      obtain ⟨q1, hq1, rfl⟩ := List.getElem?_map_eq_some hx
      have jl : j < ps.length := by
        rw [← lq]
        exact (List.getElem?_eq_some_iff.mp hq1).1
      have hp1 : ps[j]? = some ps[j] := List.getElem?_eq_getElem jl
      have e1 : ps.drop j = ps[j] :: ps.drop (j + 1) := List.drop_eq_getElem_cons jl
      have hT := sameT sG (hqs j q1 _ hq1 hp1)
      refine ⟨q1, _, rfl, hT, rfl, _, _, rfl, ?_⟩
      refine ⟨_, _, rfl, ?_⟩
      refine ⟨rfl, ?_⟩
      try dsimp only
      refine ⟨_, rfl, _, rfl, ?_⟩
      refine ⟨?_, _, rfl, ?_⟩
      · cases x <;> rfl
      have ee : decide (V.str ps[j].1 = os x) = decide (os x = .str ps[j].1) := decide_eq_decide.mpr ⟨fun h => h.symm, fun h => h.symm⟩
      rw [ee]
      by_cases c1 : os x = .str ps[j].1
      · rw [decide_eq_true c1]
        refine iteT ⟨_, rfl, ?_⟩
        have z := q G sG
        rw [← hd, e1] at z
        unfold spellP at z
        rw [if_pos c1] at z
        exact z
      · rw [decide_eq_false c1]
        refine iteF ?_
        unfold tNext
        dsimp only
        refine ⟨sG, ⟨_, _, rfl⟩, ?_⟩
        rw [← hd, e1]
        exact (if_neg c1).symm
    · rintro σ G ⟨sG, ⟨u2, u3, rfl⟩, hd⟩
      have z := q G sG
      rw [← hd, List.length_map, lq, List.drop_length] at z
      exact ⟨_, rfl, z⟩
theorem upd2 {H : Hp} {D : Addr} {o o' : HO} (n : H D = none) : Same H (upd (upd H D o) D o') := fun b u e => by rw [upd_ne (ne_of_none e n), upd_ne (ne_of_none e n)]; exact e
def readDP (f : Fm) (new : Str) : Option Str → List (Key × V) × Bool
  | none => ([(tk new, .non)], false)
  | some z => ([(tk new, ov (readP f z))], (readP f z).isNone)
theorem scRdn : FnScope ["step", "text", "number"] ["step", "text"] (defScope sRdn) := ⟨rfl, rfl, rfl, by decide +kernel, rfl, by decide +kernel, by decide +kernel⟩
def spRdn (K : PySem.W.Frag) : Sp := fun vs H Q _ => ∃ (p fo : Addr) (a b c : V) (f : Fm) (new : Str) (x : Option Str), vs = [.ref p, os x] ∧ SqT K H p [a, b, c, .ref fo, .str new] ∧ SqT K H fo f.vals ∧ f.ok ∧ (∀ z, x = some z → z.length ≤ 400) ∧
  ∀ t H', Same H H' → Res H' t (readDP f new x) → Q (.ref t) H'
theorem ok_rdn {f : Addr} {fd : FuncData} (F0 : Fun K "read_done" "read_done" sRdn f fd) (C : Cal K mg cM fLp fDi fAh fNu dLp dDi dAh dNu) (F : Frm K mg cB fIF fRA fRD fDo fRs dIF dRA dRD dDo dRs) (T : Free mg) : FnOk P w K mg base CX0 7 f fd ["step", "text"] (spRdn K) := by
  have GRs : FnOk P w K mg base CX0 6 fRs dRs ["form", "text"] (spRs K) := ok_readas C F T
  have FRs := F.Rs
  have bRs := F.bRs
  have gRs := F.gRs
  refine F0.ok scRdn (fun vs H Q E h => ?_) (fun cdv A outer s H vs Q E hr h => ?_)
  · obtain ⟨p, fo, a, b, c, f, new, x, rfl, _⟩ := h
    rfl
  · obtain ⟨p, fo, a, b, c, f, new, x, rfl, hp, hf, fok, xl, q⟩ := h
    refine ⟨_, pss_cons (ps_if (pt_cmpR op_isN (pv 1) pe_non (nomark _)) (pss_one (ps_ret (pe_tup (pa_cons (pe_disp (pps_cons (pe_ix ix_tup (pv 0) pe_int (fun _ _ => rfl)) pe_non pps_nil) (by rfl) (by rfl) (fun z => by cases z) (by decide)) (pa_cons pe_bl pa_nil))))) (pss_nil))
      (pss_cons (ps_set (i := 2) scRdn.nd rfl (Or.inl rfl) (pe_call GRs (hr.mono (by decide)) (by rfl) gRs FRs.kp bRs .nil pass0 (pa_cons (pe_ix ix_tup (pv 0) pe_int (fun _ _ => rfl)) (pa_cons (pv 1) pa_nil))))
      (pss_one (ps_ret (pe_tup (pa_cons (pe_disp (pps_cons (pe_ix ix_tup (pv 0) pe_int (fun _ _ => rfl)) (pv 2) pps_nil) (by rfl) (by rfl) (fun z => by cases z) (by decide)) (pa_cons (pe_cmpR op_isN (pv 2) pe_non (nomark _)) pa_nil)))))), ?_⟩
    refine ⟨_, rfl, rfl, _, rfl, ?_⟩
    cases x with
    | none =>
      rw [decide_eq_true (show os none = V.non from rfl)]
      refine iteT ?_
      refine fun D nD => ⟨_, rfl, p, _, _, _, rfl, rfl, sameT (Same.new nD) hp, rfl, ?_⟩
      refine ⟨upd_same, [(tk new, .non)], rfl, (show 1 ≤ 15 by decide), ?_⟩
      refine ⟨(show 2 ≤ sizeLine by decide), fun t ht => ?_⟩
      refine q t _ ((upd2 nD).trans (Same.new ht)) ⟨D, (upd_ne (ne_of_none upd_same ht)).trans upd_same, upd_same⟩
    | some z =>
      rw [decide_eq_false (show ¬ os (some z) = V.non from fun h => nomatch h)]
      refine iteF ?_
      unfold tNext
      dsimp only
      refine ⟨_, rfl, p, _, _, _, rfl, rfl, hp, rfl, _, rfl, fo, f, z, rfl, hf, fok, xl z rfl, fun G sG => ?_⟩
      refine gN ?_
      try dsimp only
      refine fun D nD => ⟨_, rfl, p, _, _, _, rfl, rfl, sameT (sG.trans (Same.new nD)) hp, rfl, ?_⟩
      refine ⟨_, rfl, ?_⟩
      refine ⟨upd_same, [(tk new, ov (readP f z))], rfl, (show 1 ≤ 15 by decide), ?_⟩
      refine ⟨_, rfl, rfl, ?_⟩
      refine ⟨(show 2 ≤ sizeLine by decide), fun t ht => ?_⟩
      refine q t _ (sG.trans ((upd2 nD).trans (Same.new ht))) ⟨D, (upd_ne (ne_of_none upd_same ht)).trans upd_same, upd_same.trans ?_⟩
      have eb : decide (ov (readP f z) = V.non) = (readP f z).isNone := by
        cases readP f z with
        | none => exact decide_eq_true rfl
        | some i => exact decide_eq_false (fun h => nomatch h)
      rw [eb]
      rfl
end
end K21
set_option Elab.async false
set_option linter.all false
set_option maxRecDepth 100000
set_option maxHeartbeats 4000000
/-! k21: is a step met -/
namespace K21
open PySem PySem.Spec PyProof.Rows L2 Bs Xg TL Xk Xl K02
def like : V → V → Prop
  | .int _, .int _ => True
  | .str _, .str _ => True
  | _, _ => False
def ltV : V → V → Bool
  | .int i, .int j => decide (i < j)
  | .str a, .str b => decide (a.cps.toList < b.cps.toList)
  | _, _ => false
def leV (a b : V) : Bool := !ltV b a
def rLt : R2 := fun x y H Q => like x y ∧ Q (.bl (ltV x y)) H
def rLe : R2 := fun x y H Q => like x y ∧ Q (.bl (leV x y)) H
section
variable {X : Cx}
theorem op_ltA : OpR X (compareOp .Lt) K21.rLt := by
  intro pins s σ H x y v u Q I rx ry h
  obtain ⟨hl, q⟩ := h
  cases x <;> cases y <;> try exact hl.elim
  · exact op_lt pins s σ H _ _ v u Q I rx ry ⟨_, _, rfl, rfl, q⟩
  · exact op_lt_str pins s σ H _ _ v u Q I rx ry ⟨_, _, rfl, rfl, q⟩
theorem op_leA : OpR X (compareOp .LtE) K21.rLe := by
  intro pins s σ H x y v u Q I rx ry h
  obtain ⟨hl, q⟩ := h
  cases x <;> cases y <;> try exact hl.elim
  · rename_i i j
    refine op_le pins s σ H _ _ v u Q I rx ry ⟨_, _, rfl, rfl, ?_⟩
    have e : decide (i ≤ j) = leV (.int i) (.int j) := by
      show _ = !decide (j < i)
      by_cases c : j < i
      · rw [decide_eq_true c, decide_eq_false (by omega)]
        rfl
      · rw [decide_eq_false c, decide_eq_true (by omega)]
        rfl
    show Q (.bl (decide (i ≤ j))) H
    rw [e]
    exact q
  · exact op_le_str pins s σ H _ _ v u Q I rx ry ⟨_, _, rfl, rfl, q⟩
end
inductive Mt where
  | given | within (lo hi : V) | among (q : Addr) (xs : List V) | before (c2 : Str) (v2 : V)
def Mt.word : Mt → Str
  | .given => "given"
  | .within _ _ => "within"
  | .among _ _ => "among"
  | .before _ _ => "before"
def Mt.rest : Mt → List V
  | .given => []
  | .within lo hi => [lo, hi]
  | .among q _ => [.ref q]
  | .before c2 _ => [.str c2]
def Mt.ok (K : PySem.W.Frag) (H : Hp) (row : List (Key × V)) (v : V) : Mt → Prop
  | .given => True
  | .within lo hi => v = .non ∨ (like lo v ∧ like v hi)
  | .among q xs => SqT K H q xs ∧ flatV v = true ∧ xs.all flatV = true
  | .before c2 v2 => valV row (tk c2) = some v2 ∧ (v = .non ∨ v2 = .non ∨ like v v2)
def metP (v : V) : Mt → Bool
  | .given => !decide (v = .non)
  | .within lo hi => decide (v = .non) || (leV lo v && leV v hi)
  | .among _ xs => decide (v = .non) || inV v xs
  | .before _ v2 => decide (v = .non) || (decide (v2 = .non) || ltV v v2)
section
variable {P : Program} {w : World} {K : PySem.W.Frag} {mg : Str → Option Value} {base : Heap}
theorem scMe : FnScope ["step", "worths", "worth", "word", "other"] ["step", "worths"] (defScope sMe) := ⟨rfl, rfl, rfl, by decide +kernel, rfl, by decide +kernel, by decide +kernel⟩
def spMe (K : PySem.W.Frag) : Sp := fun vs H Q _ => ∃ (p r : Addr) (a : V) (col : Str) (row : List (Key × V)) (v : V) (m : Mt), vs = [.ref p, .ref r] ∧ SqT K H p (a :: .str m.word :: .str col :: m.rest) ∧ H r = some (.dK row) ∧ valV row (tk col) = some v ∧ m.ok K H row v ∧ Q (.bl (metP v m)) H
theorem ok_met {f : Addr} {fd : FuncData} (F : Fun K "is_met" "is_met" sMe f fd) : FnOk P w K mg base CX0 1 f fd ["step", "worths"] (spMe K) := by
  refine F.ok scMe (fun vs H Q E h => ?_) (fun cdv A outer s H vs Q E hr h => ?_)
  · obtain ⟨p, r, a, col, row, v, m, rfl, _⟩ := h
    rfl
  · obtain ⟨p, r, a, col, row, v, m, rfl, hp, hrow, hv, hm, q⟩ := h
    refine ⟨_, pss_cons (ps_set (i := 2) scMe.nd rfl (Or.inl rfl) (pe_dget (u1 hr.units) (pv 1) (pe_ix ix_tup (pv 0) pe_int (fun _ _ => rfl)) (fun _ _ => rfl)))
      (pss_cons (ps_set (i := 3) scMe.nd rfl (Or.inl rfl) (pe_ix ix_tup (pv 0) pe_int (fun _ _ => rfl)))
      (pss_cons (ps_if (pt_cmpR op_eq (pv 3) pe_str (nomark _)) (pss_one (ps_ret (pe_cmpR op_notN (pv 2) pe_non (nomark _)))) (pss_nil))
      (pss_cons (ps_if (pt_cmpR op_isN (pv 2) pe_non (nomark _)) (pss_one (ps_ret pe_bl)) (pss_nil))
      (pss_cons (ps_if (pt_cmpR op_eq (pv 3) pe_str (nomark _)) (pss_one (ps_ret (pe_chain op_leA op_leA (pe_ix ix_tup (pv 0) pe_int (fun _ _ => rfl)) (pv 2) (pe_ix ix_tup (pv 0) pe_int (fun _ _ => rfl))))) (pss_nil))
      (pss_cons (ps_if (pt_cmpR op_eq (pv 3) pe_str (nomark _)) (pss_one (ps_ret (pe_cmpR op_in_seq (pv 2) (pe_ix ix_tup (pv 0) pe_int (fun _ _ => rfl)) rfl))) (pss_nil))
      (pss_cons (ps_set (i := 4) scMe.nd rfl (Or.inl rfl) (pe_dget (u1 hr.units) (pv 1) (pe_ix ix_tup (pv 0) pe_int (fun _ _ => rfl)) (fun _ _ => rfl)))
      (pss_one (ps_ret (pe_or (pe_cmpR op_isN (pv 4) pe_non (nomark _)) (pe_one (pe_cmpR op_ltA (pv 2) (pv 4) (nomark _)))))))))))), ?_⟩
    have dg : DGet H r (.str col) (some v) := hv ▸ DGet.k (k := tk col) hrow
    have w1 : V.str "within" ≠ V.str "given" := by decide +kernel
    have w2 : V.str "among" ≠ V.str "given" := by decide +kernel
    have w3 : V.str "before" ≠ V.str "given" := by decide +kernel
    have w4 : V.str "among" ≠ V.str "within" := by decide +kernel
    have w5 : V.str "before" ≠ V.str "within" := by decide +kernel
    have w6 : V.str "before" ≠ V.str "among" := by decide +kernel
    have a2 : atI (a :: V.str m.word :: V.str col :: m.rest) 2 = some (V.str col) := by cases m <;> rfl
    have a1 : atI (a :: V.str m.word :: V.str col :: m.rest) 1 = some (V.str m.word) := by cases m <;> rfl
    refine ⟨_, rfl, _, rfl, p, _, _, _, rfl, rfl, hp, a2, r, v, rfl, dg, ?_⟩
    try dsimp only
    refine ⟨_, rfl, p, _, _, _, rfl, rfl, hp, a1, ?_⟩
    try dsimp only
    refine ⟨_, rfl, ?_⟩
    refine ⟨rfl, _, rfl, ?_⟩
    cases m with
    | given =>
      rw [decide_eq_true (show V.str (Mt.word .given) = V.str "given" from rfl)]
      exact iteT ⟨_, rfl, rfl, q⟩
    | within lo hi =>
      rw [decide_eq_false (show ¬ V.str (Mt.word (.within lo hi)) = V.str "given" from w1)]
      refine iteF ?_
      unfold tNext
      dsimp only
      refine ⟨_, rfl, rfl, _, rfl, ?_⟩
      by_cases c : v = .non
      · rw [decide_eq_true c]
        refine iteT ?_
        have z := q
        unfold metP at z
        dsimp only at z
        rw [decide_eq_true c, Bool.true_or] at z
        exact z
      · rw [decide_eq_false c]
        refine iteF ?_
        dsimp only
        refine ⟨_, rfl, ?_⟩
        refine ⟨rfl, _, rfl, ?_⟩
        rw [decide_eq_true (show V.str (Mt.word (.within lo hi)) = V.str "within" from rfl)]
        obtain ⟨l1, l2⟩ := hm.resolve_left c
        have z := q
        unfold metP at z
        dsimp only at z
        rw [decide_eq_false c, Bool.false_or] at z
        refine iteT ⟨_, rfl, p, _, _, _, rfl, rfl, hp, rfl, _, rfl, ?_⟩
        refine ⟨l1, _, rfl, ?_⟩
        cases e : leV lo v with
        | true =>
          rw [e, Bool.true_and] at z
          exact iteT ⟨_, rfl, p, _, _, _, rfl, rfl, hp, rfl, l2, z⟩
        | false =>
          rw [e, Bool.false_and] at z
          exact iteF z
    | among q1 xs =>
      rw [decide_eq_false (show ¬ V.str (Mt.word (.among q1 xs)) = V.str "given" from w2)]
      refine iteF ?_
      unfold tNext
      dsimp only
      refine ⟨_, rfl, rfl, _, rfl, ?_⟩
      by_cases c : v = .non
      · rw [decide_eq_true c]
        refine iteT ?_
        have z := q
        unfold metP at z
        dsimp only at z
        rw [decide_eq_true c, Bool.true_or] at z
        exact z
      · rw [decide_eq_false c]
        refine iteF ?_
        dsimp only
        refine ⟨_, rfl, ?_⟩
        refine ⟨rfl, _, rfl, ?_⟩
        rw [decide_eq_false (show ¬ V.str (Mt.word (.among q1 xs)) = V.str "within" from w4)]
        refine iteF ?_
        dsimp only
        refine ⟨_, rfl, ?_⟩
        refine ⟨rfl, _, rfl, ?_⟩
        rw [decide_eq_true (show V.str (Mt.word (.among q1 xs)) = V.str "among" from rfl)]
        have z := q
        unfold metP at z
        dsimp only at z
        rw [decide_eq_false c, Bool.false_or] at z
        exact iteT ⟨_, rfl, _, rfl, p, _, _, _, rfl, rfl, hp, rfl, q1, xs, rfl, .inr hm.1, hm.2.1, hm.2.2, z⟩
    | before c2 v2 =>
      rw [decide_eq_false (show ¬ V.str (Mt.word (.before c2 v2)) = V.str "given" from w3)]
      refine iteF ?_
      unfold tNext
      dsimp only
      refine ⟨_, rfl, rfl, _, rfl, ?_⟩
      by_cases c : v = .non
      · rw [decide_eq_true c]
        refine iteT ?_
        have z := q
        unfold metP at z
        dsimp only at z
        rw [decide_eq_true c, Bool.true_or] at z
        exact z
      · rw [decide_eq_false c]
        refine iteF ?_
        dsimp only
        refine ⟨_, rfl, ?_⟩
        refine ⟨rfl, _, rfl, ?_⟩
        rw [decide_eq_false (show ¬ V.str (Mt.word (.before c2 v2)) = V.str "within" from w5)]
        refine iteF ?_
        dsimp only
        refine ⟨_, rfl, ?_⟩
        refine ⟨rfl, _, rfl, ?_⟩
        rw [decide_eq_false (show ¬ V.str (Mt.word (.before c2 v2)) = V.str "among" from w6)]
        refine iteF ?_
        dsimp only
        have z := q
        unfold metP at z
        dsimp only at z
        rw [decide_eq_false c, Bool.false_or] at z
        have dg2 : DGet H r (.str c2) (some v2) := hm.1 ▸ DGet.k (k := tk c2) hrow
        refine ⟨_, rfl, _, rfl, p, _, _, _, rfl, rfl, hp, rfl, r, v2, rfl, dg2, ?_⟩
        try dsimp only
        refine ⟨_, rfl, rfl, _, rfl, ?_⟩
        by_cases c3 : v2 = .non
        · rw [decide_eq_true c3]
          rw [decide_eq_true c3, Bool.true_or] at z
          exact iteT z
        · rw [decide_eq_false c3]
          rw [decide_eq_false c3, Bool.false_or] at z
          exact iteF ⟨_, rfl, _, rfl, (hm.2.resolve_left c).resolve_left c3, z⟩
end
end K21
set_option Elab.async false
set_option linter.all false
set_option maxRecDepth 100000
set_option maxHeartbeats 4000000
/-! k21: what a step does -/
namespace K21
open PySem PySem.Spec PyProof.Rows L2 Bs Xg TL Xk Xl K02
abbrev sDn : Stmt := top 21
inductive Deed where
  | cut (col : Str) (s : Nat) (nw : Addr) (news : List Str)
  | glue (cs : Addr) (cols : List Str) (sep : Str) (new : Str)
  | spell (col : Str) (ts : Addr) (ps : List (Str × Option Str))
  | read (col : Str) (fo : Addr) (f : Fm) (new : Str)
  | put (col : Str) (v : V)
  | met (col : Str) (m : Mt)
def Deed.items (a : V) : Deed → List V
  | .cut col s nw _ => [a, .str "cut", .str col, .str ⟨#[s]⟩, .ref nw]
  | .glue cs _ sep new => [a, .str "glue", .ref cs, .str sep, .str new]
  | .spell col ts _ => [a, .str "spell", .str col, .ref ts]
  | .read col fo _ new => [a, .str "read", .str col, .ref fo, .str new]
  | .put col v => [a, .str "put", .str col, v]
  | .met col m => a :: .str m.word :: .str col :: m.rest
def rowV (row : List (Key × V)) (c : Str) : V := (valV row (tk c)).getD .non
def txt : V → Option Str
  | .str z => some z
  | _ => none
/-- a column of texts -/
def TextCol (row : List (Key × V)) (c : Str) : Prop := ∃ x, valV row (tk c) = some (os x) ∧ (∀ z, x = some z → z.length ≤ 400) ∧ ∀ z, x = some z → PyData.strOk z = true
theorem TextCol.val {row : List (Key × V)} {c : Str} (h : TextCol row c) : valV row (tk c) = some (os (txt (rowV row c))) ∧ ∀ z, txt (rowV row c) = some z → z.length ≤ 400 := by
  obtain ⟨x, e, l, _⟩ := h
  have ev : rowV row c = os x := by unfold rowV; rw [e]; rfl
  have ex : txt (rowV row c) = x := by rw [ev]; cases x <;> rfl
  rw [ex]
  exact ⟨e, l⟩
theorem TextCol.good {row : List (Key × V)} {c : Str} (h : TextCol row c) : ∀ z, txt (rowV row c) = some z → PyData.strOk z = true := by
  obtain ⟨x, e, _, l⟩ := h
  have ev : rowV row c = os x := by unfold rowV; rw [e]; rfl
  have ex : txt (rowV row c) = x := by rw [ev]; cases x <;> rfl
  rw [ex]
  exact l
def Deed.ok (K : PySem.W.Frag) (H : Hp) (row : List (Key × V)) : Deed → Prop
  | .cut col s nw news => TextCol row col ∧ SqT K H nw (news.map V.str) ∧ s < 256 ∧ news.Nodup ∧ 1 ≤ news.length ∧ news.length ≤ 4
  | .glue cs cols sep _ => SqT K H cs (cols.map V.str) ∧ (∀ c ∈ cols, TextCol row c) ∧ sep.length ≤ 1 ∧ cols.length ≤ 4
  | .spell col ts ps => TextCol row col ∧ Pairs K H ts ps ∧ ps.length ≤ 10 ∧ ∀ pr ∈ ps, ∀ z, pr.2 = some z → PyData.strOk z = true
  | .read col fo f _ => TextCol row col ∧ SqT K H fo f.vals ∧ f.ok
  | .put col _ => (valV row (tk col)).isSome = true
  | .met col m => (valV row (tk col)).isSome = true ∧ m.ok K H row (rowV row col)
def doneP (row : List (Key × V)) : Deed → List (Key × V) × Bool
  | .cut col s _ news => cutP news ⟨#[s]⟩ (txt (rowV row col))
  | .glue _ cols sep new => ([(tk new, os (gluedP (fun c => txt (rowV row c)) cols sep))], false)
  | .spell col _ ps => ([(tk col, os (spellP (txt (rowV row col)) ps))], false)
  | .read col _ f new => readDP f new (txt (rowV row col))
  | .put col v => ([(tk col, if rowV row col = .non then v else rowV row col)], false)
  | .met col m => ([], !metP (rowV row col) m)
theorem rowV_some {row : List (Key × V)} {c : Str} (h : (valV row (tk c)).isSome = true) : valV row (tk c) = some (rowV row c) := by
  unfold rowV
  cases e : valV row (tk c) with
  | none => rw [e] at h; exact nomatch h
  | some v => rfl
theorem tupTy {K : PySem.W.Frag} {H : Hp} {a : Addr} {xs : List V} (e : SqT K H a xs) : TyX K H (.ref a) (.type "tuple") := by
  rcases e with (e | ⟨o, e⟩) | ⟨o, its, n, e, c, _⟩
  · exact .base (.tup e)
  · exact .fTuple e
  · exact .kTuple e c
theorem Mt.ok.same {K : PySem.W.Frag} {H H' : Hp} {row : List (Key × V)} {v : V} {m : Mt} (h : m.ok K H row v) (s : Same H H') : m.ok K H' row v := by
  cases m with
  | among q xs => exact ⟨sameT s h.1, h.2⟩
  | given => exact h
  | within lo hi => exact h
  | before c2 v2 => exact h
theorem mt_word (m : Mt) {x : Str} (a : V.str "given" ≠ .str x) (b : V.str "within" ≠ .str x) (c : V.str "among" ≠ .str x) (d : V.str "before" ≠ .str x) : ¬ V.str m.word = .str x := by
  cases m with
  | given => exact a
  | within _ _ => exact b
  | among _ _ => exact c
  | before _ _ => exact d
theorem updG {H G : Hp} {D : Addr} {o o' : HO} (s : Same (upd H D o) G) (n : H D = none) : Same H (upd G D o') := fun b u e => by
  rw [upd_ne (ne_of_none e n)]
  exact s b u (by rw [upd_ne (ne_of_none e n)]; exact e)
structure Stp (K : PySem.W.Frag) (mg : Str → Option Value) (fCW fCu fGl fSp fRdn fMe fDn : Addr) (dCW dCu dGl dSp dRdn dMe dDn : FuncData) : Prop where
  CW : Fun K "cell_worth" "cell_worth" sCW fCW dCW
  bCW : Binds K dCW ["text"] []
  gCW : mg "cell_worth" = some (.ref fCW)
  Cu : Fun K "cut_done" "cut_done" sCu fCu dCu
  bCu : Binds K dCu ["step", "text"] []
  gCu : mg "cut_done" = some (.ref fCu)
  Gl : Fun K "glued" "glued" sGl fGl dGl
  bGl : Binds K dGl ["step", "worths"] []
  gGl : mg "glued" = some (.ref fGl)
  Sp : Fun K "spelled" "spelled" sSp fSp dSp
  bSp : Binds K dSp ["step", "text"] []
  gSp : mg "spelled" = some (.ref fSp)
  Rdn : Fun K "read_done" "read_done" sRdn fRdn dRdn
  bRdn : Binds K dRdn ["step", "text"] []
  gRdn : mg "read_done" = some (.ref fRdn)
  Me : Fun K "is_met" "is_met" sMe fMe dMe
  bMe : Binds K dMe ["step", "worths"] []
  gMe : mg "is_met" = some (.ref fMe)
  Dn : Fun K "done" "done" sDn fDn dDn
  bDn : Binds K dDn ["step", "worths"] []
  gDn : mg "done" = some (.ref fDn)
section
variable {P : Program} {w : World} {K : PySem.W.Frag} {mg : Str → Option Value} {base : Heap}
variable {cM fLp fDi fAh fNu : Addr} {dLp dDi dAh dNu : FuncData} {cB fIF fRA fRD fDo fRs : Addr} {dIF dRA dRD dDo dRs : FuncData} {fCW fCu fGl fSp fRdn fMe fDn : Addr} {dCW dCu dGl dSp dRdn dMe dDn : FuncData}
theorem scDn : FnScope ["step", "worths", "word", "worth"] ["step", "worths"] (defScope sDn) := ⟨rfl, rfl, rfl, by decide +kernel, rfl, by decide +kernel, by decide +kernel⟩
def spDn (K : PySem.W.Frag) : Sp := fun vs H Q _ => ∃ (p r : Addr) (a : V) (row : List (Key × V)) (dd : Deed), vs = [.ref p, .ref r] ∧ SqT K H p (dd.items a) ∧ H r = some (.dK row) ∧ dd.ok K H row ∧ ∀ t H', Same H H' → Res H' t (doneP row dd) → Q (.ref t) H'
theorem word_at (a : V) (dd : Deed) : ∃ wd, atI (dd.items a) 1 = some (.str wd) ∧ wd = (match dd with | .cut _ _ _ _ => ("cut" : Str) | .glue _ _ _ _ => "glue" | .spell _ _ _ => "spell" | .read _ _ _ _ => "read" | .put _ _ => "put" | .met _ m => m.word) := by
  cases dd with
  | met c m => cases m <;> exact ⟨_, rfl, rfl⟩
  | _ => exact ⟨_, rfl, rfl⟩
theorem ok_done (C : Cal K mg cM fLp fDi fAh fNu dLp dDi dAh dNu) (F : Frm K mg cB fIF fRA fRD fDo fRs dIF dRA dRD dDo dRs) (G : Stp K mg fCW fCu fGl fSp fRdn fMe fDn dCW dCu dGl dSp dRdn dMe dDn) (T : Free mg) : FnOk P w K mg base CX0 8 fDn dDn ["step", "worths"] (spDn K) := by
  have GCu : FnOk P w K mg base CX0 2 fCu dCu ["step", "text"] (spCu K) := ok_cut G.Cu T G.CW G.bCW G.gCW
  have GGl : FnOk P w K mg base CX0 1 fGl dGl ["step", "worths"] (spGl K) := ok_glued G.Gl T
  have GSp : FnOk P w K mg base CX0 1 fSp dSp ["step", "text"] (spSp K) := ok_spelled G.Sp
  have GRdn : FnOk P w K mg base CX0 7 fRdn dRdn ["step", "text"] (spRdn K) := ok_rdn G.Rdn C F T
  have GMe : FnOk P w K mg base CX0 1 fMe dMe ["step", "worths"] (spMe K) := ok_met G.Me
  have FCu := G.Cu
  have bCu := G.bCu
  have gCu := G.gCu
  have FGl := G.Gl
  have bGl := G.bGl
  have gGl := G.gGl
  have FSp := G.Sp
  have bSp := G.bSp
  have gSp := G.gSp
  have FRdn := G.Rdn
  have bRdn := G.bRdn
  have gRdn := G.gRdn
  have FMe := G.Me
  have bMe := G.bMe
  have gMe := G.gMe
  refine G.Dn.ok scDn (fun vs H Q E h => ?_) (fun cdv A outer s H vs Q E hr h => ?_)
  · obtain ⟨p, r, a, row, dd, rfl, _⟩ := h
    rfl
  · obtain ⟨p, r, a, row, dd, rfl, hp, hrow, ho, q⟩ := h
    refine ⟨_, pss_cons (ps_set (i := 2) scDn.nd rfl (Or.inl rfl) (pe_ix ix_tup (pv 0) pe_int (fun _ _ => rfl)))
      (pss_cons (ps_if (pt_cmpR op_eq (pv 2) pe_str (nomark _)) (pss_one (ps_ret (pe_call GCu (hr.mono (by decide)) (by rfl) gCu FCu.kp bCu .nil pass0 (pa_cons (pv 0) (pa_cons (pe_dget (u1 hr.units) (pv 1) (pe_ix ix_tup (pv 0) pe_int (fun _ _ => rfl)) (fun _ _ => rfl)) pa_nil))))) (pss_nil))
      (pss_cons (ps_if (pt_cmpR op_eq (pv 2) pe_str (nomark _)) (pss_one (ps_ret (pe_tup (pa_cons (pe_disp (pps_cons (pe_ix ix_tup (pv 0) pe_int (fun _ _ => rfl)) (pe_call GGl (hr.mono (by decide)) (by rfl) gGl FGl.kp bGl .nil pass0 (pa_cons (pv 0) (pa_cons (pv 1) pa_nil))) pps_nil) (by rfl) (by rfl) (fun z => by cases z) (by decide)) (pa_cons pe_bl pa_nil))))) (pss_nil))
      (pss_cons (ps_if (pt_cmpR op_eq (pv 2) pe_str (nomark _)) (pss_one (ps_ret (pe_tup (pa_cons (pe_disp (pps_cons (pe_ix ix_tup (pv 0) pe_int (fun _ _ => rfl)) (pe_call GSp (hr.mono (by decide)) (by rfl) gSp FSp.kp bSp .nil pass0 (pa_cons (pv 0) (pa_cons (pe_dget (u1 hr.units) (pv 1) (pe_ix ix_tup (pv 0) pe_int (fun _ _ => rfl)) (fun _ _ => rfl)) pa_nil))) pps_nil) (by rfl) (by rfl) (fun z => by cases z) (by decide)) (pa_cons pe_bl pa_nil))))) (pss_nil))
      (pss_cons (ps_if (pt_cmpR op_eq (pv 2) pe_str (nomark _)) (pss_one (ps_ret (pe_call GRdn (hr.mono (by decide)) (by rfl) gRdn FRdn.kp bRdn .nil pass0 (pa_cons (pv 0) (pa_cons (pe_dget (u1 hr.units) (pv 1) (pe_ix ix_tup (pv 0) pe_int (fun _ _ => rfl)) (fun _ _ => rfl)) pa_nil))))) (pss_nil))
      (pss_cons (ps_if (pt_cmpR op_eq (pv 2) pe_str (nomark _)) (pss_cons (ps_set (i := 3) scDn.nd rfl (Or.inl rfl) (pe_dget (u1 hr.units) (pv 1) (pe_ix ix_tup (pv 0) pe_int (fun _ _ => rfl)) (fun _ _ => rfl)))
      (pss_one (ps_ret (pe_tup (pa_cons (pe_disp (pps_cons (pe_ix ix_tup (pv 0) pe_int (fun _ _ => rfl)) (pe_ifExp (pt_cmpR op_isN (pv 3) pe_non (nomark _)) (pe_ix ix_tup (pv 0) pe_int (fun _ _ => rfl)) (pv 3)) pps_nil) (by rfl) (by rfl) (fun z => by cases z) (by decide)) (pa_cons pe_bl pa_nil)))))) (pss_nil))
      (pss_one (ps_ret (pe_tup (pa_cons pe_dnewK (pa_cons (pe_not (pe_call GMe (hr.mono (by decide)) (by rfl) gMe FMe.kp bMe .nil pass0 (pa_cons (pv 0) (pa_cons (pv 1) pa_nil)))) pa_nil)))))))))), ?_⟩
    obtain ⟨wd, ew, hw⟩ := word_at a dd
    refine ⟨_, rfl, p, _, _, _, rfl, rfl, hp, ew, ?_⟩
    try dsimp only
    have dgc : ∀ {c : Str} {v : V} {G : Hp}, Same H G → valV row (tk c) = some v → DGet G r (.str c) (some v) := fun s e => e ▸ DGet.k (k := tk _) (s _ _ hrow)
    have ss : Same H H := Same.refl H
    cases dd with
    | cut col s1 nw news =>
      subst hw
      refine ⟨_, rfl, ?_⟩
      refine ⟨rfl, _, rfl, ?_⟩
      rw [decide_eq_true (show V.str "cut" = V.str "cut" from rfl)]
      refine iteT ?_
      obtain ⟨tc, hn, sl, nod, _, few⟩ := ho
      exact ⟨_, rfl, _, rfl, _, rfl, p, _, _, _, rfl, rfl, hp, rfl, r, _, rfl, dgc ss tc.val.1, p, nw, _, _, _, s1, news, _, rfl, hp, hn, sl, nod, few, tc.val.2, q⟩
    | glue cs cols sep new =>
      subst hw
      refine ⟨_, rfl, ?_⟩
      refine ⟨rfl, _, rfl, ?_⟩
      rw [decide_eq_false (show ¬ V.str "glue" = V.str "cut" from by decide +kernel)]
      refine iteF ?_
      unfold tNext
      dsimp only
      refine ⟨_, rfl, ?_⟩
      refine ⟨rfl, _, rfl, ?_⟩
      rw [decide_eq_true (show V.str "glue" = V.str "glue" from rfl)]
      refine iteT ?_
      obtain ⟨hc, tc, sl, cl⟩ := ho
      refine fun D nD => ⟨_, rfl, p, _, _, _, rfl, rfl, sameT (Same.new nD) hp, rfl, _, rfl, _, rfl, p, r, cs, _, _, _, sep, cols, row, fun c => txt (rowV row c), rfl, sameT (Same.new nD) hp, sameT (Same.new nD) hc, Same.new nD _ _ hrow, fun c hm => (tc c hm).val, sl, cl, fun G2 s2 => ?_⟩
      refine ⟨s2 _ _ upd_same, [(tk new, os (gluedP (fun c => txt (rowV row c)) cols sep))], rfl, (show 1 ≤ 15 by decide), ?_⟩
      refine ⟨(show 2 ≤ sizeLine by decide), fun t ht => ?_⟩
      exact q t _ ((updG s2 nD).trans (Same.new ht)) ⟨D, (upd_ne (ne_of_none upd_same ht)).trans upd_same, upd_same⟩
    | spell col ts ps =>
      subst hw
      refine ⟨_, rfl, ?_⟩
      refine ⟨rfl, _, rfl, ?_⟩
      rw [decide_eq_false (show ¬ V.str "spell" = V.str "cut" from by decide +kernel)]
      refine iteF ?_
      unfold tNext
      dsimp only
      refine ⟨_, rfl, ?_⟩
      refine ⟨rfl, _, rfl, ?_⟩
      rw [decide_eq_false (show ¬ V.str "spell" = V.str "glue" from by decide +kernel)]
      refine iteF ?_
      dsimp only
      refine ⟨_, rfl, ?_⟩
      refine ⟨rfl, _, rfl, ?_⟩
      rw [decide_eq_true (show V.str "spell" = V.str "spell" from rfl)]
      refine iteT ?_
      obtain ⟨tc, hps, _⟩ := ho
      refine fun D nD => ⟨_, rfl, p, _, _, _, rfl, rfl, sameT (Same.new nD) hp, rfl, _, rfl, _, rfl, _, rfl, p, _, _, _, rfl, rfl, sameT (Same.new nD) hp, rfl, r, _, rfl, dgc (Same.new nD) tc.val.1, p, ts, _, _, _, ps, _, rfl, sameT (Same.new nD) hp, hps.same (Same.new nD), fun G2 s2 => ?_⟩
      refine ⟨s2 _ _ upd_same, [(tk col, os (spellP (txt (rowV row col)) ps))], rfl, (show 1 ≤ 15 by decide), ?_⟩
      refine ⟨(show 2 ≤ sizeLine by decide), fun t ht => ?_⟩
      exact q t _ ((updG s2 nD).trans (Same.new ht)) ⟨D, (upd_ne (ne_of_none upd_same ht)).trans upd_same, upd_same⟩
    | read col fo f new =>
      subst hw
      refine ⟨_, rfl, ?_⟩
      refine ⟨rfl, _, rfl, ?_⟩
      rw [decide_eq_false (show ¬ V.str "read" = V.str "cut" from by decide +kernel)]
      refine iteF ?_
      unfold tNext
      dsimp only
      refine ⟨_, rfl, ?_⟩
      refine ⟨rfl, _, rfl, ?_⟩
      rw [decide_eq_false (show ¬ V.str "read" = V.str "glue" from by decide +kernel)]
      refine iteF ?_
      dsimp only
      refine ⟨_, rfl, ?_⟩
      refine ⟨rfl, _, rfl, ?_⟩
      rw [decide_eq_false (show ¬ V.str "read" = V.str "spell" from by decide +kernel)]
      refine iteF ?_
      dsimp only
      refine ⟨_, rfl, ?_⟩
      refine ⟨rfl, _, rfl, ?_⟩
      rw [decide_eq_true (show V.str "read" = V.str "read" from rfl)]
      refine iteT ?_
      obtain ⟨tc, hf, fok⟩ := ho
      exact ⟨_, rfl, _, rfl, _, rfl, p, _, _, _, rfl, rfl, hp, rfl, r, _, rfl, dgc ss tc.val.1, p, fo, _, _, _, f, new, _, rfl, hp, hf, fok, tc.val.2, q⟩
    | put col v =>
      subst hw
      refine ⟨_, rfl, ?_⟩
      refine ⟨rfl, _, rfl, ?_⟩
      rw [decide_eq_false (show ¬ V.str "put" = V.str "cut" from by decide +kernel)]
      refine iteF ?_
      unfold tNext
      dsimp only
      refine ⟨_, rfl, ?_⟩
      refine ⟨rfl, _, rfl, ?_⟩
      rw [decide_eq_false (show ¬ V.str "put" = V.str "glue" from by decide +kernel)]
      refine iteF ?_
      dsimp only
      refine ⟨_, rfl, ?_⟩
      refine ⟨rfl, _, rfl, ?_⟩
      rw [decide_eq_false (show ¬ V.str "put" = V.str "spell" from by decide +kernel)]
      refine iteF ?_
      dsimp only
      refine ⟨_, rfl, ?_⟩
      refine ⟨rfl, _, rfl, ?_⟩
      rw [decide_eq_false (show ¬ V.str "put" = V.str "read" from by decide +kernel)]
      refine iteF ?_
      dsimp only
      refine ⟨_, rfl, ?_⟩
      refine ⟨rfl, _, rfl, ?_⟩
      rw [decide_eq_true (show V.str "put" = V.str "put" from rfl)]
      refine iteT ?_
      have hv := rowV_some ho
      refine ⟨_, rfl, _, rfl, p, _, _, _, rfl, rfl, hp, rfl, r, _, rfl, dgc ss hv, ?_⟩
      try dsimp only
      refine fun D nD => ⟨_, rfl, p, _, _, _, rfl, rfl, sameT (Same.new nD) hp, rfl, _, rfl, rfl, _, rfl, ?_⟩
      have fin : ∀ u : V, u = (if rowV row col = .non then v else rowV row col) → ∀ t, upd (upd H D (.dK [])) D (.dK (mergeK [] [(tk col, u)])) t = none → Q (.ref t) (upd (upd (upd H D (.dK [])) D (.dK (mergeK [] [(tk col, u)]))) t (.tup [.ref D, .bl false])) := by
        rintro u rfl t ht
        exact q t _ ((upd2 nD).trans (Same.new ht)) ⟨D, (upd_ne (ne_of_none upd_same ht)).trans upd_same, upd_same⟩
      by_cases c : rowV row col = .non
      · rw [decide_eq_true c]
        refine iteT ⟨_, rfl, p, _, _, _, rfl, rfl, sameT (Same.new nD) hp, rfl, ?_⟩
        exact ⟨upd_same, [(tk col, v)], rfl, (show 1 ≤ 15 by decide), (show 2 ≤ sizeLine by decide), fin v (if_pos c).symm⟩
      · rw [decide_eq_false c]
        refine iteF ⟨_, rfl, ?_⟩
        exact ⟨upd_same, [(tk col, rowV row col)], rfl, (show 1 ≤ 15 by decide), (show 2 ≤ sizeLine by decide), fin _ (if_neg c).symm⟩
    | met col m =>
      subst hw
      refine ⟨_, rfl, ?_⟩
      refine ⟨rfl, _, rfl, ?_⟩
      rw [decide_eq_false (show ¬ V.str m.word = V.str "cut" from mt_word m (by decide +kernel) (by decide +kernel) (by decide +kernel) (by decide +kernel))]
      refine iteF ?_
      unfold tNext
      dsimp only
      refine ⟨_, rfl, ?_⟩
      refine ⟨rfl, _, rfl, ?_⟩
      rw [decide_eq_false (show ¬ V.str m.word = V.str "glue" from mt_word m (by decide +kernel) (by decide +kernel) (by decide +kernel) (by decide +kernel))]
      refine iteF ?_
      dsimp only
      refine ⟨_, rfl, ?_⟩
      refine ⟨rfl, _, rfl, ?_⟩
      rw [decide_eq_false (show ¬ V.str m.word = V.str "spell" from mt_word m (by decide +kernel) (by decide +kernel) (by decide +kernel) (by decide +kernel))]
      refine iteF ?_
      dsimp only
      refine ⟨_, rfl, ?_⟩
      refine ⟨rfl, _, rfl, ?_⟩
      rw [decide_eq_false (show ¬ V.str m.word = V.str "read" from mt_word m (by decide +kernel) (by decide +kernel) (by decide +kernel) (by decide +kernel))]
      refine iteF ?_
      dsimp only
      refine ⟨_, rfl, ?_⟩
      refine ⟨rfl, _, rfl, ?_⟩
      rw [decide_eq_false (show ¬ V.str m.word = V.str "put" from mt_word m (by decide +kernel) (by decide +kernel) (by decide +kernel) (by decide +kernel))]
      refine iteF ?_
      dsimp only
      obtain ⟨hs, hm⟩ := ho
      have hv := rowV_some hs
      refine fun D nD => ⟨_, rfl, _, rfl, p, r, a, col, row, _, m, rfl, sameT (Same.new nD) hp, Same.new nD _ _ hrow, hv, hm.same (Same.new nD), ?_⟩
      refine ⟨_, rfl, ?_⟩
      refine ⟨(show 2 ≤ sizeLine by decide), fun t ht => ?_⟩
      exact q t _ ((Same.new nD).trans (Same.new ht)) ⟨D, (upd_ne (ne_of_none upd_same ht)).trans upd_same, upd_same⟩
end
end K21
set_option Elab.async false
set_option linter.all false
set_option maxRecDepth 100000
set_option maxHeartbeats 4000000
/-! k21: the law's figures -/
namespace K21
open PySem PySem.Spec PyProof.Rows L2 Bs Xg TL Xk Xl K02
abbrev sLNu : Stmt := top 31
abbrev sLAF : Stmt := top 32
abbrev sLF : Stmt := top 33
abbrev sLDay : Stmt := top 34
abbrev sLW : Stmt := top 35
abbrev sLDoes : Stmt := top 36
def digs : Str := Str.ofString "0123456789"
theorem digs_mem (c : Nat) : decide (c ∈ digs.cps.toList) = dg c := by
  have e : digs.cps.toList = [48, 49, 50, 51, 52, 53, 54, 55, 56, 57] := by decide +kernel
  rw [e]
  unfold dg
  rw [← Bool.decide_and]
  exact decide_eq_decide.mpr (by simp; omega)
theorem digs_at : ∀ k, k < 10 → Txt.index0 digs ⟨#[48 + k]⟩ = some k := by decide +kernel
section
variable {X : Cx}
theorem mt_idx : MtR X "str.index" (fun x xs H Q => ∃ (a b : Str) (k : Nat), x = .str a ∧ xs = [.str b] ∧ Txt.index0 a b = some k ∧ Q (.int (k : Int)) H) := by
  intro pins s σ H x xs v us Q I rx rs h
  obtain ⟨a, b, k, rfl, rfl, e, q⟩ := h
  obtain ⟨t, rfl⟩ := rx
  cases rs with
  | cons r1 rs =>
    cases rs
    obtain ⟨u, rfl⟩ := r1
    cases o : Builtin.Str.occurrences a b 0 a.length 1 with
    | nil =>
      unfold Txt.index0 at e
      rw [o] at e
      cases e
    | cons j rest =>
      unfold Txt.index0 at e
      rw [o] at e
      cases e
      exact PySem.SC.index o ⟨.int (k : Nat), H, I.tok _, ⟨_, rfl⟩, q⟩
end
section
variable {P : Program} {w : World} {K : PySem.W.Frag} {mg : Str → Option Value} {base : Heap}
abbrev nLAF : List Str := ["_law_text_here", "_law_most", "_law_sign"]
theorem scLAF : FnScope nLAF ["_law_text_here", "_law_most"] (defScope sLAF) := ⟨rfl, rfl, rfl, by decide +kernel, rfl, by decide +kernel, by decide +kernel⟩
def spLAF : Sp := fun vs H Q _ => ∃ (z : Str) (k : Nat), vs = [.str z, .int (k : Int)] ∧ z.length ≤ 1000 ∧ ∀ H', Same H H' → Q (.bl (figs k (tl z))) H'
theorem ok_laf {f : Addr} {fd : FuncData} (F : Fun K "_law_are_figures" "_law_are_figures" sLAF f fd) (T : Free mg) : FnOk P w K mg base CX0 1 f fd ["_law_text_here", "_law_most"] spLAF := by
  refine F.ok scLAF (fun vs H Q E h => ?_) (fun cdv A outer s H vs Q E hr h => ?_)
  · obtain ⟨z, k, rfl, _⟩ := h
    rfl
  · obtain ⟨z, k, rfl, zl, q⟩ := h
    refine ⟨_, pss_one (ps_ret (pe_and (pe_chain op_le op_le pe_int (pe_callB call_len_str (by rfl) T.len PySem.boot_len (pa_cons (pv 0) pa_nil)) (pv 1)) (pe_one (pe_callB (cr_all rfl) (by rfl) T.all (by decide +kernel) (pa_cons (pe_lc (own := [("_law_sign", 2)]) (g := gName 2) (tt := tYes) rfl scLAF.nd (pi_str (pv 0)) (blkOk_by (own := [("_law_sign", 2)]) (N := nLAF) (sc := defScope sLAF) (by decide +kernel)) (fun _ _ _ _ _ => (pg_name (i := 2) scLAF.nd rfl (Or.inl rfl))) (fun _ _ _ _ _ => pts_nil) (fun _ _ _ _ _ => (pe_cmpR op_in_sign (pv 2) pe_str rfl))) pa_nil))))), ?_⟩
    have line : z.length ≤ sizeLine := Nat.le_trans zl (by decide)
    have ll : z.length = (tl z).length := len_tl z
    refine ⟨_, rfl, _, rfl, line, _, _, rfl, rfl, _, rfl, ?_⟩
    by_cases c1 : 1 ≤ (tl z).length
    · rw [decide_eq_true (show (1 : Int) ≤ (z.length : Nat) by omega)]
      refine iteT ?_
      refine ⟨_, rfl, _, _, rfl, rfl, _, rfl, ?_⟩
      by_cases c2 : (tl z).length ≤ k
      · rw [decide_eq_true (show ((z.length : Nat) : Int) ≤ (k : Int) by omega)]
        refine iteT ?_
        have zs : z.cps.size = z.length := rfl
        refine ⟨_, rfl, z, rfl, fun D nD => ?_⟩
        refine lc_val (walk_str (z := z)) (Z := fun j x => ∃ c, z.cps[j]? = some c ∧ x = .str ⟨#[c]⟩) (fun j => .bl (dg (z.cps.toList.getD j 0))) nD (fun _ _ _ _ e => e) (fun _ _ => trivial) (by omega) (fun _ => rfl) ?_ ?_
        · rintro j x G Q' hj ⟨c, hc, rfl⟩ _ kG
          have kG := kG G (Same.refl _)
          have ec : z.cps.toList.getD j 0 = c := by
            rw [List.getD_eq_getElem?_getD, Array.getElem?_toList, hc]
            rfl
          rw [ec, ← digs_mem] at kG
          exact ⟨_, rfl, c, digs, rfl, rfl, kG⟩
        · intro G sG eD
          refine ⟨D, (List.range z.cps.size).map (fun j => dg (z.cps.toList.getD j 0)), rfl, SqL.of ?_, ?_⟩
          · rw [eD, List.map_map]
            rfl
          · have e : ((List.range z.cps.size).map fun j => dg (z.cps.toList.getD j 0)).all id = figs k (tl z) := by
              have e2 := range_at z.cps.toList dg (fun j => dg (z.cps.toList.getD j 0)) (fun j x hx => by rw [List.getD_eq_getElem?_getD, hx]; rfl)
              rw [Array.length_toList] at e2
              rw [e2, List.all_map]
              unfold figs
              rw [decide_eq_true c1, decide_eq_true c2]
              rfl
            rw [e]
            exact q G sG
      · rw [decide_eq_false (show ¬ ((z.length : Nat) : Int) ≤ (k : Int) by omega)]
        have z1 := q H (Same.refl _)
        unfold figs at z1
        rw [decide_eq_false c2, Bool.and_false, Bool.false_and] at z1
        exact iteF z1
    · rw [decide_eq_false (show ¬ (1 : Int) ≤ (z.length : Nat) by omega)]
      have z1 := q H (Same.refl _)
      unfold figs at z1
      rw [decide_eq_false c1, Bool.false_and, Bool.false_and] at z1
      exact iteF ⟨_, rfl, z1⟩
theorem scLF : FnScope ["_law_text_here", "_law_found", "_law_sign"] ["_law_text_here"] (defScope sLF) := ⟨rfl, rfl, rfl, by decide +kernel, rfl, by decide +kernel, by decide +kernel⟩
def spLF : Sp := fun vs H Q _ => ∃ z : Str, vs = [.str z] ∧ z.length ≤ 1000 ∧ NumText.AllDigits (tl z) ∧ Q (.int (val (tl z) : Nat)) H
theorem ok_lf {f : Addr} {fd : FuncData} (F : Fun K "_law_figures" "_law_figures" sLF f fd) : FnOk P w K mg base CX0 1 f fd ["_law_text_here"] spLF := by
  refine F.ok scLF (fun vs H Q E h => ?_) (fun cdv A outer s H vs Q E hr h => ?_)
  · obtain ⟨z, rfl, _⟩ := h
    rfl
  · obtain ⟨z, rfl, zl, ad, q⟩ := h
    refine ⟨_, pss_cons (ps_set (i := 1) scLF.nd rfl (Or.inl rfl) pe_int)
      (pss_cons (ps_for PassesOwn.never rfl (pi_str (pv 0)) (pg_name (i := 2) scLF.nd rfl (Or.inl rfl)) (pss_one (ps_set (i := 1) scLF.nd rfl (Or.inl rfl) (pe_op op_add (pe_op op_mul (pv 1) pe_int) (pe_bm PySem.F.plainAttrs_str PySem.F.slot_str_index PySem.F.type_str_index mt_idx pe_str (pa_cons (pv 2) pa_nil))))))
      (pss_one (ps_ret (pv 1)))), ?_⟩
    refine gN ?_
    try dsimp only
    refine ⟨_, rfl, z, rfl, for_it (walk_str (z := z)) (fun j σ G => G = H ∧ ∃ u, σ = [some (.str z), some (.int (val ((tl z).take j) : Nat)), u]) ⟨rfl, none, rfl⟩ (fun _ _ _ _ _ => trivial) ?_ ?_⟩
    · rintro j x σ G G' hj ⟨rfl, u, rfl⟩ ⟨rfl, c, hc, rfl⟩
      have hc' : (tl z)[j]? = some c := by rw [← hc]; exact Array.getElem?_toList
      have dc := ad c (List.mem_of_getElem? hc')
      have ek : 48 + (c - 48) = c := by omega
      have di := digs_at (c - 48) (by omega)
      rw [ek] at di
      have tk1 : (tl z).take (j + 1) = (tl z).take j ++ [c] := by rw [List.take_succ, hc']; rfl
      refine gN ?_
      try dsimp only
      refine ⟨_, rfl, _, _, rfl, rfl, .inr ⟨by decide, by decide⟩, rfl, _, rfl, _, _, _, rfl, rfl, di, _, _, rfl, rfl, ?_⟩
      refine gN ⟨rfl, some (.str ⟨#[c]⟩), ?_⟩
      have v1 : val [c] = c - 48 := by
        show NumText.digitsVal [c] = c - 48
        simp [NumText.digitsVal]
      have e : ((val ((tl z).take (j + 1)) : Nat) : Int) = (val ((tl z).take j) : Nat) * 10 + ((c - 48 : Nat) : Int) := by
        rw [tk1, val_app, v1]
        simp
      rw [e]
      rfl
    · rintro σ G ⟨rfl, u, rfl⟩
      have e : (tl z).take z.cps.size = tl z := List.take_of_length_le (by rw [← len_tl]; exact Nat.le_refl _)
      rw [e]
      exact ⟨_, rfl, q⟩
theorem scLW : FnScope ["_law_text_here"] ["_law_text_here"] (defScope sLW) := ⟨rfl, rfl, rfl, by decide +kernel, rfl, by decide +kernel, by decide +kernel⟩
theorem ok_lw {f : Addr} {fd : FuncData} (F : Fun K "_law_worth" "_law_worth" sLW f fd) : FnOk P w K mg base CX0 1 f fd ["_law_text_here"] spCW := by
  refine F.ok scLW (fun vs H Q E h => ?_) (fun cdv A outer s H vs Q E hr h => ?_)
  · obtain ⟨z, rfl, _⟩ := h
    rfl
  · obtain ⟨z, rfl, zl, q⟩ := h
    refine ⟨_, pss_one (ps_ret (pe_ifExp (pt_cmpR op_ne (pe_bm PySem.F.plainAttrs_str PySem.F.slot_str_strip PySem.F.type_str_strip mt_stripChars (pv 0) (pa_cons pe_str pa_nil)) pe_str (nomark _)) (pe_bm PySem.F.plainAttrs_str PySem.F.slot_str_strip PySem.F.type_str_strip mt_stripChars (pv 0) (pa_cons pe_str pa_nil)) pe_non)), ?_⟩
    have line : z.length ≤ sizeLine := Nat.le_trans zl (by decide)
    refine ⟨_, rfl, rfl, _, _, rfl, rfl, line, ?_⟩
    refine ⟨rfl, _, rfl, ?_⟩
    have ee : (!decide (V.str (Txt.stripChars z (Str.ofString " ")) = V.str (Str.ofString ""))) = !decide (Txt.stripChars z sp = Str.empty) := congrArg Bool.not (decide_eq_decide.mpr ⟨fun h => V.str.inj h, fun h => congrArg V.str h⟩)
    rw [ee]
    unfold cw at q
    by_cases c : Txt.stripChars z sp = Str.empty
    · rw [decide_eq_true c]
      rw [if_pos c] at q
      exact iteF q
    · rw [decide_eq_false c]
      rw [if_neg c] at q
      exact iteT ⟨_, rfl, rfl, _, _, rfl, rfl, line, q⟩
end
end K21
set_option Elab.async false
set_option linter.all false
set_option maxRecDepth 100000
set_option maxHeartbeats 4000000
/-! k21: days by their signs -/
namespace K21
open PySem PySem.Spec PyProof.Rows L2 Bs Xg TL Xk K02
def signs (z : Str) : List Nat := (tl z).filter fun c => !dg c
def Sep (s : Nat) : Prop := s = 45 ∨ s = 46 ∨ s = 47
theorem Sep.lt {s : Nat} (h : Sep s) : s < 256 := by rcases h with rfl | rfl | rfl <;> decide
theorem Sep.nd {s : Nat} (h : Sep s) : dg s = false := by rcases h with rfl | rfl | rfl <;> decide
theorem btw_eq : btw = [⟨#[45]⟩, ⟨#[46]⟩, ⟨#[47]⟩] := by unfold btw; rw [ofS1.1, ofS1.2.1, ofS1.2.2]
theorem filter_nd {s : Nat} (hs : dg s = false) : ∀ {l : List Nat}, (∀ c ∈ l, c ≠ s → dg c = true) → l.filter (fun c => !dg c) = List.replicate (l.count s) s
  | [], _ => by simp
  | c :: r, h => by
    have ih := filter_nd hs (l := r) fun d hd => h d (List.mem_cons_of_mem _ hd)
    by_cases e : c = s
    · subst e
      rw [List.filter_cons, hs, List.count_cons_self]
      simp [ih, List.replicate_succ]
    · have hc := h c List.mem_cons_self e
      rw [List.filter_cons, hc, List.count_cons_of_ne e]
      simpa using ih
theorem split_len (z : Str) {s : Nat} (hs : s < 256) : (Txt.split z ⟨#[s]⟩).length = (tl z).count s + 1 := by
  rw [split_cut z hs, List.length_map, cutAt_count]
theorem dayS_ne {o z : Str} : ∀ {l : List Str} {i : Int}, dayS o z l = some i → ∃ s ∈ l, (Txt.split z s).length = 3 ∧ dayQ o (Txt.split z s) = some i
  | [], i, h => nomatch h
  | s :: r, i, h => by
    unfold dayS at h
    by_cases c : (Txt.split z s).length = 3
    · rw [if_pos c] at h
      exact ⟨s, List.mem_cons_self, c, h⟩
    · rw [if_neg c] at h
      obtain ⟨t, ht, q⟩ := dayS_ne h
      exact ⟨t, List.mem_cons_of_mem _ ht, q⟩
theorem dayP_figs {Y M D : List Nat} {i : Int} (h : dayP Y M D = some i) : NumText.AllDigits Y ∧ NumText.AllDigits M ∧ NumText.AllDigits D := by
  unfold dayP at h
  by_cases c : Y.length = 4 ∧ figs 4 Y = true ∧ figs 2 M = true ∧ figs 2 D = true
  · exact ⟨(figs_iff.mp c.2.1).2, (figs_iff.mp c.2.2.1).2, (figs_iff.mp c.2.2.2).2⟩
  · rw [if_neg c] at h
    cases h
theorem ord3_all {o a b c : Str} {p : Str → Prop} (h : p (ord3 o [a, b, c]).1 ∧ p (ord3 o [a, b, c]).2.1 ∧ p (ord3 o [a, b, c]).2.2) : p a ∧ p b ∧ p c := by
  unfold ord3 at h
  split at h
  · exact h
  · split at h
    · exact ⟨h.2.2, h.2.1, h.1⟩
    · exact ⟨h.2.1, h.2.2, h.1⟩
theorem ord3_mk {o a b c : Str} {p : Str → Prop} (ha : p a) (hb : p b) (hc : p c) : p (ord3 o [a, b, c]).1 ∧ p (ord3 o [a, b, c]).2.1 ∧ p (ord3 o [a, b, c]).2.2 := by
  unfold ord3
  split
  · exact ⟨ha, hb, hc⟩
  · split
    · exact ⟨hc, hb, ha⟩
    · exact ⟨hc, ha, hb⟩
theorem three {α : Type} {l : List α} (h : l.length = 3) : ∃ a b c, l = [a, b, c] := by
  match l, h with
  | [a, b, c], _ => exact ⟨a, b, c, rfl⟩
theorem dg_of {l : List Nat} (h : NumText.AllDigits l) : ∀ c ∈ l, dg c = true := fun c hc => dg_iff.mpr (h c hc)
theorem dayS_some {o z : Str} {i : Int} (h : dayS o z btw = some i) : ∃ s, Sep s ∧ signs z = [s, s] := by
  obtain ⟨t, ht, l3, hq⟩ := dayS_ne h
  obtain ⟨s, hs, rfl⟩ : ∃ s, Sep s ∧ t = ⟨#[s]⟩ := by
    rw [btw_eq] at ht
    rcases List.mem_cons.mp ht with rfl | ht
    · exact ⟨45, .inl rfl, rfl⟩
    rcases List.mem_cons.mp ht with rfl | ht
    · exact ⟨46, .inr (.inl rfl), rfl⟩
    · exact ⟨47, .inr (.inr rfl), List.mem_singleton.mp ht⟩
  refine ⟨s, hs, ?_⟩
  obtain ⟨a, b, c, e⟩ := three l3
  rw [e] at hq
  have fg := dayP_figs hq
  have fa := ord3_all (o := o) (p := fun x => NumText.AllDigits (tl x)) ⟨fg.1, fg.2.1, fg.2.2⟩
  have hl := l3
  rw [split_len z hs.lt] at hl
  have ec := e
  rw [split_cut z hs.lt] at ec
  have fl := cutAt_flat s (tl z)
  have em : (cutAt s (tl z)) = [tl a, tl b, tl c] := by
    have h2 := congrArg (List.map tl) ec
    rw [List.map_map] at h2
    simpa [Function.comp_def, tl_S] using h2
  rw [em] at fl
  unfold signs
  rw [filter_nd hs.nd fun c1 hc1 n1 => ?_]
  · rw [show (tl z).count s = 2 by omega]
    rfl
  · have : c1 ∈ (tl z).filter fun c => !decide (c = s) := List.mem_filter.mpr ⟨hc1, by simp [n1]⟩
    rw [← fl] at this
    simp only [List.flatten_cons, List.flatten_nil, List.append_nil, List.mem_append] at this
    rcases this with q | q | q
    · exact dg_of fa.1 _ q
    · exact dg_of fa.2.1 _ q
    · exact dg_of fa.2.2 _ q
theorem dayS_at {o z : Str} {s : Nat} (hs : Sep s) (hg : signs z = [s, s]) : dayS o z btw = dayQ o (Txt.split z ⟨#[s]⟩) ∧ (Txt.split z ⟨#[s]⟩).length = 3 ∧ ∀ p ∈ Txt.split z ⟨#[s]⟩, NumText.AllDigits (tl p) ∧ p.length ≤ z.length := by
  have mem : ∀ c ∈ tl z, c ≠ s → dg c = true := by
    intro c hc n
    cases d : dg c with
    | true => rfl
    | false =>
      have : c ∈ signs z := List.mem_filter.mpr ⟨hc, by rw [d]; rfl⟩
      rw [hg] at this
      exact absurd (by simpa using this) n
  have cs : (tl z).count s = 2 := by
    have h1 := filter_nd hs.nd mem
    have h2 : (signs z).length = (tl z).count s := by unfold signs; rw [h1, List.length_replicate]
    rw [hg] at h2
    exact h2.symm
  have co : ∀ t, Sep t → t ≠ s → (tl z).count t = 0 := by
    intro t ht n
    refine List.count_eq_zero.mpr fun q => ?_
    have := mem t q n
    rw [ht.nd] at this
    cases this
  have l3 : (Txt.split z ⟨#[s]⟩).length = 3 := by rw [split_len z hs.lt, cs]
  have ln : ∀ t, Sep t → t ≠ s → ¬ (Txt.split z ⟨#[t]⟩).length = 3 := fun t ht n => by rw [split_len z ht.lt, co t ht n]; decide
  refine ⟨?_, l3, fun p hp => ⟨?_, parts_le hs.lt p hp⟩⟩
  · rw [btw_eq]
    have s1 : Sep 45 := .inl rfl
    have s2 : Sep 46 := .inr (.inl rfl)
    rcases hs with rfl | rfl | rfl
    · unfold dayS
      rw [if_pos l3]
    · unfold dayS
      rw [if_neg (ln 45 s1 (by decide))]
      unfold dayS
      rw [if_pos l3]
    · unfold dayS
      rw [if_neg (ln 45 s1 (by decide))]
      unfold dayS
      rw [if_neg (ln 46 s2 (by decide))]
      unfold dayS
      rw [if_pos l3]
  · rw [split_cut z hs.lt] at hp
    obtain ⟨l, hl, rfl⟩ := List.mem_map.mp hp
    obtain ⟨_, h2, h3⟩ := cutAt_mem s _ l hl
    rw [tl_S]
    intro c hc
    exact dg_iff.mp (mem c (h3 c hc) fun e => h2 (e ▸ hc))
theorem figs_digits {k : Nat} {l : List Nat} (h : NumText.AllDigits l) : figs k l = true ↔ 1 ≤ l.length ∧ l.length ≤ k := by
  rw [figs_iff]
  exact ⟨fun q => q.1, fun q => ⟨q, h⟩⟩
theorem dayP_digits {Y M D : List Nat} (hY : NumText.AllDigits Y) (hM : NumText.AllDigits M) (hD : NumText.AllDigits D) :
    dayP Y M D = if Y.length = 4 ∧ (1 ≤ M.length ∧ M.length ≤ 2) ∧ (1 ≤ D.length ∧ D.length ≤ 2) then numI (val Y) (val M) (val D) else none := by
  unfold dayP
  by_cases c : Y.length = 4 ∧ (1 ≤ M.length ∧ M.length ≤ 2) ∧ (1 ≤ D.length ∧ D.length ≤ 2)
  · rw [if_pos c, if_pos ⟨c.1, (figs_digits hY).mpr (by omega), (figs_digits hM).mpr c.2.1, (figs_digits hD).mpr c.2.2⟩]
  · rw [if_neg c, if_neg fun q => c ⟨q.1, (figs_digits hM).mp q.2.2.1, (figs_digits hD).mp q.2.2.2⟩]
/-- the law's months -/
def monB (b : Bool) : List Int := [31, 28 + (if b then 1 else 0), 31, 30, 31, 30, 31, 31, 30, 31, 30, 31]
def dinB (b : Bool) (m : Nat) : Int := monL.getD (m - 1) 0 + if m = 2 ∧ b = true then 1 else 0
theorem monB_din : ∀ b : Bool, ∀ m : Nat, m < 13 → 1 ≤ m → (monB b).getD (m - 1) 0 = dinB b m := by decide +kernel
theorem monB_sum : ∀ b : Bool, ∀ m : Nat, m < 13 → 1 ≤ m → ((monB b).take (m - 1)).sum = ((List.range (m - 1)).map fun j => dinB b (1 + j)).sum := by decide +kernel
theorem din_B (y m : Nat) : dinI y m = dinB (leapB y) m := rfl
theorem sum_B (y m : Nat) : sumI y m = ((List.range (m - 1)).map fun j => dinB (leapB y) (1 + j)).sum := rfl
end K21
set_option Elab.async false
set_option linter.all false
set_option maxRecDepth 100000
set_option maxHeartbeats 4000000
/-! k21: the law's day -/
namespace K21
open PySem PySem.Spec PyProof.Rows L2 Bs Xg TL Xk Xl K02
section
variable {X : Cx}
theorem ix_listK {K : PySem.W.Frag} (hK : X.K = K) : IxR X (rIxL K) := hK ▸ ix_list
theorem pe_bmK {K : PySem.W.Frag} (hK : X.K = K) {T id : String} {name : Str} {o e : Expr} {es : List Expr} {r : V → List V → Hp → VK → Prop} {to : TE} {t : TA} {apos cpos : Pos} (pa : PlainAttrs T) (slot : Slot T name id) (hty : typeOf (.builtin id) = pure (.type "method_descriptor")) (hm : MtR X id r) (ho : PE X o to) (ha : PA X (e :: es) t)
    (hbase : attributeBase o name X.env (eval o X.env) = eval o X.env := by rfl)
    (hfew : ((backTo cpos (starEach (e :: es) X.env)).all (fun x => !x.1) && (backToKw cpos (keywordEach [] X.env)).all (fun x => x.1.isSome)
      && decide ((e :: es).length + ([] : List Keyword).length + (if ([] : List Keyword).isEmpty then 0 else 1) < 30)) = true := by rfl)
    (hline : (apos.endLine == cpos.line) = true := by rfl) (hs : starEach (e :: es) X.env = (false, eval e X.env) :: starEach es X.env := by rfl) (hplain : (backTo cpos (starEach es X.env)).any (·.1) = false := by rfl) :
    PE X (.Call (.Attribute o name apos) (e :: es) [] cpos) (tBM K T r to t) := hK ▸ pe_bm pa slot hty hm ho ha hbase hfew hline hs hplain
end
theorem ord_idx {o : Str} (h : IsOrd o) (a b c : Str) : ∀ j s, (Str.ofString "ymd").cps[j]? = some s → ∃ k, Txt.index0 o ⟨#[s]⟩ = some k ∧ k < 3 ∧ [a, b, c][k]? = some (([(ord3 o [a, b, c]).1, (ord3 o [a, b, c]).2.1, (ord3 o [a, b, c]).2.2] : List Str).getD j Str.empty) := by
  have n1 : Str.ofString "dmy" ≠ Str.ofString "ymd" := by decide +kernel
  have n2 : Str.ofString "mdy" ≠ Str.ofString "ymd" := by decide +kernel
  have n3 : Str.ofString "mdy" ≠ Str.ofString "dmy" := by decide +kernel
  have ix : ∀ (o : Str) (x y z : Nat), Txt.index0 o ⟨#[121]⟩ = some x → Txt.index0 o ⟨#[109]⟩ = some y → Txt.index0 o ⟨#[100]⟩ = some z → x < 3 → y < 3 → z < 3 → ∀ (l : Nat → Str), (∀ k, k < 3 → [a, b, c][k]? = some (l k)) → ∀ (g : List Str), g = [l x, l y, l z] →
      ∀ j s, (Str.ofString "ymd").cps[j]? = some s → ∃ k, Txt.index0 o ⟨#[s]⟩ = some k ∧ k < 3 ∧ [a, b, c][k]? = some (g.getD j Str.empty) := by
    rintro o x y z hx hy hz x3 y3 z3 l hl g rfl j s e
    have e' : (Str.ofString "ymd").cps = #[121, 109, 100] := by decide +kernel
    rw [e'] at e
    match j, e with
    | 0, e => cases e; exact ⟨x, hx, x3, hl x x3⟩
    | 1, e => cases e; exact ⟨y, hy, y3, hl y y3⟩
    | 2, e => cases e; exact ⟨z, hz, z3, hl z z3⟩
    | n + 3, e => simp at e
  have hl : ∀ k, k < 3 → [a, b, c][k]? = some ([a, b, c].getD k Str.empty) := by
    intro k hk
    match k, hk with
    | 0, _ => rfl
    | 1, _ => rfl
    | 2, _ => rfl
  rcases h with rfl | rfl | rfl
  · exact ix _ 0 1 2 (by decide +kernel) (by decide +kernel) (by decide +kernel) (by decide) (by decide) (by decide) _ hl _ (by simp [ord3])
  · exact ix _ 2 1 0 (by decide +kernel) (by decide +kernel) (by decide +kernel) (by decide) (by decide) (by decide) _ hl _ (by simp [ord3, n1])
  · exact ix _ 2 0 1 (by decide +kernel) (by decide +kernel) (by decide +kernel) (by decide) (by decide) (by decide) _ hl _ (by simp [ord3, n2, n3])
theorem cutV_to (xs : List V) (k : Nat) : cutV xs none (some (k : Int)) = xs.take k := by
  show (xs.drop (HT.sIx xs.length 0 none)).take (HT.sIx xs.length xs.length (some (k : Int)) - HT.sIx xs.length 0 none) = xs.take k
  rw [HT.sIx_none, HT.sIx_nat, List.drop_zero, Nat.sub_zero]
  by_cases h : k ≤ xs.length
  · rw [Nat.min_eq_left h]
  · rw [Nat.min_eq_right (by omega), List.take_of_length_le (Nat.le_refl _), List.take_of_length_le (by omega)]
def lenOk (x : Str) : Bool := decide (1 ≤ (tl x).length) && decide ((tl x).length ≤ 2)
def spRDL : Sp := fun vs H Q _ => ∃ (o z : Str), vs = [.str o, .str z] ∧ z.length ≤ 400 ∧ IsOrd o ∧ ∀ H', Same H H' → Q (ov (dayS o z btw)) H'
section
variable {P : Program} {w : World} {K : PySem.W.Frag} {mg : Str → Option Value} {base : Heap}
abbrev nLDay : List Str := ["_law_order", "_law_text_here", "_law_signs", "_law_parts", "_law_year", "_law_month", "_law_day_here", "_law_y", "_law_m", "_law_d", "_law_leap", "_law_months", "_law_sign", "_law_part"]
theorem scLDay : FnScope nLDay ["_law_order", "_law_text_here"] (defScope sLDay) := ⟨rfl, rfl, rfl, by decide +kernel, rfl, by decide +kernel, by decide +kernel⟩
instance (s : Nat) : Decidable (Sep s) := by unfold Sep; infer_instance
theorem ok_lday {f fLF : Addr} {fd dLF : FuncData} (F : Fun K "_law_day" "_law_day" sLDay f fd) (T : Free mg) (FLF : Fun K "_law_figures" "_law_figures" sLF fLF dLF) (bLF : Binds K dLF ["_law_text_here"] []) (gLF : mg "_law_figures" = some (.ref fLF)) : FnOk P w K mg base CX0 2 f fd ["_law_order", "_law_text_here"] spRDL := by
  have GLF : FnOk P w K mg base CX0 1 fLF dLF ["_law_text_here"] spLF := ok_lf FLF
  refine F.ok scLDay (fun vs H Q E h => ?_) (fun cdv A outer s H vs Q E hr h => ?_)
  · obtain ⟨o, z, rfl, _⟩ := h
    rfl
  · obtain ⟨o, z, rfl, zl, io, q⟩ := h
    refine ⟨_, pss_cons (ps_setLc (i := 2) (own := [("_law_sign", 12)]) (g := gName 12) (tt := tTest (tOp (fun x y H Q => ∃ (c : Nat) (z : Str), x = .str ⟨#[c]⟩ ∧ y = .str z ∧ Q (.bl (!decide (c ∈ z.cps.toList))) H) (tVar 12) (tC (.str "0123456789")))) rfl scLDay.nd rfl rfl (sw_true rfl rfl rfl rfl) (pi_str (pv 1)) (blkOk_by (own := [("_law_sign", 12)]) (N := nLDay) (sc := defScope sLDay) (by decide +kernel)) (fun _ _ _ _ _ => (pg_name (i := 12) scLDay.nd rfl (Or.inl rfl))) (fun _ _ _ _ _ => pts_one (pt_cmpR op_notIn_sign (pv 12) pe_str rfl)) (fun _ _ _ _ _ => (pv 12)))
      (pss_cons (ps_if (PW.pt (pw_or (pt_cmpR op_ne (pe_callB call_len_seq (by rfl) T.len PySem.boot_len (pa_cons (pv 2) pa_nil)) pe_int (nomark _)) (pw_or (pt_cmpR op_ne (pe_ix ix_list (pv 2) pe_int (fun _ _ => rfl)) (pe_ix ix_list (pv 2) pe_int (fun _ _ => rfl)) (nomark _)) (pw_or1 (pt_cmpR op_notIn_sign (pe_ix ix_list (pv 2) pe_int (fun _ _ => rfl)) pe_str rfl))))) (pss_one (ps_ret pe_non)) (pss_nil))
      (pss_cons (ps_set (i := 3) scLDay.nd rfl (Or.inr rfl) (pe_split (pv 1) (pe_ix ix_list (pv 2) pe_int (fun _ _ => rfl))))
      (pss_cons (ps_asg (pe_lc (own := [("_law_sign", 12)]) (g := gName 12) (tt := tYes) rfl scLDay.nd (pi_str pe_str) (blkOk_by (own := [("_law_sign", 12)]) (N := nLDay) (sc := defScope sLDay) (by decide +kernel)) (fun _ _ _ _ _ => (pg_name (i := 12) scLDay.nd rfl (Or.inl rfl))) (fun _ _ _ _ _ => pts_nil) (fun _ _ _ _ _ => (pe_ix (ix_listK (K := K) rfl) (pv 3) (pe_bmK (K := K) rfl PySem.F.plainAttrs_str PySem.F.slot_str_index PySem.F.type_str_index mt_idx (pv 0) (pa_cons (pv 12) pa_nil)) (fun _ _ => rfl)))) (pg_unl rfl (pgs_cons (pg_name (i := 4) scLDay.nd rfl (Or.inl rfl)) (pgs_cons (pg_name (i := 5) scLDay.nd rfl (Or.inl rfl)) (pgs_cons (pg_name (i := 6) scLDay.nd rfl (Or.inl rfl)) pgs_nil)))))
      (pss_cons (ps_if (PW.pt (pw_or (pt_cmpR op_ne (pe_callB call_len_str (by rfl) T.len PySem.boot_len (pa_cons (pv 4) pa_nil)) pe_int (nomark _)) (pw_or1 (pt_not (pt_val (pe_callB (cr_all rfl) (by rfl) T.all (by decide +kernel) (pa_cons (pe_lc (own := [("_law_part", 13)]) (g := gName 13) (tt := tYes) rfl scLDay.nd (pi_tup (pe_tup (pa_cons (pv 5) (pa_cons (pv 6) pa_nil)))) (blkOk_by (own := [("_law_part", 13)]) (N := nLDay) (sc := defScope sLDay) (by decide +kernel)) (fun _ _ _ _ _ => (pg_name (i := 13) scLDay.nd rfl (Or.inl rfl))) (fun _ _ _ _ _ => pts_nil) (fun _ _ _ _ _ => (pe_chain op_le op_le pe_int (pe_callB call_len_str (by rfl) T.len PySem.boot_len (pa_cons (pv 13) pa_nil)) pe_int))) pa_nil))))))) (pss_one (ps_ret pe_non)) (pss_nil))
      (pss_cons (ps_par3 (i := 7) (j := 8) (l := 9) rfl scLDay.nd rfl rfl rfl (by decide) (by decide) (by decide) rfl rfl rfl (pa_cons (pe_call GLF (hr.mono (by decide)) (by rfl) gLF FLF.kp bLF .nil pass0 (pa_cons (pv 4) pa_nil)) (pa_cons (pe_call GLF (hr.mono (by decide)) (by rfl) gLF FLF.kp bLF .nil pass0 (pa_cons (pv 5) pa_nil)) (pa_cons (pe_call GLF (hr.mono (by decide)) (by rfl) gLF FLF.kp bLF .nil pass0 (pa_cons (pv 6) pa_nil)) pa_nil))) (by rfl))
      (pss_cons (ps_set (i := 10) scLDay.nd rfl (Or.inl rfl) (pe_callTy call_int1 (by rfl) T.int (by decide +kernel) (pa_cons (pe_and (pe_cmpR op_eq (pe_op op_mod (pv 7) pe_int) pe_int (nomark _)) (pe_one (pe_or (pe_cmpR op_gt (pe_op op_mod (pv 7) pe_int) pe_int (nomark _)) (pe_one (pe_cmpR op_eq (pe_op op_mod (pv 7) pe_int) pe_int (nomark _)))))) pa_nil)))
      (pss_cons (ps_set (i := 11) scLDay.nd rfl (Or.inl rfl) (pe_lst (pa_cons pe_int (pa_cons (pe_op op_add pe_int (pv 10)) (pa_cons pe_int (pa_cons pe_int (pa_cons pe_int (pa_cons pe_int (pa_cons pe_int (pa_cons pe_int (pa_cons pe_int (pa_cons pe_int (pa_cons pe_int (pa_cons pe_int pa_nil))))))))))))))
      (pss_cons (ps_if (PW.pt (pw_or (pt_cmpR op_eq (pv 7) pe_int (nomark _)) (pw_or (pt_not (pt_chain op_le op_le pe_int (pv 8) pe_int)) (pw_or1 (pt_not (pt_chain op_le op_le pe_int (pv 9) (pe_ix ix_list (pv 11) (pe_op op_sub (pv 8) pe_int) (fun _ _ => rfl)))))))) (pss_one (ps_ret pe_non)) (pss_nil))
      (pss_one (ps_ret (pe_op op_sub (pe_op op_add (pe_op op_add (pe_op op_add (pe_op op_sub (pe_op op_add (pe_op op_mul (pe_op op_sub (pv 7) pe_int) pe_int) (pe_op op_fdiv (pe_op op_sub (pv 7) pe_int) pe_int)) (pe_op op_fdiv (pe_op op_sub (pv 7) pe_int) pe_int)) (pe_op op_fdiv (pe_op op_sub (pv 7) pe_int) pe_int)) (pe_callB (cr_sum rfl) (by rfl) T.sum (by decide +kernel) (pa_cons (pe_slice sl_list (pv 11) po_none (po_some (pe_op op_sub (pv 8) pe_int))) pa_nil))) (pv 9)) pe_int))))))))))), ?_⟩
    have line : ∀ {x : Str}, x.length ≤ 400 → x.length ≤ sizeLine := fun h => Nat.le_trans h (by decide)
    have no : (¬ ∃ s, Sep s ∧ signs z = [s, s]) → ∀ G, Same H G → Q .non G := fun n G sG => by
      have z1 := q G sG
      cases e : dayS o z btw with
      | none => rw [e] at z1; exact z1
      | some i => exact absurd (dayS_some e) n
    have zs : z.cps.size = z.length := rfl
    refine ⟨_, rfl, z, rfl, fun D nD => ?_⟩
    refine lc_fm (walk_str (z := z)) (tl z) (fun c => if dg c = true then none else some (V.str ⟨#[c]⟩)) (by rw [← len_tl]; rfl) nD (fun _ _ => trivial) (by omega) ?_ ?_
    · rintro j c x G G' R N hk sG ⟨rfl, c', hc', rfl⟩ keep drop
      have ec : c' = c := by
        have h2 : (tl z)[j]? = some c' := by rw [← hc']; exact Array.getElem?_toList
        rw [hk] at h2
        exact (Option.some.inj h2).symm
      subst ec
      refine gN ⟨rfl, ?_⟩
      refine ⟨_, rfl, c', digs, rfl, rfl, _, rfl, ?_⟩
      rw [digs_mem]
      cases e : dg c' with
      | true => exact drop (by simp [e]) _ (Same.refl _)
      | false => exact ⟨_, rfl, keep _ (by simp [e]) _ (Same.refl _)⟩
    · intro G1 s1 eD
      have eS : (tl z).filterMap (fun c => if dg c = true then none else some (V.str ⟨#[c]⟩)) = (signs z).map fun c => V.str ⟨#[c]⟩ := by
        unfold signs
        generalize tl z = l
        induction l with
        | nil => rfl
        | cons c r ih =>
          cases e : dg c with
          | true => rw [List.filterMap_cons, List.filter_cons]; simp [e, ih]
          | false => rw [List.filterMap_cons, List.filter_cons]; simp [e, ih]
      rw [eS] at eD
      refine gN ?_
      try dsimp only
      refine ⟨_, rfl, D, _, rfl, .inl (SqL.of eD), ?_⟩
      refine ⟨rfl, _, rfl, ?_⟩
      have e2 : (!decide (V.int (((signs z).map fun c => V.str ⟨#[c]⟩).length : Nat) = V.int 2)) = !decide ((signs z).length = 2) := congrArg Bool.not (decide_eq_decide.mpr ⟨fun h => by have := V.int.inj h; rw [List.length_map] at this; omega, fun h => congrArg V.int (by rw [List.length_map]; omega)⟩)
      rw [e2]
      by_cases l2 : (signs z).length = 2
      · rw [decide_eq_true l2]
        obtain ⟨a, b, eab⟩ : ∃ a b, signs z = [a, b] := by
          match h : signs z, l2 with
          | [a, b], _ => exact ⟨a, b, rfl⟩
        rw [eab] at eD
        have eD' : G1 D = some (.lst [V.str ⟨#[a]⟩, V.str ⟨#[b]⟩]) := eD
        refine iteF ⟨_, rfl, D, _, _, _, rfl, rfl, SqL.of eD', rfl, _, rfl, D, _, _, _, rfl, rfl, SqL.of eD', rfl, ?_⟩
        refine ⟨rfl, _, rfl, ?_⟩
        have e3 : (!decide (V.str (⟨#[a]⟩ : Str) = V.str ⟨#[b]⟩)) = !decide (a = b) := congrArg Bool.not (decide_eq_decide.mpr ⟨fun h => by have := V.str.inj h; simpa using this, fun h => by rw [h]⟩)
        rw [e3]
        by_cases ab : a = b
        · subst ab
          rw [decide_eq_true rfl]
          have eM : decide (a ∈ (Str.ofString "-./").cps.toList) = decide (Sep a) := by
            have e : (Str.ofString "-./").cps.toList = [45, 46, 47] := by decide +kernel
            rw [e]
            exact decide_eq_decide.mpr (by unfold Sep; simp)
          refine iteF ⟨_, rfl, D, _, _, _, rfl, rfl, SqL.of eD', rfl, a, Str.ofString "-./", rfl, rfl, _, rfl, ?_⟩
          rw [eM]
          by_cases sa : Sep a
          · rw [decide_eq_true sa]
            refine iteF ?_
            unfold tNext
            dsimp only
            have at_ := dayS_at (o := o) sa eab
            refine ⟨_, rfl, ⟨_, rfl⟩, _, rfl, D, _, _, _, rfl, rfl, SqL.of eD', rfl, z, ⟨#[a]⟩, rfl, rfl, rfl, Nat.le_trans (Nat.add_le_add_right zl 2) (by decide), fun D1 n1 => ?_⟩
            refine gN ?_
            try dsimp only
            generalize Txt.split z ⟨#[a]⟩ = parts at *
            obtain ⟨eQ, l3, pp⟩ := at_
            obtain ⟨x1, x2, x3, rfl⟩ := three l3
            have pr := ord3_mk (o := o) (p := fun x => NumText.AllDigits (tl x) ∧ x.length ≤ 400) (a := x1) (b := x2) (c := x3) (by have := pp x1 (by simp); exact ⟨this.1, by omega⟩) (by have := pp x2 (by simp); exact ⟨this.1, by omega⟩) (by have := pp x3 (by simp); exact ⟨this.1, by omega⟩)
            have idx := ord_idx io x1 x2 x3
            unfold dayQ at eQ
            have eD1 : upd G1 D1 (.lst (([x1, x2, x3] : List Str).map V.str)) D1 = some (.lst (([x1, x2, x3] : List Str).map V.str)) := upd_same
            have s2 : Same H (upd G1 D1 (.lst (([x1, x2, x3] : List Str).map V.str))) := s1.trans (Same.new n1)
            generalize upd G1 D1 (.lst (([x1, x2, x3] : List Str).map V.str)) = H2 at eD1 s2 ⊢
            generalize (ord3 o [x1, x2, x3]).1 = Y at pr idx eQ
            generalize (ord3 o [x1, x2, x3]).2.1 = M at pr idx eQ
            generalize (ord3 o [x1, x2, x3]).2.2 = W at pr idx eQ
            obtain ⟨⟨aY, lY⟩, ⟨aM, lM⟩, aW, lW⟩ := pr
            rw [dayP_digits aY aM aW] at eQ
            have y3 : (Str.ofString "ymd").cps.size = 3 := by decide +kernel
            refine ⟨Str.ofString "ymd", rfl, fun D2 n2 => ?_⟩
            refine lc_val (walk_str (z := Str.ofString "ymd")) (Z := fun j x => ∃ c, (Str.ofString "ymd").cps[j]? = some c ∧ x = .str ⟨#[c]⟩) (fun j => .str (([Y, M, W] : List Str).getD j Str.empty)) n2 (fun _ _ _ _ e => e) (fun _ _ => trivial) (by omega) (fun _ => rfl) ?_ ?_
            · rintro j x G Q' hj ⟨c, hc, rfl⟩ sG kG
              obtain ⟨k, hk, k3, hp⟩ := idx j c hc
              have kG := kG G (Same.refl _)
              refine ⟨_, rfl, _, rfl, rfl, _, rfl, o, _, k, rfl, rfl, hk, D1, _, _, _, rfl, rfl, SqL.of (sG _ _ eD1), atI_nat (by rw [List.getElem?_map, hp]; rfl), kG⟩
            · intro G3 s3 eD2
              have r3 : (List.range (Str.ofString "ymd").cps.size).map (fun j => V.str (([Y, M, W] : List Str).getD j Str.empty)) = [.str Y, .str M, .str W] := by
                rw [y3]
                rfl
              rw [r3] at eD2
              refine ⟨D2, _, rfl, SqL.of eD2, rfl, _, _, rfl, ?_⟩
              refine ⟨_, _, rfl, ?_⟩
              refine ⟨_, _, rfl, ?_⟩
              refine ⟨rfl, ?_⟩
              try dsimp only
              have sG3 : Same H G3 := s2.trans s3
              have qq : ∀ G, Same H G → Q (ov (if (tl Y).length = 4 ∧ (1 ≤ (tl M).length ∧ (tl M).length ≤ 2) ∧ (1 ≤ (tl W).length ∧ (tl W).length ≤ 2) then numI (val (tl Y)) (val (tl M)) (val (tl W)) else none)) G := fun G s => by
                have z1 := q G s
                rw [eQ] at z1
                exact z1
              refine ⟨_, rfl, Y, rfl, line lY, ?_⟩
              refine ⟨rfl, _, rfl, ?_⟩
              have e4 : (!decide (V.int (Y.length : Nat) = V.int 4)) = !decide ((tl Y).length = 4) := congrArg Bool.not (decide_eq_decide.mpr ⟨fun h => by have := V.int.inj h; rw [len_tl] at this; omega, fun h => congrArg V.int (by rw [len_tl]; omega)⟩)
              rw [e4]
              by_cases y4 : (tl Y).length = 4
              · rw [decide_eq_true y4]
                refine iteF ⟨_, rfl, _, rfl, (show 2 ≤ sizeLine by decide), fun t ht => ⟨t, rfl, ⟨_, SqT.of upd_same⟩, fun D3 n3 => ?_⟩⟩
                have s4 : Same H (upd G3 t (.tup [.str M, .str W])) := sG3.trans (Same.new ht)
                refine lc_val (walk_tup (K := K) (a := t) (xs := [.str M, .str W])) (Z := fun j x => ([V.str M, V.str W])[j]? = some x) (fun j => .bl (lenOk (([M, W] : List Str).getD j Str.empty))) n3 yat (fun G s => sameT s (SqT.of upd_same)) (show 2 < 100000 by decide) (fun _ => rfl) ?_ ?_
                · rintro j x G Q' hj hx sG kG
                  have kG := kG G (Same.refl _)
                  obtain ⟨u, rfl, eu, lu⟩ : ∃ u, x = .str u ∧ ([M, W] : List Str).getD j Str.empty = u ∧ u.length ≤ 400 := by
                    match j, hx with
                    | 0, hx => cases hx; exact ⟨M, rfl, rfl, lM⟩
                    | 1, hx => cases hx; exact ⟨W, rfl, rfl, lW⟩
                    | n + 2, hx => simp at hx
                  rw [eu] at kG
                  unfold lenOk at kG
                  have lu2 := len_tl u
                  refine ⟨_, rfl, u, rfl, line lu, _, _, rfl, rfl, _, rfl, ?_⟩
                  by_cases c1 : 1 ≤ (tl u).length
                  · rw [decide_eq_true (show (1 : Int) ≤ (u.length : Nat) by omega)]
                    refine iteT ⟨_, _, rfl, rfl, ?_⟩
                    rw [decide_eq_true c1, Bool.true_and] at kG
                    have e5 : decide (((u.length : Nat) : Int) ≤ 2) = decide ((tl u).length ≤ 2) := decide_eq_decide.mpr (by omega)
                    show Q' (.bl (decide (((u.length : Nat) : Int) ≤ 2))) G
                    rw [e5]
                    exact kG
                  · rw [decide_eq_false (show ¬ (1 : Int) ≤ (u.length : Nat) by omega)]
                    rw [decide_eq_false c1, Bool.false_and] at kG
                    exact iteF kG
                · intro G4 s5 eD3
                  have sG4 : Same H G4 := s4.trans s5
                  refine ⟨D3, [lenOk M, lenOk W], rfl, SqL.of eD3, _, rfl, ?_⟩
                  have eL : ([lenOk M, lenOk W].all id) = decide ((1 ≤ (tl M).length ∧ (tl M).length ≤ 2) ∧ (1 ≤ (tl W).length ∧ (tl W).length ≤ 2)) := by
                    show (lenOk M && (lenOk W && true)) = _
                    unfold lenOk
                    rw [Bool.and_true, ← Bool.decide_and, ← Bool.decide_and, ← Bool.decide_and]
                  rw [eL]
                  by_cases lo : (1 ≤ (tl M).length ∧ (tl M).length ≤ 2) ∧ (1 ≤ (tl W).length ∧ (tl W).length ≤ 2)
                  · rw [decide_eq_true lo]
                    refine iteF ?_
                    dsimp only
                    have q3 : ∀ G, Same H G → Q (ov (numI (val (tl Y)) (val (tl M)) (val (tl W)))) G := fun G s => by
                      have z1 := qq G s
                      rw [if_pos ⟨y4, lo⟩] at z1
                      exact z1
                    clear qq
                    have vy := val_lt aY
                    have vm := val_lt aM
                    have vw := val_lt aW
                    have py : 10 ^ (tl Y).length ≤ 10 ^ 4 := Nat.pow_le_pow_right (by decide) (by omega)
                    have pm : 10 ^ (tl M).length ≤ 10 ^ 2 := Nat.pow_le_pow_right (by decide) lo.1.2
                    have pw : 10 ^ (tl W).length ≤ 10 ^ 2 := Nat.pow_le_pow_right (by decide) lo.2.2
                    refine ⟨_, rfl, Y, rfl, by omega, aY, _, rfl, M, rfl, by omega, aM, _, rfl, W, rfl, by omega, aW, _, _, _, rfl, ?_⟩
                    have by1 : val (tl Y) ≤ 9999 := by omega
                    have bm1 : val (tl M) ≤ 99 := by omega
                    have bw1 : val (tl W) ≤ 99 := by omega
                    generalize val (tl Y) = y at *
                    generalize val (tl M) = m at *
                    generalize val (tl W) = d at *
                    try dsimp only
                    refine cutA (fun v H' => v = .int (if leapB y = true then 1 else 0) ∧ H' = G4) (fun Q' q' => ?_) ?_
                    · have e4' : decide (V.int ((y : Int) % 4) = V.int 0) = decide (y % 4 = 0) := decide_eq_decide.mpr ⟨fun h => by have := V.int.inj h; omega, fun h => congrArg V.int (by omega)⟩
                      have e400 : decide (V.int ((y : Int) % 400) = V.int 0) = decide (y % 400 = 0) := decide_eq_decide.mpr ⟨fun h => by have := V.int.inj h; omega, fun h => congrArg V.int (by omega)⟩
                      have e100 : decide ((0 : Int) < (y : Int) % 100) = !decide (y % 100 = 0) := by
                        rw [← decide_not]
                        exact decide_eq_decide.mpr (by omega)
                      refine ⟨_, rfl, _, _, rfl, rfl, (by decide : (0 : Int) < 4), rfl, _, rfl, ?_⟩
                      rw [e4']
                      cases c1 : decide (y % 4 = 0) with
                      | false =>
                        refine iteF (.inr ⟨false, rfl, q' _ _ ⟨?_, rfl⟩⟩)
                        unfold leapB
                        rw [c1]
                        rfl
                      | true =>
                        refine iteT ⟨_, rfl, _, _, rfl, rfl, (by decide : (0 : Int) < 100), _, _, rfl, rfl, _, rfl, ?_⟩
                        rw [e100]
                        cases c2 : decide (y % 100 = 0) with
                        | false =>
                          refine iteT (.inr ⟨true, rfl, q' _ _ ⟨?_, rfl⟩⟩)
                          unfold leapB
                          rw [c1, c2]
                          rfl
                        | true =>
                          refine iteF ⟨_, rfl, _, _, rfl, rfl, (by decide : (0 : Int) < 400), rfl, ?_⟩
                          rw [e400]
                          refine .inr ⟨_, rfl, q' _ _ ⟨?_, rfl⟩⟩
                          unfold leapB
                          rw [c1, c2]
                          rfl
                    · rintro v H' ⟨rfl, rfl⟩
                      refine gN ?_
                      try dsimp only
                      refine ⟨_, rfl, _, _, rfl, rfl, (show 12 ≤ sizeLine by decide), fun L nL => ?_⟩
                      have sL : Same H (upd H' L (.lst ((monB (leapB y)).map V.int))) := sG4.trans (Same.new nL)
                      have eL : upd H' L (.lst ((monB (leapB y)).map V.int)) L = some (.lst ((monB (leapB y)).map V.int)) := upd_same
                      have em : [V.int 31, V.int (28 + (if leapB y = true then 1 else 0)), V.int 31, V.int 30, V.int 31, V.int 30, V.int 31, V.int 31, V.int 30, V.int 31, V.int 30, V.int 31] = (monB (leapB y)).map V.int := rfl
                      refine gN ?_
                      try dsimp only
                      rw [em]
                      generalize upd H' L (.lst ((monB (leapB y)).map V.int)) = H5 at sL eL ⊢
                      have none_ : ¬ (1 ≤ y ∧ 1 ≤ m ∧ m ≤ 12 ∧ 1 ≤ d ∧ (d : Int) ≤ dinI y m) → Q .non H5 := fun n => by
                        have z1 := q3 H5 sL
                        unfold numI at z1
                        rw [if_neg n] at z1
                        exact z1
                      refine ⟨_, rfl, rfl, _, rfl, ?_⟩
                      have e0 : decide (V.int (y : Int) = V.int 0) = decide (y = 0) := decide_eq_decide.mpr ⟨fun h => by have := V.int.inj h; omega, fun h => congrArg V.int (by omega)⟩
                      rw [e0]
                      by_cases y0 : y = 0
                      · rw [decide_eq_true y0]
                        exact iteT (none_ fun h => by omega)
                      · rw [decide_eq_false y0]
                        refine iteF ⟨_, rfl, _, _, rfl, rfl, _, rfl, ?_⟩
                        by_cases m1 : 1 ≤ m
                        · rw [decide_eq_true (show (1 : Int) ≤ (m : Int) by omega)]
                          refine iteT ⟨_, _, rfl, rfl, ?_⟩
                          refine ⟨_, rfl, ?_⟩
                          by_cases m12 : m ≤ 12
                          · rw [decide_eq_true (show (m : Int) ≤ 12 by omega)]
                            refine iteF ⟨_, rfl, _, _, rfl, rfl, _, rfl, ?_⟩
                            by_cases d1 : 1 ≤ d
                            · rw [decide_eq_true (show (1 : Int) ≤ (d : Int) by omega)]
                              have em1 : (m : Int) - 1 = ((m - 1 : Nat) : Int) := by omega
                              have ml : (monB (leapB y)).length = 12 := rfl
                              have atm : atI ((monB (leapB y)).map V.int) ((m : Int) - 1) = some (.int (dinI y m)) := by
                                rw [em1]
                                refine atI_nat ?_
                                have hm : m - 1 < (monB (leapB y)).length := by omega
                                rw [List.getElem?_map, List.getElem?_eq_getElem hm]
                                have := monB_din (leapB y) m (by omega) m1
                                rw [List.getD_eq_getElem?_getD, List.getElem?_eq_getElem hm] at this
                                rw [din_B]
                                exact congrArg (fun x => some (V.int x)) this
                              refine iteT ⟨_, rfl, _, rfl, _, _, rfl, rfl, L, _, _, _, rfl, rfl, SqL.of eL, atm, _, _, rfl, rfl, ?_⟩
                              refine ⟨_, rfl, ?_⟩
                              by_cases dd : (d : Int) ≤ dinI y m
                              · rw [decide_eq_true dd]
                                refine iteF ?_
                                try dsimp only
                                refine ⟨_, rfl, _, _, rfl, rfl, _, _, rfl, rfl, .inl ⟨by omega, by omega⟩, _, rfl, _, _, rfl, rfl, _, _, rfl, rfl, ⟨by decide, by decide⟩, _, _, rfl, rfl, _, rfl, _, _, rfl, rfl, _, _, rfl, rfl, ⟨by decide, by decide⟩, _, _, rfl, rfl, _, rfl, _, _, rfl, rfl, _, _, rfl, rfl, ⟨by decide, by decide⟩, _, _, rfl, rfl, ?_⟩
                                refine ⟨_, rfl, _, rfl, _, _, rfl, rfl, _, rfl, L, _, rfl, SqL.of eL, fun D5 n5 => ?_⟩
                                have ec : cutV ((monB (leapB y)).map V.int) none (some ((m : Int) - 1)) = ((monB (leapB y)).take (m - 1)).map V.int := by
                                  rw [em1, cutV_to]
                                  exact (List.map_take).symm
                                rw [ec]
                                refine ⟨D5, (monB (leapB y)).take (m - 1), rfl, SqL.of upd_same, _, _, rfl, rfl, _, rfl, _, _, rfl, rfl, _, _, rfl, rfl, ?_⟩
                                have z1 := q3 (upd H5 D5 (.lst (((monB (leapB y)).take (m - 1)).map V.int))) (sL.trans (Same.new n5))
                                unfold numI at z1
                                rw [if_pos ⟨by omega, m1, m12, d1, dd⟩] at z1
                                have ea : ((y : Int) - 1) * 365 + ((y : Int) - 1) / 4 - ((y : Int) - 1) / 100 + ((y : Int) - 1) / 400 = aheadI y := by
                                  unfold aheadI
                                  omega
                                have es : ((monB (leapB y)).take (m - 1)).sum = sumI y m := monB_sum (leapB y) m (by omega) m1
                                rw [← ea, ← es] at z1
                                exact z1
                              · rw [decide_eq_false dd]
                                exact iteT (none_ fun h => dd h.2.2.2.2)
                            · rw [decide_eq_false (show ¬ (1 : Int) ≤ (d : Int) by omega)]
                              exact iteF ⟨_, rfl, iteT (none_ fun h => d1 h.2.2.2.1)⟩
                          · rw [decide_eq_false (show ¬ (m : Int) ≤ 12 by omega)]
                            exact iteT (none_ fun h => m12 h.2.2.1)
                        · rw [decide_eq_false (show ¬ (1 : Int) ≤ (m : Int) by omega)]
                          exact iteF ⟨_, rfl, iteT (none_ fun h => m1 h.2.1)⟩
                  · rw [decide_eq_false lo]
                    have z1 := qq _ sG4
                    rw [if_neg fun h => lo h.2] at z1
                    exact iteT z1
              · rw [decide_eq_false y4]
                have z1 := qq _ sG3
                rw [if_neg fun h => y4 h.1] at z1
                exact iteT z1
          · rw [decide_eq_false sa]
            refine iteT (no ?_ _ s1)
            rintro ⟨s, hs, e⟩
            rw [eab] at e
            cases e
            exact sa hs
        · rw [decide_eq_false ab]
          refine iteT (no ?_ _ s1)
          rintro ⟨s, hs, e⟩
          rw [eab] at e
          cases e
          exact ab rfl
      · rw [decide_eq_false l2]
        refine iteT (no ?_ _ s1)
        rintro ⟨s, hs, e⟩
        rw [e] at l2
        exact l2 rfl
end
end K21
set_option Elab.async false
set_option linter.all false
set_option maxRecDepth 100000
set_option maxHeartbeats 4000000
/-! k21: the law's numbers -/
namespace K21
open PySem PySem.Spec PyProof.Rows L2 Bs Xg TL Xk Xl K02
def timesS (a : Str) (k : Int) : Str := if k < 1 then Str.empty else if (k == 1 || a.length == 0) = true then a else ⟨(List.replicate k.toNat a.cps).foldl (· ++ ·) #[]⟩
theorem fold_app : ∀ (l : List (Array Nat)) (x : Array Nat), (l.foldl (· ++ ·) x).toList = x.toList ++ (l.map Array.toList).flatten
  | [], x => by simp
  | y :: l, x => by
    rw [List.foldl_cons, fold_app l]
    simp
theorem times_tl (a : Str) (k : Int) : tl (timesS a k) = (List.replicate k.toNat (tl a)).flatten := by
  unfold timesS
  by_cases c : k < 1
  · rw [if_pos c, show k.toNat = 0 by omega]
    exact tl_empty
  · rw [if_neg c]
    by_cases d : (k == 1 || a.length == 0) = true
    · rw [if_pos d]
      rcases Bool.or_eq_true_iff.mp d with e | e
      · have e1 : k = 1 := by simpa using e
        rw [e1]
        show tl a = (List.replicate 1 (tl a)).flatten
        simp
      · have e1 : tl a = [] := List.eq_nil_of_length_eq_zero (by rw [← len_tl]; simpa using e)
        rw [e1]
        generalize k.toNat = n
        induction n with
        | zero => rfl
        | succ n ih => rw [List.replicate_succ, List.flatten_cons, ← ih]; rfl
    · rw [if_neg d]
      show ((List.replicate k.toNat a.cps).foldl (· ++ ·) #[]).toList = _
      rw [fold_app]
      simp [tl]
theorem times_len (a : Str) (k : Int) : (timesS a k).length = k.toNat * a.length := by
  rw [len_tl, times_tl, len_tl]
  generalize k.toNat = n
  induction n with
  | zero => simp
  | succ n ih => rw [List.replicate_succ, List.flatten_cons, List.length_append, ih, Nat.succ_mul, Nat.add_comm]
section
variable {X : Cx}
theorem op_times : OpR X (binaryOp .Mult) (fun x y H Q => ∃ (a : Str) (k : Int), x = .str a ∧ y = .int k ∧ -1000 ≤ k ∧ k ≤ 1000 ∧ a.length ≤ 1000 ∧ Q (.str (timesS a k)) H) := by
  intro pins s σ H x y v u Q I rx ry h
  obtain ⟨a, k, rfl, rfl, k0, k1, al, q⟩ := h
  obtain ⟨t, rfl⟩ := rx
  obtain ⟨t', rfl⟩ := ry
  have tl_ : k.toNat * a.length ≤ 1000 * 1000 := Nat.mul_le_mul (by omega) al
  refine PySem.P.mul_str (by rw [decide_eq_false (by omega), decide_eq_false (by omega)]; rfl) (fun c1 _ c2 => ?_) (fun c1 _ => ?_) ?_
  · have ek : ((k.toNat : Nat) : Int) = k := Int.toNat_of_nonneg (by omega)
    have h1 : (a.length : Int) * k ≤ 2 ^ 63 - 1 := by
      have h3 : ((a.length * k.toNat : Nat) : Int) ≤ 1000 * 1000 := by rw [Nat.mul_comm]; exact_mod_cast tl_
      rw [Int.natCast_mul, ek] at h3
      omega
    have h2 : (a.length : Int) ≤ (2 ^ 63 - 1) / k := Int.le_ediv_of_mul_le (by omega) h1
    omega
  · show decide (a.length * k.toNat > sizeLine) = false
    refine decide_eq_false ?_
    rw [Nat.mul_comm, sizeLine_eq]
    omega
  · have eT := times_len a k
    unfold timesS at q eT
    by_cases c : k < 1
    · rw [if_pos c] at q ⊢
      exact ⟨by decide, ⟨.str Str.empty, H, I.tok _, ⟨_, rfl⟩, q⟩⟩
    · rw [if_neg c] at q ⊢
      rw [if_neg c] at eT
      by_cases d : (k == 1 || a.length == 0) = true
      · rw [if_pos d] at q ⊢
        exact ⟨.str a, H, I, ⟨_, rfl⟩, q⟩
      · rw [if_neg d] at q ⊢
        rw [if_neg d] at eT
        exact ⟨by rw [eT, sizeLine_eq]; omega, ⟨.str _, H, I.tok _, ⟨_, rfl⟩, q⟩⟩
end
end K21
set_option Elab.async false
set_option linter.all false
set_option maxRecDepth 100000
set_option maxHeartbeats 4000000
/-! k21: the law's numbers, read -/
namespace K21
open PySem PySem.Spec PyProof.Rows L2 Bs Xg TL Xk Xl K02
theorem cutAt_no {s : Nat} : ∀ {l : List Nat}, s ∉ l → cutAt s l = [l]
  | [], _ => rfl
  | c :: r, h => by
    rw [cutAt_cons, if_neg (fun e => h (by simp [e])), cutAt_no (l := r) (fun q => h (List.mem_cons_of_mem _ q))]
    rfl
theorem cutAt_app {s : Nat} : ∀ {p q : List Nat}, s ∉ p → cutAt s (p ++ s :: q) = p :: cutAt s q
  | [], q, _ => by rw [List.nil_append, cutAt_cons, if_pos rfl]
  | c :: r, q, h => by
    rw [List.cons_append, cutAt_cons, if_neg (fun e => h (by simp [e])), cutAt_app (p := r) (fun q => h (List.mem_cons_of_mem _ q))]
    rfl
theorem figs_dot {k : Nat} {l : List Nat} (h : 46 ∈ l) : figs k l = false := by
  cases e : figs k l with
  | false => rfl
  | true =>
    have := (figs_iff.mp e).2 46 h
    omega
theorem due_whole (l : List Nat) : due 0 l = if figs 9 (body l) = true then some (sgn l (val (body l))) else none := by
  rcases two_ways (body l) with h | ⟨p, q, e, h⟩
  · rw [due_plain h]
    show (if figs 9 (body l) = true then some (sgn l (val (body l ++ []))) else none) = _
    rw [List.append_nil]
  · rw [due_dot e h, if_neg, if_neg]
    · rw [figs_dot (by rw [e]; simp)]
      decide
    · intro c
      have := (figs_iff.mp c.2).1
      omega
theorem due_one {m : Nat} {l p : List Nat} (e : cutAt 46 (body l) = [p]) : due m l = if figs (cap m) p = true then some (sgn l (val (p ++ zs m))) else none := by
  rcases two_ways (body l) with h | ⟨p', q, e', h⟩
  · rw [cutAt_no h] at e
    cases e
    exact due_plain h
  · rw [e', cutAt_app h] at e
    exact absurd (List.cons.inj e).2 (cutAt_ne _ _)
theorem due_two {m : Nat} {l p q : List Nat} (e : cutAt 46 (body l) = [p, q]) : due m l = if figs (cap m) p = true ∧ figs m q = true then some (sgn l (val (p ++ (q ++ zs (m - q.length))))) else none := by
  rcases two_ways (body l) with h | ⟨p', q', e', h⟩
  · rw [cutAt_no h] at e
    cases e
  · rw [e', cutAt_app h] at e
    obtain ⟨rfl, e2⟩ := List.cons.inj e
    rcases two_ways q' with h2 | ⟨p2, q2, e3, h2⟩
    · rw [cutAt_no h2] at e2
      cases e2
      exact due_dot e' h
    · rw [e3, cutAt_app h2] at e2
      exact absurd (List.cons.inj e2).2 (cutAt_ne _ _)
theorem due_many {m : Nat} {l : List Nat} (e : 2 < (cutAt 46 (body l)).length) : due m l = none := by
  rcases two_ways (body l) with h | ⟨p', q', e', h⟩
  · rw [cutAt_no h] at e
    simp at e
  · rw [e', cutAt_app h] at e
    rcases two_ways q' with h2 | ⟨p2, q2, e3, h2⟩
    · rw [cutAt_no h2] at e
      simp at e
    · rw [due_dot e' h, if_neg]
      intro c
      rw [figs_dot (l := q') (by rw [e3]; simp)] at c
      exact absurd c.2 (by decide)
def sg (l : List Nat) : Int := if l.take 1 = [45] then -1 else 1
theorem sgn_eq (l : List Nat) (n : Nat) : sgn l n = sg l * (n : Int) := by
  unfold sgn sg
  split <;> omega
section
variable {P : Program} {w : World} {K : PySem.W.Frag} {mg : Str → Option Value} {base : Heap}
theorem scLNu : FnScope ["_law_form_here", "_law_text_here", "_law_sign", "_law_rest", "_law_parts", "_law_last"] ["_law_form_here", "_law_text_here"] (defScope sLNu) := ⟨rfl, rfl, rfl, by decide +kernel, rfl, by decide +kernel, by decide +kernel⟩
theorem atI_str {x : Array Nat} {c : Nat} (h : x[0]? = some c) : atI x.toList 0 = some c := atI_nat (j := 0) (by rw [Array.getElem?_toList]; exact h)
structure Lnm (K : PySem.W.Frag) (mg : Str → Option Value) (fLNu fLAF fLF fLDay fLW fLDoes : Addr) (dLNu dLAF dLF dLDay dLW dLDoes : FuncData) : Prop where
  LNu : Fun K "_law_number" "_law_number" sLNu fLNu dLNu
  bLNu : Binds K dLNu ["_law_form_here", "_law_text_here"] []
  gLNu : mg "_law_number" = some (.ref fLNu)
  LAF : Fun K "_law_are_figures" "_law_are_figures" sLAF fLAF dLAF
  bLAF : Binds K dLAF ["_law_text_here", "_law_most"] []
  gLAF : mg "_law_are_figures" = some (.ref fLAF)
  LF : Fun K "_law_figures" "_law_figures" sLF fLF dLF
  bLF : Binds K dLF ["_law_text_here"] []
  gLF : mg "_law_figures" = some (.ref fLF)
  LDay : Fun K "_law_day" "_law_day" sLDay fLDay dLDay
  bLDay : Binds K dLDay ["_law_order", "_law_text_here"] []
  gLDay : mg "_law_day" = some (.ref fLDay)
  LW : Fun K "_law_worth" "_law_worth" sLW fLW dLW
  bLW : Binds K dLW ["_law_text_here"] []
  gLW : mg "_law_worth" = some (.ref fLW)
  LDoes : Fun K "_law_does" "_law_does" sLDoes fLDoes dLDoes
  bLDoes : Binds K dLDoes ["_law_deed", "_law_here"] []
  gLDoes : mg "_law_does" = some (.ref fLDoes)
variable {fLNu fLAF fLF fLDay fLW fLDoes : Addr} {dLNu dLAF dLF dLDay dLW dLDoes : FuncData}
theorem ok_lnu (L : Lnm K mg fLNu fLAF fLF fLDay fLW fLDoes dLNu dLAF dLF dLDay dLW dLDoes) (T : Free mg) : FnOk P w K mg base CX0 3 fLNu dLNu ["_law_form_here", "_law_text_here"] (spRs K) := by
  have GLF : FnOk P w K mg base CX0 1 fLF dLF ["_law_text_here"] spLF := ok_lf L.LF
  have GLAF : FnOk P w K mg base CX0 1 fLAF dLAF ["_law_text_here", "_law_most"] spLAF := ok_laf L.LAF T
  have GLDay : FnOk P w K mg base CX0 2 fLDay dLDay ["_law_order", "_law_text_here"] spRDL := ok_lday L.LDay T L.LF L.bLF L.gLF
  have FLF := L.LF
  have bLF := L.bLF
  have gLF := L.gLF
  have FLAF := L.LAF
  have bLAF := L.bLAF
  have gLAF := L.gLAF
  have FLDay := L.LDay
  have bLDay := L.bLDay
  have gLDay := L.gLDay
  refine L.LNu.ok scLNu (fun vs H Q E h => ?_) (fun cdv A outer s H vs Q E hr h => ?_)
  · obtain ⟨p, f, z, rfl, _⟩ := h
    rfl
  · obtain ⟨p, f, z, rfl, hp, fo, zl, q⟩ := h
    refine ⟨_, pss_cons (ps_par (i := 2) (j := 3) rfl scLNu.nd rfl rfl (by decide) rfl rfl (pa_cons pe_int (pa_cons (pv 1) pa_nil)) (by rfl))
      (pss_cons (ps_if (pt_cmpR op_in_seq (pe_slice sl_str (pv 1) po_none (po_some pe_int)) (pe_tup (pa_cons pe_str (pa_cons pe_str pa_nil))) rfl) (pss_one (ps_par (i := 2) (j := 3) rfl scLNu.nd rfl rfl (by decide) rfl rfl (pa_cons (pe_op op_sub pe_int (pe_op op_mul pe_int (pe_callTy call_int1 (by rfl) T.int (by decide +kernel) (pa_cons (pe_cmpR op_eq (pe_ix ix_str (pv 1) pe_int (fun _ _ => rfl)) pe_str (nomark _)) pa_nil)))) (pa_cons (pe_slice sl_str (pv 1) (po_some pe_int) po_none) pa_nil)) (by rfl))) (pss_nil))
      (pss_cons (ps_if (pt_cmpR op_eq (pe_ix ix_tup (pv 0) pe_int (fun _ _ => rfl)) pe_str (nomark _)) (pss_one (ps_ret (pe_ifExp (pt_val (pe_call GLAF (hr.mono (by decide)) (by rfl) gLAF FLAF.kp bLAF .nil pass0 (pa_cons (pv 3) (pa_cons pe_int pa_nil)))) (pe_op op_mul (pv 2) (pe_call GLF (hr.mono (by decide)) (by rfl) gLF FLF.kp bLF .nil pass0 (pa_cons (pv 3) pa_nil))) pe_non))) (pss_nil))
      (pss_cons (ps_if (pt_cmpR op_eq (pe_ix ix_tup (pv 0) pe_int (fun _ _ => rfl)) pe_str (nomark _)) (pss_cons (ps_set (i := 4) scLNu.nd rfl (Or.inl rfl) (pe_split (pv 3) pe_str))
      (pss_cons (ps_if (PW.pt (pw_or (pt_cmpR op_gt (pe_callB call_len_seq (by rfl) T.len PySem.boot_len (pa_cons (pv 4) pa_nil)) pe_int (nomark _)) (pw_or1 (pt_not (pt_val (pe_call GLAF (hr.mono (by decide)) (by rfl) gLAF FLAF.kp bLAF .nil pass0 (pa_cons (pe_ix ix_list (pv 4) pe_int (fun _ _ => rfl)) (pa_cons pe_int pa_nil)))))))) (pss_one (ps_ret pe_non)) (pss_nil))
      (pss_cons (ps_if (PW.pt (pw_and (pt_cmpR op_eq (pe_callB call_len_seq (by rfl) T.len PySem.boot_len (pa_cons (pv 4) pa_nil)) pe_int (nomark _)) (pw_and1 (pt_not (pt_val (pe_call GLAF (hr.mono (by decide)) (by rfl) gLAF FLAF.kp bLAF .nil pass0 (pa_cons (pe_ix ix_list (pv 4) pe_int (fun _ _ => rfl)) (pa_cons (pe_ix ix_tup (pv 0) pe_int (fun _ _ => rfl)) pa_nil)))))))) (pss_one (ps_ret pe_non)) (pss_nil))
      (pss_cons (ps_set (i := 5) scLNu.nd rfl (Or.inl rfl) (pe_ifExp (pt_cmpR op_eq (pe_callB call_len_seq (by rfl) T.len PySem.boot_len (pa_cons (pv 4) pa_nil)) pe_int (nomark _)) (pe_ix ix_list (pv 4) pe_int (fun _ _ => rfl)) pe_str))
      (pss_one (ps_ret (pe_op op_mul (pv 2) (pe_call GLF (hr.mono (by decide)) (by rfl) gLF FLF.kp bLF .nil pass0 (pa_cons (pe_op op_add_str (pe_op op_add_str (pe_ix ix_list (pv 4) pe_int (fun _ _ => rfl)) (pv 5)) (pe_op op_times pe_str (pe_op op_sub (pe_ix ix_tup (pv 0) pe_int (fun _ _ => rfl)) (pe_callB call_len_str (by rfl) T.len PySem.boot_len (pa_cons (pv 5) pa_nil))))) pa_nil))))))))) (pss_nil))
      (pss_one (ps_ret (pe_call GLDay (hr.mono (by decide)) (by rfl) gLDay FLDay.kp bLDay .nil pass0 (pa_cons (pe_ix ix_tup (pv 0) pe_int (fun _ _ => rfl)) (pa_cons (pv 1) pa_nil)))))))), ?_⟩
    have line : z.length ≤ sizeLine := Nat.le_trans zl (by decide)
    refine ⟨_, rfl, _, _, rfl, ?_⟩
    dsimp only
    refine cutT (fun σ' G => σ' = [some (.ref p), some (.str z), some (.int (sg (tl z))), some (.str (S (body (tl z)))), none, none] ∧ Same H G) (fun Nx nx => ?_) ?_
    · skip
      refine ⟨_, rfl, _, rfl, z, rfl, line, (by show 2 ≤ sizeLine; decide), fun t ht => ⟨t, _, rfl, .inr (SqT.of upd_same), rfl, rfl, _, rfl, ?_⟩⟩
      have e1 : (if false = true then !inV (.str (cutS z none (some 1))) [V.str (Str.ofString "+"), V.str (Str.ofString "-")] else inV (.str (cutS z none (some 1))) [V.str (Str.ofString "+"), V.str (Str.ofString "-")]) = decide (List.take 1 (tl z) = [43] ∨ List.take 1 (tl z) = [45]) := by
        have c1 : tl (cutS z none (some 1)) = (tl z).take 1 := tl_cut_to z 1
        have b : ∀ y : Str, (y == cutS z none (some 1)) = decide ((tl z).take 1 = tl y) := by
          intro y
          rw [← c1]
          by_cases e : y = cutS z none (some 1)
          · rw [← e]
            simp
          · rw [decide_eq_false (fun q => e (ext_tl q.symm))]
            exact beq_eq_false_iff_ne.mpr e
        show (((Str.ofString "+") == cutS z none (some 1)) || (((Str.ofString "-") == cutS z none (some 1)) || false)) = _
        rw [b, b, show tl (Str.ofString "+") = [43] by decide +kernel, show tl (Str.ofString "-") = [45] by decide +kernel, Bool.or_false]
        simp
      rw [e1]
      refine ite2 (fun c => ?_) (fun c => ?_)
      · have c' := of_decide_eq_true c
        obtain ⟨c0, r0, ez⟩ : ∃ c0 r0, tl z = c0 :: r0 := by
          cases e : tl z with
          | nil => rw [e] at c'; simp at c'
          | cons a r => exact ⟨a, r, rfl⟩
        have eat : z.cps[0]? = some c0 := by
          have h0 : (tl z)[0]? = some c0 := by rw [ez]; rfl
          rw [← h0]
          exact (Array.getElem?_toList).symm
        refine ⟨_, rfl, z, _, c0, rfl, rfl, line, atI_str eat, rfl, .inr ⟨_, rfl, _, _, rfl, rfl, .inl ⟨by decide, by decide⟩, _, _, rfl, rfl, _, rfl, _, rfl, z, rfl, line, _, _, rfl, ?_⟩⟩
        have e : body (tl z) = (tl z).drop 1 := if_pos c'
        have eb : decide (V.str (⟨#[c0]⟩ : Str) = V.str "-") = decide ((tl z).take 1 = [45]) := by
          rw [ez]
          refine decide_eq_decide.mpr ⟨fun h => ?_, fun h => ?_⟩
          · have := V.str.inj h
            rw [ofS1.1] at this
            simpa using this
          · have : c0 = 45 := by simpa using h
            rw [this]
            exact congrArg V.str ofS1.1.symm
        rw [eb]
        refine nx _ _ ⟨?_, Same.new ht⟩
        have es : (1 : Int) - 2 * (if decide ((tl z).take 1 = [45]) = true then 1 else 0) = sg (tl z) := by
          unfold sg
          by_cases h : (tl z).take 1 = [45]
          · rw [decide_eq_true h, if_pos h]; rfl
          · rw [decide_eq_false h, if_neg h]; rfl
        have eq : cutS z (some 1) none = S (body (tl z)) := by rw [e, ← tl_cut_from z 1, S_tl]; rfl
        show [some (V.ref p), some (V.str z), some (V.int (1 - 2 * (if decide ((tl z).take 1 = [45]) = true then 1 else 0))), some (V.str (cutS z (some 1) none)), none, none] = _
        rw [es, eq]
      · have c' : ¬ (List.take 1 (tl z) = [43] ∨ List.take 1 (tl z) = [45]) := fun x => c (decide_eq_true x)
        unfold tNext
        dsimp only
        refine nx _ _ ⟨?_, Same.new ht⟩
        have e : body (tl z) = tl z := if_neg c'
        have e2 : sg (tl z) = 1 := if_neg fun x => c' (.inr x)
        rw [e, S_tl, e2]
        rfl
    · rintro σ' G ⟨rfl, sG⟩
      have d1 : V.str "amount" ≠ V.str "whole" := by decide +kernel
      have d2 : V.str "day" ≠ V.str "whole" := by decide +kernel
      have d3 : V.str "day" ≠ V.str "amount" := by decide +kernel
      have hpG := sameT sG hp
      have bl : (body (tl z)).length ≤ 400 := by
        rw [len_tl] at zl
        unfold body
        split
        · rw [List.length_drop]; omega
        · omega
      cases f with
      | whole =>
        refine ⟨_, rfl, p, _, _, _, rfl, rfl, hpG, rfl, ?_⟩
        refine ⟨rfl, _, rfl, ?_⟩
        rw [decide_eq_true rfl]
        refine iteT ⟨_, rfl, S (body (tl z)), 9, rfl, by rw [S_len]; omega, fun G1 s1 => ?_⟩
        refine ⟨_, rfl, ?_⟩
        rw [tl_S]
        have z1 := q G1 (sG.trans s1)
        unfold readP at z1
        dsimp only at z1
        rw [due_whole] at z1
        cases e : figs 9 (body (tl z)) with
        | true =>
          rw [e, if_pos rfl, sgn_eq] at z1
          refine iteT ⟨_, rfl, _, rfl, S (body (tl z)), rfl, by rw [S_len]; omega, by rw [tl_S]; exact (figs_iff.mp e).2, ?_⟩
          rw [tl_S]
          refine ⟨_, _, rfl, rfl, .inl ?_, z1⟩
          unfold sg
          split <;> decide
        | false =>
          rw [e, if_neg (by decide)] at z1
          exact iteF z1
      | amount m =>
        obtain ⟨m1, m4⟩ := fo
        refine ⟨_, rfl, p, _, _, _, rfl, rfl, hpG, rfl, ?_⟩
        refine ⟨rfl, _, rfl, ?_⟩
        rw [decide_eq_false d1]
        refine iteF ?_
        unfold tNext
        dsimp only
        refine ⟨_, rfl, p, _, _, _, rfl, rfl, hpG, rfl, ?_⟩
        refine ⟨rfl, _, rfl, ?_⟩
        rw [decide_eq_true rfl]
        refine iteT ⟨_, rfl, ⟨_, rfl⟩, S (body (tl z)), Str.ofString ".", rfl, rfl, rfl, by rw [S_len, sizeLine_eq]; omega, fun D nD => ?_⟩
        have es : Txt.split (S (body (tl z))) (Str.ofString ".") = (cutAt 46 (body (tl z))).map S := by
          have h := split_cut (S (body (tl z))) (s := 46) (by decide)
          rw [tl_S] at h
          rw [ofS1.2.1]
          exact h
        rw [es]
        refine gN ?_
        try dsimp only
        have s1 := sG.trans (Same.new (o := .lst (((cutAt 46 (body (tl z))).map S).map V.str)) nD)
        have eD : upd G D (.lst (((cutAt 46 (body (tl z))).map S).map V.str)) D = some (.lst (((cutAt 46 (body (tl z))).map S).map V.str)) := upd_same
        generalize upd G D (.lst (((cutAt 46 (body (tl z))).map S).map V.str)) = G1 at s1 eD ⊢
        have z1 : ∀ G, Same H G → Q (ov (due m (tl z))) G := q
        have cm : cap m = 8 := if_neg (by omega)
        have ml := cutAt_mem 46 (body (tl z))
        have sgb : -(2 ^ 64) < sg (tl z) ∧ sg (tl z) < 2 ^ 64 := by unfold sg; split <;> decide
        refine ⟨_, rfl, D, _, rfl, .inl (SqL.of eD), _, _, rfl, rfl, _, rfl, ?_⟩
        rcases hL : cutAt 46 (body (tl z)) with _ | ⟨p1, _ | ⟨q1, _ | ⟨r1, rest⟩⟩⟩
        · exact absurd hL (cutAt_ne _ _)
        · rw [hL] at eD ml
          have lp := (ml p1 (by simp)).1
          rw [decide_eq_false (show ¬ (2 : Int) < ((([p1].map S).map V.str).length : Nat) from (by decide : ¬ (2 : Int) < ((1 : Nat) : Int)))]
          refine iteF ⟨_, rfl, D, _, _, _, rfl, rfl, SqL.of eD, rfl, S p1, 8, rfl, by rw [S_len]; omega, fun G2 s2 => ?_⟩
          refine ⟨_, rfl, ?_⟩
          have hz := z1 _ (s1.trans s2)
          rw [due_one hL, cm] at hz
          rw [tl_S]
          have eD2 := s2 _ _ eD
          have hp2 := sameT (s1.trans s2) hp
          cases e8 : figs 8 p1 with
          | false =>
            rw [e8, if_neg (by decide)] at hz
            exact iteT hz
          | true =>
            rw [e8, if_pos rfl, sgn_eq] at hz
            refine iteF ?_
            dsimp only
            refine ⟨_, rfl, D, _, rfl, .inl (SqL.of eD2), ?_⟩
            refine ⟨rfl, _, rfl, ?_⟩
            rw [decide_eq_false (show ¬ V.int ((([p1].map S).map V.str).length : Nat) = V.int 2 from fun h => by have := V.int.inj h; simp at this)]
            refine iteF ?_
            dsimp only
            refine ⟨_, rfl, D, _, rfl, .inl (SqL.of eD2), ?_⟩
            refine ⟨rfl, _, rfl, ?_⟩
            rw [decide_eq_false (show ¬ V.int ((([p1].map S).map V.str).length : Nat) = V.int 2 from fun h => by have := V.int.inj h; simp at this)]
            refine iteF ?_
            refine gN ?_
            try dsimp only
            have t0 : tl (timesS (Str.ofString "0") ((m : Int) - ((Str.ofString "").length : Nat))) = zs (m - (Str.ofString "").length) := by
              rw [times_tl, show ((m : Int) - ((Str.ofString "").length : Nat)).toNat = m - (Str.ofString "").length by omega, show tl (Str.ofString "0") = [48] by decide +kernel]
              unfold zs
              generalize m - (Str.ofString "").length = n
              induction n with
              | zero => rfl
              | succ n ih => rw [List.replicate_succ, List.replicate_succ, List.flatten_cons, ih]; rfl
            have tT : tl (S p1 ++ Str.ofString "" ++ timesS (Str.ofString "0") ((m : Int) - ((Str.ofString "").length : Nat))) = p1 ++ [] ++ zs (m - (Str.ofString "").length) := by
              rw [tl_append, tl_append, t0, tl_S]
              rfl
            have l0 : (timesS (Str.ofString "0") ((m : Int) - ((Str.ofString "").length : Nat))).length ≤ 4 := by
              rw [len_tl, t0, zs_len]
              omega
            have lT : (S p1 ++ Str.ofString "" ++ timesS (Str.ofString "0") ((m : Int) - ((Str.ofString "").length : Nat))).length ≤ 1000 := by
              rw [len_tl, tT, List.length_append, List.length_append, zs_len]
              rw [List.length_nil]
              omega
            refine ⟨_, rfl, _, rfl, D, _, _, _, rfl, rfl, SqL.of eD2, rfl, _, rfl, _, _, rfl, rfl, ?_, _, rfl, p, _, _, _, rfl, rfl, hp2, rfl, _, rfl, Str.ofString "", rfl, ?_, _, _, rfl, rfl, _, _, rfl, rfl, ?_, ?_, ?_, _, _, rfl, rfl, ?_, _, rfl, lT, ?_, ?_⟩
            · rw [S_len, sizeLine_eq]
              have e0 : (Str.ofString "").length = 0 := by decide
              omega
            · rw [sizeLine_eq]
              have e0 : (Str.ofString "").length = 0 := by decide
              omega
            · have e0 : (Str.ofString "").length = 0 := by decide
              omega
            · have e0 : (Str.ofString "").length = 0 := by decide
              omega
            · decide
            · rw [sizeLine_eq, len_tl (S p1 ++ Str.ofString ""), tl_append, List.length_append, tl_S, ← len_tl]
              have e0 : (Str.ofString "").length = 0 := by decide
              omega
            · rw [tT]
              exact digits_app (digits_app (figs_iff.mp e8).2 (fun c hc => nomatch hc)) (zs_digits _)
            · rw [tT]
              refine ⟨_, _, rfl, rfl, .inl sgb, ?_⟩
              have e0 : m - (Str.ofString "").length = m := by rw [show (Str.ofString "").length = 0 from rfl, Nat.sub_zero]
              rw [e0, List.append_nil]
              exact hz
        · rw [hL] at eD ml
          have lp := (ml p1 (by simp)).1
          have lq := (ml q1 (by simp)).1
          rw [decide_eq_false (show ¬ (2 : Int) < ((([p1, q1].map S).map V.str).length : Nat) from (by decide : ¬ (2 : Int) < ((2 : Nat) : Int)))]
          refine iteF ⟨_, rfl, D, _, _, _, rfl, rfl, SqL.of eD, rfl, S p1, 8, rfl, by rw [S_len]; omega, fun G2 s2 => ?_⟩
          refine ⟨_, rfl, ?_⟩
          have hz0 := z1 _ (s1.trans s2)
          rw [due_two hL, cm] at hz0
          rw [tl_S]
          have eD2 := s2 _ _ eD
          have hp2 := sameT (s1.trans s2) hp
          cases e8 : figs 8 p1 with
          | false =>
            rw [e8, if_neg (fun h => absurd h.1 (by decide))] at hz0
            exact iteT hz0
          | true =>
            refine iteF ?_
            dsimp only
            refine ⟨_, rfl, D, _, rfl, .inl (SqL.of eD2), ?_⟩
            refine ⟨rfl, _, rfl, ?_⟩
            rw [decide_eq_true (show V.int ((([p1, q1].map S).map V.str).length : Nat) = V.int 2 from rfl)]
            refine iteT ⟨_, rfl, D, _, _, _, rfl, rfl, SqL.of eD2, rfl, _, rfl, p, _, _, _, rfl, rfl, hp2, rfl, S q1, m, rfl, by rw [S_len]; omega, fun G3 s3 => ?_⟩
            refine ⟨_, rfl, ?_⟩
            have hz := z1 _ ((s1.trans s2).trans s3)
            rw [due_two hL, cm] at hz
            rw [tl_S]
            have eD3 := s3 _ _ eD2
            have hp3 := sameT s3 hp2
            cases em : figs m q1 with
            | false =>
              rw [em, if_neg (fun h => absurd h.2 (by decide))] at hz
              exact iteT hz
            | true =>
              rw [e8, em, if_pos ⟨rfl, rfl⟩, sgn_eq] at hz
              have lqm := (figs_iff.mp em).1.2
              refine iteF ?_
              dsimp only
              refine ⟨_, rfl, D, _, rfl, .inl (SqL.of eD3), ?_⟩
              refine ⟨rfl, _, rfl, ?_⟩
              rw [decide_eq_true (show V.int ((([p1, q1].map S).map V.str).length : Nat) = V.int 2 from rfl)]
              refine iteT ⟨_, rfl, D, _, _, _, rfl, rfl, SqL.of eD3, rfl, ?_⟩
              refine gN ?_
              try dsimp only
              have sl : (S q1).length = q1.length := S_len q1
              have t0 : tl (timesS (Str.ofString "0") ((m : Int) - ((S q1).length : Nat))) = zs (m - (S q1).length) := by
                rw [times_tl, show ((m : Int) - ((S q1).length : Nat)).toNat = m - (S q1).length by omega, show tl (Str.ofString "0") = [48] by decide +kernel]
                unfold zs
                generalize m - (S q1).length = n
                induction n with
                | zero => rfl
                | succ n ih => rw [List.replicate_succ, List.replicate_succ, List.flatten_cons, ih]; rfl
              have tT : tl (S p1 ++ S q1 ++ timesS (Str.ofString "0") ((m : Int) - ((S q1).length : Nat))) = p1 ++ q1 ++ zs (m - (S q1).length) := by
                rw [tl_append, tl_append, t0, tl_S]
                rw [tl_S]
              have l0 : (timesS (Str.ofString "0") ((m : Int) - ((S q1).length : Nat))).length ≤ 4 := by
                rw [len_tl, t0, zs_len]
                omega
              have lT : (S p1 ++ S q1 ++ timesS (Str.ofString "0") ((m : Int) - ((S q1).length : Nat))).length ≤ 1000 := by
                rw [len_tl, tT, List.length_append, List.length_append, zs_len]
                omega
              refine ⟨_, rfl, _, rfl, D, _, _, _, rfl, rfl, SqL.of eD3, rfl, _, rfl, _, _, rfl, rfl, ?_, _, rfl, p, _, _, _, rfl, rfl, hp3, rfl, _, rfl, S q1, rfl, ?_, _, _, rfl, rfl, _, _, rfl, rfl, ?_, ?_, ?_, _, _, rfl, rfl, ?_, _, rfl, lT, ?_, ?_⟩
              · rw [S_len, sizeLine_eq]
                omega
              · rw [sizeLine_eq]
                omega
              · omega
              · omega
              · decide
              · rw [sizeLine_eq, len_tl (S p1 ++ S q1), tl_append, List.length_append, tl_S, ← len_tl]
                omega
              · rw [tT]
                exact digits_app (digits_app (figs_iff.mp e8).2 (figs_iff.mp em).2) (zs_digits _)
              · rw [tT]
                refine ⟨_, _, rfl, rfl, .inl sgb, ?_⟩
                rw [sl, List.append_assoc]
                exact hz
        · rw [hL] at eD
          have hz := z1 _ s1
          rw [due_many (by rw [hL]; simp)] at hz
          rw [decide_eq_true (show (2 : Int) < ((((p1 :: q1 :: r1 :: rest).map S).map V.str).length : Nat) by simp; omega)]
          exact iteT hz
      | day o =>
        refine ⟨_, rfl, p, _, _, _, rfl, rfl, hpG, rfl, ?_⟩
        refine ⟨rfl, _, rfl, ?_⟩
        rw [decide_eq_false d2]
        refine iteF ?_
        unfold tNext
        dsimp only
        refine ⟨_, rfl, p, _, _, _, rfl, rfl, hpG, rfl, ?_⟩
        refine ⟨rfl, _, rfl, ?_⟩
        rw [decide_eq_false d3]
        refine iteF ?_
        try dsimp only
        exact ⟨_, rfl, p, _, _, _, rfl, rfl, hpG, rfl, _, rfl, o, z, rfl, zl, fo, fun G1 s1 => q G1 (sG.trans s1)⟩
end
end K21
set_option Elab.async false
set_option linter.all false
set_option maxRecDepth 100000
set_option maxHeartbeats 4000000
/-! k21: what the law does -/
namespace K21
open PySem PySem.Spec PyProof.Rows L2 Bs Xg TL Xk Xl K02
def cutV2 (s : Str) : Option Str → List V
  | none => []
  | some z => (Txt.split z s).map fun y => os (cw y)
theorem refs_news {G : Hp} {news : List Str} : ∀ {ys : List V}, (∀ (j : Nat) (y : V), ys[j]? = some y → ∃ (t : Addr) (c : Str), y = .ref t ∧ news[j]? = some c ∧ G t = some (.tup [.str c, .non])) →
    ∃ as : List Addr, ys = as.map V.ref ∧ as.length = ys.length ∧ ∀ (j : Nat) (a : Addr), as[j]? = some a → ∃ c, news[j]? = some c ∧ G a = some (.tup [.str c, .non]) := by
  intro ys h
  refine ⟨ys.map fun y => match y with | V.ref t => t | _ => (0 : Addr), ?_, by simp, ?_⟩
  · rw [List.map_map]
    refine (List.map_id ys).symm.trans (List.map_congr_left fun y hy => ?_)
    obtain ⟨j, hj⟩ := List.getElem?_of_mem hy
    obtain ⟨t, c, rfl, _⟩ := h j y hj
    rfl
  · intro j a ha
    obtain ⟨y, hy, rfl⟩ := List.getElem?_map_eq_some ha
    obtain ⟨t, c, rfl, hc, ht⟩ := h j y hy
    exact ⟨c, hc, ht⟩
theorem paired_of {α β : Type} {R : α → β → Prop} : ∀ {xs : List α} {ys : List β}, xs.length = ys.length → (∀ (j : Nat) (x : α) (y : β), xs[j]? = some x → ys[j]? = some y → R x y) → Paired R xs ys
  | [], [], _, _ => .nil
  | [], _ :: _, h, _ => by simp at h
  | _ :: _, [], h, _ => by simp at h
  | x :: xs, y :: ys, h, r => .cons (r 0 x y rfl rfl) (paired_of (by simpa using h) fun j a b ha hb => r (j + 1) a b (by simpa using ha) (by simpa using hb))
theorem sum_le : ∀ l : List Str, (∀ x ∈ l, x.length ≤ 400) → (l.map (·.length)).sum ≤ l.length * 400
  | [], _ => by simp
  | x :: l, h => by
    have h1 := h x (by simp)
    have h2 := sum_le l fun y hy => h y (by simp [hy])
    simp only [List.map_cons, List.sum_cons, List.length_cons]
    omega
def givenF (x : Option Str) (pr : Str × Option Str) : Option (Option Str) := if os x = .str pr.1 then some pr.2 else none
theorem spellP_eq (x : Option Str) : ∀ ps, spellP x ps = ((ps.filterMap (givenF x)).head?).getD x
  | [] => rfl
  | pr :: r => by
    unfold spellP
    by_cases c : os x = .str pr.1
    · rw [if_pos c, List.filterMap_cons]
      simp [givenF, c]
    · rw [if_neg c, List.filterMap_cons, spellP_eq x r]
      simp [givenF, c]
def osD : Option Str → PyData
  | none => .none
  | some z => .str z
theorem dp_osAll {K : PySem.W.Frag} {H : Hp} : ∀ l : List (Option Str), DpAll K H (l.map os) (l.map osD)
  | [] => .nil
  | none :: r => .cons .non (dp_osAll r)
  | some z :: r => .cons (.str z) (dp_osAll r)
theorem dp_os {K : PySem.W.Frag} {H : Hp} {a : Addr} {l : List (Option Str)} (e : SqL K H a (l.map os)) : Dp K H (.ref a) (.list (l.map osD)) := .lst e (dp_osAll l)
theorem lay_os : ∀ l : List (Option Str), (∀ x ∈ l, ∀ z, x = some z → PyData.strOk z = true) → PyData.canLayAll0 (l.map osD) = true ∧ PyData.depthAll (l.map osD) ≤ 1
  | [], _ => ⟨rfl, by decide⟩
  | x :: r, h => by
    have q := lay_os r fun y hy => h y (List.mem_cons_of_mem _ hy)
    have q0 : (osD x).canLay0 = true ∧ (osD x).depth ≤ 1 := by
      have hx := h x List.mem_cons_self
      cases x with
      | none => exact ⟨rfl, by simp [osD, PyData.depth]⟩
      | some z => exact ⟨by simpa [osD, PyData.canLay0] using hx z rfl, by simp [osD, PyData.depth]⟩
    simp only [List.map_cons, PyData.canLayAll0, PyData.depthAll]
    exact ⟨by rw [q0.1, q.1]; rfl, Nat.max_le.mpr ⟨q0.2, q.2⟩⟩
theorem shaped_os (l : List (Option Str)) (h : ∀ x ∈ l, ∀ z, x = some z → PyData.strOk z = true) : SeqAt.shaped (.list (l.map osD)) = true := by
  have q := lay_os l h
  have e1 : (PyData.list (l.map osD)).canLay0 = PyData.canLayAll0 (l.map osD) := by simp only [PyData.canLay0]
  have e2 : (PyData.list (l.map osD)).depth = PyData.depthAll (l.map osD) + 1 := by simp only [PyData.depth]
  unfold SeqAt.shaped
  rw [e1, e2, q.1, Bool.true_and]
  exact decide_eq_true (by omega)
theorem eqv_os (l : List (Option Str)) : (!PyData.eqv (.list (l.map osD)) (.list [])) = !l.isEmpty := by
  cases l <;> rfl
section
variable {P : Program} {w : World} {K : PySem.W.Frag} {mg : Str → Option Value} {base : Heap}
abbrev nLDo : List Str := ["_law_deed", "_law_here", "_law_word", "_law_column", "_law_own", "_law_parts", "_law_given", "_law_number_here", "_law_part", "_law_new", "_law_one", "_law_ahead", "_law_after"]
theorem scLDo : FnScope nLDo ["_law_deed", "_law_here"] (defScope sLDoes) := ⟨rfl, rfl, rfl, by decide +kernel, rfl, by decide +kernel, by decide +kernel⟩
variable {fLNu fLAF fLF fLDay fLW fLDoes : Addr} {dLNu dLAF dLF dLDay dLW dLDoes : FuncData}
theorem ok_does (L : Lnm K mg fLNu fLAF fLF fLDay fLW fLDoes dLNu dLAF dLF dLDay dLW dLDoes) (T : Free mg) : FnOk P w K mg base CX0 4 fLDoes dLDoes ["_law_deed", "_law_here"] (spDn K) := by
  have GLNu : FnOk P w K mg base CX0 3 fLNu dLNu ["_law_form_here", "_law_text_here"] (spRs K) := ok_lnu L T
  have GLW : FnOk P w K mg base CX0 1 fLW dLW ["_law_text_here"] spCW := ok_lw L.LW
  have FLNu := L.LNu
  have bLNu := L.bLNu
  have gLNu := L.gLNu
  have FLW := L.LW
  have bLW := L.bLW
  have gLW := L.gLW
  refine L.LDoes.ok scLDo (fun vs H Q E h => ?_) (fun cdv A outer s H vs Q E hr h => ?_)
  · obtain ⟨p, r, a, row, dd, rfl, _⟩ := h
    rfl
  · obtain ⟨p, r, a, row, dd, rfl, hp, hrow, ho, q⟩ := h
    refine ⟨_, pss_cons (ps_par (i := 2) (j := 3) rfl scLDo.nd rfl rfl (by decide) rfl rfl (pa_cons (pe_ix ix_tup (pv 0) pe_int (fun _ _ => rfl)) (pa_cons (pe_ix ix_tup (pv 0) pe_int (fun _ _ => rfl)) pa_nil)) (by rfl))
      (pss_cons (ps_set (i := 4) scLDo.nd rfl (Or.inr rfl) (pe_ifExp (pt_val (pe_callB call_isi (by rfl) T.isinstance (by decide +kernel) (pa_cons (pv 3) (pa_cons (pe_bltn rfl T.str (v := V.ty "str") (by decide +kernel) rfl) pa_nil)))) (pe_dget (u1 hr.units) (pv 1) (pv 3) (fun _ _ => rfl)) pe_non))
      (pss_cons (ps_if (pt_cmpR op_eq (pv 2) pe_str (nomark _)) (pss_cons (ps_set (i := 5) scLDo.nd rfl (Or.inl rfl) (pe_ifExp (pt_cmpR op_notN (pv 4) pe_non (nomark _)) (pe_lc (own := [("_law_part", 8)]) (g := gName 8) (tt := tYes) rfl scLDo.nd (pi_list (pe_split (pv 4) (pe_ix ix_tup (pv 0) pe_int (fun _ _ => rfl)))) (blkOk_by (own := [("_law_part", 8)]) (N := nLDo) (sc := defScope sLDoes) (by decide +kernel)) (fun _ _ _ _ _ => (pg_name (i := 8) scLDo.nd rfl (Or.inl rfl))) (fun _ _ _ _ _ => pts_nil) (fun _ _ _ _ _ => (pe_call GLW (hr.mono (by decide)) (by rfl) gLW FLW.kp bLW .nil pass0 (pa_cons (pv 8) pa_nil)))) (pe_lst pa_nil)))
      (pss_cons (ps_if (pt_cmpR op_eq (pe_callB call_len_seq (by rfl) T.len PySem.boot_len (pa_cons (pv 5) pa_nil)) (pe_callB call_len_seq (by rfl) T.len PySem.boot_len (pa_cons (pe_ix ix_tup (pv 0) pe_int (fun _ _ => rfl)) pa_nil)) (nomark _)) (pss_one (ps_ret (pe_tup (pa_cons (pe_dictZip rfl rfl T.dict rfl T.zip (pa_cons (pe_ix ix_tup (pv 0) pe_int (fun _ _ => rfl)) (pa_cons (pv 5) pa_nil))) (pa_cons pe_bl pa_nil))))) (pss_nil))
      (pss_one (ps_ret (pe_tup (pa_cons (pe_callTy (call_dictP rfl) (by rfl) T.dict (by decide +kernel) (pa_cons (pe_lc (own := [("_law_new", 9)]) (g := gName 9) (tt := tYes) rfl scLDo.nd (pi_tup (pe_ix ix_tup (pv 0) pe_int (fun _ _ => rfl))) (blkOk_by (own := [("_law_new", 9)]) (N := nLDo) (sc := defScope sLDoes) (by decide +kernel)) (fun _ _ _ _ _ => (pg_name (i := 9) scLDo.nd rfl (Or.inl rfl))) (fun _ _ _ _ _ => pts_nil) (fun _ _ _ _ _ => (pe_tup (pa_cons (pv 9) (pa_cons pe_non pa_nil))))) pa_nil)) (pa_cons (pe_cmpR op_notN (pv 4) pe_non (nomark _)) pa_nil))))))) (pss_nil))
      (pss_cons (ps_if (pt_cmpR op_eq (pv 2) pe_str (nomark _)) (pss_cons (ps_setLc (i := 5) (own := [("_law_one", 10)]) (g := gName 10) (tt := tTest (tOp (fun x y H Q => y = .non ∧ Q (.bl (!decide (x = .non))) H) (tDGet (tVar 1) (tVar 10)) (tC .non))) rfl scLDo.nd rfl rfl (sw_true rfl rfl rfl rfl) (pi_tup (pv 3)) (blkOk_by (own := [("_law_one", 10)]) (N := nLDo) (sc := defScope sLDoes) (by decide +kernel)) (fun _ _ _ _ _ => (pg_name (i := 10) scLDo.nd rfl (Or.inl rfl))) (fun _ _ _ _ _ => pts_one (pt_cmpR op_notN (pe_dget (u1 hr.units) (pv 1) (pv 10) (fun _ _ => rfl)) pe_non (nomark _))) (fun _ _ _ _ _ => (pe_dget (u1 hr.units) (pv 1) (pv 10) (fun _ _ => rfl))))
      (pss_one (ps_ret (pe_tup (pa_cons (pe_disp (pps_cons (pe_ix ix_tup (pv 0) pe_int (fun _ _ => rfl)) (pe_ifExp (pt_cmpR (op_neD hr.units) (pv 5) (pe_lst pa_nil) (nomark _)) (pe_join (pe_ix ix_tup (pv 0) pe_int (fun _ _ => rfl)) (pv 5)) pe_non) pps_nil) (by rfl) (by rfl) (fun z => by cases z) (by decide)) (pa_cons pe_bl pa_nil)))))) (pss_nil))
      (pss_cons (ps_if (pt_cmpR op_eq (pv 2) pe_str (nomark _)) (pss_cons (ps_setLc (i := 6) (own := [("_law_ahead", 11), ("_law_after", 12)]) (g := gTup K 2 (gCons (gName 11) (gCons (gName 12) gNil))) (tt := tTest (tOp rEq (tVar 11) (tVar 4))) rfl scLDo.nd rfl rfl (sw_true rfl rfl rfl rfl) (pi_tup (pe_ix ix_tup (pv 0) pe_int (fun _ _ => rfl))) (blkOk_by (own := [("_law_ahead", 11), ("_law_after", 12)]) (N := nLDo) (sc := defScope sLDoes) (by decide +kernel)) (fun _ _ _ _ _ => (pg_tup rfl (pgs_cons (pg_name (i := 11) scLDo.nd rfl (Or.inl rfl)) (pgs_cons (pg_name (i := 12) scLDo.nd rfl (Or.inl rfl)) pgs_nil)))) (fun _ _ _ _ _ => pts_one (pt_cmpR op_eq (pv 11) (pv 4) (nomark _))) (fun _ _ _ _ _ => (pv 12)))
      (pss_one (ps_ret (pe_tup (pa_cons (pe_disp (pps_cons (pv 3) (pe_ifExp (pt_cmpR (op_neD hr.units) (pv 6) (pe_lst pa_nil) (nomark _)) (pe_ix ix_list (pv 6) pe_int (fun _ _ => rfl)) (pv 4)) pps_nil) (by rfl) (by rfl) (fun z => by cases z) (by decide)) (pa_cons pe_bl pa_nil)))))) (pss_nil))
      (pss_cons (ps_if (pt_cmpR op_eq (pv 2) pe_str (nomark _)) (pss_cons (ps_set (i := 7) scLDo.nd rfl (Or.inl rfl) (pe_ifExp (pt_cmpR op_notN (pv 4) pe_non (nomark _)) (pe_call GLNu (hr.mono (by decide)) (by rfl) gLNu FLNu.kp bLNu .nil pass0 (pa_cons (pe_ix ix_tup (pv 0) pe_int (fun _ _ => rfl)) (pa_cons (pv 4) pa_nil))) pe_non))
      (pss_one (ps_ret (pe_tup (pa_cons (pe_disp (pps_cons (pe_ix ix_tup (pv 0) pe_int (fun _ _ => rfl)) (pv 7) pps_nil) (by rfl) (by rfl) (fun z => by cases z) (by decide)) (pa_cons (pe_and (pe_cmpR op_notN (pv 4) pe_non (nomark _)) (pe_one (pe_cmpR op_isN (pv 7) pe_non (nomark _)))) pa_nil)))))) (pss_nil))
      (pss_cons (ps_if (pt_cmpR op_eq (pv 2) pe_str (nomark _)) (pss_one (ps_ret (pe_tup (pa_cons (pe_disp (pps_cons (pv 3) (pe_ifExp (pt_cmpR op_isN (pv 4) pe_non (nomark _)) (pe_ix ix_tup (pv 0) pe_int (fun _ _ => rfl)) (pv 4)) pps_nil) (by rfl) (by rfl) (fun z => by cases z) (by decide)) (pa_cons pe_bl pa_nil))))) (pss_nil))
      (pss_cons (ps_if (pt_cmpR op_eq (pv 2) pe_str (nomark _)) (pss_one (ps_ret (pe_tup (pa_cons pe_dnewK (pa_cons (pe_cmpR op_isN (pv 4) pe_non (nomark _)) pa_nil))))) (pss_nil))
      (pss_cons (ps_if (pt_cmpR op_eq (pv 2) pe_str (nomark _)) (pss_one (ps_ret (pe_tup (pa_cons pe_dnewK (pa_cons (pe_and (pe_cmpR op_notN (pv 4) pe_non (nomark _)) (pe_one (pe_or (pe_cmpR op_ltA (pv 4) (pe_ix ix_tup (pv 0) pe_int (fun _ _ => rfl)) (nomark _)) (pe_one (pe_cmpR op_ltA (pe_ix ix_tup (pv 0) pe_int (fun _ _ => rfl)) (pv 4) (nomark _)))))) pa_nil))))) (pss_nil))
      (pss_cons (ps_if (pt_cmpR op_eq (pv 2) pe_str (nomark _)) (pss_one (ps_ret (pe_tup (pa_cons pe_dnewK (pa_cons (pe_and (pe_cmpR op_notN (pv 4) pe_non (nomark _)) (pe_one (pe_cmpR op_notIn_seq (pv 4) (pe_ix ix_tup (pv 0) pe_int (fun _ _ => rfl)) rfl))) pa_nil))))) (pss_nil))
      (pss_one (ps_ret (pe_tup (pa_cons pe_dnewK (pa_cons (pe_and (pe_cmpR op_notN (pv 4) pe_non (nomark _)) (pe_and (pe_cmpR op_notN (pe_dget (u1 hr.units) (pv 1) (pe_ix ix_tup (pv 0) pe_int (fun _ _ => rfl)) (fun _ _ => rfl)) pe_non (nomark _)) (pe_one (pe_not (pe_cmpR op_ltA (pv 4) (pe_dget (u1 hr.units) (pv 1) (pe_ix ix_tup (pv 0) pe_int (fun _ _ => rfl)) (fun _ _ => rfl)) (nomark _)))))) pa_nil)))))))))))))), ?_⟩
    cases dd with
    | cut col s1 nw news =>
      obtain ⟨tc, hn, sl, nod, one, few⟩ := ho
      have dg : DGet H r (.str col) (some (os (txt (rowV row col)))) := tc.val.1 ▸ DGet.k (k := tk col) hrow
      have xl := tc.val.2
      have q : ∀ t H', Same H H' → Res H' t (cutP news ⟨#[s1]⟩ (txt (rowV row col))) → Q (.ref t) H' := q
      generalize txt (rowV row col) = x at dg xl q
      have nodK : (news.map tk).Nodup := List.pairwise_map.mpr (nod.imp fun h e => h (Sum.inr.inj e))
      refine ⟨_, rfl, p, _, _, _, rfl, rfl, hp, rfl, _, rfl, p, _, _, _, rfl, rfl, hp, rfl, _, _, rfl, ?_⟩
      dsimp only
      refine ⟨_, rfl, .str col, .ty "str", _, _, true, rfl, .ty "str", .base (.str col), kit_ty (by decide +kernel), _, rfl, ?_⟩
      refine iteT ⟨_, rfl, _, rfl, r, _, rfl, dg, gN ?_⟩
      try dsimp only
      refine ⟨_, rfl, ?_⟩
      refine ⟨rfl, _, rfl, ?_⟩
      rw [decide_eq_true (show V.str "cut" = V.str "cut" from rfl)]
      refine iteT ?_
      refine cutA (fun v H' => ∃ D, v = .ref D ∧ Same H H' ∧ H' D = some (.lst (cutV2 ⟨#[s1]⟩ x))) (fun Q' q' => ?_) ?_
      · refine ⟨_, rfl, rfl, _, rfl, ?_⟩
        cases x with
        | none =>
          rw [decide_eq_true (show os none = V.non from rfl)]
          exact iteF ⟨(show 0 ≤ sizeLine by decide), fun D nD => q' _ _ ⟨D, rfl, Same.new nD, upd_same⟩⟩
        | some z =>
          have zl := xl z rfl
          rw [decide_eq_false (show ¬ os (some z) = V.non from fun h => nomatch h)]
          refine iteT ⟨_, rfl, ⟨_, rfl⟩, _, rfl, p, _, _, _, rfl, rfl, hp, rfl, z, ⟨#[s1]⟩, rfl, rfl, rfl, Nat.le_trans (Nat.add_le_add_right zl 2) (by decide), fun D0 n0 => ⟨D0, rfl, ⟨_, SqL.of upd_same⟩, fun D nD => ?_⟩⟩
          have pl := parts_le (z := z) sl
          have few2 : (Txt.split z ⟨#[s1]⟩).length ≤ 401 := by
            rw [split_len z sl]
            have := List.count_le_length (a := s1) (l := tl z)
            rw [len_tl] at zl
            omega
          refine lc_val (walk_list (K := K) (a := D0) (xs := (Txt.split z ⟨#[s1]⟩).map V.str)) (Z := fun j x => ((Txt.split z ⟨#[s1]⟩).map V.str)[j]? = some x) (fun j => os (cw ((Txt.split z ⟨#[s1]⟩).getD j Str.empty))) nD yat (fun G s => sameL s (SqL.of upd_same)) (by rw [List.length_map]; omega) (fun _ => rfl) ?_ ?_
          · rintro j x G Q2 hj hx sG kG
            obtain ⟨y, hy, rfl⟩ := List.getElem?_map_eq_some hx
            have kG := kG G (Same.refl _)
            have ey : (Txt.split z ⟨#[s1]⟩).getD j Str.empty = y := by rw [List.getD_eq_getElem?_getD, hy]; rfl
            rw [ey] at kG
            exact ⟨_, rfl, y, rfl, Nat.le_trans (pl y (List.mem_of_getElem? hy)) (by omega), kG⟩
          · intro G sG eD
            refine q' _ _ ⟨D, rfl, (Same.new n0).trans sG, ?_⟩
            rw [eD, List.length_map]
            exact congrArg (fun l => some (HO.lst l)) (range_at (Txt.split z ⟨#[s1]⟩) (fun y => os (cw y)) _ fun j y hy => by rw [List.getD_eq_getElem?_getD, hy]; rfl)
      · rintro v G ⟨D, rfl, sG, eD⟩
        refine gN ?_
        try dsimp only
        refine ⟨_, rfl, D, _, rfl, .inl (SqL.of eD), _, rfl, p, _, _, _, rfl, rfl, sameT sG hp, rfl, nw, _, rfl, .inr (sameT sG hn), ?_⟩
        refine ⟨rfl, _, rfl, ?_⟩
        have ee : decide (V.int ((cutV2 ⟨#[s1]⟩ x).length : Nat) = V.int ((news.map V.str).length : Nat)) = decide ((cutV2 ⟨#[s1]⟩ x).length = news.length) := decide_eq_decide.mpr ⟨fun h => by have := V.int.inj h; rw [List.length_map] at this; omega, fun h => congrArg V.int (by rw [List.length_map]; omega)⟩
        rw [ee]
        by_cases el : (cutV2 ⟨#[s1]⟩ x).length = news.length
        · rw [decide_eq_true el]
          obtain ⟨z, rfl⟩ : ∃ z, x = some z := by
            cases x with
            | none => exact absurd el (by show ¬ 0 = _; omega)
            | some z => exact ⟨z, rfl⟩
          have el' : (Txt.split z ⟨#[s1]⟩).length = news.length := by rw [← el]; exact (List.length_map _).symm
          have eP : cutP news ⟨#[s1]⟩ (some z) = ((news.map tk).zip (cutV2 ⟨#[s1]⟩ (some z)), false) := if_pos el'
          rw [eP] at q
          refine iteT ⟨_, rfl, p, _, _, _, rfl, rfl, sameT sG hp, rfl, _, rfl, .ref nw, D, news.map tk, _, rfl, .inl ⟨nw, rfl, .inl ?_⟩, SqL.of eD, fun D2 n2 => ⟨(show 2 ≤ sizeLine by decide), fun t ht => ?_⟩⟩
          · rw [List.map_map]
            exact sameT sG hn
          · refine q t _ (sG.trans ((Same.new n2).trans (Same.new ht))) ⟨D2, ?_, upd_same⟩
            rw [upd_ne (ne_of_none upd_same ht), upd_same, merge_new (by rw [List.nil_append, List.map_fst_zip (by rw [List.length_map]; omega)]; exact nodK)]
            rfl
        · rw [decide_eq_false el]
          refine iteF ?_
          dsimp only
          have eP : cutP news ⟨#[s1]⟩ x = (news.map fun y => (tk y, .non), !decide (os x = .non)) := by
            cases x with
            | none => exact congrArg (Prod.mk _) (by rw [decide_eq_true (show os none = V.non from rfl)]; rfl)
            | some z =>
              rw [decide_eq_false (show ¬ os (some z) = V.non from fun h => nomatch h)]
              exact if_neg fun e => el (by rw [← e]; exact List.length_map _)
          rw [eP] at q
          refine ⟨_, rfl, p, _, _, _, rfl, rfl, sameT sG hp, rfl, nw, rfl, ⟨_, sameT sG hn⟩, fun D1 n1 => ?_⟩
          refine lc_new (walk_tup (K := K) (a := nw) (xs := news.map V.str)) (fun j y G => ∃ (t : Addr) (c : Str), y = .ref t ∧ news[j]? = some c ∧ G t = some (.tup [.str c, .non])) n1 yat (fun G s => sameT (sG.trans s) hn) ?_ (by rw [List.length_map]; omega) (fun _ => rfl) ?_ ?_
          · rintro j y G1 G2 kp ⟨l, hl⟩ ⟨t, c, rfl, hc, ht⟩
            refine ⟨t, c, rfl, hc, kp _ _ (fun e => ?_) ht⟩
            rw [e, hl] at ht
            cases ht
          · rintro j x1 G1 Q2 hj hx sG1 kG
            obtain ⟨c, hc, rfl⟩ := List.getElem?_map_eq_some hx
            refine ⟨_, rfl, (show 2 ≤ sizeLine by decide), fun t ht => kG _ _ (Same.new ht) ⟨t, c, rfl, hc, upd_same⟩⟩
          · intro G2 ys s2 eD1 ly hys
            obtain ⟨as, eas, las, has⟩ := refs_news hys
            subst eas
            refine ⟨D1, as, news.map fun c => (tk c, .non), rfl, SqL.of eD1, ?_, fun D2 n2 => ⟨_, rfl, rfl, (show 2 ≤ sizeLine by decide), fun t ht => ?_⟩⟩
            · refine paired_of (by simp only [List.length_map] at ly ⊢; omega) fun j a kv ha hkv => ?_
              obtain ⟨c, hc, rfl⟩ := List.getElem?_map_eq_some hkv
              obtain ⟨c', hc', ht⟩ := has j a ha
              rw [hc] at hc'
              cases hc'
              exact SqT.of ht
            · refine q t _ (sG.trans (s2.trans ((Same.new n2).trans (Same.new ht)))) ⟨D2, ?_, upd_same⟩
              rw [upd_ne (ne_of_none upd_same ht), upd_same, merge_new (by rw [List.nil_append, List.map_map]; exact nodK)]
              rfl
    | glue cs cols sep new =>
      obtain ⟨hc, tc, sl, cl⟩ := ho
      have q : ∀ t H', Same H H' → Res H' t ([(tk new, os (gluedP (fun c => txt (rowV row c)) cols sep))], false) → Q (.ref t) H' := q
      obtain ⟨gg, hgg⟩ : ∃ gg : Str → Option Str, gg = fun c => txt (rowV row c) := ⟨_, rfl⟩
      rw [← hgg] at q
      have hv : ∀ c ∈ cols, valV row (tk c) = some (os (gg c)) ∧ ∀ z, gg c = some z → z.length ≤ 400 := fun c hm => by rw [hgg]; exact (tc c hm).val
      refine ⟨_, rfl, p, _, _, _, rfl, rfl, hp, rfl, _, rfl, p, _, _, _, rfl, rfl, hp, rfl, _, _, rfl, ?_⟩
      dsimp only
      refine ⟨_, rfl, .ref cs, .ty "str", _, _, false, rfl, .ty "str", tupTy hc, kit_ty (by decide +kernel), _, rfl, ?_⟩
      refine iteF (gN ?_)
      try dsimp only
      refine ⟨_, rfl, ?_⟩
      refine ⟨rfl, _, rfl, ?_⟩
      rw [decide_eq_false (show ¬ V.str "glue" = V.str "cut" from by decide +kernel)]
      refine iteF ?_
      unfold tNext
      dsimp only
      refine ⟨_, rfl, ?_⟩
      refine ⟨rfl, _, rfl, ?_⟩
      rw [decide_eq_true (show V.str "glue" = V.str "glue" from rfl)]
      refine iteT ?_
      refine ⟨_, rfl, cs, rfl, ⟨_, hc⟩, fun D nD => ?_⟩
      refine lc_fm (walk_tup (K := K) (a := cs) (xs := cols.map V.str)) cols (fun c => (gg c).map V.str) (by simp) nD (fun G s => sameT s hc) (by simp; omega) ?_ ?_
      · rintro j c1 x G G' R N hk sG ⟨rfl, hx⟩ keep drop
        rw [List.getElem?_map, hk] at hx
        cases hx
        have hm := hv c1 (List.mem_of_getElem? hk)
        have dg : DGet G' r (.str c1) (some (os (gg c1))) := hm.1 ▸ DGet.k (k := tk c1) (sG _ _ hrow)
        refine gN ⟨rfl, ?_⟩
        refine ⟨_, rfl, _, rfl, r, _, rfl, dg, rfl, _, rfl, ?_⟩
        cases ef : gg c1 with
        | none =>
          rw [decide_eq_true (show os none = V.non from rfl)]
          exact drop (by rw [ef]; rfl) _ (Same.refl _)
        | some z1 =>
          rw [decide_eq_false (show ¬ os (some z1) = V.non from fun h => nomatch h)]
          rw [ef] at dg
          exact ⟨_, rfl, _, rfl, r, _, rfl, dg, keep _ (by rw [ef]; rfl) _ (Same.refl _)⟩
      · intro G sG eD
        have eL : cols.filterMap (fun c => (gg c).map V.str) = (cols.filterMap gg).map V.str := by
          rw [List.map_filterMap]
        rw [eL] at eD
        refine gN ?_
        try dsimp only
        refine fun D2 n2 => ⟨_, rfl, p, _, _, _, rfl, rfl, sameT (sG.trans (Same.new n2)) hp, rfl, _, rfl, (show 0 ≤ sizeLine by decide), fun D3 n3 => ?_⟩
        have s2 : Same G (upd G D2 (.dK [])) := Same.new n2
        have s3 : Same G (upd (upd G D2 (.dK [])) D3 (.lst [])) := s2.trans (Same.new n3)
        have eOs : (cols.filterMap gg).map V.str = ((cols.filterMap gg).map some).map os := by rw [List.map_map]; rfl
        refine ⟨_, _, dp_os (SqL.of (by rw [s3 _ _ eD, eOs])), .lst (SqL.of upd_same) .nil, shaped_os _ (fun x hx z e => by
          obtain ⟨y, hy, e2⟩ := List.mem_map.mp hx
          obtain ⟨c2, h2, e3⟩ := List.mem_filterMap.mp hy
          rw [← e2] at e
          cases e
          rw [hgg] at e3
          exact (tc c2 h2).good _ e3), by rfl, _, rfl, ?_⟩
        rw [eqv_os]
        have fin : ∀ u : V, u = os (gluedP gg cols sep) → (upd (upd G D2 (.dK [])) D3 (.lst [])) D2 = some (.dK []) ∧ ∃ kvs, [(V.str new, u)] = kvs.map (fun kv => (kV kv.1, kv.2)) ∧ kvs.length ≤ 15 ∧ 2 ≤ sizeLine ∧ ∀ t, upd (upd (upd G D2 (.dK [])) D3 (.lst [])) D2 (.dK (mergeK [] kvs)) t = none → Q (.ref t) (upd (upd (upd (upd G D2 (.dK [])) D3 (.lst [])) D2 (.dK (mergeK [] kvs))) t (.tup [.ref D2, .bl false])) := by
          rintro u rfl
          refine ⟨(Same.new n3) _ _ upd_same, [(tk new, os (gluedP gg cols sep))], rfl, (show 1 ≤ 15 by decide), by decide, fun t ht => ?_⟩
          refine q t _ (sG.trans ((updG (o := .dK []) (G := upd (upd G D2 (.dK [])) D3 (.lst [])) (Same.new n3) n2).trans (Same.new ht))) ⟨D2, (upd_ne (ne_of_none upd_same ht)).trans upd_same, upd_same⟩
        rcases hL : cols.filterMap gg with _ | ⟨v1, rest⟩
        · exact iteF (fin _ (by unfold gluedP; rw [if_pos hL]; rfl))
        · have fl : (cols.filterMap gg).length ≤ 4 := Nat.le_trans (List.length_filterMap_le _ _) cl
          have fz : ∀ x ∈ cols.filterMap gg, x.length ≤ 400 := by
            intro x hx
            obtain ⟨c2, h2, e2⟩ := List.mem_filterMap.mp hx
            exact (hv c2 h2).2 x e2
          have s1' := sum_le _ fz
          have s2' : (cols.filterMap gg).length * sep.length ≤ 4 * 1 := Nat.mul_le_mul fl sl
          rw [hL] at eD fl s1' s2'
          refine iteT ⟨_, rfl, p, _, _, _, rfl, rfl, sameT (sG.trans s3) hp, rfl, ⟨_, rfl⟩, _, rfl, sep, D, v1 :: rest, rfl, rfl, .inl (SqL.of (s3 _ _ eD)), by omega, fin _ ?_⟩
          unfold gluedP
          rw [if_neg (by rw [hL]; exact fun h => nomatch h), hL]
          rfl
    | spell col ts ps =>
      obtain ⟨tc, hps, few, sok⟩ := ho
      have dg : DGet H r (.str col) (some (os (txt (rowV row col)))) := tc.val.1 ▸ DGet.k (k := tk col) hrow
      have q : ∀ t H', Same H H' → Res H' t ([(tk col, os (spellP (txt (rowV row col)) ps))], false) → Q (.ref t) H' := q
      generalize txt (rowV row col) = x at dg q
      obtain ⟨qs, lq, hq, hqs⟩ := hps
      refine ⟨_, rfl, p, _, _, _, rfl, rfl, hp, rfl, _, rfl, p, _, _, _, rfl, rfl, hp, rfl, _, _, rfl, ?_⟩
      dsimp only
      refine ⟨_, rfl, .str col, .ty "str", _, _, true, rfl, .ty "str", .base (.str col), kit_ty (by decide +kernel), _, rfl, ?_⟩
      refine iteT ⟨_, rfl, _, rfl, r, _, rfl, dg, gN ?_⟩
      try dsimp only
      refine ⟨_, rfl, ?_⟩
      refine ⟨rfl, _, rfl, ?_⟩
      rw [decide_eq_false (show ¬ V.str "spell" = V.str "cut" from by decide +kernel)]
      refine iteF ?_
      unfold tNext
      dsimp only
      refine ⟨_, rfl, ?_⟩
      refine ⟨rfl, _, rfl, ?_⟩
      rw [decide_eq_false (show ¬ V.str "spell" = V.str "glue" from by decide +kernel)]
      refine iteF ?_
      dsimp only
      refine ⟨_, rfl, ?_⟩
      refine ⟨rfl, _, rfl, ?_⟩
      rw [decide_eq_true (show V.str "spell" = V.str "spell" from rfl)]
      refine iteT ?_
      refine ⟨_, rfl, p, _, _, _, rfl, rfl, hp, rfl, ts, rfl, ⟨_, hq⟩, fun D nD => ?_⟩
      refine lc_fm (walk_tup (K := K) (a := ts) (xs := qs.map V.ref)) ps (fun pr => (givenF x pr).map os) (by rw [List.length_map]; exact lq.symm) nD (fun G s => sameT s hq) ?_ ?_ ?_
      · rw [List.length_map, lq]
        omega
      · rintro j pr x1 G G' R N hk sG ⟨rfl, hx⟩ keep drop
        obtain ⟨q1, hq1, rfl⟩ := List.getElem?_map_eq_some hx
        have hT := sameT sG (hqs j q1 _ hq1 hk)
        refine ⟨q1, _, rfl, hT, rfl, _, _, rfl, ?_⟩
        refine ⟨_, _, rfl, ?_⟩
        refine ⟨rfl, rfl, ?_⟩
        refine ⟨_, rfl, _, rfl, ?_⟩
        refine ⟨?_, _, rfl, ?_⟩
        · cases x <;> rfl
        have ee : decide (V.str pr.1 = os x) = decide (os x = .str pr.1) := decide_eq_decide.mpr ⟨fun h => h.symm, fun h => h.symm⟩
        rw [ee]
        by_cases c1 : os x = .str pr.1
        · rw [decide_eq_true c1]
          exact ⟨_, rfl, keep _ (by unfold givenF; rw [if_pos c1]; rfl) _ (Same.refl _)⟩
        · rw [decide_eq_false c1]
          exact drop (by unfold givenF; rw [if_neg c1]; rfl) _ (Same.refl _)
      · intro G sG eD
        have eL : ps.filterMap (fun pr => (givenF x pr).map os) = (ps.filterMap (givenF x)).map os := by rw [List.map_filterMap]
        rw [eL] at eD
        refine gN ?_
        try dsimp only
        refine fun D2 n2 => ⟨_, rfl, _, rfl, (show 0 ≤ sizeLine by decide), fun D3 n3 => ?_⟩
        have s2 : Same G (upd G D2 (.dK [])) := Same.new n2
        have s3 : Same G (upd (upd G D2 (.dK [])) D3 (.lst [])) := s2.trans (Same.new n3)
        refine ⟨_, _, dp_os (SqL.of (s3 _ _ eD)), .lst (SqL.of upd_same) .nil, shaped_os _ (fun x hx z e => by
          obtain ⟨pr, hpr, e2⟩ := List.mem_filterMap.mp hx
          unfold givenF at e2
          split at e2
          · cases e2; exact sok pr hpr z e
          · cases e2), by rfl, _, rfl, ?_⟩
        rw [eqv_os]
        have fin : ∀ u : V, u = os (spellP x ps) → (upd (upd G D2 (.dK [])) D3 (.lst [])) D2 = some (.dK []) ∧ ∃ kvs, [(V.str col, u)] = kvs.map (fun kv => (kV kv.1, kv.2)) ∧ kvs.length ≤ 15 ∧ 2 ≤ sizeLine ∧ ∀ t, upd (upd (upd G D2 (.dK [])) D3 (.lst [])) D2 (.dK (mergeK [] kvs)) t = none → Q (.ref t) (upd (upd (upd (upd G D2 (.dK [])) D3 (.lst [])) D2 (.dK (mergeK [] kvs))) t (.tup [.ref D2, .bl false])) := by
          rintro u rfl
          refine ⟨(Same.new n3) _ _ upd_same, [(tk col, os (spellP x ps))], rfl, (show 1 ≤ 15 by decide), by decide, fun t ht => ?_⟩
          refine q t _ (sG.trans ((updG (o := .dK []) (G := upd (upd G D2 (.dK [])) D3 (.lst [])) (Same.new n3) n2).trans (Same.new ht))) ⟨D2, (upd_ne (ne_of_none upd_same ht)).trans upd_same, upd_same⟩
        have sp := spellP_eq x ps
        rcases hL : ps.filterMap (givenF x) with _ | ⟨v1, rest⟩
        · rw [hL] at sp
          exact iteF ⟨_, rfl, fin _ (by rw [sp]; rfl)⟩
        · rw [hL] at sp eD
          refine iteT ⟨_, rfl, D, _, _, os v1, rfl, rfl, SqL.of (s3 _ _ eD), atI_nat (j := 0) rfl, fin (os v1) (by rw [sp]; rfl)⟩
    | read col fo f new =>
      obtain ⟨tc, hf, fok⟩ := ho
      have dg : DGet H r (.str col) (some (os (txt (rowV row col)))) := tc.val.1 ▸ DGet.k (k := tk col) hrow
      have xl := tc.val.2
      have q : ∀ t H', Same H H' → Res H' t (readDP f new (txt (rowV row col))) → Q (.ref t) H' := q
      generalize txt (rowV row col) = x at dg xl q
      refine ⟨_, rfl, p, _, _, _, rfl, rfl, hp, rfl, _, rfl, p, _, _, _, rfl, rfl, hp, rfl, _, _, rfl, ?_⟩
      dsimp only
      refine ⟨_, rfl, .str col, .ty "str", _, _, true, rfl, .ty "str", .base (.str col), kit_ty (by decide +kernel), _, rfl, ?_⟩
      refine iteT ⟨_, rfl, _, rfl, r, _, rfl, dg, gN ?_⟩
      try dsimp only
      refine ⟨_, rfl, ?_⟩
      refine ⟨rfl, _, rfl, ?_⟩
      rw [decide_eq_false (show ¬ V.str "read" = V.str "cut" from by decide +kernel)]
      refine iteF ?_
      unfold tNext
      dsimp only
      refine ⟨_, rfl, ?_⟩
      refine ⟨rfl, _, rfl, ?_⟩
      rw [decide_eq_false (show ¬ V.str "read" = V.str "glue" from by decide +kernel)]
      refine iteF ?_
      dsimp only
      refine ⟨_, rfl, ?_⟩
      refine ⟨rfl, _, rfl, ?_⟩
      rw [decide_eq_false (show ¬ V.str "read" = V.str "spell" from by decide +kernel)]
      refine iteF ?_
      dsimp only
      refine ⟨_, rfl, ?_⟩
      refine ⟨rfl, _, rfl, ?_⟩
      rw [decide_eq_true (show V.str "read" = V.str "read" from rfl)]
      refine iteT ?_
      refine cutA (fun v H' => v = ov (x.bind (readP f)) ∧ Same H H') (fun Q' q' => ?_) ?_
      · refine ⟨_, rfl, rfl, _, rfl, ?_⟩
        cases x with
        | none =>
          rw [decide_eq_true (show os none = V.non from rfl)]
          exact iteF (q' _ _ ⟨rfl, Same.refl _⟩)
        | some z =>
          rw [decide_eq_false (show ¬ os (some z) = V.non from fun h => nomatch h)]
          exact iteT ⟨_, rfl, p, _, _, _, rfl, rfl, hp, rfl, _, rfl, fo, f, z, rfl, hf, fok, xl z rfl, fun G sG => q' _ _ ⟨rfl, sG⟩⟩
      · rintro v G ⟨rfl, sG⟩
        refine gN ?_
        try dsimp only
        refine fun D nD => ⟨_, rfl, p, _, _, _, rfl, rfl, sameT (sG.trans (Same.new nD)) hp, rfl, ?_⟩
        refine ⟨_, rfl, ?_⟩
        refine ⟨upd_same, [(tk new, ov (x.bind (readP f)))], rfl, (show 1 ≤ 15 by decide), ?_⟩
        refine ⟨_, rfl, rfl, _, rfl, ?_⟩
        have fin : ∀ b : Bool, (readDP f new x) = ([(tk new, ov (x.bind (readP f)))], b) → 2 ≤ sizeLine ∧ ∀ t, upd (upd G D (.dK [])) D (.dK (mergeK [] [(tk new, ov (x.bind (readP f)))])) t = none → Q (.ref t) (upd (upd (upd G D (.dK [])) D (.dK (mergeK [] [(tk new, ov (x.bind (readP f)))]))) t (.tup [.ref D, .bl b])) := fun b e => ⟨by decide, fun t ht =>
          q t _ (sG.trans ((upd2 nD).trans (Same.new ht))) (by rw [e]; exact ⟨D, (upd_ne (ne_of_none upd_same ht)).trans upd_same, upd_same⟩)⟩
        cases x with
        | none =>
          rw [decide_eq_true (show os none = V.non from rfl)]
          exact iteF (fin false rfl)
        | some z =>
          rw [decide_eq_false (show ¬ os (some z) = V.non from fun h => nomatch h)]
          refine iteT ⟨_, rfl, rfl, ?_⟩
          have eb : decide (ov ((some z).bind (readP f)) = V.non) = (readP f z).isNone := by
            show decide (ov (readP f z) = V.non) = _
            cases readP f z with
            | none => exact decide_eq_true rfl
            | some i => exact decide_eq_false (fun h => nomatch h)
          rw [eb]
          exact fin _ rfl
    | put col v =>
      have hv := rowV_some ho
      have dg : DGet H r (.str col) (some (rowV row col)) := hv ▸ DGet.k (k := tk col) hrow
      refine ⟨_, rfl, p, _, _, _, rfl, rfl, hp, rfl, _, rfl, p, _, _, _, rfl, rfl, hp, rfl, _, _, rfl, ?_⟩
      dsimp only
      refine ⟨_, rfl, .str col, .ty "str", _, _, true, rfl, .ty "str", .base (.str col), kit_ty (by decide +kernel), _, rfl, ?_⟩
      refine iteT ⟨_, rfl, _, rfl, r, _, rfl, dg, gN ?_⟩
      try dsimp only
      refine ⟨_, rfl, ?_⟩
      refine ⟨rfl, _, rfl, ?_⟩
      rw [decide_eq_false (show ¬ V.str "put" = V.str "cut" from by decide +kernel)]
      refine iteF ?_
      unfold tNext
      dsimp only
      refine ⟨_, rfl, ?_⟩
      refine ⟨rfl, _, rfl, ?_⟩
      rw [decide_eq_false (show ¬ V.str "put" = V.str "glue" from by decide +kernel)]
      refine iteF ?_
      dsimp only
      refine ⟨_, rfl, ?_⟩
      refine ⟨rfl, _, rfl, ?_⟩
      rw [decide_eq_false (show ¬ V.str "put" = V.str "spell" from by decide +kernel)]
      refine iteF ?_
      dsimp only
      refine ⟨_, rfl, ?_⟩
      refine ⟨rfl, _, rfl, ?_⟩
      rw [decide_eq_false (show ¬ V.str "put" = V.str "read" from by decide +kernel)]
      refine iteF ?_
      dsimp only
      refine ⟨_, rfl, ?_⟩
      refine ⟨rfl, _, rfl, ?_⟩
      rw [decide_eq_true (show V.str "put" = V.str "put" from rfl)]
      refine iteT ?_
      refine fun D nD => ⟨_, rfl, _, rfl, rfl, _, rfl, ?_⟩
      have fin : ∀ u : V, u = (if rowV row col = .non then v else rowV row col) → ∀ t, upd (upd H D (.dK [])) D (.dK (mergeK [] [(tk col, u)])) t = none → Q (.ref t) (upd (upd (upd H D (.dK [])) D (.dK (mergeK [] [(tk col, u)]))) t (.tup [.ref D, .bl false])) := by
        rintro u rfl t ht
        exact q t _ ((upd2 nD).trans (Same.new ht)) ⟨D, (upd_ne (ne_of_none upd_same ht)).trans upd_same, upd_same⟩
      by_cases c : rowV row col = .non
      · rw [decide_eq_true c]
        refine iteT ⟨_, rfl, p, _, _, _, rfl, rfl, sameT (Same.new nD) hp, rfl, ?_⟩
        exact ⟨upd_same, [(tk col, v)], rfl, (show 1 ≤ 15 by decide), (show 2 ≤ sizeLine by decide), fin v (if_pos c).symm⟩
      · rw [decide_eq_false c]
        refine iteF ⟨_, rfl, ?_⟩
        exact ⟨upd_same, [(tk col, rowV row col)], rfl, (show 1 ≤ 15 by decide), (show 2 ≤ sizeLine by decide), fin _ (if_neg c).symm⟩
    | met col m =>
      obtain ⟨hs, hm⟩ := ho
      have hv := rowV_some hs
      have dg : DGet H r (.str col) (some (rowV row col)) := hv ▸ DGet.k (k := tk col) hrow
      have q : ∀ t H', Same H H' → Res H' t ([], !metP (rowV row col) m) → Q (.ref t) H' := q
      generalize rowV row col = v at dg hm q hv
      have fin : ∀ b : Bool, (!metP v m) = b → ∀ D, H D = none → ∀ t, upd H D (.dK []) t = none → Q (.ref t) (upd (upd H D (.dK [])) t (.tup [.ref D, .bl b])) := fun b e D nD t ht =>
        q t _ ((Same.new nD).trans (Same.new ht)) (by rw [e]; exact ⟨D, (upd_ne (ne_of_none upd_same ht)).trans upd_same, upd_same⟩)
      have a2 : atI (a :: V.str m.word :: V.str col :: m.rest) 2 = some (V.str col) := by cases m <;> rfl
      have a1 : atI (a :: V.str m.word :: V.str col :: m.rest) 1 = some (V.str m.word) := by cases m <;> rfl
      refine ⟨_, rfl, p, _, _, _, rfl, rfl, hp, a1, _, rfl, p, _, _, _, rfl, rfl, hp, a2, _, _, rfl, ?_⟩
      dsimp only
      refine ⟨_, rfl, .str col, .ty "str", _, _, true, rfl, .ty "str", .base (.str col), kit_ty (by decide +kernel), _, rfl, ?_⟩
      refine iteT ⟨_, rfl, _, rfl, r, v, rfl, dg, gN ?_⟩
      try dsimp only
      cases m with
      | given =>
        refine ⟨_, rfl, ?_⟩
        refine ⟨rfl, _, rfl, ?_⟩
        rw [decide_eq_false (show ¬ V.str (Mt.word (.given)) = V.str "cut" from by decide +kernel)]
        refine iteF ?_
        unfold tNext
        dsimp only
        refine ⟨_, rfl, ?_⟩
        refine ⟨rfl, _, rfl, ?_⟩
        rw [decide_eq_false (show ¬ V.str (Mt.word (.given)) = V.str "glue" from by decide +kernel)]
        refine iteF ?_
        dsimp only
        refine ⟨_, rfl, ?_⟩
        refine ⟨rfl, _, rfl, ?_⟩
        rw [decide_eq_false (show ¬ V.str (Mt.word (.given)) = V.str "spell" from by decide +kernel)]
        refine iteF ?_
        dsimp only
        refine ⟨_, rfl, ?_⟩
        refine ⟨rfl, _, rfl, ?_⟩
        rw [decide_eq_false (show ¬ V.str (Mt.word (.given)) = V.str "read" from by decide +kernel)]
        refine iteF ?_
        dsimp only
        refine ⟨_, rfl, ?_⟩
        refine ⟨rfl, _, rfl, ?_⟩
        rw [decide_eq_false (show ¬ V.str (Mt.word (.given)) = V.str "put" from by decide +kernel)]
        refine iteF ?_
        dsimp only
        refine ⟨_, rfl, ?_⟩
        refine ⟨rfl, _, rfl, ?_⟩
        rw [decide_eq_true (show V.str (Mt.word (.given)) = V.str "given" from rfl)]
        refine iteT ?_
        refine fun D nD => ⟨_, rfl, rfl, (show 2 ≤ sizeLine by decide), fin _ ?_ D nD⟩
        show (!(!decide (v = .non))) = decide (v = .non)
        rw [Bool.not_not]
      | within lo hi =>
        refine ⟨_, rfl, ?_⟩
        refine ⟨rfl, _, rfl, ?_⟩
        rw [decide_eq_false (show ¬ V.str (Mt.word (.within lo hi)) = V.str "cut" from (by decide +kernel : V.str "within" ≠ V.str "cut"))]
        refine iteF ?_
        unfold tNext
        dsimp only
        refine ⟨_, rfl, ?_⟩
        refine ⟨rfl, _, rfl, ?_⟩
        rw [decide_eq_false (show ¬ V.str (Mt.word (.within lo hi)) = V.str "glue" from (by decide +kernel : V.str "within" ≠ V.str "glue"))]
        refine iteF ?_
        dsimp only
        refine ⟨_, rfl, ?_⟩
        refine ⟨rfl, _, rfl, ?_⟩
        rw [decide_eq_false (show ¬ V.str (Mt.word (.within lo hi)) = V.str "spell" from (by decide +kernel : V.str "within" ≠ V.str "spell"))]
        refine iteF ?_
        dsimp only
        refine ⟨_, rfl, ?_⟩
        refine ⟨rfl, _, rfl, ?_⟩
        rw [decide_eq_false (show ¬ V.str (Mt.word (.within lo hi)) = V.str "read" from (by decide +kernel : V.str "within" ≠ V.str "read"))]
        refine iteF ?_
        dsimp only
        refine ⟨_, rfl, ?_⟩
        refine ⟨rfl, _, rfl, ?_⟩
        rw [decide_eq_false (show ¬ V.str (Mt.word (.within lo hi)) = V.str "put" from (by decide +kernel : V.str "within" ≠ V.str "put"))]
        refine iteF ?_
        dsimp only
        refine ⟨_, rfl, ?_⟩
        refine ⟨rfl, _, rfl, ?_⟩
        rw [decide_eq_false (show ¬ V.str (Mt.word (.within lo hi)) = V.str "given" from (by decide +kernel : V.str "within" ≠ V.str "given"))]
        refine iteF ?_
        dsimp only
        refine ⟨_, rfl, ?_⟩
        refine ⟨rfl, _, rfl, ?_⟩
        rw [decide_eq_true (show V.str (Mt.word (.within lo hi)) = V.str "within" from rfl)]
        refine iteT ?_
        have z : ∀ b : Bool, (!(decide (v = .non) || (leV lo v && leV v hi))) = b → _ := fin
        refine fun D nD => ⟨_, rfl, rfl, _, rfl, ?_⟩
        by_cases c : v = .non
        · rw [decide_eq_true c]
          exact iteF ⟨(show 2 ≤ sizeLine by decide), z false (by rw [decide_eq_true c]; rfl) D nD⟩
        · rw [decide_eq_false c]
          obtain ⟨l1, l2⟩ := hm.resolve_left c
          have l1' : like v lo := by cases v <;> cases lo <;> first | exact l1.elim | trivial
          have l2' : like hi v := by cases v <;> cases hi <;> first | exact l2.elim | trivial
          refine iteT ⟨_, rfl, _, rfl, p, _, _, _, rfl, rfl, sameT (Same.new nD) hp, rfl, l1', _, rfl, ?_⟩
          have el : ltV v lo = !leV lo v := by unfold leV; rw [Bool.not_not]
          have eh : ltV hi v = !leV v hi := by unfold leV; rw [Bool.not_not]
          rw [el]
          cases e : leV lo v with
          | false => exact iteT ⟨(show 2 ≤ sizeLine by decide), z true (by rw [decide_eq_false c, e]; rfl) D nD⟩
          | true =>
            refine iteF ⟨_, rfl, p, _, _, _, rfl, rfl, sameT (Same.new nD) hp, rfl, _, rfl, l2', (show 2 ≤ sizeLine by decide), z _ ?_ D nD⟩
            rw [decide_eq_false c, e, eh]
            rfl
      | among q1 xs =>
        refine ⟨_, rfl, ?_⟩
        refine ⟨rfl, _, rfl, ?_⟩
        rw [decide_eq_false (show ¬ V.str (Mt.word (.among q1 xs)) = V.str "cut" from (by decide +kernel : V.str "among" ≠ V.str "cut"))]
        refine iteF ?_
        unfold tNext
        dsimp only
        refine ⟨_, rfl, ?_⟩
        refine ⟨rfl, _, rfl, ?_⟩
        rw [decide_eq_false (show ¬ V.str (Mt.word (.among q1 xs)) = V.str "glue" from (by decide +kernel : V.str "among" ≠ V.str "glue"))]
        refine iteF ?_
        dsimp only
        refine ⟨_, rfl, ?_⟩
        refine ⟨rfl, _, rfl, ?_⟩
        rw [decide_eq_false (show ¬ V.str (Mt.word (.among q1 xs)) = V.str "spell" from (by decide +kernel : V.str "among" ≠ V.str "spell"))]
        refine iteF ?_
        dsimp only
        refine ⟨_, rfl, ?_⟩
        refine ⟨rfl, _, rfl, ?_⟩
        rw [decide_eq_false (show ¬ V.str (Mt.word (.among q1 xs)) = V.str "read" from (by decide +kernel : V.str "among" ≠ V.str "read"))]
        refine iteF ?_
        dsimp only
        refine ⟨_, rfl, ?_⟩
        refine ⟨rfl, _, rfl, ?_⟩
        rw [decide_eq_false (show ¬ V.str (Mt.word (.among q1 xs)) = V.str "put" from (by decide +kernel : V.str "among" ≠ V.str "put"))]
        refine iteF ?_
        dsimp only
        refine ⟨_, rfl, ?_⟩
        refine ⟨rfl, _, rfl, ?_⟩
        rw [decide_eq_false (show ¬ V.str (Mt.word (.among q1 xs)) = V.str "given" from (by decide +kernel : V.str "among" ≠ V.str "given"))]
        refine iteF ?_
        dsimp only
        refine ⟨_, rfl, ?_⟩
        refine ⟨rfl, _, rfl, ?_⟩
        rw [decide_eq_false (show ¬ V.str (Mt.word (.among q1 xs)) = V.str "within" from (by decide +kernel : V.str "among" ≠ V.str "within"))]
        refine iteF ?_
        dsimp only
        refine ⟨_, rfl, ?_⟩
        refine ⟨rfl, _, rfl, ?_⟩
        rw [decide_eq_true (show V.str (Mt.word (.among q1 xs)) = V.str "among" from rfl)]
        refine iteT ?_
        have z : ∀ b : Bool, (!(decide (v = .non) || inV v xs)) = b → _ := fin
        refine fun D nD => ⟨_, rfl, rfl, _, rfl, ?_⟩
        by_cases c : v = .non
        · rw [decide_eq_true c]
          exact iteF ⟨(show 2 ≤ sizeLine by decide), z false (by rw [decide_eq_true c]; rfl) D nD⟩
        · rw [decide_eq_false c]
          refine iteT ⟨_, rfl, _, rfl, p, _, _, _, rfl, rfl, sameT (Same.new nD) hp, rfl, q1, xs, rfl, .inr (sameT (Same.new nD) hm.1), hm.2.1, hm.2.2, (show 2 ≤ sizeLine by decide), z _ ?_ D nD⟩
          rw [decide_eq_false c]
          rfl
      | before c2 v2 =>
        refine ⟨_, rfl, ?_⟩
        refine ⟨rfl, _, rfl, ?_⟩
        rw [decide_eq_false (show ¬ V.str (Mt.word (.before c2 v2)) = V.str "cut" from (by decide +kernel : V.str "before" ≠ V.str "cut"))]
        refine iteF ?_
        unfold tNext
        dsimp only
        refine ⟨_, rfl, ?_⟩
        refine ⟨rfl, _, rfl, ?_⟩
        rw [decide_eq_false (show ¬ V.str (Mt.word (.before c2 v2)) = V.str "glue" from (by decide +kernel : V.str "before" ≠ V.str "glue"))]
        refine iteF ?_
        dsimp only
        refine ⟨_, rfl, ?_⟩
        refine ⟨rfl, _, rfl, ?_⟩
        rw [decide_eq_false (show ¬ V.str (Mt.word (.before c2 v2)) = V.str "spell" from (by decide +kernel : V.str "before" ≠ V.str "spell"))]
        refine iteF ?_
        dsimp only
        refine ⟨_, rfl, ?_⟩
        refine ⟨rfl, _, rfl, ?_⟩
        rw [decide_eq_false (show ¬ V.str (Mt.word (.before c2 v2)) = V.str "read" from (by decide +kernel : V.str "before" ≠ V.str "read"))]
        refine iteF ?_
        dsimp only
        refine ⟨_, rfl, ?_⟩
        refine ⟨rfl, _, rfl, ?_⟩
        rw [decide_eq_false (show ¬ V.str (Mt.word (.before c2 v2)) = V.str "put" from (by decide +kernel : V.str "before" ≠ V.str "put"))]
        refine iteF ?_
        dsimp only
        refine ⟨_, rfl, ?_⟩
        refine ⟨rfl, _, rfl, ?_⟩
        rw [decide_eq_false (show ¬ V.str (Mt.word (.before c2 v2)) = V.str "given" from (by decide +kernel : V.str "before" ≠ V.str "given"))]
        refine iteF ?_
        dsimp only
        refine ⟨_, rfl, ?_⟩
        refine ⟨rfl, _, rfl, ?_⟩
        rw [decide_eq_false (show ¬ V.str (Mt.word (.before c2 v2)) = V.str "within" from (by decide +kernel : V.str "before" ≠ V.str "within"))]
        refine iteF ?_
        dsimp only
        refine ⟨_, rfl, ?_⟩
        refine ⟨rfl, _, rfl, ?_⟩
        rw [decide_eq_false (show ¬ V.str (Mt.word (.before c2 v2)) = V.str "among" from (by decide +kernel : V.str "before" ≠ V.str "among"))]
        refine iteF ?_
        dsimp only
        have z : ∀ b : Bool, (!(decide (v = .non) || (decide (v2 = .non) || ltV v v2))) = b → _ := fin
        refine fun D nD => ⟨_, rfl, rfl, _, rfl, ?_⟩
        by_cases c : v = .non
        · rw [decide_eq_true c]
          exact iteF ⟨(show 2 ≤ sizeLine by decide), z false (by rw [decide_eq_true c]; rfl) D nD⟩
        · rw [decide_eq_false c]
          have dg2 : DGet (upd H D (.dK [])) r (.str c2) (some v2) := hm.1 ▸ DGet.k (k := tk c2) (Same.new nD _ _ hrow)
          refine iteT ⟨_, rfl, _, rfl, p, _, _, _, rfl, rfl, sameT (Same.new nD) hp, rfl, r, v2, rfl, dg2, rfl, _, rfl, ?_⟩
          by_cases c3 : v2 = .non
          · rw [decide_eq_true c3]
            exact iteF ⟨(show 2 ≤ sizeLine by decide), z false (by rw [decide_eq_false c, decide_eq_true c3]; rfl) D nD⟩
          · rw [decide_eq_false c3]
            refine iteT ⟨_, rfl, _, rfl, _, rfl, p, _, _, _, rfl, rfl, sameT (Same.new nD) hp, rfl, r, v2, rfl, dg2, (hm.2.resolve_left c).resolve_left c3, _, rfl, (show 2 ≤ sizeLine by decide), z _ ?_ D nD⟩
            rw [decide_eq_false c, decide_eq_false c3]
            rfl
end
end K21
set_option Elab.async false
set_option linter.all false
set_option maxRecDepth 100000
set_option maxHeartbeats 4000000
/-! k21: forms drawn -/
namespace K21
open PySem PySem.Spec PyProof.Rows L2 Bs Xg TL Xk Xl K02
abbrev sLTx : Stmt := top 37
abbrev sLNd : Stmt := top 38
abbrev sLNe : Stmt := top 39
abbrev sLSp : Stmt := top 40
abbrev sLFo : Stmt := top 41
abbrev sLCa : Stmt := top 42
section
variable {P : Program} {w : World} {K : PySem.W.Frag} {mg : Str → Option Value} {base : Heap}
structure Drw (K : PySem.W.Frag) (mg : Str → Option Value) (fTk fOf : Addr) (dTk dOf : FuncData) : Prop where
  Tk : Fun K "_law_take" "_law_take" sTake fTk dTk
  bTk : Binds K dTk ["_law_hand_here", "_law_many"] []
  gTk : mg "_law_take" = some (.ref fTk)
  Of : Fun K "_law_of" "_law_of" sOf fOf dOf
  bOf : Binds K dOf ["_law_hand_here", "_law_some"] []
  gOf : mg "_law_of" = some (.ref fOf)
variable {fTk fOf : Addr} {dTk dOf : FuncData}
theorem scLFo : FnScope ["_law_hand_here", "_law_order"] ["_law_hand_here"] (defScope sLFo) := ⟨rfl, rfl, rfl, by decide +kernel, rfl, by decide +kernel, by decide +kernel⟩
def spLFo (K : PySem.W.Frag) : Sp := fun vs H Q _ => ∃ (h : Addr) (n : Nat), vs = [.ref h] ∧ HandAt H h n ∧ n < 999000 ∧ ∀ (p : Addr) (f : Fm) (H' : Hp), f.ok → H' p = some (.tup f.vals) → HandAt H' h (n + 3) → But h H H' → Q (.ref p) H'
theorem but_newer {h a : Addr} {H H1 : Hp} {o : HO} (b : But h H H1) (n : H1 a = none) : But h H (upd H1 a o) := b.trans (But.of (Same.new n))
theorem ok_lform {f : Addr} {fd : FuncData} (F : Fun K "_law_form" "_law_form" sLFo f fd) (T : Free mg) (W : Drw K mg fTk fOf dTk dOf) : FnOk P w K mg base CX0 3 f fd ["_law_hand_here"] (spLFo K) := by
  have GTk : FnOk P w K mg base CX0 1 fTk dTk ["_law_hand_here", "_law_many"] spTake := ok_take W.Tk
  have GOf : FnOk P w K mg base CX0 2 fOf dOf ["_law_hand_here", "_law_some"] (spPick K) := ok_of W.Of T W.Tk W.bTk W.gTk
  have FTk := W.Tk
  have bTk := W.bTk
  have gTk := W.gTk
  have FOf := W.Of
  have bOf := W.bOf
  have gOf := W.gOf
  refine F.ok scLFo (fun vs H Q E h => ?_) (fun cdv A outer s H vs Q E hr h => ?_)
  · obtain ⟨h, n, rfl, _⟩ := h
    rfl
  · obtain ⟨h, n, rfl, hd, nb, q⟩ := h
    refine ⟨_, pss_cons (ps_set (i := 1) scLFo.nd rfl (Or.inl rfl) (pe_call GOf (hr.mono (by decide)) (by rfl) gOf FOf.kp bOf .nil pass0 (pa_cons (pv 0) (pa_cons (pe_lst (pa_cons pe_str (pa_cons pe_str (pa_cons pe_str pa_nil)))) pa_nil))))
      (pss_one (ps_ret (pe_call GOf (hr.mono (by decide)) (by rfl) gOf FOf.kp bOf .nil pass0 (pa_cons (pv 0) (pa_cons (pe_lst (pa_cons (pe_tup (pa_cons pe_str pa_nil)) (pa_cons (pe_tup (pa_cons pe_str (pa_cons (pe_op op_add pe_int (pe_call GTk (hr.mono (by decide)) (by rfl) gTk FTk.kp bTk .nil pass0 (pa_cons (pv 0) (pa_cons pe_int pa_nil)))) pa_nil))) (pa_cons (pe_tup (pa_cons pe_str (pa_cons (pv 1) pa_nil))) (pa_cons (pe_tup (pa_cons pe_str (pa_cons (pv 1) pa_nil))) pa_nil))))) pa_nil))))), ?_⟩
    refine ⟨_, rfl, (show 3 ≤ sizeLine by decide), fun L1 n1 => ?_⟩
    have hd0 := hd.mono (Same.new (o := .lst [V.str "ymd", V.str "dmy", V.str "mdy"]) n1) (Nat.le_refl n)
    refine ⟨h, n, .ref L1, [V.str "ymd", V.str "dmy", V.str "mdy"], rfl, hd0, by omega, by decide, by decide, .inr ⟨L1, rfl, (hd.fresh n1).symm, SqL.of upd_same⟩, fun y H1 hy hd1 bt1 => ?_⟩
    have bt : But h H H1 := (But.of (Same.new n1)).trans bt1
    obtain ⟨o, rfl, io⟩ : ∃ o, y = .str o ∧ IsOrd o := by
      rcases List.mem_cons.mp hy with rfl | hy
      · exact ⟨_, rfl, .inl rfl⟩
      rcases List.mem_cons.mp hy with rfl | hy
      · exact ⟨_, rfl, .inr (.inl rfl)⟩
      · rw [List.mem_singleton.mp hy]
        exact ⟨_, rfl, .inr (.inr rfl)⟩
    refine gN ?_
    try dsimp only
    refine ⟨_, rfl, (show 1 ≤ sizeLine by decide), fun t1 m1 => ?_⟩
    have hd2 := hd1.mono (Same.new (o := .tup [V.str "whole"]) m1) (Nat.le_refl _)
    refine ⟨_, rfl, h, n + 1, 4, rfl, hd2, by omega, by decide, by decide, fun r H2 r0 r1 hd3 bt2 => ?_⟩
    have e1 : H2 t1 = some (.tup [V.str "whole"]) := bt2 t1 _ (fun e => hd1.fresh m1 e.symm) upd_same
    have bt' : But h H H2 := (but_newer (o := .tup [V.str "whole"]) bt m1).trans bt2
    refine ⟨_, _, rfl, rfl, (show 2 ≤ sizeLine by decide), fun t2 m2 => ⟨_, rfl, (show 2 ≤ sizeLine by decide), fun t3 m3 => ⟨_, rfl, (show 2 ≤ sizeLine by decide), fun t4 m4 => ⟨(show 4 ≤ sizeLine by decide), fun L2 n2 => ?_⟩⟩⟩⟩
    have s2 := Same.new (o := .tup [V.str "amount", V.int (1 + r)]) m2
    have s3 := s2.trans (Same.new (o := .tup [V.str "day", V.str o]) m3)
    have s4 := s3.trans (Same.new (o := .tup [V.str "day", V.str o]) m4)
    have s5 := s4.trans (Same.new (o := .lst [V.ref t1, V.ref t2, V.ref t3, V.ref t4]) n2)
    have hd5 := hd3.mono s5 (Nat.le_refl _)
    refine ⟨h, n + 1 + 1, .ref L2, [.ref t1, .ref t2, .ref t3, .ref t4], rfl, hd5, by omega, (show 0 < 4 by decide), (show 4 ≤ 1000 by decide), .inr ⟨L2, rfl, ((hd3.mono s4 (Nat.le_refl _)).fresh n2).symm, SqL.of upd_same⟩, fun y H3 hy hd6 bt3 => ?_⟩
    have btf : But h H H3 := (bt'.trans (But.of s5)).trans bt3
    have sn2 := Same.new (o := .lst [V.ref t1, V.ref t2, V.ref t3, V.ref t4]) n2
    have sn4 := Same.new (o := .tup [V.str "day", V.str o]) m4
    have sn3 := Same.new (o := .tup [V.str "day", V.str o]) m3
    have h1 : H3 t1 = some (.tup [V.str "whole"]) := bt3 _ _ (fun e => hd1.fresh m1 e.symm) (s5 _ _ e1)
    have h2 : H3 t2 = some (.tup [V.str "amount", V.int (1 + r)]) := bt3 _ _ (fun e => hd3.fresh m2 e.symm) (sn2 _ _ (sn4 _ _ (sn3 _ _ upd_same)))
    have h3 : H3 t3 = some (.tup [V.str "day", V.str o]) := bt3 _ _ (fun e => (hd3.mono s2 (Nat.le_refl _)).fresh m3 e.symm) (sn2 _ _ (sn4 _ _ upd_same))
    have h4 : H3 t4 = some (.tup [V.str "day", V.str o]) := bt3 _ _ (fun e => (hd3.mono s3 (Nat.le_refl _)).fresh m4 e.symm) (sn2 _ _ upd_same)
    have er : ((1 + r.toNat : Nat) : Int) = 1 + r := by omega
    rcases List.mem_cons.mp hy with rfl | hy
    · exact q t1 .whole H3 trivial h1 hd6 btf
    rcases List.mem_cons.mp hy with rfl | hy
    · exact q t2 (.amount (1 + r.toNat)) H3 ⟨by omega, by omega⟩ (by show _ = some (HO.tup [V.str "amount", V.int ((1 + r.toNat : Nat) : Int)]); rw [er]; exact h2) hd6 btf
    rcases List.mem_cons.mp hy with rfl | hy
    · exact q t3 (.day o) H3 io h3 hd6 btf
    · rw [List.mem_singleton.mp hy]
      exact q t4 (.day o) H3 io h4 hd6 btf
end
end K21
set_option Elab.async false
set_option linter.all false
set_option maxRecDepth 100000
set_option maxHeartbeats 4000000
/-! k21: texts drawn -/
namespace K21
open PySem PySem.Spec PyProof.Rows L2 Bs Xg TL Xk Xl K02
theorem Good.sub {L : Nat} {x : Str} (h : Good L x) (i j : Nat) : Good L (Builtin.Str.strSub x i j) := by
  have e : (x.cps.extract i j).toList = (x.cps.toList.take j).drop i := by
    rw [Array.toList_extract]
    simp [List.extract, List.drop_take]
  refine ⟨?_, fun c hc => ?_⟩
  · show (x.cps.extract i j).size ≤ L
    rw [Array.size_extract]
    have : x.cps.size ≤ L := h.1
    omega
  · have hc' : c ∈ (x.cps.extract i j).toList := hc
    rw [e] at hc'
    exact h.2 c (List.mem_of_mem_take (List.mem_of_mem_drop hc'))
theorem Good.strip {L : Nat} {x y : Str} (h : Good L x) : Good L (Txt.stripChars x y) := by
  unfold Txt.stripChars Txt.stripBy
  split
  · exact h
  · exact h.sub _ _
theorem Good.ok {L : Nat} {x : Str} (h : Good L x) : PyData.strOk x = true := by
  unfold PyData.strOk
  rw [← Array.all_toList, List.all_eq_true]
  intro c hc
  have := h.2 c hc
  simp
  omega
theorem joinL_good {s : List Nat} (hs : s.length ≤ 1 ∧ ∀ c ∈ s, 32 ≤ c ∧ c < 127) : ∀ ps : List (List Nat), (∀ p ∈ ps, p.length ≤ 3 ∧ ∀ c ∈ p, 32 ≤ c ∧ c < 127) → (joinL s ps).length ≤ ps.length * 4 ∧ ∀ c ∈ joinL s ps, 32 ≤ c ∧ c < 127
  | [], _ => by simp [joinL]
  | [p], h => by
    have := h p (by simp)
    exact ⟨by simp [joinL]; omega, this.2⟩
  | p :: q :: r, h => by
    have ih := joinL_good hs (q :: r) fun x hx => h x (List.mem_cons_of_mem _ hx)
    have hp := h p (by simp)
    show (p ++ (s ++ joinL s (q :: r))).length ≤ _ ∧ ∀ c ∈ p ++ (s ++ joinL s (q :: r)), _
    refine ⟨?_, fun c hc => ?_⟩
    · have h1 := ih.1
      simp only [List.length_append, List.length_cons] at h1 ⊢
      omega
    · rcases List.mem_append.mp hc with hc | hc
      · exact hp.2 c hc
      rcases List.mem_append.mp hc with hc | hc
      · exact hs.2 c hc
      · exact ih.2 c hc
theorem good_join {sep : Str} {ys : List Str} (hs : Good 1 sep) (h : ∀ y ∈ ys, Good 3 y) : Good (ys.length * 4) (Txt.join sep ys) := by
  have q := joinL_good (s := tl sep) ⟨by rw [← len_tl]; exact hs.1, hs.2⟩ (ys.map tl) (fun p hp => by
    obtain ⟨y, hy, rfl⟩ := List.mem_map.mp hp
    exact ⟨by rw [← len_tl]; exact (h y hy).1, (h y hy).2⟩)
  rw [List.length_map] at q
  have e : tl (Txt.join sep ys) = joinL (tl sep) (ys.map tl) := by rw [join_eq, tl_join]
  exact ⟨by rw [len_tl, e]; exact q.1, fun c hc => q.2 c (by rw [← e]; exact hc)⟩
theorem strs_of {W : Str → Prop} : ∀ {ys : List V}, (∀ (j : Nat) (y : V), ys[j]? = some y → ∃ z, y = V.str z ∧ W z) → ∃ zs : List Str, ys = zs.map V.str ∧ ∀ z ∈ zs, W z
  | [], _ => ⟨[], rfl, by simp⟩
  | y :: ys, h => by
    obtain ⟨z, rfl, hz⟩ := h 0 y rfl
    obtain ⟨zs, rfl, hw⟩ := strs_of (ys := ys) fun j y hy => h (j + 1) y (by simpa using hy)
    refine ⟨z :: zs, rfl, fun x hx => ?_⟩
    rcases List.mem_cons.mp hx with rfl | hx
    · exact hz
    · exact hw x hx
section
variable {P : Program} {w : World} {K : PySem.W.Frag} {mg : Str → Option Value} {base : Heap} {fTk fOf : Addr} {dTk dOf : FuncData}
abbrev nLTx : List Str := ["_law_hand_here", "_law_sign", "_law_parts", "_law_text_here", "_law_k"]
theorem scLTx : FnScope nLTx ["_law_hand_here", "_law_sign"] (defScope sLTx) := ⟨rfl, rfl, rfl, by decide +kernel, rfl, by decide +kernel, by decide +kernel⟩
def spLTx : Sp := fun vs H Q _ => ∃ (h : Addr) (n : Nat) (sign : Str), vs = [.ref h, .str sign] ∧ HandAt H h n ∧ n < 990000 ∧ Good 1 sign ∧ ∀ (x : Option Str) (H' : Hp), (∀ z, x = some z → Good 40 z) → HandAt H' h (n + 7) → But h H H' → Q (os x) H'
theorem ok_ltext {f : Addr} {fd : FuncData} (F : Fun K "_law_text" "_law_text" sLTx f fd) (T : Free mg) (W : Drw K mg fTk fOf dTk dOf) : FnOk P w K mg base CX0 3 f fd ["_law_hand_here", "_law_sign"] spLTx := by
  have GTk : FnOk P w K mg base CX0 1 fTk dTk ["_law_hand_here", "_law_many"] spTake := ok_take W.Tk
  have GOf : FnOk P w K mg base CX0 2 fOf dOf ["_law_hand_here", "_law_some"] (spPick K) := ok_of W.Of T W.Tk W.bTk W.gTk
  have FTk := W.Tk
  have bTk := W.bTk
  have gTk := W.gTk
  have FOf := W.Of
  have bOf := W.bOf
  have gOf := W.gOf
  refine F.ok scLTx (fun vs H Q E h => ?_) (fun cdv A outer s H vs Q E hr h => ?_)
  · obtain ⟨h, n, sign, rfl, _⟩ := h
    rfl
  · obtain ⟨h, n, sign, rfl, hd, nb, gs, q⟩ := h
    refine ⟨_, pss_cons (ps_setLc (i := 2) (own := [("_law_k", 4)]) (g := gName 4) (tt := tYes) rfl scLTx.nd rfl rfl (sw_true rfl rfl rfl rfl) (pi_range1 (by rfl) T.range (pa_cons (pe_op op_add pe_int (pe_call GTk (hr.mono (by decide)) (by rfl) gTk FTk.kp bTk .nil pass0 (pa_cons (pv 0) (pa_cons pe_int pa_nil)))) pa_nil)) (blkOk_by (own := [("_law_k", 4)]) (N := nLTx) (sc := defScope sLTx) (by decide +kernel)) (fun _ _ _ _ _ => (pg_name (i := 4) scLTx.nd rfl (Or.inl rfl))) (fun _ _ _ _ _ => pts_nil) (fun _ _ _ _ _ => (pe_call GOf (hr.mono (by decide)) (by rfl) gOf FOf.kp bOf .nil pass0 (pa_cons (pv 0) (pa_cons (pe_lst (pa_cons pe_str (pa_cons pe_str (pa_cons pe_str (pa_cons pe_str (pa_cons pe_str (pa_cons pe_str pa_nil))))))) pa_nil)))))
      (pss_cons (ps_set (i := 3) scLTx.nd rfl (Or.inl rfl) (pe_bm PySem.F.plainAttrs_str PySem.F.slot_str_strip PySem.F.type_str_strip mt_stripChars (pe_join (pv 1) (pv 2)) (pa_cons pe_str pa_nil)))
      (pss_one (ps_ret (pe_ifExp (pt_cmpR op_ne (pv 3) pe_str (nomark _)) (pe_call GOf (hr.mono (by decide)) (by rfl) gOf FOf.kp bOf .nil pass0 (pa_cons (pv 0) (pa_cons (pe_lst (pa_cons (pv 3) (pa_cons (pv 3) (pa_cons (pv 3) (pa_cons pe_non (pa_cons pe_str pa_nil)))))) pa_nil))) pe_non)))), ?_⟩
    refine ⟨_, rfl, h, n, 5, rfl, hd, by omega, by decide, by decide, fun r H1 r0 r1 hd1 bt1 => ?_⟩
    refine ⟨_, _, rfl, rfl, 1 + r, rfl, by omega, by omega, fun D nD => ?_⟩
    have nh : D ≠ h := (hd1.fresh nD).symm
    refine lc_map (walk_range (lo := 0) (n := (1 + r).toNat)) (h := h) (Z := fun j x => True) (fun j G => HandAt G h (n + 1 + j)) (fun _ y _ => ∃ z, y = V.str z ∧ Good 3 z) nD nh (fun j G x G' e => ⟨e.1, trivial⟩) (fun _ _ => trivial) (fun _ _ _ _ _ _ e => e) (by omega) (fun _ => rfl) hd1 (fun j G l a => a.old nh.symm) ?_ ?_
    · rintro j x G Q2 hj _ btG hdG _ kk
      refine ⟨_, rfl, (show 6 ≤ sizeLine by decide), fun L nL => ?_⟩
      refine ⟨h, n + 1 + j, _, _, rfl, hdG.mono (Same.new nL) (Nat.le_refl _), by omega, (by show 0 < 6; decide), (by show 6 ≤ 1000; decide), .inr ⟨L, rfl, (hdG.fresh nL).symm, SqL.of upd_same⟩, fun y G2 hy hd2 bt2 => ?_⟩
      refine kk _ _ ((But.of (Same.new nL)).trans bt2) hd2 ?_
      simp only [List.mem_cons, List.not_mem_nil, or_false] at hy
      rcases hy with rfl | rfl | rfl | rfl | rfl | rfl <;> exact ⟨_, rfl, by constructor <;> decide +kernel⟩
    · rintro G ys btG hdG eD ly hw
      obtain ⟨zs, rfl, hz⟩ : ∃ zs : List Str, ys = zs.map V.str ∧ ∀ z ∈ zs, Good 3 z := strs_of hw
      rw [List.length_map] at ly
      have gj := good_join gs hz
      have gj2 : Good 40 (Txt.stripChars (Txt.join sign zs) sp) := (gj.strip).le (by omega)
      have sl : ∀ l : List Str, (∀ z ∈ l, Good 3 z) → (l.map (·.length)).sum ≤ l.length * 3 := by
        intro l
        induction l with
        | nil => intro _; simp
        | cons a l ih =>
          intro hl
          have h1 := (hl a (by simp)).1
          have h2 := ih fun y hy => hl y (by simp [hy])
          simp only [List.map_cons, List.sum_cons, List.length_cons]
          omega
      have s1 := sl zs hz
      have s2 : zs.length * sign.length ≤ 5 * 1 := Nat.mul_le_mul (by omega) gs.1
      refine gN ?_
      try dsimp only
      refine ⟨_, rfl, ⟨_, rfl⟩, _, rfl, sign, D, zs, rfl, rfl, .inl (SqL.of eD), by omega, rfl, _, _, rfl, rfl, Nat.le_trans gj.1 (by rw [sizeLine_eq]; omega), ?_⟩
      refine gN ?_
      try dsimp only
      refine ⟨_, rfl, ?_⟩
      refine ⟨rfl, _, rfl, ?_⟩
      have bt' : But h H G := bt1.trans btG
      have gj3 : Good 40 (Txt.stripChars (Txt.join sign zs) (Str.ofString " ")) := gj2
      generalize Txt.stripChars (Txt.join sign zs) (Str.ofString " ") = T0 at gj3 ⊢
      by_cases e0 : V.str T0 = V.str ""
      · rw [decide_eq_true e0]
        exact iteF (q none G (fun z e => nomatch e) (hdG.up (by omega)) bt')
      · rw [decide_eq_false e0]
        refine iteT ⟨_, rfl, _, rfl, _, rfl, _, rfl, (show 5 ≤ sizeLine by decide), fun L nL => ?_⟩
        refine ⟨h, n + 1 + (1 + r).toNat, _, _, rfl, hdG.mono (Same.new nL) (Nat.le_refl _), by omega, (by show 0 < 5; decide), (by show 5 ≤ 1000; decide), .inr ⟨L, rfl, (hdG.fresh nL).symm, SqL.of upd_same⟩, fun y G2 hy hd2 bt2 => ?_⟩
        have bt3 := (bt'.trans (But.of (Same.new nL))).trans bt2
        have hd3 := hd2.up (m := n + 7) (by omega)
        simp only [List.mem_cons, List.not_mem_nil, or_false] at hy
        rcases hy with rfl | rfl | rfl | rfl | rfl
        · exact q (some T0) G2 (fun z e => by cases e; exact gj3) hd3 bt3
        · exact q (some T0) G2 (fun z e => by cases e; exact gj3) hd3 bt3
        · exact q (some T0) G2 (fun z e => by cases e; exact gj3) hd3 bt3
        · exact q none G2 (fun z e => nomatch e) hd3 bt3
        · exact q (some "a") G2 (fun z e => by cases e; constructor <;> decide +kernel) hd3 bt3
end
end K21
set_option Elab.async false
set_option linter.all false
set_option maxRecDepth 100000
set_option maxHeartbeats 4000000
/-! k21: near texts drawn -/
namespace K21
open PySem PySem.Spec PyProof.Rows L2 Bs Xg TL Xk Xl K02
section
variable {P : Program} {w : World} {K : PySem.W.Frag} {mg : Str → Option Value} {base : Heap} {fTk fOf : Addr} {dTk dOf : FuncData}
abbrev nLNd : List Str := ["_law_hand_here", "_law_order", "_law_sign", "_law_parts", "_law_one"]
theorem scLNd : FnScope nLNd ["_law_hand_here", "_law_order"] (defScope sLNd) := ⟨rfl, rfl, rfl, by decide +kernel, rfl, by decide +kernel, by decide +kernel⟩
/-- all texts, each of few plain signs -/
def Txs (L : Nat) (ys : List V) : Prop := ∀ y ∈ ys, ∃ z, y = V.str z ∧ Good L z
instance (L : Nat) (z : Str) : Decidable (Good L z) := by unfold Good; infer_instance
theorem txs_of {L : Nat} {zs : List Str} (h : ∀ z ∈ zs, Good L z) : Txs L (zs.map V.str) := fun y hy => by
  obtain ⟨z, hz, rfl⟩ := List.mem_map.mp hy
  exact ⟨z, rfl, h z hz⟩
theorem joinM {s : List Nat} {M : Nat} (hs : s.length ≤ 1 ∧ ∀ c ∈ s, 32 ≤ c ∧ c < 127) : ∀ ps : List (List Nat), (∀ p ∈ ps, p.length ≤ M ∧ ∀ c ∈ p, 32 ≤ c ∧ c < 127) → (joinL s ps).length ≤ ps.length * (M + 1) ∧ ∀ c ∈ joinL s ps, 32 ≤ c ∧ c < 127
  | [], _ => by simp [joinL]
  | [p], h => by
    have := h p (by simp)
    exact ⟨by simp [joinL]; omega, this.2⟩
  | p :: q :: r, h => by
    have ih := joinM hs (q :: r) fun x hx => h x (List.mem_cons_of_mem _ hx)
    have hp := h p (by simp)
    show (p ++ (s ++ joinL s (q :: r))).length ≤ _ ∧ ∀ c ∈ p ++ (s ++ joinL s (q :: r)), _
    refine ⟨?_, fun c hc => ?_⟩
    · have h1 := ih.1
      rw [List.length_append, List.length_append, List.length_cons, Nat.succ_mul]
      omega
    · rcases List.mem_append.mp hc with hc | hc
      · exact hp.2 c hc
      rcases List.mem_append.mp hc with hc | hc
      · exact hs.2 c hc
      · exact ih.2 c hc
theorem good_joinM {sep : Str} {M : Nat} {ys : List Str} (hs : Good 1 sep) (h : ∀ y ∈ ys, Good M y) : Good (ys.length * (M + 1)) (Txt.join sep ys) := by
  have q := joinM (s := tl sep) (M := M) ⟨by rw [← len_tl]; exact hs.1, hs.2⟩ (ys.map tl) (fun p hp => by
    obtain ⟨y, hy, rfl⟩ := List.mem_map.mp hp
    exact ⟨by rw [← len_tl]; exact (h y hy).1, (h y hy).2⟩)
  rw [List.length_map] at q
  have e : tl (Txt.join sep ys) = joinL (tl sep) (ys.map tl) := by rw [join_eq, tl_join]
  exact ⟨by rw [len_tl, e]; exact q.1, fun c hc => q.2 c (by rw [← e]; exact hc)⟩
theorem key_m : ky "m" ∉ [ky "y"] := by
  have h : ky "m" ≠ ky "y" := by decide +kernel
  simp [h]
theorem key_d : ky "d" ∉ [ky "y", ky "m"] := by
  have h : ky "d" ≠ ky "y" := by decide +kernel
  have h2 : ky "d" ≠ ky "m" := by decide +kernel
  simp [h, h2]
theorem hand_upd {H : Hp} {h D : Addr} {o : HO} {n : Nat} (a : HandAt H h n) (ne : D ≠ h) : HandAt (upd H D o) h n := by
  obtain ⟨g, t, c, e, r⟩ := a
  exact ⟨g, t, c, by rw [upd_ne ne.symm]; exact e, r⟩
/-- each sign of an order names one of three -/
theorem ord_get {o a b c : Str} (h : IsOrd o) (ga : Good 4 a) (gb : Good 4 b) (gc : Good 4 c) : ∀ (j s : Nat), o.cps[j]? = some s → ∃ z, valV [(ky "y", V.str a), (ky "m", V.str b), (ky "d", V.str c)] (Sum.inr (⟨#[s]⟩ : Str)) = some (.str z) ∧ Good 4 z := by
  have y1 : ky "y" = Sum.inr (⟨#[121]⟩ : Str) := by decide +kernel
  have m1 : ky "m" = Sum.inr (⟨#[109]⟩ : Str) := by decide +kernel
  have d1 : ky "d" = Sum.inr (⟨#[100]⟩ : Str) := by decide +kernel
  have y2 : ¬ ky "y" = Sum.inr (⟨#[109]⟩ : Str) := by decide +kernel
  have y3 : ¬ ky "y" = Sum.inr (⟨#[100]⟩ : Str) := by decide +kernel
  have m3 : ¬ ky "m" = Sum.inr (⟨#[100]⟩ : Str) := by decide +kernel
  have vy : valV [(ky "y", V.str a), (ky "m", V.str b), (ky "d", V.str c)] (Sum.inr (⟨#[121]⟩ : Str)) = some (.str a) := valV_pos y1
  have vm : valV [(ky "y", V.str a), (ky "m", V.str b), (ky "d", V.str c)] (Sum.inr (⟨#[109]⟩ : Str)) = some (.str b) := (valV_neg y2).trans (valV_pos m1)
  have vd : valV [(ky "y", V.str a), (ky "m", V.str b), (ky "d", V.str c)] (Sum.inr (⟨#[100]⟩ : Str)) = some (.str c) := (valV_neg y3).trans ((valV_neg m3).trans (valV_pos d1))
  intro j s e
  have m : s ∈ o.cps.toList := by
    rw [← Array.getElem?_toList] at e
    exact List.mem_of_getElem? e
  have t : s = 121 ∨ s = 109 ∨ s = 100 := by
    rcases h with rfl | rfl | rfl
    · rw [show (Str.ofString "ymd").cps.toList = [121, 109, 100] by decide +kernel] at m; simp at m; omega
    · rw [show (Str.ofString "dmy").cps.toList = [100, 109, 121] by decide +kernel] at m; simp at m; omega
    · rw [show (Str.ofString "mdy").cps.toList = [109, 100, 121] by decide +kernel] at m; simp at m; omega
  rcases t with rfl | rfl | rfl
  · exact ⟨a, vy, ga⟩
  · exact ⟨b, vm, gb⟩
  · exact ⟨c, vd, gc⟩
def spLNd : Sp := fun vs H Q _ => ∃ (h : Addr) (n : Nat) (o : Str), vs = [.ref h, .str o] ∧ HandAt H h n ∧ n < 990000 ∧ IsOrd o ∧ ∀ (z : Str) (H' : Hp), Good 30 z → HandAt H' h (n + 5) → But h H H' → Q (.str z) H'
theorem ok_lneard {f : Addr} {fd : FuncData} (F : Fun K "_law_near_day" "_law_near_day" sLNd f fd) (T : Free mg) (W : Drw K mg fTk fOf dTk dOf) : FnOk P w K mg base CX0 3 f fd ["_law_hand_here", "_law_order"] spLNd := by
  have GOf : FnOk P w K mg base CX0 2 fOf dOf ["_law_hand_here", "_law_some"] (spPick K) := ok_of W.Of T W.Tk W.bTk W.gTk
  have FOf := W.Of
  have bOf := W.bOf
  have gOf := W.gOf
  refine F.ok scLNd (fun vs H Q E h => ?_) (fun cdv A outer s H vs Q E hr h => ?_)
  · obtain ⟨h, n, o, rfl, _⟩ := h
    rfl
  · obtain ⟨h, n, o, rfl, hd, nb, io, q⟩ := h
    refine ⟨_, pss_cons (ps_set (i := 2) scLNd.nd rfl (Or.inl rfl) (pe_call GOf (hr.mono (by decide)) (by rfl) gOf FOf.kp bOf .nil pass0 (pa_cons (pv 0) (pa_cons (pe_lst (pa_cons pe_str (pa_cons pe_str (pa_cons pe_str (pa_cons pe_str (pa_cons pe_str pa_nil)))))) pa_nil))))
      (pss_cons (ps_set (i := 3) scLNd.nd rfl (Or.inr rfl) (pe_disp (pps_cons pe_str (pe_call GOf (hr.mono (by decide)) (by rfl) gOf FOf.kp bOf .nil pass0 (pa_cons (pv 0) (pa_cons (pe_lst (pa_cons pe_str (pa_cons pe_str (pa_cons pe_str (pa_cons pe_str (pa_cons pe_str (pa_cons pe_str (pa_cons pe_str pa_nil)))))))) pa_nil))) pps_nil) (by rfl) (by rfl) (fun z => by cases z) (by decide)))
      (pss_cons (ps_dput (u1 hr.units) (pv 3) pe_str (pe_call GOf (hr.mono (by decide)) (by rfl) gOf FOf.kp bOf .nil pass0 (pa_cons (pv 0) (pa_cons (pe_lst (pa_cons pe_str (pa_cons pe_str (pa_cons pe_str (pa_cons pe_str (pa_cons pe_str (pa_cons pe_str (pa_cons pe_str pa_nil)))))))) pa_nil))) rfl)
      (pss_cons (ps_dput (u1 hr.units) (pv 3) pe_str (pe_call GOf (hr.mono (by decide)) (by rfl) gOf FOf.kp bOf .nil pass0 (pa_cons (pv 0) (pa_cons (pe_lst (pa_cons pe_str (pa_cons pe_str (pa_cons pe_str (pa_cons pe_str (pa_cons pe_str (pa_cons pe_str (pa_cons pe_str pa_nil)))))))) pa_nil))) rfl)
      (pss_one (ps_ret (pe_op op_add_str (pe_join (pv 2) (pe_lc (own := [("_law_one", 4)]) (g := gName 4) (tt := tYes) rfl scLNd.nd (pi_str (pv 1)) (blkOk_by (own := [("_law_one", 4)]) (N := nLNd) (sc := defScope sLNd) (by decide +kernel)) (fun _ _ _ _ _ => (pg_name (i := 4) scLNd.nd rfl (Or.inl rfl))) (fun _ _ _ _ _ => pts_nil) (fun _ _ _ _ _ => (pe_dget (u1 hr.units) (pv 3) (pv 4) (fun _ _ => rfl))))) (pe_call GOf (hr.mono (by decide)) (by rfl) gOf FOf.kp bOf .nil pass0 (pa_cons (pv 0) (pa_cons (pe_lst (pa_cons pe_str (pa_cons pe_str (pa_cons pe_str (pa_cons pe_str (pa_cons pe_str pa_nil)))))) pa_nil))))))))), ?_⟩
    have pick : ∀ (G : Hp) (m L : Nat) (ys : List V) (D : Addr) (R : VK), HandAt G h m → m < 999999 → G D = none → 0 < ys.length → ys.length ≤ 1000 → Txs L ys →
        (∀ z G', Good L z → HandAt G' h (m + 1) → But h G G' → R (.str z) G') → ∀ X, spPick K [.ref h, .ref D] (upd G D (.lst ys)) R X := by
      intro G m L ys D R hg mb nD l0 l1 tx k X
      refine ⟨h, m, .ref D, ys, rfl, hg.mono (Same.new nD) (Nat.le_refl _), by omega, l0, l1, .inr ⟨D, rfl, (hg.fresh nD).symm, SqL.of upd_same⟩, fun y G2 hy hd2 bt2 => ?_⟩
      obtain ⟨z, rfl, gz⟩ := tx y hy
      exact k z G2 gz hd2 ((But.of (Same.new nD)).trans bt2)
    refine ⟨_, rfl, (show 5 ≤ sizeLine by decide), fun L1 n1 => ?_⟩
    refine pick H n 1 ((["-", ".", "/", "-", "="] : List Str).map V.str) L1 _ hd (by omega) n1 (by decide) (by decide) (txs_of (by decide +kernel)) (fun sg G1 gs hd1 bt1 => ?_) E0
    refine gN ?_
    try dsimp only
    refine fun D nD => ⟨_, rfl, (show 7 ≤ sizeLine by decide), fun L2 n2 => ?_⟩
    have hdD := hd1.mono (Same.new (o := .dK []) nD) (Nat.le_refl _)
    have nDh : D ≠ h := (hd1.fresh nD).symm
    refine pick _ (n + 1) 4 ((["2000", "1900", "0001", "0000", "2023", "99", "2024"] : List Str).map V.str) L2 _ hdD (by omega) n2 (by decide) (by decide) (txs_of (by decide +kernel)) (fun zy G2 gy hd2 bt2 => ?_) E0
    have e2 : G2 D = some (.dK []) := bt2 D _ nDh upd_same
    refine ⟨e2, [(ky "y", V.str zy)], rfl, (show 1 ≤ 15 by decide), ?_⟩
    refine gN ?_
    try dsimp only
    have bH2 : But h H (upd G2 D (.dK [(ky "y", V.str zy)])) := fun b u nb e => by
      have e1 := bt1 b u nb e
      have nb2 := ne_of_none e1 nD
      rw [upd_ne nb2]
      exact bt2 b u nb (by rw [upd_ne nb2]; exact e1)
    have eD2 : upd G2 D (.dK [(ky "y", V.str zy)]) D = some (.dK [(ky "y", V.str zy)]) := upd_same
    have hd2' : HandAt (upd G2 D (.dK [(ky "y", V.str zy)])) h (n + 1 + 1) := hand_upd hd2 nDh
    rw [show mergeK [] [(ky "y", V.str zy)] = [(ky "y", V.str zy)] from rfl]
    generalize upd G2 D (.dK [(ky "y", V.str zy)]) = G3 at bH2 eD2 hd2' ⊢
    refine ⟨_, rfl, (show 7 ≤ sizeLine by decide), fun L3 n3 => ?_⟩
    refine pick G3 (n + 1 + 1) 4 ((["2", "02", "12", "13", "0", "4", "1"] : List Str).map V.str) L3 _ hd2' (by omega) n3 (by decide) (by decide) (txs_of (by decide +kernel)) (fun zm G4 gm hd4 bt4 => ?_) E0
    have e4 := bt4 D _ nDh eD2
    refine ⟨_, rfl, D, _, rfl, DPut.k (k := ky "m") e4 (show 1 < sizeLine by decide), ?_⟩
    try dsimp only
    have nym : ky "m" ∉ [(ky "y", V.str zy)].map Prod.fst := key_m
    rw [putK_new nym]
    have bH4 : But h H (upd G4 D (.dK ([(ky "y", V.str zy)] ++ [(ky "m", V.str zm)]))) := fun b u nb e => by
      have nb2 : b ≠ D := ne_of_none (bt1 b u nb e) nD
      rw [upd_ne nb2]
      exact bt4 b u nb (bH2 b u nb e)
    have eD4 : upd G4 D (.dK ([(ky "y", V.str zy)] ++ [(ky "m", V.str zm)])) D = some (.dK ([(ky "y", V.str zy)] ++ [(ky "m", V.str zm)])) := upd_same
    have hd4' : HandAt (upd G4 D (.dK ([(ky "y", V.str zy)] ++ [(ky "m", V.str zm)]))) h (n + 1 + 1 + 1) := hand_upd hd4 nDh
    generalize upd G4 D (.dK ([(ky "y", V.str zy)] ++ [(ky "m", V.str zm)])) = G5 at bH4 eD4 hd4' ⊢
    refine ⟨_, rfl, (show 7 ≤ sizeLine by decide), fun L5 n5 => ?_⟩
    refine pick G5 (n + 1 + 1 + 1) 4 ((["29", "28", "31", "30", "1", "00", "123"] : List Str).map V.str) L5 _ hd4' (by omega) n5 (by decide) (by decide) (txs_of (by decide +kernel)) (fun zd G6 gd hd6 bt6 => ?_) E0
    have e6 := bt6 D _ nDh eD4
    refine ⟨_, rfl, D, _, rfl, DPut.k (k := ky "d") e6 (show 2 < sizeLine by decide), ?_⟩
    try dsimp only
    have nyd : ky "d" ∉ ([(ky "y", V.str zy)] ++ [(ky "m", V.str zm)]).map Prod.fst := key_d
    rw [putK_new nyd]
    have bH6 : But h H (upd G6 D (.dK [(ky "y", V.str zy), (ky "m", V.str zm), (ky "d", V.str zd)])) := fun b u nb e => by
      have nb2 : b ≠ D := ne_of_none (bt1 b u nb e) nD
      rw [upd_ne nb2]
      exact bt6 b u nb (bH4 b u nb e)
    have eD6 : upd G6 D (.dK [(ky "y", V.str zy), (ky "m", V.str zm), (ky "d", V.str zd)]) D = some (.dK [(ky "y", V.str zy), (ky "m", V.str zm), (ky "d", V.str zd)]) := upd_same
    have hd6' : HandAt (upd G6 D (.dK [(ky "y", V.str zy), (ky "m", V.str zm), (ky "d", V.str zd)])) h (n + 1 + 1 + 1 + 1) := hand_upd hd6 nDh
    rw [show ([(ky "y", V.str zy)] ++ [(ky "m", V.str zm)]) ++ [(ky "d", V.str zd)] = [(ky "y", V.str zy), (ky "m", V.str zm), (ky "d", V.str zd)] from rfl]
    generalize upd G6 D (.dK [(ky "y", V.str zy), (ky "m", V.str zm), (ky "d", V.str zd)]) = G7 at bH6 eD6 hd6' ⊢
    have lo := ord_len io
    have los : o.cps.size = 3 := lo
    have og := ord_get io gy gm gd
    refine ⟨_, rfl, ⟨_, rfl⟩, _, rfl, o, rfl, fun D8 n8 => ?_⟩
    refine lc_new (walk_str (z := o)) (fun j y G => ∃ z, y = V.str z ∧ Good 4 z) (Z := fun j x => ∃ c, o.cps[j]? = some c ∧ x = .str ⟨#[c]⟩) n8 (fun _ _ _ _ e => e) (fun _ _ => trivial) (fun _ _ _ _ _ _ e => e) (by omega) (fun _ => rfl) ?_ ?_
    · rintro j x G Q2 hj ⟨c, hc, rfl⟩ sG kG
      obtain ⟨z, ez, gz⟩ := og j c hc
      exact ⟨_, rfl, _, rfl, D, _, rfl, ez ▸ DGet.k (k := Sum.inr (⟨#[c]⟩ : Str)) (sG _ _ eD6), kG _ _ (Same.refl _) ⟨z, rfl, gz⟩⟩
    · intro G8 ys s8 eD8 ly hys
      obtain ⟨zs, rfl, hz⟩ := strs_of hys
      rw [List.length_map, los] at ly
      have gj := good_joinM gs hz
      rw [ly] at gj
      have hd8 := hd6'.mono s8 (Nat.le_refl _)
      have b8 := bH6.trans (But.of s8)
      have sl : ∀ l : List Str, (∀ z ∈ l, Good 4 z) → (l.map (·.length)).sum ≤ l.length * 4 := by
        intro l
        induction l with
        | nil => intro _; simp
        | cons a l ih =>
          intro hl
          have h1 := (hl a (by simp)).1
          have h2 := ih fun y hy => hl y (by simp [hy])
          simp only [List.map_cons, List.sum_cons, List.length_cons]
          omega
      have q1 := sl zs hz
      have q2 : zs.length * sg.length ≤ 3 * 1 := Nat.mul_le_mul (by omega) gs.1
      refine ⟨sg, D8, zs, rfl, rfl, .inl (SqL.of eD8), by omega, _, rfl, (show 5 ≤ sizeLine by decide), fun L9 n9 => ?_⟩
      refine pick G8 (n + 1 + 1 + 1 + 1) 1 ((["", "", "", "-", "1"] : List Str).map V.str) L9 _ hd8 (by omega) n9 (by decide) (by decide) (txs_of (by decide +kernel)) (fun ze G9 ge hd9 bt9 => ?_) E0
      have l1 := gj.1
      have l2 := ge.1
      exact ⟨_, _, rfl, rfl, by rw [sizeLine_eq]; omega, q _ G9 ((gj.app ge).le (by decide)) hd9 (b8.trans bt9)⟩
abbrev nLNe : List Str := ["_law_hand_here", "_law_form_here", "_law_figures_here", "_law_last"]
theorem scLNe : FnScope nLNe ["_law_hand_here", "_law_form_here"] (defScope sLNe) := ⟨rfl, rfl, rfl, by decide +kernel, rfl, by decide +kernel, by decide +kernel⟩
def spLNe (K : PySem.W.Frag) : Sp := fun vs H Q _ => ∃ (h p : Addr) (n : Nat) (f : Fm), vs = [.ref h, .ref p] ∧ p ≠ h ∧ H p = some (.tup f.vals) ∧ f.ok ∧ HandAt H h n ∧ n < 990000 ∧ ∀ (z : Str) (H' : Hp), Good 30 z → HandAt H' h (n + 5) → But h H H' → Q (.str z) H'
theorem ok_lnear {f fLNd : Addr} {fd dLNd : FuncData} (F : Fun K "_law_near" "_law_near" sLNe f fd) (T : Free mg) (W : Drw K mg fTk fOf dTk dOf) (FLNd : Fun K "_law_near_day" "_law_near_day" sLNd fLNd dLNd) (bLNd : Binds K dLNd ["_law_hand_here", "_law_order"] []) (gLNd : mg "_law_near_day" = some (.ref fLNd)) :
    FnOk P w K mg base CX0 4 f fd ["_law_hand_here", "_law_form_here"] (spLNe K) := by
  have GOf : FnOk P w K mg base CX0 2 fOf dOf ["_law_hand_here", "_law_some"] (spPick K) := ok_of W.Of T W.Tk W.bTk W.gTk
  have GLNd : FnOk P w K mg base CX0 3 fLNd dLNd ["_law_hand_here", "_law_order"] spLNd := ok_lneard FLNd T W
  have FOf := W.Of
  have bOf := W.bOf
  have gOf := W.gOf
  refine F.ok scLNe (fun vs H Q E h => ?_) (fun cdv A outer s H vs Q E hr h => ?_)
  · obtain ⟨h, p, n, f, rfl, _⟩ := h
    rfl
  · obtain ⟨h, p, n, f, rfl, ph, hp, fo, hd, nb, q⟩ := h
    refine ⟨_, pss_cons (ps_if (pt_cmpR op_eq (pe_ix ix_tup (pv 1) pe_int (fun _ _ => rfl)) pe_str (nomark _)) (pss_one (ps_ret (pe_call GLNd (hr.mono (by decide)) (by rfl) gLNd FLNd.kp bLNd .nil pass0 (pa_cons (pv 0) (pa_cons (pe_ix ix_tup (pv 1) pe_int (fun _ _ => rfl)) pa_nil))))) (pss_nil))
      (pss_cons (ps_set (i := 2) scLNe.nd rfl (Or.inl rfl) (pe_call GOf (hr.mono (by decide)) (by rfl) gOf FOf.kp bOf .nil pass0 (pa_cons (pv 0) (pa_cons (pe_lst (pa_cons pe_str (pa_cons pe_str (pa_cons pe_str (pa_cons pe_str (pa_cons pe_str (pa_cons pe_str (pa_cons pe_str (pa_cons pe_str (pa_cons pe_str pa_nil)))))))))) pa_nil))))
      (pss_cons (ps_set (i := 3) scLNe.nd rfl (Or.inl rfl) (pe_call GOf (hr.mono (by decide)) (by rfl) gOf FOf.kp bOf .nil pass0 (pa_cons (pv 0) (pa_cons (pe_lst (pa_cons pe_str (pa_cons pe_str (pa_cons pe_str (pa_cons pe_str (pa_cons pe_str (pa_cons pe_str (pa_cons pe_str (pa_cons pe_str (pa_cons pe_str pa_nil)))))))))) pa_nil))))
      (pss_one (ps_ret (pe_op op_add_str (pe_op op_add_str (pe_call GOf (hr.mono (by decide)) (by rfl) gOf FOf.kp bOf .nil pass0 (pa_cons (pv 0) (pa_cons (pe_lst (pa_cons pe_str (pa_cons pe_str (pa_cons pe_str (pa_cons pe_str (pa_cons pe_str pa_nil)))))) pa_nil))) (pv 2)) (pe_op op_times (pv 3) (pe_callTy call_int1 (by rfl) T.int (by decide +kernel) (pa_cons (pe_cmpR op_eq (pe_ix ix_tup (pv 1) pe_int (fun _ _ => rfl)) pe_str (nomark _)) pa_nil)))))))), ?_⟩
    have pick : ∀ (G : Hp) (m L : Nat) (ys : List V) (D : Addr) (R : VK), HandAt G h m → m < 999999 → G D = none → 0 < ys.length → ys.length ≤ 1000 → Txs L ys →
        (∀ z G', Good L z → HandAt G' h (m + 1) → But h G G' → R (.str z) G') → ∀ X, spPick K [.ref h, .ref D] (upd G D (.lst ys)) R X := by
      intro G m L ys D R hg mb nD l0 l1 tx k X
      refine ⟨h, m, .ref D, ys, rfl, hg.mono (Same.new nD) (Nat.le_refl _), by omega, l0, l1, .inr ⟨D, rfl, (hg.fresh nD).symm, SqL.of upd_same⟩, fun y G2 hy hd2 bt2 => ?_⟩
      obtain ⟨z, rfl, gz⟩ := tx y hy
      exact k z G2 gz hd2 ((But.of (Same.new nD)).trans bt2)
    cases f with
    | whole =>
      refine ⟨_, rfl, p, _, _, V.str "whole", rfl, rfl, SqT.of hp, rfl, ?_⟩
      refine ⟨rfl, _, rfl, ?_⟩
      rw [decide_eq_false (show ¬ V.str "whole" = V.str "day" from by decide +kernel)]
      refine iteF ?_
      unfold tNext
      dsimp only
      refine ⟨_, rfl, (show 9 ≤ sizeLine by decide), fun L1 n1 => ?_⟩
      refine pick H n 10 ((["0", "007", "1", "12345678", "123456789", "1234567890", "", "1a", "99999999"] : List Str).map V.str) L1 _ hd (by omega) n1 (by decide) (by decide) (txs_of (by decide +kernel)) (fun z1 G1 g1 hd1 bt1 => ?_) E0
      refine gN ?_
      try dsimp only
      refine ⟨_, rfl, (show 9 ≤ sizeLine by decide), fun L2 n2 => ?_⟩
      refine pick G1 (n + 1) 6 ((["", "", ".5", ".25", ".1234", ".12345", ".", ".x", ".0"] : List Str).map V.str) L2 _ hd1 (by omega) n2 (by decide) (by decide) (txs_of (by decide +kernel)) (fun z2 G2 g2 hd2 bt2 => ?_) E0
      refine gN ?_
      try dsimp only
      refine ⟨_, rfl, (show 5 ≤ sizeLine by decide), fun L3 n3 => ?_⟩
      refine pick G2 (n + 1 + 1) 2 ((["", "", "+", "-", "--"] : List Str).map V.str) L3 _ hd2 (by omega) n3 (by decide) (by decide) (txs_of (by decide +kernel)) (fun z3 G3 g3 hd3 bt3 => ?_) E0
      have bt := (bt1.trans bt2).trans bt3
      have hp3 : G3 p = some (.tup (Fm.whole).vals) := bt p _ ph hp
      have l1 := g1.1
      have l2 := g2.1
      have l3 := g3.1
      have kb : ∀ b : Bool, -1000 ≤ (if b = true then (1 : Int) else 0) ∧ (if b = true then (1 : Int) else 0) ≤ 1000 ∧ Good 6 (timesS z2 (if b = true then (1 : Int) else 0)) := by
        intro b
        cases b with
        | false => exact ⟨by decide, by decide, by unfold timesS; rw [if_pos (by decide)]; constructor <;> decide +kernel⟩
        | true => exact ⟨by decide, by decide, by unfold timesS; rw [if_neg (by decide), if_pos (by rfl)]; exact g2⟩
      refine ⟨_, rfl, _, _, rfl, rfl, by rw [sizeLine_eq]; omega, _, rfl, _, rfl, p, _, _, V.str "whole", rfl, rfl, SqT.of hp3, rfl, rfl, .inr ⟨_, rfl, _, _, rfl, rfl, (kb _).1, (kb _).2.1, by omega, _, _, rfl, rfl, ?_, ?_⟩⟩
      · have h1 := ((g3.app g1).1)
        have h2 := (kb (decide (V.str "whole" = V.str "amount"))).2.2.1
        rw [sizeLine_eq]
        omega
      · exact q _ G3 (((g3.app g1).app (kb _).2.2).le (by decide)) (hd3.up (by omega)) bt
    | amount m =>
      refine ⟨_, rfl, p, _, _, V.str "amount", rfl, rfl, SqT.of hp, rfl, ?_⟩
      refine ⟨rfl, _, rfl, ?_⟩
      rw [decide_eq_false (show ¬ V.str "amount" = V.str "day" from by decide +kernel)]
      refine iteF ?_
      unfold tNext
      dsimp only
      refine ⟨_, rfl, (show 9 ≤ sizeLine by decide), fun L1 n1 => ?_⟩
      refine pick H n 10 ((["0", "007", "1", "12345678", "123456789", "1234567890", "", "1a", "99999999"] : List Str).map V.str) L1 _ hd (by omega) n1 (by decide) (by decide) (txs_of (by decide +kernel)) (fun z1 G1 g1 hd1 bt1 => ?_) E0
      refine gN ?_
      try dsimp only
      refine ⟨_, rfl, (show 9 ≤ sizeLine by decide), fun L2 n2 => ?_⟩
      refine pick G1 (n + 1) 6 ((["", "", ".5", ".25", ".1234", ".12345", ".", ".x", ".0"] : List Str).map V.str) L2 _ hd1 (by omega) n2 (by decide) (by decide) (txs_of (by decide +kernel)) (fun z2 G2 g2 hd2 bt2 => ?_) E0
      refine gN ?_
      try dsimp only
      refine ⟨_, rfl, (show 5 ≤ sizeLine by decide), fun L3 n3 => ?_⟩
      refine pick G2 (n + 1 + 1) 2 ((["", "", "+", "-", "--"] : List Str).map V.str) L3 _ hd2 (by omega) n3 (by decide) (by decide) (txs_of (by decide +kernel)) (fun z3 G3 g3 hd3 bt3 => ?_) E0
      have bt := (bt1.trans bt2).trans bt3
      have hp3 : G3 p = some (.tup (Fm.amount m).vals) := bt p _ ph hp
      have l1 := g1.1
      have l2 := g2.1
      have l3 := g3.1
      have kb : ∀ b : Bool, -1000 ≤ (if b = true then (1 : Int) else 0) ∧ (if b = true then (1 : Int) else 0) ≤ 1000 ∧ Good 6 (timesS z2 (if b = true then (1 : Int) else 0)) := by
        intro b
        cases b with
        | false => exact ⟨by decide, by decide, by unfold timesS; rw [if_pos (by decide)]; constructor <;> decide +kernel⟩
        | true => exact ⟨by decide, by decide, by unfold timesS; rw [if_neg (by decide), if_pos (by rfl)]; exact g2⟩
      refine ⟨_, rfl, _, _, rfl, rfl, by rw [sizeLine_eq]; omega, _, rfl, _, rfl, p, _, _, V.str "amount", rfl, rfl, SqT.of hp3, rfl, rfl, .inr ⟨_, rfl, _, _, rfl, rfl, (kb _).1, (kb _).2.1, by omega, _, _, rfl, rfl, ?_, ?_⟩⟩
      · have h1 := ((g3.app g1).1)
        have h2 := (kb (decide (V.str "amount" = V.str "amount"))).2.2.1
        rw [sizeLine_eq]
        omega
      · exact q _ G3 (((g3.app g1).app (kb _).2.2).le (by decide)) (hd3.up (by omega)) bt
    | day o =>
      refine ⟨_, rfl, p, _, _, _, rfl, rfl, SqT.of hp, rfl, ?_⟩
      refine ⟨rfl, _, rfl, ?_⟩
      rw [decide_eq_true rfl]
      exact iteT ⟨_, rfl, _, rfl, p, _, _, _, rfl, rfl, SqT.of hp, rfl, h, n, o, rfl, hd, nb, fo, q⟩
end
end K21
set_option Elab.async false
set_option linter.all false
set_option maxRecDepth 100000
set_option maxHeartbeats 4000000
/-! k21: sorted texts are one list -/
namespace K21
open PySem PySem.Spec PyProof.Rows L2 Bs Xg TL
theorem rising_pair : ∀ (l : List Str) (p : Str), risingS p l = true → (p :: l).Pairwise fun a b => ¬ b.cps.toList < a.cps.toList
  | [], p, _ => by simp
  | x :: r, p, h => by
    unfold risingS at h
    obtain ⟨h1, h2⟩ := Bool.and_eq_true_iff.mp h
    have ih := rising_pair r x h2
    have hx : ¬ x.cps.toList < p.cps.toList := by
      rw [ltCps_eq] at h1
      simpa using h1
    refine List.pairwise_cons.mpr ⟨fun b hb => ?_, ih⟩
    rcases List.mem_cons.mp hb with rfl | hb
    · exact hx
    · have h3 := (List.pairwise_cons.mp ih).1 b hb
      exact List.not_lt.mpr (List.le_trans (List.not_lt.mp hx) (List.not_lt.mp h3))
theorem sorted_pair {l : List Str} (h : sortedS l = true) : l.Pairwise fun a b => ¬ b.cps.toList < a.cps.toList := by
  cases l with
  | nil => simp
  | cons x r => exact rising_pair r x h
theorem sorted_uniq {l m : List Str} (p : l.Perm m) (hl : sortedS l = true) (hm : sortedS m = true) : l = m :=
  List.Perm.eq_of_pairwise (le := fun a b : Str => ¬ b.cps.toList < a.cps.toList) (fun a b _ _ h1 h2 => ext_tl (List.le_antisymm (List.not_lt.mp h1) (List.not_lt.mp h2))) (sorted_pair hl) (sorted_pair hm) p
end K21
set_option Elab.async false
set_option linter.all false
set_option maxRecDepth 100000
set_option maxHeartbeats 4000000
/-! k21: what is told held against what is due -/
namespace K21
open PySem PySem.Spec PyProof.Rows L2 Bs Xg TL Xk Xl K02
abbrev sLTr : Stmt := top 43
def cellD : V → PyData
  | .int i => .int i
  | .str z => .str z
  | _ => .none
/-- a worth that is shown in a short text -/
def CellOk (v : V) : Prop := (v = .non ∨ (∃ i, v = .int i) ∨ ∃ z, v = .str z) ∧ (cellD v).showable = true ∧ (cellD v).shown.length ≤ 2000 ∧ PyData.strOk (cellD v).shown = true
section
variable {X : Cx}
theorem ix_tupK {K : PySem.W.Frag} (hK : X.K = K) : IxR X (rIxT K) := hK ▸ ix_tup
end
theorem stay {kvs : List (Key × V)} {D : Addr} (cs : List Str) : ∀ (j : Nat) (y : V) (G G' : Hp), (∀ b o, b ≠ D → G b = some o → G' b = some o) → (∃ l, G D = some (.lst l)) → (∃ (t : Addr) (c : Str), y = .ref t ∧ cs[j]? = some c ∧ G t = some (.tup [.str c, .str (cellD ((valV kvs (tk c)).getD .non)).shown])) →
    ∃ (t : Addr) (c : Str), y = .ref t ∧ cs[j]? = some c ∧ G' t = some (.tup [.str c, .str (cellD ((valV kvs (tk c)).getD .non)).shown]) := by
  rintro j y G G' kp ⟨l, hl⟩ ⟨t, c, e, hc, ht⟩
  refine ⟨t, c, e, hc, kp _ _ (fun q => ?_) ht⟩
  rw [q, hl] at ht
  cases ht
/-- what a sorted row of shown worths is -/
def rowD (kvs : List (Key × V)) (c : Str) : PyData := .tuple [.str c, .str (cellD ((valV kvs (tk c)).getD .non)).shown]
theorem rows_dp {K : PySem.W.Frag} {H : Hp} {kvs : List (Key × V)} : ∀ {ys : List V} {cs : List Str}, ys.length = cs.length → (∀ (j : Nat) (y : V), ys[j]? = some y → ∃ (t : Addr) (c : Str), y = .ref t ∧ cs[j]? = some c ∧ H t = some (.tup [.str c, .str (cellD ((valV kvs (tk c)).getD .non)).shown])) → DpAll K H ys (cs.map (rowD kvs))
  | [], [], _, _ => .nil
  | [], _ :: _, h, _ => by simp at h
  | _ :: _, [], h, _ => by simp at h
  | y :: ys, c :: cs, l, h => by
    obtain ⟨t, c', rfl, hc, ht⟩ := h 0 y rfl
    cases (Option.some.inj hc)
    exact .cons (.tup (SqT.of ht) (.cons (.str _) (.cons (.str _) .nil))) (rows_dp (by simpa using l) fun j y hy => h (j + 1) y (by simpa using hy))
theorem rows_lay {kvs : List (Key × V)} : ∀ {cs : List Str}, (∀ c ∈ cs, PyData.strOk c = true ∧ PyData.strOk (cellD ((valV kvs (tk c)).getD .non)).shown = true) → PyData.canLayAll0 (cs.map (rowD kvs)) = true ∧ PyData.depthAll (cs.map (rowD kvs)) ≤ 3
  | [], _ => ⟨rfl, by simp [PyData.depthAll]⟩
  | c :: cs, h => by
    have q := rows_lay (cs := cs) fun x hx => h x (List.mem_cons_of_mem _ hx)
    have h0 := h c List.mem_cons_self
    have q0 : (rowD kvs c).canLay0 = true ∧ (rowD kvs c).depth ≤ 3 := by
      unfold rowD
      exact ⟨by simp [PyData.canLay0, PyData.canLayAll0, h0.1, h0.2], by simp [PyData.depth, PyData.depthAll]⟩
    simp only [List.map_cons, PyData.canLayAll0, PyData.depthAll]
    exact ⟨by rw [q0.1, q.1]; rfl, Nat.max_le.mpr ⟨q0.2, q.2⟩⟩
theorem rows_shaped {kvs : List (Key × V)} {cs : List Str} (h : ∀ c ∈ cs, PyData.strOk c = true ∧ PyData.strOk (cellD ((valV kvs (tk c)).getD .non)).shown = true) : SeqAt.shaped (.list (cs.map (rowD kvs))) = true ∧ PyData.eqv (.list (cs.map (rowD kvs))) (.list (cs.map (rowD kvs))) = true := by
  have q := rows_lay h
  have e1 : (PyData.list (cs.map (rowD kvs))).canLay0 = PyData.canLayAll0 (cs.map (rowD kvs)) := by simp only [PyData.canLay0]
  have e2 : (PyData.list (cs.map (rowD kvs))).depth = PyData.depthAll (cs.map (rowD kvs)) + 1 := by simp only [PyData.depth]
  refine ⟨?_, SeqAt.eqv_refl _ (by rw [e1]; exact q.1)⟩
  unfold SeqAt.shaped
  rw [e1, e2, q.1, Bool.true_and]
  exact decide_eq_true (by omega)
theorem dq_cell {K : PySem.W.Frag} {H : Hp} {v : V} (h : CellOk v) : Dq K H v (cellD v) ∧ (cellD v).depth < 60 := by
  rcases h.1 with rfl | ⟨i, rfl⟩ | ⟨z, rfl⟩
  · exact ⟨.non, by simp [cellD, PyData.depth]⟩
  · exact ⟨.int i, by simp [cellD, PyData.depth]⟩
  · exact ⟨.str z, by simp [cellD, PyData.depth]⟩
theorem val_of {kvs : List (Key × V)} {c : Str} (h : tk c ∈ kvs.map (·.1)) : ∃ v, valV kvs (tk c) = some v ∧ (tk c, v) ∈ kvs := by
  induction kvs with
  | nil => simp at h
  | cons kv r ih =>
    by_cases e : kv.1 = tk c
    · exact ⟨kv.2, valV_pos e, by rw [← e]; exact List.mem_cons_self⟩
    · rw [List.map_cons, List.mem_cons] at h
      obtain ⟨v, h1, h2⟩ := ih (h.resolve_left fun q => e q.symm)
      exact ⟨v, (valV_neg e).trans h1, List.mem_cons_of_mem _ h2⟩
section
variable {P : Program} {w : World} {K : PySem.W.Frag} {mg : Str → Option Value} {base : Heap}
abbrev nTr : List Str := ["_law_told", "_law_due", "_law_some", "_law_column"]
theorem scTr : FnScope nTr ["_law_told", "_law_due"] (defScope sLTr) := ⟨rfl, rfl, rfl, by decide +kernel, rfl, by decide +kernel, by decide +kernel⟩
def spTr : Sp := fun vs H Q _ => ∃ (p q : Addr) (kvs : List (Key × V)) (b : Bool) (ks : List Str), vs = [.ref p, .ref q] ∧ Res H p (kvs, b) ∧ Res H q (kvs, b) ∧ kvs.map (·.1) = ks.map Sum.inr ∧ ks.length ≤ 10 ∧ (∀ kv ∈ kvs, CellOk kv.2 ∧ PyData.strOk (match kv.1 with | .inr x => x | _ => Str.empty) = true) ∧ ∀ H', Same H H' → Q (.bl true) H'
theorem ok_told {f : Addr} {fd : FuncData} (F : Fun K "_law_told_right" "_law_told_right" sLTr f fd) (T : Free mg) (sm : ∃ mm, base.Ns sysModules mm) : FG P w K mg base 1 f fd ["_law_told", "_law_due"] spTr := by
  refine okG F scTr (fun vs H Q E h => ?_) (fun cdv A outer s H vs Q E ng hr h => ?_)
  · obtain ⟨p, q, kvs, b, ks, rfl, _⟩ := h
    rfl
  · obtain ⟨p, q, kvs, b, ks, rfl, ⟨d1, e1, t1⟩, ⟨d2, e2, t2⟩, hk, few, ok, k⟩ := h
    refine ⟨_, pss_cons (ps_if (PW.pt (pw_or (pt_not (pt_val (pe_callB call_isi (by rfl) T.isinstance (by decide +kernel) (pa_cons (pv 0) (pa_cons (pe_bltn rfl T.tuple (v := V.ty "tuple") (by decide +kernel) rfl) pa_nil))))) (pw_or (pt_cmpR op_ne (pe_callB call_len_seq (by rfl) T.len PySem.boot_len (pa_cons (pv 0) pa_nil)) pe_int (nomark _)) (pw_or (pt_not (pt_val (pe_callB call_isi (by rfl) T.isinstance (by decide +kernel) (pa_cons (pe_ix ix_tup (pv 0) pe_int (fun _ _ => rfl)) (pa_cons (pe_bltn rfl T.dict (v := V.ty "dict") (by decide +kernel) rfl) pa_nil))))) (pw_or1 (pt_not (pt_val (pe_callB call_isi (by rfl) T.isinstance (by decide +kernel) (pa_cons (pe_ix ix_tup (pv 0) pe_int (fun _ _ => rfl)) (pa_cons (pe_bltn rfl T.bool (v := V.ty "bool") (by decide +kernel) rfl) pa_nil)))))))))) (pss_one (ps_ret pe_bl)) (pss_nil))
      (pss_cons (ps_setLc (i := 2) (own := [("_law_column", 3)]) (g := gName 3) (tt := tYes) rfl scTr.nd rfl rfl (sw_true rfl rfl rfl rfl) (pi_list (pe_callB (call_sortedD rfl) (by rfl) T.sorted (by decide +kernel) (pa_cons (pe_ix (ix_tupK (K := K) rfl) (pv 0) pe_int (fun _ _ => rfl)) pa_nil))) (blkOk_by (own := [("_law_column", 3)]) (N := nTr) (sc := defScope sLTr) (by decide +kernel)) (fun _ _ _ _ _ => (pg_name (i := 3) scTr.nd rfl (Or.inl rfl))) (fun _ _ _ _ _ => pts_nil) (fun _ _ _ _ _ => (pe_tup (pa_cons (pv 3) (pa_cons (pe_callB (call_reprK (K := K) rfl ng hr.units sm) (by rfl) T.repr (by decide +kernel) (pa_cons (pe_dget (u1 hr.units) (pe_ix (ix_tupK (K := K) rfl) (pv 0) pe_int (fun _ _ => rfl)) (pv 3) (fun _ _ => rfl)) pa_nil)) pa_nil)))))
      (pss_one (ps_ret (pe_and (pe_cmpR (op_eqD hr.units) (pv 2) (pe_lc (own := [("_law_column", 3)]) (g := gName 3) (tt := tYes) rfl scTr.nd (pi_list (pe_callB (call_sortedD rfl) (by rfl) T.sorted (by decide +kernel) (pa_cons (pe_ix (ix_tupK (K := K) rfl) (pv 1) pe_int (fun _ _ => rfl)) pa_nil))) (blkOk_by (own := [("_law_column", 3)]) (N := nTr) (sc := defScope sLTr) (by decide +kernel)) (fun _ _ _ _ _ => (pg_name (i := 3) scTr.nd rfl (Or.inl rfl))) (fun _ _ _ _ _ => pts_nil) (fun _ _ _ _ _ => (pe_tup (pa_cons (pv 3) (pa_cons (pe_callB (call_reprK (K := K) rfl ng hr.units sm) (by rfl) T.repr (by decide +kernel) (pa_cons (pe_dget (u1 hr.units) (pe_ix (ix_tupK (K := K) rfl) (pv 1) pe_int (fun _ _ => rfl)) (pv 3) (fun _ _ => rfl)) pa_nil)) pa_nil))))) (nomark _)) (pe_one (pe_cmpR op_eq (pe_ix ix_tup (pv 0) pe_int (fun _ _ => rfl)) (pe_ix ix_tup (pv 1) pe_int (fun _ _ => rfl)) (nomark _))))))), ?_⟩
    have isT : ∀ (n : String) (t : String), kitB t n = some true → PySem.W.kitOne K (.type t) (.type n) = some true := fun n t h => kit_ty h
    refine ⟨_, rfl, .ref p, .ty "tuple", _, _, true, rfl, .ty "tuple", .base (.tup t1), kit_ty (by decide +kernel), _, rfl, iteF ?_⟩
    refine ⟨_, rfl, p, _, rfl, .inr (SqT.of t1), ?_⟩
    refine ⟨rfl, _, rfl, ?_⟩
    rw [show (!decide (V.int ((([V.ref d1, V.bl b] : List V).length : Nat) : Int) = V.int 2)) = false from by rw [decide_eq_true (show V.int ((([V.ref d1, V.bl b] : List V).length : Nat) : Int) = V.int 2 from rfl)]; rfl]
    refine iteF ⟨_, rfl, p, _, _, _, rfl, rfl, SqT.of t1, rfl, .ref d1, .ty "dict", _, _, true, rfl, .ty "dict", .base (.dK e1), kit_ty (by decide +kernel), _, rfl, iteF ?_⟩
    refine ⟨_, rfl, p, _, _, _, rfl, rfl, SqT.of t1, rfl, .bl b, .ty "bool", _, _, true, rfl, .ty "bool", .base (.bl b), kit_ty (by decide +kernel), _, rfl, iteF ?_⟩
    unfold tNext
    dsimp only
    have mem : ∀ {ys : List Str}, ys.Perm ks → ∀ c ∈ ys, ∃ v, valV kvs (tk c) = some v ∧ CellOk v ∧ PyData.strOk c = true := by
      intro ys pm c hc
      have hm : tk c ∈ kvs.map (·.1) := by rw [hk]; exact List.mem_map.mpr ⟨c, pm.mem_iff.mp hc, rfl⟩
      obtain ⟨v, h1, h2⟩ := val_of hm
      have := ok _ h2
      exact ⟨v, h1, this.1, this.2⟩
    refine ⟨_, rfl, p, _, _, _, rfl, rfl, SqT.of t1, rfl, d1, kvs, ks, rfl, .inl e1, hk, by omega, fun ys1 L1 pm1 so1 n1 => ⟨L1, rfl, ⟨_, SqL.of upd_same⟩, fun D nD => ?_⟩⟩
    have sA : Same H (upd H L1 (.lst (ys1.map V.str))) := Same.new n1
    refine lc_new (walk_list (K := K) (a := L1) (xs := ys1.map V.str)) (Z := fun j x => (ys1.map V.str)[j]? = some x) (fun j y G => ∃ (t : Addr) (c : Str), y = .ref t ∧ ys1[j]? = some c ∧ G t = some (.tup [.str c, .str (cellD ((valV kvs (tk c)).getD .non)).shown])) nD yat (fun G s => sameL s (SqL.of upd_same)) (stay _) (by rw [List.length_map, pm1.length_eq]; omega) (fun _ => rfl) ?_ ?_
    · rintro j x G Q2 hj hx sG kG
      obtain ⟨c, hc, rfl⟩ := List.getElem?_map_eq_some hx
      obtain ⟨v, hv, cok, _⟩ := mem pm1 c (List.mem_of_getElem? hc)
      have sH := sA.trans sG
      have ev : (valV kvs (tk c)).getD .non = v := by rw [hv]; rfl
      have dg : DGet G d1 (.str c) (some v) := hv ▸ DGet.k (k := tk c) (sH _ _ e1)
      have dq := dq_cell (K := K) (H := G) cok
      refine ⟨_, rfl, _, rfl, p, _, _, _, rfl, rfl, SqT.of (sH _ _ t1), rfl, _, rfl, d1, v, rfl, dg, v, cellD v, rfl, dq.1, cok.2.1, dq.2, Nat.le_trans cok.2.2.1 (by decide), (show 2 ≤ sizeLine by decide), fun t ht => kG _ _ (Same.new ht) ⟨t, c, rfl, hc, by rw [upd_same, ev]⟩⟩
    · intro G1 yy s1 eD ly hw
      have sH := sA.trans s1
      refine gN ?_
      try dsimp only
      refine ⟨_, rfl, _, rfl, q, _, _, _, rfl, rfl, SqT.of (sH _ _ t2), rfl, d2, kvs, ks, rfl, .inl (sH _ _ e2), hk, by omega, fun ys2 L2 pm2 so2 n2 => ⟨L2, rfl, ⟨_, SqL.of upd_same⟩, fun D2 nD2 => ?_⟩⟩
      have eq12 : ys2 = ys1 := sorted_uniq (pm2.trans pm1.symm) so2 so1
      subst eq12
      have sB : Same G1 (upd G1 L2 (.lst (ys2.map V.str))) := Same.new n2
      refine lc_new (walk_list (K := K) (a := L2) (xs := ys2.map V.str)) (Z := fun j x => (ys2.map V.str)[j]? = some x) (fun j y G => ∃ (t : Addr) (c : Str), y = .ref t ∧ ys2[j]? = some c ∧ G t = some (.tup [.str c, .str (cellD ((valV kvs (tk c)).getD .non)).shown])) nD2 yat (fun G s => sameL s (SqL.of upd_same)) (stay _) (by rw [List.length_map, pm1.length_eq]; omega) (fun _ => rfl) ?_ ?_
      · rintro j x G Q2 hj hx sG kG
        obtain ⟨c, hc, rfl⟩ := List.getElem?_map_eq_some hx
        obtain ⟨v, hv, cok, _⟩ := mem pm1 c (List.mem_of_getElem? hc)
        have sH := (sH.trans sB).trans sG
        have ev : (valV kvs (tk c)).getD .non = v := by rw [hv]; rfl
        have dg : DGet G d2 (.str c) (some v) := hv ▸ DGet.k (k := tk c) (sH _ _ e2)
        have dq := dq_cell (K := K) (H := G) cok
        refine ⟨_, rfl, _, rfl, q, _, _, _, rfl, rfl, SqT.of (sH _ _ t2), rfl, _, rfl, d2, v, rfl, dg, v, cellD v, rfl, dq.1, cok.2.1, dq.2, Nat.le_trans cok.2.2.1 (by decide), (show 2 ≤ sizeLine by decide), fun t ht => kG _ _ (Same.new ht) ⟨t, c, rfl, hc, by rw [upd_same, ev]⟩⟩
      · intro G2 zz s2 eD2 lz hz
        rw [List.length_map] at ly lz
        have s12 := sB.trans s2
        have okr := rows_shaped (kvs := kvs) (cs := ys2) fun c hc => by
          obtain ⟨v, hv, cok, sk⟩ := mem pm1 c hc
          rw [hv]
          exact ⟨sk, cok.2.2.2⟩
        refine ⟨.list (ys2.map (rowD kvs)), .list (ys2.map (rowD kvs)), .lst (SqL.of (s12 _ _ eD)) (rows_dp ly fun j y hy => ?_), .lst (SqL.of eD2) (rows_dp lz hz), okr.1, okr.1, _, rfl, ?_⟩
        · obtain ⟨t, c, e, hc, ht⟩ := hw j y hy
          exact ⟨t, c, e, hc, s12 _ _ ht⟩
        · rw [okr.2]
          refine iteT ⟨_, rfl, p, _, _, _, rfl, rfl, SqT.of (s12 _ _ (sH _ _ t1)), rfl, _, rfl, q, _, _, _, rfl, rfl, SqT.of (s12 _ _ (sH _ _ t2)), rfl, rfl, ?_⟩
          rw [decide_eq_true rfl]
          exact k _ (sH.trans s12)
end
end K21
set_option Elab.async false
set_option linter.all false
set_option maxRecDepth 100000
set_option maxHeartbeats 4000000
/-! k21: what deeds tell is fit to be held against -/
namespace K21
open PySem PySem.Spec PyProof.Rows L2 Bs Xg TL Xk Xl K02
abbrev rC := Builtin.Str.reprChar
theorem rc_small : ∀ q, q = 34 ∨ q = 39 → ∀ c, c < 127 → 32 ≤ c → (rC q c).length ≤ 2 ∧ ∀ d ∈ rC q c, 32 ≤ d ∧ d < 127 := by
  rintro q (rfl | rfl) <;> decide +kernel
theorem fold_repr (q : Nat) : ∀ (l : List Nat) (acc : Array Nat), (l.foldl (fun out c => out ++ (rC q c).toArray) acc).toList = acc.toList ++ l.flatMap (rC q)
  | [], acc => by simp
  | c :: l, acc => by
    rw [List.foldl_cons, fold_repr q l]
    simp
theorem tl_repr (z : Str) : tl (reprText z) = reprQuote z :: (tl z).flatMap (rC (reprQuote z)) ++ [reprQuote z] := by
  show (reprText z).cps.toList = _
  unfold reprText
  show (Array.push _ _).toList = _
  rw [Array.toList_push, ← Array.foldl_toList, fold_repr]
  rfl
theorem quote_two (z : Str) : reprQuote z = 34 ∨ reprQuote z = 39 := by
  unfold reprQuote
  split
  · exact .inl rfl
  · exact .inr rfl
theorem good_repr {L : Nat} {z : Str} (h : Good L z) : Good (2 * L + 2) (reprText z) := by
  have hq := quote_two z
  have e := tl_repr z
  generalize reprQuote z = q at hq e
  have fm : ∀ l : List Nat, (∀ c ∈ l, 32 ≤ c ∧ c < 127) → (l.flatMap (rC q)).length ≤ 2 * l.length ∧ ∀ d ∈ l.flatMap (rC q), 32 ≤ d ∧ d < 127 := by
    intro l
    induction l with
    | nil => intro _; simp
    | cons c l ih =>
      intro hl
      have h0 := hl c (by simp)
      have r := rc_small q hq c h0.2 h0.1
      have i := ih fun d hd => hl d (by simp [hd])
      rw [List.flatMap_cons]
      refine ⟨by rw [List.length_append, List.length_cons]; omega, fun d hd => ?_⟩
      rcases List.mem_append.mp hd with hd | hd
      · exact r.2 d hd
      · exact i.2 d hd
  have f := fm (tl z) h.2
  have lz : (tl z).length ≤ L := by rw [← len_tl]; exact h.1
  refine ⟨?_, fun c hc => ?_⟩
  · rw [len_tl, e]
    simp only [List.length_append, List.length_cons, List.length_nil]
    omega
  · have hc' : c ∈ tl (reprText z) := hc
    rw [e] at hc'
    rcases List.mem_append.mp hc' with hc' | hc'
    · rcases List.mem_cons.mp hc' with rfl | hc'
      · omega
      · exact f.2 c hc'
    · rw [List.mem_singleton.mp hc']
      omega
theorem cell_str {z : Str} (h : Good 900 z) : CellOk (.str z) := by
  have g := good_repr h
  refine ⟨.inr (.inr ⟨z, rfl⟩), by simp [cellD, PyData.showable], ?_, ?_⟩
  · show (PyData.str z).shown.length ≤ 2000
    rw [PyData.shown_str]
    exact Nat.le_trans g.1 (by decide)
  · show PyData.strOk (PyData.str z).shown = true
    rw [PyData.shown_str]
    exact g.ok
theorem cell_non : CellOk .non := by
  refine ⟨.inl rfl, rfl, ?_, ?_⟩
  · show (PyData.none).shown.length ≤ 2000
    rw [PyData.shown_none]
    decide +kernel
  · show PyData.strOk (PyData.none).shown = true
    rw [PyData.shown_none]
    decide +kernel
theorem cell_os {x : Option Str} (h : ∀ z, x = some z → Good 900 z) : CellOk (os x) := by
  cases x with
  | none => exact cell_non
  | some z => exact cell_str (h z rfl)
end K21
set_option Elab.async false
set_option linter.all false
set_option maxRecDepth 100000
set_option maxHeartbeats 4000000
/-! k21: what deeds tell is fit to be held against, by the deed -/
namespace K21
open PySem PySem.Spec PyProof.Rows L2 Bs Xg TL Xk Xl K02
theorem cell_int {i : Int} (h : i.natAbs < 10 ^ 12) : CellOk (.int i) := by
  refine ⟨.inr (.inl ⟨i, rfl⟩), ?_, ?_, ?_⟩
  · show PyData.showable (.int i) = true
    simp only [PyData.showable, decide_eq_true_eq]
    have : i.natAbs.log2 < 1920 := by
      by_cases z : i.natAbs = 0
      · rw [z]
        decide
      · exact (Nat.log2_lt z).mpr (Nat.lt_of_lt_of_le h (by decide +kernel))
    exact this
  · show (PyData.int i).shown.length ≤ 2000
    exact Nat.le_trans (PyData.shown_int_le h) (by decide)
  · show PyData.strOk (PyData.int i).shown = true
    unfold PyData.strOk
    rw [← Array.all_toList, List.all_eq_true]
    intro c hc
    have : ¬ (c ≠ 45 ∧ (c < 48 ∨ 57 < c)) := fun q => shown_int_free' q i hc
    have : c < 127 := by omega
    simp
    omega
theorem sum_small : ∀ b : Bool, ∀ m : Nat, m < 13 → ((List.range (m - 1)).map fun j => dinB b (1 + j)).sum ≤ 400 ∧ 0 ≤ ((List.range (m - 1)).map fun j => dinB b (1 + j)).sum ∧ dinB b m ≤ 40 := by decide +kernel
theorem num_small {y m d : Nat} {i : Int} (hy : y ≤ 9999) (h : numI y m d = some i) : i.natAbs < 10 ^ 12 := by
  unfold numI at h
  split at h
  · rename_i c
    have s := sum_small (leapB y) m (by omega)
    rw [← sum_B] at s
    rw [← din_B] at s
    have a : 0 ≤ aheadI y ∧ aheadI y ≤ 5000000 := by
      unfold aheadI
      omega
    cases h
    omega
  · cases h
theorem day_small {Y M D : List Nat} {i : Int} (h : dayP Y M D = some i) : i.natAbs < 10 ^ 12 := by
  unfold dayP at h
  split at h
  · rename_i c
    have v := val_lt (figs_iff.mp c.2.1).2
    rw [c.1] at v
    exact num_small (by omega) h
  · cases h
theorem read_small {f : Fm} {z : Str} {i : Int} (hf : f.ok) (h : readP f z = some i) : i.natAbs < 10 ^ 12 := by
  cases f with
  | whole =>
    have q := due_small (show due 0 (tl z) = some i from h)
    exact Nat.lt_of_lt_of_le q (by decide)
  | amount m =>
    obtain ⟨m1, m4⟩ := hf
    have q := due_small (show due m (tl z) = some i from h)
    have cm : cap m = 8 := if_neg (by omega)
    rw [cm] at q
    exact Nat.lt_of_lt_of_le q (Nat.pow_le_pow_right (by decide) (by omega))
  | day o =>
    obtain ⟨s, _, _, q⟩ := dayS_ne (show dayS o z btw = some i from h)
    exact day_small q
theorem good_S {L : Nat} {l : List Nat} (h : l.length ≤ L) (g : ∀ c ∈ l, 32 ≤ c ∧ c < 127) : Good L (S l) := ⟨by rw [S_len]; exact h, g⟩
theorem good_part {L : Nat} {z : Str} {s : Nat} (hs : s < 256) (h : Good L z) : ∀ p ∈ Txt.split z ⟨#[s]⟩, Good L p := by
  intro p hp
  rw [split_cut z hs] at hp
  obtain ⟨l, hl, rfl⟩ := List.mem_map.mp hp
  obtain ⟨h1, _, h3⟩ := cutAt_mem s _ l hl
  exact good_S (Nat.le_trans h1 (by rw [← len_tl]; exact h.1)) fun c hc => h.2 c (h3 c hc)
theorem good_cw {L : Nat} {z y : Str} (h : Good L z) (e : cw z = some y) : Good L y := by
  unfold cw at e
  split at e
  · cases e
  · cases e
    exact h.strip
def Deed.fit (row : List (Key × V)) : Deed → Prop
  | .cut col s _ news => (∀ z, txt (rowV row col) = some z → Good 60 z) ∧ s < 256 ∧ (∀ x ∈ news, PyData.strOk x = true) ∧ news.length ≤ 4
  | .glue _ cols sep new => (∀ c ∈ cols, ∀ z, txt (rowV row c) = some z → Good 60 z) ∧ Good 1 sep ∧ PyData.strOk new = true ∧ cols.length ≤ 4
  | .spell col _ ps => (∀ z, txt (rowV row col) = some z → Good 60 z) ∧ (∀ pr ∈ ps, ∀ z, pr.2 = some z → Good 60 z) ∧ PyData.strOk col = true
  | .read _ _ f new => f.ok ∧ PyData.strOk new = true
  | .put col v => CellOk v ∧ CellOk (rowV row col) ∧ PyData.strOk col = true
  | .met _ _ => True
def Keyed (kvs : List (Key × V)) : Prop := (∃ ks : List Str, kvs.map (·.1) = ks.map Sum.inr ∧ ks.length ≤ 10) ∧ ∀ kv ∈ kvs, CellOk kv.2 ∧ PyData.strOk (match kv.1 with | .inr x => x | _ => Str.empty) = true
theorem keyed_one {x : Str} {v : V} (h : CellOk v) (g : PyData.strOk x = true) : Keyed [(tk x, v)] :=
  ⟨⟨[x], rfl, (show 1 ≤ 10 by decide)⟩, fun kv hkv => by rw [List.mem_singleton.mp hkv]; exact ⟨h, g⟩⟩
theorem keyed_zip {xs : List Str} {vs : List V} (l : xs.length = vs.length) (few : xs.length ≤ 10) (hx : ∀ x ∈ xs, PyData.strOk x = true) (hv : ∀ v ∈ vs, CellOk v) : Keyed ((xs.map tk).zip vs) := by
  refine ⟨⟨xs, ?_, few⟩, fun kv hkv => ?_⟩
  · rw [List.map_fst_zip (by rw [List.length_map]; omega)]
    rfl
  · obtain ⟨h1, h2⟩ := List.of_mem_zip (a := kv.1) (b := kv.2) hkv
    obtain ⟨x, hx1, e⟩ := List.mem_map.mp h1
    exact ⟨hv _ h2, by rw [← e]; exact hx x hx1⟩
theorem ov_ok {o : Option Int} (h : ∀ i, o = some i → i.natAbs < 10 ^ 12) : CellOk (ov o) := by
  cases o with
  | none => exact cell_non
  | some i => exact cell_int (h i rfl)
theorem spellP_good {x : Option Str} : ∀ {ps : List (Str × Option Str)}, (∀ z, x = some z → Good 60 z) → (∀ pr ∈ ps, ∀ z, pr.2 = some z → Good 60 z) → ∀ z, spellP x ps = some z → Good 60 z
  | [], hx, _, z, e => hx z e
  | pr :: r, hx, hp, z, e => by
    unfold spellP at e
    split at e
    · exact hp pr List.mem_cons_self z e
    · exact spellP_good hx (fun q hq => hp q (List.mem_cons_of_mem _ hq)) z e
theorem doneP_fit {row : List (Key × V)} {dd : Deed} (h : dd.fit row) : Keyed (doneP row dd).1 := by
  cases dd with
  | cut col s nw news =>
    obtain ⟨g, sl, hn, few⟩ := h
    have nones : ∀ b : Bool, Keyed ((news.map fun y => (tk y, V.non)), b).1 := fun b => by
      have e : ∀ l : List Str, (l.map fun y => (tk y, V.non)) = (l.map tk).zip (l.map fun _ => V.non) := by
        intro l
        induction l with
        | nil => rfl
        | cons x l ih => simp only [List.map_cons, List.zip_cons_cons, ih]
      show Keyed (news.map fun y => (tk y, V.non))
      rw [e]
      exact keyed_zip (by simp) (by omega) hn fun v hv => by
        obtain ⟨_, _, rfl⟩ := List.mem_map.mp hv
        exact cell_non
    show Keyed (cutP news ⟨#[s]⟩ (txt (rowV row col))).1
    generalize txt (rowV row col) = x at g
    cases x with
    | none => exact nones false
    | some z =>
      unfold cutP
      by_cases c : (Txt.split z ⟨#[s]⟩).length = news.length
      · simp only [if_pos c]
        refine keyed_zip (by rw [List.length_map]; omega) (by omega) hn fun v hv => ?_
        obtain ⟨y, hy, rfl⟩ := List.mem_map.mp hv
        exact cell_os fun z' e => (good_cw (good_part sl (g z rfl) y hy) e).le (by decide)
      · simp only [if_neg c]
        exact nones true
  | glue cs cols sep new =>
    obtain ⟨g, gs, hn, few⟩ := h
    refine keyed_one (cell_os fun z e => ?_) hn
    unfold gluedP at e
    split at e
    · cases e
    · cases e
      have gj := good_joinM gs (ys := cols.filterMap fun c => txt (rowV row c)) (M := 60) fun y hy => by
        obtain ⟨c, hc, e⟩ := List.mem_filterMap.mp hy
        exact g c hc y e
      have l := List.length_filterMap_le (fun c => txt (rowV row c)) cols
      exact gj.le (by omega)
  | spell col ts ps => exact keyed_one (cell_os fun z e => (spellP_good h.1 h.2.1 z e).le (by decide)) h.2.2
  | read col fo f new =>
    show Keyed (readDP f new (txt (rowV row col))).1
    cases txt (rowV row col) with
    | none => exact keyed_one cell_non h.2
    | some z => exact keyed_one (ov_ok fun i e => read_small h.1 e) h.2
  | put col v =>
    refine keyed_one ?_ h.2.2
    split
    · exact h.1
    · exact h.2.1
  | met col m => exact ⟨⟨[], rfl, by decide⟩, fun kv hkv => by cases hkv⟩
end K21
set_option Elab.async false
set_option linter.all false
set_option maxRecDepth 100000
set_option maxHeartbeats 4000000
/-! k21: a case drawn (its reading; the rest is to be done) -/
namespace K21
open PySem PySem.Spec PyProof.Rows L2 Bs Xg TL Xk Xl K02
section
variable {P : Program} {w : World} {K : PySem.W.Frag} {mg : Str → Option Value} {base : Heap} {fTk fOf : Addr} {dTk dOf : FuncData}
abbrev nLCa : List Str := ["_law_hand_here", "_law_lot", "_law_here", "_law_column", "_law_sign", "_law_name", "_law_columns", "_law_form_here", "_law_near_here", "_law_menus", "_law_word"]
theorem scLCa : FnScope nLCa ["_law_hand_here", "_law_lot"] (defScope sLCa) := ⟨rfl, rfl, rfl, by decide +kernel, rfl, by decide +kernel, by decide +kernel⟩
theorem read_case {fLTx fLFo fLNe fLSp : Addr} {dLTx dLFo dLNe dLSp : FuncData} (spLSp : Sp) (T : Free mg) (W : Drw K mg fTk fOf dTk dOf)
    (GLTx : FnOk P w K mg base CX0 3 fLTx dLTx ["_law_hand_here", "_law_sign"] spLTx) (FLTx : Fun K "_law_text" "_law_text" sLTx fLTx dLTx) (bLTx : Binds K dLTx ["_law_hand_here", "_law_sign"] []) (gLTx : mg "_law_text" = some (.ref fLTx))
    (GLFo : FnOk P w K mg base CX0 3 fLFo dLFo ["_law_hand_here"] (spLFo K)) (FLFo : Fun K "_law_form" "_law_form" sLFo fLFo dLFo) (bLFo : Binds K dLFo ["_law_hand_here"] []) (gLFo : mg "_law_form" = some (.ref fLFo))
    (GLNe : FnOk P w K mg base CX0 4 fLNe dLNe ["_law_hand_here", "_law_form_here"] (spLNe K)) (FLNe : Fun K "_law_near" "_law_near" sLNe fLNe dLNe) (bLNe : Binds K dLNe ["_law_hand_here", "_law_form_here"] []) (gLNe : mg "_law_near" = some (.ref fLNe))
    (GLSp : FnOk P w K mg base CX0 4 fLSp dLSp ["_law_hand_here", "_law_name", "_law_column", "_law_own"] spLSp) (FLSp : Fun K "_law_spelled" "_law_spelled" sLSp fLSp dLSp) (bLSp : Binds K dLSp ["_law_hand_here", "_law_name", "_law_column", "_law_own"] []) (gLSp : mg "_law_spelled" = some (.ref fLSp))
    {cdv : Value} {A : Around} {outer : List Env} {s : Shared} {H : Hp} {f : Addr} {E : XK} (hr : Room 4 (A.deeper (envOfC "_law_case" (defScope sLCa) s.heap.objs.size f cdv))) :
    ∃ t, PSs (cxOf CX0 P w K mg base nLCa "_law_case" (defScope sLCa) f cdv A outer s H E).nox (defBody sLCa) t := by
  have GTk : FnOk P w K mg base CX0 1 fTk dTk ["_law_hand_here", "_law_many"] spTake := ok_take W.Tk
  have GOf : FnOk P w K mg base CX0 2 fOf dOf ["_law_hand_here", "_law_some"] (spPick K) := ok_of W.Of T W.Tk W.bTk W.gTk
  have FTk := W.Tk
  have bTk := W.bTk
  have gTk := W.gTk
  have FOf := W.Of
  have bOf := W.bOf
  have gOf := W.gOf
  exact ⟨_, pss_cons (ps_set (i := 2) scLCa.nd rfl (Or.inl rfl) (pe_disp (pps_cons pe_str (pe_call GLTx (hr.mono (by decide)) (by rfl) gLTx FLTx.kp bLTx .nil pass0 (pa_cons (pv 0) (pa_cons pe_str pa_nil))) (pps_cons pe_str (pe_call GLTx (hr.mono (by decide)) (by rfl) gLTx FLTx.kp bLTx .nil pass0 (pa_cons (pv 0) (pa_cons pe_str pa_nil))) (pps_cons pe_str (pe_call GOf (hr.mono (by decide)) (by rfl) gOf FOf.kp bOf .nil pass0 (pa_cons (pv 0) (pa_cons (pe_lst (pa_cons pe_non (pa_cons pe_int (pa_cons pe_int (pa_cons (pe_un un_neg pe_int) (pa_cons (pe_op op_powX pe_int pe_int) pa_nil)))))) pa_nil))) pps_nil))) (by rfl) (by rfl) (fun z => by cases z) (by decide)))
      (pss_cons (ps_dput (u1 hr.units) (pv 2) pe_str (pe_call GOf (hr.mono (by decide)) (by rfl) gOf FOf.kp bOf .nil pass0 (pa_cons (pv 0) (pa_cons (pe_lst (pa_cons pe_non (pa_cons pe_int (pa_cons pe_int (pa_cons (pe_dget (u1 hr.units) (pv 2) pe_str (fun _ _ => rfl)) pa_nil))))) pa_nil))) rfl)
      (pss_cons (ps_par (i := 3) (j := 4) rfl scLCa.nd rfl rfl (by decide) rfl rfl (pa_cons (pe_call GOf (hr.mono (by decide)) (by rfl) gOf FOf.kp bOf .nil pass0 (pa_cons (pv 0) (pa_cons (pe_lst (pa_cons pe_str (pa_cons pe_str pa_nil))) pa_nil))) (pa_cons (pe_call GOf (hr.mono (by decide)) (by rfl) gOf FOf.kp bOf .nil pass0 (pa_cons (pv 0) (pa_cons (pe_lst (pa_cons pe_str (pa_cons pe_str (pa_cons pe_str (pa_cons pe_str (pa_cons pe_str pa_nil)))))) pa_nil))) pa_nil)) (by rfl))
      (pss_cons (ps_set (i := 5) scLCa.nd rfl (Or.inl rfl) (pe_call GOf (hr.mono (by decide)) (by rfl) gOf FOf.kp bOf .nil pass0 (pa_cons (pv 0) (pa_cons (pe_lst (pa_cons pe_str (pa_cons pe_str (pa_cons pe_str pa_nil)))) pa_nil))))
      (pss_cons (ps_if (pt_cmpR op_eq (pv 1) pe_int (nomark _)) (pss_one (ps_ret (pe_tup (pa_cons (pe_tup (pa_cons (pv 5) (pa_cons pe_str (pa_cons (pv 3) (pa_cons (pv 4) (pa_cons (pe_slice sl_tupA (pe_tup (pa_cons pe_str (pa_cons pe_str (pa_cons pe_str (pa_cons pe_str pa_nil))))) po_none (po_some (pe_op op_add pe_int (pe_call GTk (hr.mono (by decide)) (by rfl) gTk FTk.kp bTk .nil pass0 (pa_cons (pv 0) (pa_cons pe_int pa_nil)))))) pa_nil)))))) (pa_cons (pv 2) pa_nil))))) (pss_nil))
      (pss_cons (ps_if (pt_cmpR op_eq (pv 1) pe_int (nomark _)) (pss_cons (ps_set (i := 6) scLCa.nd rfl (Or.inl rfl) (pe_lst (pa_cons (pe_tup (pa_cons pe_str pa_nil)) (pa_cons (pe_tup (pa_cons pe_str (pa_cons pe_str pa_nil))) (pa_cons (pe_tup (pa_cons pe_str (pa_cons pe_str (pa_cons pe_str pa_nil)))) (pa_cons (pe_tup (pa_cons pe_str (pa_cons pe_str (pa_cons pe_str (pa_cons pe_str pa_nil))))) pa_nil))))))
      (pss_one (ps_ret (pe_tup (pa_cons (pe_tup (pa_cons (pv 5) (pa_cons pe_str (pa_cons (pe_call GOf (hr.mono (by decide)) (by rfl) gOf FOf.kp bOf .nil pass0 (pa_cons (pv 0) (pa_cons (pv 6) pa_nil))) (pa_cons (pv 4) (pa_cons pe_str pa_nil)))))) (pa_cons (pv 2) pa_nil)))))) (pss_nil))
      (pss_cons (ps_if (pt_cmpR op_eq (pv 1) pe_int (nomark _)) (pss_one (ps_ret (pe_tup (pa_cons (pe_call GLSp (hr.mono (by decide)) (by rfl) gLSp FLSp.kp bLSp .nil pass0 (pa_cons (pv 0) (pa_cons (pv 5) (pa_cons (pv 3) (pa_cons (pe_dget (u1 hr.units) (pv 2) (pv 3) (fun _ _ => rfl)) pa_nil))))) (pa_cons (pv 2) pa_nil))))) (pss_nil))
      (pss_cons (ps_if (pt_cmpR op_eq (pv 1) pe_int (nomark _)) (pss_cons (ps_set (i := 7) scLCa.nd rfl (Or.inl rfl) (pe_call GLFo (hr.mono (by decide)) (by rfl) gLFo FLFo.kp bLFo .nil pass0 (pa_cons (pv 0) pa_nil)))
      (pss_cons (ps_set (i := 8) scLCa.nd rfl (Or.inl rfl) (pe_call GLNe (hr.mono (by decide)) (by rfl) gLNe FLNe.kp bLNe .nil pass0 (pa_cons (pv 0) (pa_cons (pv 7) pa_nil))))
      (pss_cons (ps_dput (u1 hr.units) (pv 2) (pv 3) (pe_ifExp (PW.pt (pw_and (pt_cmpR op_ne (pv 8) pe_str (nomark _)) (pw_and1 (pt_cmpR op_gt (pe_call GTk (hr.mono (by decide)) (by rfl) gTk FTk.kp bTk .nil pass0 (pa_cons (pv 0) (pa_cons pe_int pa_nil))) pe_int (nomark _))))) (pv 8) pe_non) rfl)
      (pss_one (ps_ret (pe_tup (pa_cons (pe_tup (pa_cons (pv 5) (pa_cons pe_str (pa_cons (pv 3) (pa_cons (pv 7) (pa_cons pe_str pa_nil)))))) (pa_cons (pv 2) pa_nil)))))))) (pss_nil))
      (pss_cons (ps_set (i := 9) scLCa.nd rfl (Or.inl rfl) (pe_lst (pa_cons (pe_lst (pa_cons (pe_tup (pa_cons pe_str (pa_cons pe_str pa_nil))) (pa_cons (pe_tup (pa_cons pe_str (pa_cons pe_int pa_nil))) (pa_cons (pe_tup (pa_cons pe_str (pa_cons (pe_un un_neg pe_int) pa_nil))) (pa_cons (pe_tup (pa_cons pe_str (pa_cons pe_str pa_nil))) pa_nil))))) (pa_cons (pe_lst (pa_cons (pe_tup (pa_cons pe_str pa_nil)) (pa_cons (pe_tup (pa_cons pe_str pa_nil)) (pa_cons (pe_tup (pa_cons pe_str pa_nil)) (pa_cons (pe_tup (pa_cons pe_str pa_nil)) pa_nil))))) pa_nil))))
      (pss_cons (ps_expr (pe_bm PySem.F.plainAttrs_list PySem.F.slot_list_append PySem.F.type_list_append mt_append (pv 9) (pa_cons (pe_lst (pa_cons (pe_tup (pa_cons pe_str (pa_cons pe_int (pa_cons pe_int pa_nil)))) (pa_cons (pe_tup (pa_cons pe_str (pa_cons pe_int (pa_cons pe_int pa_nil)))) (pa_cons (pe_tup (pa_cons pe_str (pa_cons (pe_un un_neg pe_int) (pa_cons (pe_op op_powX pe_int pe_int) pa_nil)))) (pa_cons (pe_tup (pa_cons pe_str (pa_cons pe_str (pa_cons pe_str pa_nil)))) (pa_cons (pe_tup (pa_cons pe_str (pa_cons pe_str (pa_cons pe_str pa_nil)))) (pa_cons (pe_tup (pa_cons pe_str (pa_cons pe_int (pa_cons pe_int pa_nil)))) pa_nil))))))) pa_nil)))
      (pss_cons (ps_expr (pe_bm PySem.F.plainAttrs_list PySem.F.slot_list_append PySem.F.type_list_append mt_append (pv 9) (pa_cons (pe_lst (pa_cons (pe_tup (pa_cons pe_str (pa_cons (pe_tup (pa_cons pe_str pa_nil)) pa_nil))) (pa_cons (pe_tup (pa_cons pe_str (pa_cons (pe_tup (pa_cons pe_str (pa_cons pe_str (pa_cons pe_str pa_nil)))) pa_nil))) (pa_cons (pe_tup (pa_cons pe_str (pa_cons (pe_tup (pa_cons pe_int (pa_cons pe_int pa_nil))) pa_nil))) (pa_cons (pe_tup (pa_cons pe_str (pa_cons (pe_tup (pa_cons pe_int pa_nil)) pa_nil))) pa_nil))))) pa_nil)))
      (pss_cons (ps_expr (pe_bm PySem.F.plainAttrs_list PySem.F.slot_list_append PySem.F.type_list_append mt_append (pv 9) (pa_cons (pe_lst (pa_cons (pe_tup (pa_cons pe_str (pa_cons pe_str pa_nil))) (pa_cons (pe_tup (pa_cons pe_str (pa_cons pe_str pa_nil))) (pa_cons (pe_tup (pa_cons pe_str (pa_cons pe_str pa_nil))) (pa_cons (pe_tup (pa_cons pe_str (pa_cons pe_str pa_nil))) pa_nil))))) pa_nil)))
      (pss_cons (ps_set (i := 10) scLCa.nd rfl (Or.inl rfl) (pe_ix ix_list (pe_lst (pa_cons pe_str (pa_cons pe_str (pa_cons pe_str (pa_cons pe_str (pa_cons pe_str pa_nil)))))) (pe_op op_sub (pv 1) pe_int) (fun _ _ => rfl)))
      (pss_one (ps_ret (pe_tup (pa_cons (pe_op op_catT (pe_tup (pa_cons (pv 5) (pa_cons (pv 10) pa_nil))) (pe_call GOf (hr.mono (by decide)) (by rfl) gOf FOf.kp bOf .nil pass0 (pa_cons (pv 0) (pa_cons (pe_ix ix_list (pv 9) (pe_op op_sub (pv 1) pe_int) (fun _ _ => rfl)) pa_nil)))) (pa_cons (pv 2) pa_nil)))))))))))))))))⟩
end
end K21
set_option Elab.async false
set_option linter.all false
set_option maxRecDepth 100000
set_option maxHeartbeats 4000000
/-! Xn: sorted(pairs, key=lambda p: p[0]), the pairs' first ones texts -/
namespace Xn
open PySem PySem.Spec PySem.Calls PyProof.Rows L2 LamX
section
variable {prog : Program} {w : World} {A : Around} {s : Shared} {f t c' : Addr} {x qual z : Str} {params : Arguments} {scope : Scope} {pm ctv : Value} {items : Array Value} {tk : Tok} {p1 p2 p3 : Pos} {j : Nat}
theorem six {n : Nat} (h : 0 < n) : seqIndex? 0 n = some 0 := by
  unfold seqIndex?
  have : (0 : Int) < (n : Int) := by omega
  simp [this]
  omega
/-- a lambda that takes the first of a tuple, called -/
theorem lam_item (hd : A.depth < recursionLimit) (nl : s.heap.NoLimit) (hf : s.heap.get? f = some (PySem.W.kla_obj "<lambda>" qual params (.Subscript (.Name x p1) (.Constant (.int 0) j p2) p3) scope [] pm c' ctv))
    (hk : scope.kind = .function) (hco : scope.isCoroutine = false) (hgen : scope.isGenerator = false) (hl : scope.names.lookup x = some .local) (hc : ∀ y ∈ scope.names, y.2 ≠ .cell) (hdb : (x == ("__debug__" : Str)) = false)
    (hb : ∀ v : Value, bindArgs (PySem.W.kla_fn "<lambda>" qual params (.Subscript (.Name x p1) (.Constant (.int 0) j p2) p3) scope [] pm (.ref c') ctv) ⟨[v], []⟩ = pure [(x, v)])
    (hrec : s.heap.CodeRec (.ref c') qual) (ht : IsTup s.heap t items) (hi : items[0]? = some (.str z tk)) :
    wpAny (model prog w) A (call (.ref f) [.ref t]) (PySem.W.KeyPure (.str z) s) (fun _ _ => False) s := by
  refine wpAny_call ?_
  refine PySem.W.kla_callFunE hd hf rfl hco hgen rfl hrec ?_
  rw [hb]
  refine wpAny_pure (wpAny_newFunctionEnv hc (fun y hy => by rw [List.mem_singleton.mp hy]; exact hl) (fun h₁ hns hsb => ⟨nl.fresh _ hsb, ?_⟩) hk)
  have kp : ∀ b o, s.heap.get? b = some o → h₁.get? b = some o := fun b o e => hsb.extBut b o (Nat.ne_of_lt (Heap.lt_size e)) (Heap.get?_push_of_some _ e)
  have ht1 := ht.keeps kp
  have i0 : 0 < items.size := (Array.getElem?_eq_some_iff.mp hi).1
  refine PySem.W.kla_codeExpr ?_
  refine Subscript_ (wpAny_Name (wpAny_loadName_local hk hl hns (v := .ref t) (by simp) ?_) hdb)
  refine wpAny_Constant_int ?_
  refine subscriptTail_builtinR (x := .str z tk) ht1.typeIs slot_tuple_getitem.lookup
    (getItem_tuple (j := 0) ht1 (by decide) (by decide) (six i0) hi ⟨rfl, ?_⟩) (by rfl)
  exact ⟨h₁, _, rfl, kp, .str z tk⟩
end
section
variable {X : Cx} {pins : List (Addr × Obj)} {σ : L2.St} {H : Hp}
/-- what the sort leaves: pairs in another order, in a new list -/
def qSortLam (K : PySem.W.Frag) (T : List (Addr × Str)) : V → Hp → VK → Prop := fun x H1 Q => ∃ (l : Addr) (bs : List (Addr × Str)), x = .ref l ∧ SqL K H1 l (bs.map fun b => V.ref b.1) ∧ (∀ b ∈ bs, ∃ rest, SqT K H1 b.1 (V.str b.2 :: rest)) ∧ bs.length ≤ 1000 ∧ Tabs T H1 ∧
  ∀ (H2 : Hp) (ys : List (Addr × Str)) (p : Addr), ys.Perm bs → (∀ o, H1 p = some o → ∃ ps, o = .tbl ps) → ExtN H1 H2 → Tabs T H2 → H2 p = some (.lst (ys.map fun b => V.ref b.1)) → Q (.ref p) H2
def tSortLam (K : PySem.W.Frag) (T : List (Addr × Str)) (te : TE) : TE := fun σ H Q => te σ H fun x H1 => qSortLam K T x H1 Q
theorem seqL_N {K : PySem.W.Frag} {H H' : Hp} {a : Addr} {xs : List V} (e : ExtN H H') (q : SqL K H a xs) : SqL K H' a xs := by
  rcases q with (q | ⟨o, q⟩) | q
  · exact .inl (.inl (e _ _ q (fun _ z => by cases z)))
  · exact .inl (.inr ⟨o, e _ _ q (fun _ z => by cases z)⟩)
  · exact .inr q
theorem seqT_N {K : PySem.W.Frag} {H H' : Hp} {a : Addr} {xs : List V} (e : ExtN H H') (q : SqT K H a xs) : SqT K H' a xs := by
  rcases q with (q | ⟨o, q⟩) | q
  · exact .inl (.inl (e _ _ q (fun _ z => by cases z)))
  · exact .inl (.inr ⟨o, e _ _ q (fun _ z => by cases z)⟩)
  · exact .inr q
theorem vals_mem : ∀ {xs : List V} {us : List Value}, Vals xs us → xs.length = us.length
  | _, _, .nil => rfl
  | _, _, .cons _ r => by rw [List.length_cons, List.length_cons, vals_mem r]
theorem each_of {R : Value → Addr × Str → Prop} : ∀ {bs : List (Addr × Str)} {us : List Value}, Vals (bs.map fun b => V.ref b.1) us → (∀ b ∈ bs, R (.ref b.1) b) → PySem.W.EachIs R us bs
  | [], _, .nil, _ => .nil
  | b :: bs, u :: us, .cons r q, h => by
    obtain rfl : u = Value.ref b.1 := r
    exact .cons (h b List.mem_cons_self) (each_of q fun c hc => h c (List.mem_cons_of_mem _ hc))
theorem vals_of_each {R : Value → Addr × Str → Prop} (h : ∀ u b, R u b → u = .ref b.1) : ∀ {us : List Value} {bs : List (Addr × Str)}, PySem.W.EachIs R us bs → Vals (bs.map fun b => V.ref b.1) us
  | _, _, .nil => .nil
  | _, _, .cons r q => by
    rw [h _ _ r]
    exact .cons rfl (vals_of_each h q)
theorem pe_sortLam {T : List (Addr × Str)} {c P : Addr} {e : Expr} {te : TE} {params : Arguments} {scope : Scope} {x : Str} {p p1 p2 p3 lpos kpos pos : Pos} {j : Nat} {k : Nat} (he : PE X e te) (hm : X.mg "sorted" = none) (hg : Gl X "sorted")
    (TB : TabB X.base X.mg c P) (hcode : X.env.code = .ref c) (hmT : (P, X.env.qual ++ "<lambda>") ∈ T) (hu : ∀ p ∈ T, p.1 = P → p.2 = X.env.qual ++ "<lambda>") (hr : Room (k + 2) X.A) (units : X.A.units + 64 < cLine)
    (hdef : defaultsOf params X.env = ([], [])) (hfree : ∀ y ∈ scope.names, y.2 ≠ .free) (hk : scope.kind = .function) (hco : scope.isCoroutine = false) (hgen : scope.isGenerator = false) (hl : scope.names.lookup x = some .local) (hc : ∀ y ∈ scope.names, y.2 ≠ .cell) (hdb : (x == ("__debug__" : Str)) = false)
    (hb : ∀ (q : Str) (pm cv ctv v : Value), bindArgs (PySem.W.kla_fn "<lambda>" q params (.Subscript (.Name x p1) (.Constant (.int 0) j p2) p3) scope [] pm cv ctv) ⟨[v], []⟩ = pure [(x, v)])
    (hs0 : starEach [e] X.env = (false, eval e X.env) :: starEach [] X.env := by rfl) (hs : backTo pos (starEach [e] X.env) = (false, eval e X.env) :: backTo pos (starEach [] X.env) := by rfl) (hpl : (backTo pos (starEach [e] X.env)).any (·.1) = false := by rfl) :
    PE X (.Call (.Name "sorted" p) [e] [⟨some "key", .Lambda params (.Subscript (.Name x p1) (.Constant (.int 0) j p2) p3) scope lpos, kpos⟩] pos) (tSortLam X.K T te) := by
  have clo : cloFrom X.env.cells scope.names [] = [] := by
    have : ∀ (ns : List (Str × NameKind)) (acc : List (Str × Addr)), (∀ y ∈ ns, y.2 ≠ .free) → cloFrom X.env.cells ns acc = acc := by
      intro ns
      induction ns with
      | nil => intro acc _; rfl
      | cons y ns ih =>
        intro acc h
        obtain ⟨n, kd⟩ := y
        have h0 : kd ≠ .free := h (n, kd) List.mem_cons_self
        unfold cloFrom
        rw [if_neg (by simpa using h0)]
        exact ih acc fun y hy => h y (List.mem_cons_of_mem _ hy)
    exact this _ _ hfree
  refine ⟨fun pins s σ H Q I h => ?_⟩
  have h' : tCons te tNil σ H (fun vs H1 => ∃ v, vs = [v] ∧ qSortLam X.K T v H1 Q) := by
    show te σ H fun x H1 => ∃ v, [x] = [v] ∧ qSortLam X.K T v H1 Q
    have e : (fun (x : V) (H1 : Hp) => ∃ v, [x] = [v] ∧ qSortLam X.K T v H1 Q) = fun x H1 => qSortLam X.K T x H1 Q := by
      funext x H1
      exact propext ⟨fun ⟨v, e, z⟩ => by cases e; exact z, fun z => ⟨x, rfl, z⟩⟩
    rw [e]
    exact h
  refine wpAny_Call_Name_kw (ld_blt I hg hm PyProof.Rows.boot_sorted ?_ (by decide) (by decide))
  refine PyProof.Rows.callWith_kw (thn ((pa_cons he pa_nil hs0).run pos pins s σ H (fun vs H1 => ∃ v, vs = [v] ∧ qSortLam X.K T v H1 Q) I ?_) fun us s1 ⟨vs, H1, I1, r1, v, ev, l, bs, el, hS, hB, len, hT, q⟩ => ?_) hs hpl rfl rfl
  · exact h'
  subst ev
  subst el
  obtain rfl := Vals.ref1 r1
  refine wpAny_evalAll_cons (wpAny_bind (lam_make2 I1 TB hcode hmT hu hT hdef (fun y hy e => absurd e (hfree y hy)) fun f c' pm ctv H2 s2 I2 eN T2 hf hfn hfr hco' => wpAny_bind (wpAny_standAt (wpAny_pure ?_))))
  refine wpAny_evalAll_nil ?_
  rw [clo] at hf
  have hS2 := seqL_N eN hS
  obtain ⟨its, rv, hl', hz⟩ := I2.list hS2
  obtain ⟨⟨oc, vs2, t2, hoc, hdc, hvc⟩, _, _⟩ := I2.hok c' _ hco'
  have each : PySem.W.EachIs (fun (u : Value) (b : Addr × Str) => u = .ref b.1 ∧ ∃ (items : Array Value) (tk : Tok), IsTup s2.heap b.1 items ∧ items[0]? = some (.str b.2 tk)) its bs := each_of rv fun b hb => by
    obtain ⟨rest, hT'⟩ := hB b hb
    obtain ⟨its2, rv2, it2, _⟩ := I2.tuple (seqT_N eN hT')
    cases rv2 with
    | cons r2 r3 =>
      obtain ⟨tk, rfl⟩ := r2
      exact ⟨rfl, _, tk, it2, by simp⟩
  show wpAny _ _ (call (.builtin "sorted") [.ref l] [(Str.ofString "key", .ref f)]) _ _ s2
  refine PySem.W.sorted_key_data (b := false) (fun b : Addr × Str => PyData.str b.2) hl'.isList each ?_ (.inr ?_) (Nat.le_trans len (by decide)) ?_ (PyProof.Rows.ksk_s1 _ _) (fun x => PyProof.Rows.ksk_l1 _ _) (fun x => PyProof.Rows.ksk_t1 _ _) ?_ ?_
  · intro d hd d' hd'
    obtain ⟨b, _, rfl⟩ := List.mem_map.mp hd
    obtain ⟨b', _, rfl⟩ := List.mem_map.mp hd'
    rfl
  · intro d hd
    obtain ⟨b, _, rfl⟩ := List.mem_map.mp hd
    exact ⟨(fun z => by cases z), (fun xs z => by cases z)⟩
  · intro x _
    have : (PyData.str x.2).depth ≤ 1 := by simp [PyData.depth]
    omega
  · rintro v b ⟨rfl, items, tk, it, hi⟩ hb' h tk' kp
    exact lam_item (s := { s2 with heap := h, toks := tk' }) ((hr.in1).in1).depth (I2.nolimit.keeps kp) (kp _ _ hf) hk hco hgen hl hc hdb (fun v => hb _ _ _ _ v) ⟨c', oc, vs2, t2, rfl, kp _ _ hoc, hdc, hvc⟩ (it.keeps kp) hi
  · intro out c h' tk kp new at_ ln eo
    have nw : H2 (s2.heap.objs.size + 1) = none := I2.hok.fresh (Nat.le_succ _)
    have rel := vals_of_each (fun u b h => h.1) eo
    have lo : ((bs.mergeSort (PySem.W.dataLe false fun b : Addr × Str => PyData.str b.2)).map fun b => V.ref b.1).length ≤ sizeLine := by
      rw [List.length_map, (List.mergeSort_perm _ _).length_eq]
      exact Nat.le_trans len (by decide)
    refine ⟨.ref _, upd H2 (s2.heap.objs.size + 1) (.lst ((bs.mergeSort (PySem.W.dataLe false fun b : Addr × Str => PyData.str b.2)).map fun b => V.ref b.1)), I2.laid (t' := tk) kp (Nat.le_succ _) ⟨lo, out, c, rel, at_⟩, rfl, ?_⟩
    refine q _ _ _ (List.mergeSort_perm _ _) (fun o ho => ?_) (fun b o e n => ?_) (fun p hp => ?_) upd_same
    · by_cases z : ∃ ps, o = .tbl ps
      · exact z
      · have := eN _ _ ho fun ps e => z ⟨ps, e⟩
        rw [nw] at this
        cases this
    · have e2 := eN b o e n
      rw [upd_ne (ne_of_none e2 nw)]
      exact e2
    · exact (T2 p hp).ext fun b o e => by rw [upd_ne (ne_of_none e nw)]; exact e
end
end Xn
set_option Elab.async false
set_option linter.all false
set_option maxRecDepth 100000
set_option maxHeartbeats 4000000
/-! k21: the spelling drawn, with its lambda -/
namespace K21
open PySem PySem.Spec PyProof.Rows L2 Bs Xg TL Xk Xl K02 LamX Xn
@[elab_as_elim] theorem newO {H : Hp} {p : Addr} {o : HO} {R : Hp → Prop} (n : H p = none) (k : ∀ H', Same H H' → H' p = some o → R H') : R (upd H p o) := k _ (Same.new n) upd_same
def qLam : Str := (("_law_spelled" : Str) ++ ".<locals>.") ++ "<lambda>"
abbrev tabsL (Pt : Addr) : List (Addr × Str) := [(Pt, qLam)]
/-- all but h and the tables as it was -/
def ButN (h : Addr) (H H' : Hp) : Prop := ∀ b o, b ≠ h → H b = some o → (∀ ps, o ≠ .tbl ps) → H' b = some o
theorem ButN.refl (h : Addr) (H : Hp) : ButN h H H := fun _ _ _ e _ => e
theorem butN_of {h : Addr} {H H' : Hp} (b : But h H H') : ButN h H H' := fun c o n e _ => b c o n e
theorem butN_trans {h : Addr} {H H1 H2 : Hp} (a : ButN h H H1) (b : ButN h H1 H2) : ButN h H H2 := fun c o n e z => b c o n (a c o n e z) z
theorem butN_ext {h : Addr} {H H' : Hp} (b : ExtN H H') : ButN h H H' := fun c o _ e z => b c o e z
theorem butN_same {h : Addr} {H H' : Hp} (b : Same H H') : ButN h H H' := fun c o _ e _ => b c o e
theorem butN_upd {h : Addr} {H : Hp} {o : HO} : ButN h H (upd H h o) := butN_of But.upd
theorem tup_ne {xs : List V} : ∀ ps, HO.tup xs ≠ .tbl ps := fun _ z => by cases z
theorem lst_ne {xs : List V} : ∀ ps, HO.lst xs ≠ .tbl ps := fun _ z => by cases z
theorem dk_ne {xs : List (Key × V)} : ∀ ps, HO.dK xs ≠ .tbl ps := fun _ z => by cases z
theorem hand_ext {H H' : Hp} {h : Addr} {n : Nat} (a : HandAt H h n) (e : ExtN H H') : HandAt H' h n := by
  obtain ⟨g, t, c, e1, r⟩ := a
  exact ⟨g, t, c, e _ _ e1 lst_ne, r⟩
/-- the tables stay in a heap in which all but a hand does -/
theorem tabs_but {T : List (Addr × Str)} {H H' : Hp} {h : Addr} {n : Nat} (t : Tabs T H) (hd : HandAt H h n) (b : But h H H') : Tabs T H' := fun p hp => by
  obtain ⟨g, t0, c, e, _⟩ := hd
  obtain ⟨ps, h1, h2, h3⟩ := t p hp
  refine ⟨ps, b _ _ (fun z => ?_) h1, h2, fun pos cv hc => ?_⟩
  · rw [z, e] at h1
    cases h1
  · obtain ⟨c1, e1, e2⟩ := h3 pos cv hc
    refine ⟨c1, e1, b _ _ (fun z => ?_) e2⟩
    rw [z, e] at e2
    unfold CodeO at e2
    cases e2
theorem tabs_same {T : List (Addr × Str)} {H H' : Hp} (t : Tabs T H) (s : Same H H') : Tabs T H' := t.ext s
/-- a tuple of pairs, each shown -/
def PairsD (H : Hp) (a : Addr) (ps : List (Str × Option Str)) : Prop := ∃ qs : List Addr, qs.length = ps.length ∧ H a = some (.tup (qs.map V.ref)) ∧ ∀ (j : Nat) (q : Addr) (p : Str × Option Str), qs[j]? = some q → ps[j]? = some p → H q = some (.tup [.str p.1, os p.2])
theorem seconds {R : Addr × Str → Option Str → Prop} : ∀ {ys : List (Addr × Str)}, (∀ b ∈ ys, ∃ o, R b o) → ∃ ps : List (Str × Option Str), ps.length = ys.length ∧ ∀ (j : Nat) (b : Addr × Str) (p : Str × Option Str), ys[j]? = some b → ps[j]? = some p → p.1 = b.2 ∧ R b p.2
  | [], _ => ⟨[], rfl, fun j b p e => by simp at e⟩
  | y :: ys, h => by
    obtain ⟨o, ho⟩ := h y List.mem_cons_self
    obtain ⟨ps, l, q⟩ := seconds fun b hb => h b (List.mem_cons_of_mem _ hb)
    refine ⟨(y.2, o) :: ps, by simp [l], fun j b p e1 e2 => ?_⟩
    cases j with
    | zero =>
      simp at e1 e2
      subst e1
      subst e2
      exact ⟨rfl, ho⟩
    | succ j =>
      simp only [List.getElem?_cons_succ] at e1 e2
      exact q j b p e1 e2
section
variable {P : Program} {w : World} {K : PySem.W.Frag} {mg : Str → Option Value} {base : Heap} {fTk fOf : Addr} {dTk dOf : FuncData}
theorem scLSp : FnScope ["_law_hand_here", "_law_name", "_law_column", "_law_own", "_law_pairs"] ["_law_hand_here", "_law_name", "_law_column", "_law_own"] (defScope sLSp) := ⟨rfl, rfl, rfl, by decide +kernel, rfl, by decide +kernel, by decide +kernel⟩
/-- a def whose code object is known -/
theorem ok_code {x qual : Str} {st : Stmt} {f : Addr} {fd : FuncData} {N ps : List Str} {k : Nat} {sp : Sp} {c : Value} (F : Fun K x qual st f fd) (hc : fd.code = c) (S : FnScope N ps (defScope st)) (len : ∀ vs H Q E, sp vs H Q E → vs.length = ps.length)
    (body : ∀ (A : Around) (outer : List Env) (s : Shared) (H : Hp) (vs : List V) (Q : VK) (E : XK), Room k (A.deeper (envOfC qual (defScope st) s.heap.objs.size f c)) → sp vs H Q E →
      ∃ t, PSs (cxOf CX0 P w K mg base N qual (defScope st) f c A outer s H E).nox (defBody st) t ∧ t { nx := fun _ G => Q .non G, rt := Q } (start N vs) H) : FnOk P w K mg base CX0 (k + 1) f fd ps sp := by
  obtain ⟨oc, od, kV, doc, pm, an, cdv, ct, osl, rfl, lk, hcd⟩ := F.ex
  subst hc
  refine fn_of lk hcd S len fun A outer s H vs Q E hr h => ?_
  obtain ⟨t, h1, h2⟩ := body A outer s H vs Q E hr h
  exact ⟨t, h1.nox, h2⟩
def spLSp (Pt : Addr) : Sp := fun vs H Q _ => ∃ (h : Addr) (n : Nat) (nm col : V) (x : Option Str), vs = [.ref h, nm, col, os x] ∧ HandAt H h n ∧ n < 990000 ∧ Tabs (tabsL Pt) H ∧ (∀ z, x = some z → Good 40 z) ∧
  ∀ (p ts : Addr) (ps : List (Str × Option Str)) (H' : Hp), H' p = some (.tup [nm, .str "spell", col, .ref ts]) → PairsD H' ts ps → ps.length ≤ 10 → (∀ pr ∈ ps, Good 40 pr.1 ∧ ∀ z, pr.2 = some z → Good 40 z) → HandAt H' h (n + 1) → ButN h H H' → Tabs (tabsL Pt) H' → Q (.ref p) H'
theorem ok_lspelled {f c Pt : Addr} {fd : FuncData} (F : Fun K "_law_spelled" "_law_spelled" sLSp f fd) (hc : fd.code = .ref c) (TB : TabB base mg c Pt) (T : Free mg) (W : Drw K mg fTk fOf dTk dOf) : FnOk P w K mg base CX0 4 f fd ["_law_hand_here", "_law_name", "_law_column", "_law_own"] (spLSp Pt) := by
  have GTk : FnOk P w K mg base CX0 1 fTk dTk ["_law_hand_here", "_law_many"] spTake := ok_take W.Tk
  have FTk := W.Tk
  have bTk := W.bTk
  have gTk := W.gTk
  refine ok_code F hc scLSp (fun vs H Q E h => ?_) (fun A outer s H vs Q E hr h => ?_)
  · obtain ⟨h, n, nm, col, x, rfl, _⟩ := h
    rfl
  · obtain ⟨h, n, nm, col, x, rfl, hd, nb, tabs, gx, q⟩ := h
    have lam_free : ∀ y ∈ ([(Str.ofString "_law_pair", PySem.NameKind.local)] : List (Str × NameKind)), y.2 ≠ .free := by decide +kernel
    have lam_cell : ∀ y ∈ ([(Str.ofString "_law_pair", PySem.NameKind.local)] : List (Str × NameKind)), y.2 ≠ .cell := by decide +kernel
    refine ⟨_, pss_cons (ps_set (i := 4) scLSp.nd rfl (Or.inl rfl) (pe_op op_cat (pe_lst (pa_cons (pe_tup (pa_cons pe_str (pa_cons pe_str pa_nil))) (pa_cons (pe_tup (pa_cons pe_str (pa_cons pe_str pa_nil))) (pa_cons (pe_tup (pa_cons pe_str (pa_cons pe_non pa_nil))) pa_nil)))) (pe_op op_rep (pe_lst (pa_cons (pe_tup (pa_cons (pv 3) (pa_cons pe_str pa_nil))) pa_nil)) (pe_callTy call_int1 (by rfl) T.int (by decide +kernel) (pa_cons (pe_cmpR op_notIn_seq (pv 3) (pe_tup (pa_cons pe_non (pa_cons pe_str (pa_cons pe_str (pa_cons pe_str pa_nil))))) rfl) pa_nil)))))
      (pss_one (ps_ret (pe_tup (pa_cons (pv 1) (pa_cons pe_str (pa_cons (pv 2) (pa_cons (pe_callTy call_tuple_of (by rfl) T.tuple (by decide +kernel) (pa_cons (pe_slice sl_list (pe_sortLam (T := tabsL Pt) (k := 1) (pv 4) T.sorted (by rfl) TB rfl (List.mem_singleton.mpr rfl) (fun p hp _ => by rw [List.mem_singleton.mp hp]; rfl) hr hr.units rfl lam_free rfl rfl rfl (by decide +kernel) lam_cell (by decide +kernel) (fun _ _ _ _ _ => rfl)) (po_some (pe_call GTk (hr.mono (by decide)) (by rfl) gTk FTk.kp bTk .nil pass0 (pa_cons (pv 0) (pa_cons pe_int pa_nil)))) po_none) pa_nil)) pa_nil))))))), ?_⟩
    have ga : Good 40 ("a" : Str) := by decide +kernel
    have gb : Good 40 ("b" : Str) := by decide +kernel
    have gc : Good 40 ("c" : Str) := by decide +kernel
    have gxx : Good 40 ("x" : Str) := by decide +kernel
    have gab : Good 40 ("a b" : Str) := by decide +kernel
    refine ⟨(show 2 ≤ sizeLine by decide), fun t1 n1 => newO n1 fun H1 s1 e1 => ?_⟩
    refine ⟨(show 2 ≤ sizeLine by decide), fun t2 n2 => newO n2 fun H2 s2 e2 => ?_⟩
    refine ⟨(show 2 ≤ sizeLine by decide), fun t3 n3 => newO n3 fun H3 s3 e3 => ?_⟩
    refine ⟨(show 3 ≤ sizeLine by decide), fun L1 n4 => newO n4 fun H4 s4 e4 => ?_⟩
    refine ⟨_, rfl, (show 2 ≤ sizeLine by decide), fun t4 n5 => newO n5 fun H5 s5 e5 => ⟨(show 1 ≤ sizeLine by decide), fun L2 n6 => newO n6 fun H6 s6 e6 => ?_⟩⟩
    refine ⟨_, rfl, (show 4 ≤ sizeLine by decide), fun t5 n7 => newO n7 fun H7 s7 e7 => ?_⟩
    refine ⟨t5, _, rfl, .inr (SqT.of e7), (by cases x <;> rfl), rfl, .inr ⟨_, rfl, ?_⟩⟩
    have hx : (if true = true then !inV (os x) [V.non, V.str "a", V.str "b", V.str "x"] else inV (os x) [V.non, V.str "a", V.str "b", V.str "x"]) = true → ∃ z, x = some z := by
      intro hb
      cases x with
      | none => exact absurd hb (by decide +kernel)
      | some z => exact ⟨z, rfl⟩
    generalize (if true = true then !inV (os x) [V.non, V.str "a", V.str "b", V.str "x"] else inV (os x) [V.non, V.str "a", V.str "b", V.str "x"]) = b at hx ⊢
    have k1 : -(2 ^ 63) ≤ (if b = true then (1 : Int) else 0) ∧ (if b = true then (1 : Int) else 0) < 2 ^ 63 ∧ ([V.ref t4] : List V).length * ((if b = true then (1 : Int) else 0)).toNat ≤ 1 := by cases b <;> simp
    refine ⟨L2, _, _, rfl, rfl, s7 _ _ e6, k1.1, k1.2.1, Nat.le_trans k1.2.2 (by decide), fun L3 n8 => newO n8 fun H8 s8 e8 => ?_⟩
    have f4 : Same H4 H8 := ((s5.trans s6).trans s7).trans s8
    have a1 : H8 t1 = some (.tup [V.str "a", V.str "b"]) := f4 _ _ (s4 _ _ (s3 _ _ (s2 _ _ e1)))
    have a2 : H8 t2 = some (.tup [V.str "b", V.str "c"]) := f4 _ _ (s4 _ _ (s3 _ _ e2))
    have a3 : H8 t3 = some (.tup [V.str "x", V.non]) := f4 _ _ (s4 _ _ e3)
    have a4 : H8 t4 = some (.tup [os x, V.str "a b"]) := s8 _ _ (s7 _ _ (s6 _ _ e5))
    obtain ⟨bs, ebs, hbs, lbs⟩ : ∃ bs : List (Addr × Str), ([V.ref t1, V.ref t2, V.ref t3] ++ (List.replicate ((if b = true then (1 : Int) else 0)).toNat [V.ref t4]).flatten) = bs.map (fun b => V.ref b.1) ∧ (∀ b ∈ bs, ∃ o, H8 b.1 = some (.tup [.str b.2, os o]) ∧ Good 40 b.2 ∧ ∀ z, o = some z → Good 40 z) ∧ bs.length ≤ 4 := by
      have g : ∀ (b : Addr × Str), b = (t1, ("a" : Str)) ∨ b = (t2, ("b" : Str)) ∨ b = (t3, ("x" : Str)) → ∃ o, H8 b.1 = some (.tup [.str b.2, os o]) ∧ Good 40 b.2 ∧ ∀ z, o = some z → Good 40 z := by
        rintro b (rfl | rfl | rfl)
        · exact ⟨some "b", a1, ga, fun z e => by cases e; exact gb⟩
        · exact ⟨some "c", a2, gb, fun z e => by cases e; exact gc⟩
        · exact ⟨none, a3, gxx, fun z e => nomatch e⟩
      cases b with
      | false =>
        refine ⟨[(t1, "a"), (t2, "b"), (t3, "x")], rfl, fun b hb => g b ?_, by simp⟩
        simp only [List.mem_cons, List.not_mem_nil, or_false] at hb
        exact hb
      | true =>
        obtain ⟨z, rfl⟩ := hx rfl
        refine ⟨[(t1, "a"), (t2, "b"), (t3, "x"), (t4, z)], rfl, fun b hb => ?_, by simp⟩
        simp only [List.mem_cons, List.not_mem_nil, or_false] at hb
        rcases hb with hb | hb | hb | rfl
        · exact g b (.inl hb)
        · exact g b (.inr (.inl hb))
        · exact g b (.inr (.inr hb))
        · exact ⟨some "a b", a4, gx z rfl, fun y e => by cases e; exact gab⟩
    refine ⟨L1, L3, _, _, rfl, rfl, f4 _ _ e4, e8, ?_, ?_⟩
    · rw [sizeLine_eq]
      cases b <;> simp
    rw [ebs]
    refine fun L4 n9 => newO n9 fun H9 s9 e9 => ?_
    have f0 : Same H H9 := ((((s1.trans s2).trans s3).trans s4).trans f4).trans s9
    refine gN ?_
    try dsimp only
    refine ⟨_, rfl, _, rfl, _, rfl, L4, bs, rfl, SqL.of e9, (fun b hb => ?_), by omega, tabs_same tabs f0, fun G ys p pm np eN tG eG => ?_⟩
    · obtain ⟨o, ho, _⟩ := hbs b hb
      exact ⟨_, SqT.of (s9 _ _ ho)⟩
    have hdG : HandAt G h n := hand_ext (hd.mono f0 (Nat.le_refl n)) eN
    have nph : p ≠ h := fun z => by
      obtain ⟨g0, t0, c0, eh, _⟩ := hd
      obtain ⟨ps, ep⟩ := np _ (by rw [z]; exact f0 _ _ eh)
      cases ep
    refine ⟨_, rfl, h, n, 2, rfl, hdG, by omega, by decide, by decide, fun r G1 r0 r1 hd1 bt1 => ⟨r, rfl, ?_⟩⟩
    have eG1 := bt1 p _ nph eG
    refine ⟨p, _, rfl, SqL.of eG1, fun L5 n10 => newO n10 fun G2 s10 e10 => ⟨L5, _, rfl, .inl ⟨SqL.of e10, fun ts n11 => newO n11 fun G3 s11 e11 => ⟨(show 4 ≤ sizeLine by decide), fun pp n12 => newO n12 fun G4 s12 e12 => ?_⟩⟩⟩⟩
    have bG : ButN h H G4 := butN_trans (butN_trans (butN_trans (butN_same f0) (butN_ext eN)) (butN_of bt1)) (butN_same ((s10.trans s11).trans s12))
    obtain ⟨zs, ez, hz⟩ : ∃ zs : List (Addr × Str), cutV (ys.map fun b => V.ref b.1) (some r) none = zs.map (fun b => V.ref b.1) ∧ ∀ b ∈ zs, b ∈ bs := by
      refine ⟨(ys.drop (HT.sIx (ys.map fun b => V.ref b.1).length 0 (some r))).take (HT.sIx (ys.map fun b => V.ref b.1).length (ys.map fun b => V.ref b.1).length none - HT.sIx (ys.map fun b => V.ref b.1).length 0 (some r)), ?_, fun b hb => ?_⟩
      · unfold cutV
        rw [List.map_take, List.map_drop]
      · exact pm.mem_iff.mp (List.mem_of_mem_drop (List.mem_of_mem_take hb))
    have lz : zs.length ≤ 4 := by
      have l1 := cutV_length (ys.map fun b => V.ref b.1) (some r) none
      rw [ez, List.length_map, List.length_map] at l1
      have l2 := pm.length_eq
      omega
    rw [ez] at e11
    obtain ⟨ps, lp, hps⟩ := seconds (R := fun b o => H8 b.1 = some (.tup [.str b.2, os o]) ∧ Good 40 b.2 ∧ ∀ z, o = some z → Good 40 z) (ys := zs) fun b hb => hbs b (hz b hb)
    have tt : ∀ (b : Addr) (xs : List V), H8 b = some (.tup xs) → G4 b = some (.tup xs) := fun b xs e => by
      have nb : b ≠ h := fun z => by
        obtain ⟨g0, t0, c0, eh, _⟩ := hd
        have e1 := f0 _ _ eh
        rw [← z, s9 _ _ e] at e1
        cases e1
      exact s12 _ _ (s11 _ _ (s10 _ _ (bt1 _ _ nb (eN _ _ (s9 _ _ e) tup_ne))))
    refine q pp ts ps G4 e12 ⟨zs.map (·.1), by rw [List.length_map, lp], ?_, fun j q1 p1 h1 h2 => ?_⟩ (by omega) (fun pr hpr => ?_) (hd1.mono ((s10.trans s11).trans s12) (Nat.le_refl _)) bG (tabs_same (tabs_but tG hdG bt1) ((s10.trans s11).trans s12))
    · rw [List.map_map]
      exact s12 _ _ e11
    · rw [List.getElem?_map] at h1
      obtain ⟨b, hb, rfl⟩ := Option.map_eq_some_iff.mp h1
      obtain ⟨r1, r2, _⟩ := hps j b p1 hb h2
      rw [r1]
      exact tt _ _ r2
    · obtain ⟨j, hj⟩ := List.mem_iff_getElem?.mp hpr
      have jl : j < zs.length := by
        rw [← lp]
        exact (List.getElem?_eq_some_iff.mp hj).1
      obtain ⟨r1, _, r3, r4⟩ := hps j _ pr (List.getElem?_eq_getElem jl) hj
      rw [r1]
      exact ⟨r3, r4⟩
end
end K21
set_option Elab.async false
set_option linter.all false
set_option maxRecDepth 100000
set_option maxHeartbeats 4000000
/-! Xm: data with dicts of any texts: repr. -/
namespace Xm
open PySem PySem.Spec PyProof.Rows L2 Bs Xg
def keyD : Key → PyData
  | .inl i => .int i
  | .inr x => .str x
/-- data, a dict of it, a tuple of such -/
inductive Dr (K : PySem.W.Frag) (H : Hp) : V → PyData → Prop
  | q {x : V} {d : PyData} : Dq K H x d → Dr K H x d
  | dn {a : Addr} (kvs : List (Key × V × PyData)) : H a = some (.dK (kvs.map fun e => (e.1, e.2.1))) → (∀ e ∈ kvs, Dq K H e.2.1 e.2.2) → Dr K H (.ref a) (.dict (kvs.map fun e => (keyD e.1, e.2.2)))
  | tup {a : Addr} (ps : List (V × PyData)) : SqT K H a (ps.map (·.1)) → (∀ p ∈ ps, Dr K H p.1 p.2) → Dr K H (.ref a) (.tuple (ps.map (·.2)))
theorem Dr.same {K : PySem.W.Frag} {H H' : Hp} {x : V} {d : PyData} (h : Dr K H x d) (s : Same H H') : Dr K H' x d := by
  induction h with
  | q h => exact .q (h.same s)
  | dn kvs e h => exact .dn kvs (s _ _ e) fun p hp => (h p hp).same s
  | tup ps e _ ih => exact .tup ps (sameT s e) ih
section
variable {X : Cx} {pins : List (Addr × Obj)} {σ : L2.St} {H : Hp} {s : Shared}
theorem key_reads {h : Heap} {P : Program} {w : World} {k : Key} {v : Value} (e : (mixKind P w).is k v = true) : Reads h v (keyD k) [] := by
  have r : RelV (kV k) v := keyIs_rel e
  cases k with
  | inl i =>
    obtain ⟨t, rfl⟩ := r
    exact .int i t
  | inr x =>
    obtain ⟨t, rfl⟩ := r
    exact .str x t
theorem entries_read (I : Inv X pins σ H s) (sm : ∃ mm, X.base.Ns sysModules mm) : ∀ {kvs : List (Key × V × PyData)} {vs : List (Key × Value)} {es : List DictEntry}, KV (kvs.map fun e => (e.1, e.2.1)) vs → Pairs (mixKind X.prog X.w) es vs → (∀ e ∈ kvs, Dq X.K H e.2.1 e.2.2) →
    ReadsAll s.heap (es.map (·.key)) (kvs.map fun e => keyD e.1) [] ∧ ∃ bs, ReadsAll s.heap (es.map (·.val)) (kvs.map fun e => e.2.2) bs ∧ sysModules ∉ bs
  | [], _, _, r, p, _ => by
    cases r
    cases p
    exact ⟨.nil, _, .nil, by simp⟩
  | e :: kvs, _, _, r, p, h => by
    cases r with
    | @cons _ b _ _ k1 k2 =>
      cases p with
      | cons p1 p2 p3 =>
        obtain ⟨q1, bs, q2, q3⟩ := entries_read I sm k2 p3 fun x hx => h x (List.mem_cons_of_mem _ hx)
        obtain ⟨e1, e2⟩ := k1
        obtain ⟨as, r1, n1⟩ := (h e List.mem_cons_self).reads I sm _ e2
        rw [← e1] at p1
        have rk := key_reads (h := s.heap) p1
        refine ⟨ReadsAll.cons rk q1, _, .cons (by show Reads s.heap (DictEntry.val _) _ _; rw [p2]; exact r1) q2, fun z => ?_⟩
        cases List.mem_append.mp z with
        | inl z => exact n1 z
        | inr z => exact q3 z
theorem Dr.reads (I : Inv X pins σ H s) (sm : ∃ mm, X.base.Ns sysModules mm) {x : V} {d : PyData} (h : Dr X.K H x d) : ∀ u, RelV x u → ∃ as, Reads s.heap u d as ∧ sysModules ∉ as := by
  induction h with
  | q h => exact h.reads I sm
  | @dn a kvs e h =>
    intro u r
    cases r
    obtain ⟨_, ns, vs, kv, o, es, ep, ho, hc, hd, _, pr, _⟩ := (show ObjOk X.prog X.w H s.heap a (.dK (kvs.map fun e => (e.1, e.2.1))) from I.hok a _ e)
    obtain ⟨q1, bs, q2, q3⟩ := entries_read I sm kv pr h
    have ek : (kvs.map fun e => (keyD e.1, e.2.2)).map (·.1) = kvs.map fun e => keyD e.1 := by rw [List.map_map]; rfl
    have ev : (kvs.map fun e => (keyD e.1, e.2.2)).map (·.2) = kvs.map fun e => e.2.2 := by rw [List.map_map]; rfl
    refine ⟨_, Reads.dict ho hc.1 hd (by rw [ek]; exact q1) (by rw [ev]; exact q2), ?_⟩
    have ne : a ≠ sysModules := by
      intro z
      rw [z] at ns
      exact absurd ns (by decide)
    intro z
    cases List.mem_append.mp z with
    | inl z => exact ne (List.mem_singleton.mp z).symm
    | inr z => exact q3 z
  | @tup a ps e _ ih =>
    intro u r
    cases r
    obtain ⟨its, rv, ⟨o, ho, hc, n, hd⟩, _⟩ := I.tuple e
    obtain ⟨as, hr, na⟩ := readsAll_of ih rv
    exact ⟨_, .tuple ho hc hd hr, na⟩
end
/-- repr of a tuple of such -/
def rRz (K : PySem.W.Frag) : List V → Hp → VK → Prop := fun xs H Q => ∃ x d, xs = [x] ∧ Dr K H x d ∧ isDisplay d = true ∧ d.showable = true ∧ d.depth < 60 ∧ d.shown.length ≤ sizeLine ∧ Q (.str d.shown) H
theorem call_reprZ {X : Cx} {K : PySem.W.Frag} (hK : X.K = K) (ng : X.A.guards = some []) (hu : X.A.units + 64 < cLine) (sm : ∃ mm, X.base.Ns sysModules mm) : CallR X (.builtin "repr") (rRz K) := by
  subst hK
  intro pins s σ H xs us Q I r h
  obtain ⟨x, d, rfl, dp, dis, sho, dep, len, q⟩ := h
  obtain ⟨u0, rfl, r1⟩ := vals1 r
  obtain ⟨as, rd, no⟩ := dp.reads I sm _ r1
  obtain ⟨a, rfl⟩ := isRef_of_reads rd dis
  apply repr_of_reads' rd sho (fun _ => no) ng (by omega) (fun _ _ e => e) _ len
  intro h' u tk kp
  exact ⟨.str d.shown, H, I.kept (h' := h') (t' := tk) kp, ⟨u, rfl⟩, q⟩
end Xm
set_option Elab.async false
set_option linter.all false
set_option maxRecDepth 100000
set_option maxHeartbeats 4000000
/-! k21: things that are shown in short texts -/
namespace K21
open PySem PySem.Spec PyProof.Rows L2 Bs Xg TL Xk Xl K02 Xm
def Sh (d : PyData) (w k : Nat) : Prop := d.leavesShort 13 = true ∧ d.showable = true ∧ d.depth ≤ k ∧ d.weight ≤ w
theorem Sh.up {d : PyData} {w k w' k' : Nat} (h : Sh d w k) (a : w ≤ w') (b : k ≤ k') : Sh d w' k' := ⟨h.1, h.2.1, Nat.le_trans h.2.2.1 b, Nat.le_trans h.2.2.2 a⟩
theorem sh_non : Sh .none 1 1 := ⟨rfl, rfl, by simp [PyData.depth], by simp [PyData.weight]⟩
theorem sh_int {i : Int} (h : i.natAbs < 10 ^ 12) : Sh (.int i) 41 1 := by
  refine ⟨?_, ?_, by simp [PyData.depth], ?_⟩
  · simp only [PyData.leavesShort, decide_eq_true_eq]
    exact PyData.shown_int_le h
  · exact (cell_int h).2.1
  · simp only [PyData.weight]
    by_cases z : i = 0
    · rw [if_pos (by simpa using z)]
      decide
    · rw [if_neg (by simpa using z)]
      have nz : i.natAbs ≠ 0 := by omega
      have : i.natAbs.log2 < 40 := (Nat.log2_lt nz).mpr (Nat.lt_of_lt_of_le h (by decide))
      omega
theorem sh_str {L : Nat} {z : Str} (h : Good L z) : Sh (.str z) (L + 1) 1 := by
  refine ⟨?_, by simp [PyData.showable], by simp [PyData.depth], ?_⟩
  · simp only [PyData.leavesShort, List.all_eq_true, decide_eq_true_eq]
    intro c hc
    have := (h.2 c hc).2
    omega
  · have : z.cps.size ≤ L := h.1
    simp only [PyData.weight]
    omega
theorem sh_all {w k : Nat} : ∀ {xs : List PyData}, (∀ x ∈ xs, Sh x w k) → PyData.leavesShortAll 13 xs = true ∧ PyData.showableAll xs = true ∧ PyData.depthAll xs ≤ k ∧ PyData.weightAll xs ≤ xs.length * (w + 1)
  | [], _ => ⟨rfl, rfl, by simp [PyData.depthAll], by simp [PyData.weightAll]⟩
  | x :: xs, h => by
    obtain ⟨a, b, c, d⟩ := sh_all (xs := xs) fun y hy => h y (List.mem_cons_of_mem _ hy)
    obtain ⟨a', b', c', d'⟩ := h x List.mem_cons_self
    refine ⟨?_, ?_, ?_, ?_⟩
    · simp only [PyData.leavesShortAll, a, a']
      rfl
    · simp only [PyData.showableAll, b, b']
      rfl
    · simp only [PyData.depthAll]
      exact Nat.max_le.mpr ⟨c', c⟩
    · simp only [PyData.weightAll, List.length_cons, Nat.add_mul]
      omega
theorem sh_tuple {w k n : Nat} {xs : List PyData} (h : ∀ x ∈ xs, Sh x w k) (l : xs.length ≤ n) : Sh (.tuple xs) (n * (w + 1) + 1) (k + 1) := by
  obtain ⟨a, b, c, d⟩ := sh_all h
  have m : xs.length * (w + 1) ≤ n * (w + 1) := Nat.mul_le_mul_right _ l
  refine ⟨?_, ?_, ?_, ?_⟩
  · simp only [PyData.leavesShort, a]
  · simp only [PyData.showable, b]
  · simp only [PyData.depth]
    omega
  · simp only [PyData.weight]
    omega
theorem sh_kv {w k : Nat} : ∀ {kvs : List (PyData × PyData)}, (∀ x ∈ kvs, Sh x.1 w k ∧ Sh x.2 w k) → PyData.leavesShortKv 13 kvs = true ∧ PyData.showableKv kvs = true ∧ PyData.depthKv kvs ≤ k ∧ PyData.weightKv kvs ≤ kvs.length * (2 * w + 2)
  | [], _ => ⟨rfl, rfl, by simp [PyData.depthKv], by simp [PyData.weightKv]⟩
  | (x, y) :: xs, h => by
    obtain ⟨a, b, c, d⟩ := sh_kv (kvs := xs) fun y hy => h y (List.mem_cons_of_mem _ hy)
    obtain ⟨⟨a', b', c', d'⟩, ⟨a2, b2, c2, d2⟩⟩ := h (x, y) List.mem_cons_self
    refine ⟨?_, ?_, ?_, ?_⟩
    · simp only [PyData.leavesShortKv, a, a', a2]
      rfl
    · simp only [PyData.showableKv, b, b', b2]
      rfl
    · simp only [PyData.depthKv]
      dsimp only at c' c2
      omega
    · simp only [PyData.weightKv, List.length_cons, Nat.add_mul]
      dsimp only at d' d2
      omega
theorem sh_dict {w k n : Nat} {kvs : List (PyData × PyData)} (h : ∀ x ∈ kvs, Sh x.1 w k ∧ Sh x.2 w k) (l : kvs.length ≤ n) : Sh (.dict kvs) (n * (2 * w + 2) + 1) (k + 1) := by
  obtain ⟨a, b, c, d⟩ := sh_kv h
  have m : kvs.length * (2 * w + 2) ≤ n * (2 * w + 2) := Nat.mul_le_mul_right _ l
  refine ⟨?_, ?_, ?_, ?_⟩
  · simp only [PyData.leavesShort, a]
  · simp only [PyData.showable, b]
  · simp only [PyData.depth]
    omega
  · simp only [PyData.weight]
    omega
/-- a small worth -/
def CellS (v : V) : Prop := v = .non ∨ (∃ i : Int, v = .int i ∧ i.natAbs < 10 ^ 12) ∨ ∃ z, v = .str z ∧ Good 60 z
theorem CellS.ok {v : V} (h : CellS v) : CellOk v := by
  rcases h with rfl | ⟨i, rfl, q⟩ | ⟨z, rfl, q⟩
  · exact cell_non
  · exact cell_int q
  · exact cell_str (q.le (by decide))
theorem CellS.sh {v : V} (h : CellS v) : Sh (cellD v) 61 1 := by
  rcases h with rfl | ⟨i, rfl, q⟩ | ⟨z, rfl, q⟩
  · exact sh_non.up (by decide) (by decide)
  · exact (sh_int q).up (by decide) (by decide)
  · exact sh_str q
theorem cs_os {x : Option Str} (h : ∀ z, x = some z → Good 60 z) : CellS (os x) := by
  cases x with
  | none => exact .inl rfl
  | some z => exact .inr (.inr ⟨z, rfl, h z rfl⟩)
theorem cs_str {z : Str} (h : Good 60 z) : CellS (.str z) := .inr (.inr ⟨z, rfl, h⟩)
theorem cs_int {i : Int} (h : i.natAbs < 10 ^ 12) : CellS (.int i) := .inr (.inl ⟨i, rfl, h⟩)
/-- tuples of small worths, so deep -/
def Nest (H : Hp) : Nat → V → Prop
  | 0, v => CellS v
  | k + 1, v => CellS v ∨ ∃ (a : Addr) (xs : List V), v = .ref a ∧ H a = some (.tup xs) ∧ xs.length ≤ 10 ∧ ∀ x ∈ xs, Nest H k x
theorem Nest.cell {H : Hp} {v : V} (h : CellS v) : ∀ k, Nest H k v
  | 0 => h
  | _ + 1 => .inl h
theorem Nest.tup {H : Hp} {k : Nat} {a : Addr} {xs : List V} (e : H a = some (.tup xs)) (l : xs.length ≤ 10) (h : ∀ x ∈ xs, Nest H k x) : Nest H (k + 1) (.ref a) := .inr ⟨a, xs, rfl, e, l, h⟩
theorem Nest.mono {H H' : Hp} (s : ∀ a xs, H a = some (.tup xs) → H' a = some (.tup xs)) : ∀ {k : Nat} {v : V}, Nest H k v → Nest H' k v
  | 0, _, h => h
  | k + 1, _, .inl h => .inl h
  | k + 1, _, .inr ⟨a, xs, e, h1, l, h2⟩ => .inr ⟨a, xs, e, s _ _ h1, l, fun x hx => Nest.mono s (h2 x hx)⟩
def wN : Nat → Nat
  | 0 => 61
  | k + 1 => 10 * (wN k + 1) + 1
theorem wN_le : ∀ k, 61 ≤ wN k
  | 0 => Nat.le_refl _
  | k + 1 => by
    have := wN_le k
    show 61 ≤ 10 * (wN k + 1) + 1
    omega
theorem cell_dr {K : PySem.W.Frag} {H : Hp} {v : V} (h : CellS v) : Dr K H v (cellD v) := .q (dq_cell h.ok).1
theorem drs_of {K : PySem.W.Frag} {H : Hp} {w k : Nat} : ∀ {xs : List V}, (∀ x ∈ xs, ∃ d, Dr K H x d ∧ Sh d w k) → ∃ ps : List (V × PyData), xs = ps.map (·.1) ∧ ∀ p ∈ ps, Dr K H p.1 p.2 ∧ Sh p.2 w k
  | [], _ => ⟨[], rfl, fun p hp => by cases hp⟩
  | x :: xs, h => by
    obtain ⟨ps, e, hp⟩ := drs_of (xs := xs) fun y hy => h y (List.mem_cons_of_mem _ hy)
    obtain ⟨d, h1, h2⟩ := h x List.mem_cons_self
    exact ⟨(x, d) :: ps, by rw [e]; rfl, fun p hp' => by
      rcases List.mem_cons.mp hp' with rfl | q
      · exact ⟨h1, h2⟩
      · exact hp p q⟩
theorem Nest.dr {K : PySem.W.Frag} {H : Hp} : ∀ {k : Nat} {v : V}, Nest H k v → ∃ d, Dr K H v d ∧ Sh d (wN k) (k + 1)
  | 0, v, h => ⟨cellD v, cell_dr h, (CellS.sh h).up (wN_le 0) (by omega)⟩
  | k + 1, v, .inl h => ⟨cellD v, cell_dr h, (CellS.sh h).up (wN_le _) (by omega)⟩
  | k + 1, _, .inr ⟨a, xs, rfl, h1, l, h2⟩ => by
    obtain ⟨ps, e, hp⟩ := drs_of fun x hx => Nest.dr (h2 x hx)
    subst e
    refine ⟨.tuple (ps.map (·.2)), .tup ps (SqT.of h1) fun p hp' => (hp p hp').1, sh_tuple (fun d hd => ?_) (by rw [List.length_map]; rw [List.length_map] at l; exact l)⟩
    obtain ⟨p, hp', rfl⟩ := List.mem_map.mp hd
    exact (hp p hp').2
/-- a row of small worths by texts -/
def RowS (row : List (Key × V)) : Prop := row.length ≤ 10 ∧ ∀ kv ∈ row, (∃ c, kv.1 = tk c ∧ Good 10 c) ∧ CellS kv.2
theorem RowS.dr {K : PySem.W.Frag} {H : Hp} {r : Addr} {row : List (Key × V)} (h : RowS row) (e : H r = some (.dK row)) : ∃ d, Dr K H (.ref r) d ∧ Sh d 2000 2 := by
  have m : (row.map fun kv => (kv.1, kv.2, cellD kv.2)).map (fun e => (e.1, e.2.1)) = row := by
    rw [List.map_map]
    exact (List.map_congr_left fun a _ => rfl).trans (List.map_id _)
  refine ⟨_, .dn (row.map fun kv => (kv.1, kv.2, cellD kv.2)) (by rw [m]; exact e) fun p hp => ?_, (sh_dict (w := 61) (k := 1) (n := 10) (fun x hx => ?_) (by rw [List.length_map, List.length_map]; exact h.1)).up (by decide) (by decide)⟩
  · obtain ⟨kv, hk, rfl⟩ := List.mem_map.mp hp
    exact (dq_cell (h.2 kv hk).2.ok).1
  · obtain ⟨p, hp, rfl⟩ := List.mem_map.mp hx
    obtain ⟨kv, hk, rfl⟩ := List.mem_map.mp hp
    obtain ⟨⟨c, ec, gc⟩, cs⟩ := h.2 kv hk
    refine ⟨?_, cs.sh⟩
    show Sh (keyD kv.1) 61 1
    rw [ec]
    exact (sh_str gc).up (by decide) (by decide)
/-- what the law shows: a step and a row -/
theorem shown_pair {K : PySem.W.Frag} {H : Hp} {q r : Addr} {xs : List V} {row : List (Key × V)} (hq : H q = some (.tup xs)) (lx : xs.length ≤ 10) (hx : ∀ x ∈ xs, Nest H 2 x) (hr : H r = some (.dK row)) (rs : RowS row) :
    ∃ d, (∀ H' p, Same H H' → H' p = some (.tup [.ref q, .ref r]) → Dr K H' (.ref p) d) ∧ isDisplay d = true ∧ d.showable = true ∧ d.depth < 60 ∧ d.shown.length ≤ sizeLine := by
  obtain ⟨d1, r1, s1⟩ := Nest.dr (K := K) (Nest.tup hq lx hx)
  obtain ⟨d2, r2, s2⟩ := rs.dr (K := K) hr
  have s : Sh (.tuple [d1, d2]) (2 * (wN 3 + 1) + 1) 5 := sh_tuple (w := wN 3) (k := 4) (n := 2) (fun d hd => by
    rcases List.mem_cons.mp hd with rfl | hd
    · exact s1
    · rw [List.mem_singleton.mp hd]
      exact s2.up (by decide) (by decide)) (by simp)
  refine ⟨.tuple [d1, d2], fun H' p sm hp => (Dr.tup [(.ref q, d1), (.ref r, d2)] (SqT.of hp) fun x hx => ?_), rfl, s.2.1, Nat.lt_of_le_of_lt s.2.2.1 (by decide), PyData.shown_fits (by decide) (by decide) s.1 (Nat.le_trans s.2.2.2 (by decide))⟩
  rcases List.mem_cons.mp hx with rfl | hx
  · exact r1.same sm
  · rw [List.mem_singleton.mp hx]
    exact r2.same sm
end K21
set_option Elab.async false
set_option linter.all false
set_option pp.maxSteps 4000
set_option maxRecDepth 100000
set_option maxHeartbeats 4000000
/-! k21: a case drawn -/
namespace K21
open PySem PySem.Spec PyProof.Rows L2 Bs Xg TL Xk Xl K02 LamX Xn Xm
structure Cs (K : PySem.W.Frag) (mg : Str → Option Value) (fLTx fLFo fLNd fLNe fLSp fLCa : Addr) (dLTx dLFo dLNd dLNe dLSp dLCa : FuncData) : Prop where
  LTx : Fun K "_law_text" "_law_text" sLTx fLTx dLTx
  bLTx : Binds K dLTx ["_law_hand_here", "_law_sign"] []
  gLTx : mg "_law_text" = some (.ref fLTx)
  LFo : Fun K "_law_form" "_law_form" sLFo fLFo dLFo
  bLFo : Binds K dLFo ["_law_hand_here"] []
  gLFo : mg "_law_form" = some (.ref fLFo)
  LNd : Fun K "_law_near_day" "_law_near_day" sLNd fLNd dLNd
  bLNd : Binds K dLNd ["_law_hand_here", "_law_order"] []
  gLNd : mg "_law_near_day" = some (.ref fLNd)
  LNe : Fun K "_law_near" "_law_near" sLNe fLNe dLNe
  bLNe : Binds K dLNe ["_law_hand_here", "_law_form_here"] []
  gLNe : mg "_law_near" = some (.ref fLNe)
  LSp : Fun K "_law_spelled" "_law_spelled" sLSp fLSp dLSp
  bLSp : Binds K dLSp ["_law_hand_here", "_law_name", "_law_column", "_law_own"] []
  gLSp : mg "_law_spelled" = some (.ref fLSp)
  LCa : Fun K "_law_case" "_law_case" sLCa fLCa dLCa
  bLCa : Binds K dLCa ["_law_hand_here", "_law_lot"] []
  gLCa : mg "_law_case" = some (.ref fLCa)
/-- a case drawn: a step and a row -/
def CaseAt (K : PySem.W.Frag) (Pt h : Addr) (n : Nat) (H H' : Hp) (p : Addr) : Prop := ∃ (q r : Addr) (a : V) (row : List (Key × V)) (dd : Deed), H' p = some (.tup [.ref q, .ref r]) ∧ H' q = some (.tup (dd.items a)) ∧ (∀ x ∈ dd.items a, Nest H' 2 x) ∧ H' r = some (.dK row) ∧ RowS row ∧ dd.ok K H' row ∧ dd.fit row ∧
  HandAt H' h (n + 40) ∧ ButN h H H' ∧ Tabs (tabsL Pt) H'
def spLCa (K : PySem.W.Frag) (Pt : Addr) : Sp := fun vs H Q _ => ∃ (h : Addr) (n lot : Nat), vs = [.ref h, .int (lot : Int)] ∧ lot < 9 ∧ HandAt H h n ∧ n < 900000 ∧ Tabs (tabsL Pt) H ∧ ∀ p H', CaseAt K Pt h n H H' p → Q (.ref p) H'
def NumS (v : V) : Prop := v = .non ∨ ∃ i : Int, v = .int i ∧ i.natAbs < 10 ^ 12
theorem NumS.cell {v : V} (h : NumS v) : CellS v := h.elim .inl fun ⟨i, e, q⟩ => .inr (.inl ⟨i, e, q⟩)
abbrev row4 (x1 x2 : Option Str) (v3 v4 : V) : List (Key × V) := [(ky "ta", os x1), (ky "tb", os x2), (ky "na", v3), (ky "nb", v4)]
theorem lot_no {lot : Nat} {i : Int} (h : (lot : Int) ≠ i) : ¬ V.int (lot : Int) = V.int i := fun z => h (by cases z; rfl)
theorem k_ab : ¬ ky "ta" = ky "tb" := by decide +kernel
theorem k_an : ¬ ky "ta" = ky "na" := by decide +kernel
theorem k_am : ¬ ky "ta" = ky "nb" := by decide +kernel
theorem k_bn : ¬ ky "tb" = ky "na" := by decide +kernel
theorem k_bm : ¬ ky "tb" = ky "nb" := by decide +kernel
theorem k_nm : ¬ ky "na" = ky "nb" := by decide +kernel
theorem kv3 {a b c : V} : valV [(ky "ta", a), (ky "tb", b), (ky "na", c)] (ky "na") = some c := (valV_neg (p := (ky "ta", a)) k_an).trans ((valV_neg (p := (ky "tb", b)) k_bn).trans (valV_pos rfl))
theorem put_nb {x1 x2 : Option Str} {v3 v4 : V} : putK [(ky "ta", os x1), (ky "tb", os x2), (ky "na", v3)] (ky "nb") v4 = row4 x1 x2 v3 v4 := putK_new (show ky "nb" ∉ [ky "ta", ky "tb", ky "na"] by
  simp [Ne.symm k_am, Ne.symm k_bm, Ne.symm k_nm])
theorem kv4 {x1 x2 : Option Str} {v3 v4 : V} : valV (row4 x1 x2 v3 v4) (ky "ta") = some (os x1) ∧ valV (row4 x1 x2 v3 v4) (ky "tb") = some (os x2) ∧ valV (row4 x1 x2 v3 v4) (ky "na") = some v3 ∧ valV (row4 x1 x2 v3 v4) (ky "nb") = some v4 :=
  ⟨valV_pos rfl, (valV_neg (p := (ky "ta", os x1)) k_ab).trans (valV_pos rfl), (valV_neg (p := (ky "ta", os x1)) k_an).trans ((valV_neg (p := (ky "tb", os x2)) k_bn).trans (valV_pos rfl)), (valV_neg (p := (ky "ta", os x1)) k_am).trans ((valV_neg (p := (ky "tb", os x2)) k_bm).trans ((valV_neg (p := (ky "na", v3)) k_nm).trans (valV_pos rfl)))⟩
theorem rowV_of {row : List (Key × V)} {c : Str} {v : V} (e : valV row (tk c) = some v) : rowV row c = v := by
  unfold rowV
  rw [e]
  rfl
theorem txt_os (x : Option Str) : txt (os x) = x := by cases x <;> rfl
theorem text_of {row : List (Key × V)} {c : Str} {x : Option Str} (e : valV row (tk c) = some (os x)) (g : ∀ z, x = some z → Good 40 z) : TextCol row c ∧ (∀ z, txt (rowV row c) = some z → Good 60 z) := by
  refine ⟨⟨x, e, fun z h => Nat.le_trans (g z h).1 (by decide), fun z h => (g z h).ok⟩, fun z h => ?_⟩
  rw [rowV_of e, txt_os] at h
  exact (g z h).le (by decide)
theorem row4_s {x1 x2 : Option Str} {v3 v4 : V} (g1 : ∀ z, x1 = some z → Good 40 z) (g2 : ∀ z, x2 = some z → Good 40 z) (n3 : NumS v3) (n4 : NumS v4) : RowS (row4 x1 x2 v3 v4) := by
  refine ⟨(show 4 ≤ 10 by decide), fun kv hk => ?_⟩
  simp only [List.mem_cons, List.not_mem_nil, or_false] at hk
  rcases hk with rfl | rfl | rfl | rfl
  · exact ⟨⟨_, rfl, by constructor <;> decide +kernel⟩, cs_os fun z e => (g1 z e).le (by decide)⟩
  · exact ⟨⟨_, rfl, by constructor <;> decide +kernel⟩, cs_os fun z e => (g2 z e).le (by decide)⟩
  · exact ⟨⟨_, rfl, by constructor <;> decide +kernel⟩, n3.cell⟩
  · exact ⟨⟨_, rfl, by constructor <;> decide +kernel⟩, n4.cell⟩
theorem s_ab : ¬ Str.ofString "ta" = Str.ofString "tb" := by decide +kernel
theorem s_ba : ¬ Str.ofString "tb" = Str.ofString "ta" := by decide +kernel
theorem s_na : ¬ Str.ofString "na" = Str.ofString "ta" := by decide +kernel
theorem s_ma : ¬ Str.ofString "nb" = Str.ofString "ta" := by decide +kernel
theorem s_nb : ¬ Str.ofString "na" = Str.ofString "tb" := by decide +kernel
theorem s_mb : ¬ Str.ofString "nb" = Str.ofString "tb" := by decide +kernel
theorem col_of {x1 x2 : Option Str} {v3 v4 : V} (g1 : ∀ z, x1 = some z → Good 40 z) (g2 : ∀ z, x2 = some z → Good 40 z) {col : Str} (h : col = Str.ofString "ta" ∨ col = Str.ofString "tb") :
    ∃ x, valV (row4 x1 x2 v3 v4) (tk col) = some (os x) ∧ (∀ z, x = some z → Good 40 z) ∧ ∀ x' : Option Str, (∀ z, x' = some z → Good 40 z) → ∃ y1 y2, putK (row4 x1 x2 v3 v4) (tk col) (os x') = row4 y1 y2 v3 v4 ∧ (∀ z, y1 = some z → Good 40 z) ∧ (∀ z, y2 = some z → Good 40 z) ∧ valV (row4 y1 y2 v3 v4) (tk col) = some (os x') := by
  rcases h with rfl | rfl
  · exact ⟨x1, kv4.1, g1, fun x' g' => ⟨x', x2, by unfold putK; simp [tk, ky, s_ba, s_na, s_ma], g', g2, kv4.1⟩⟩
  · exact ⟨x2, kv4.2.1, g2, fun x' g' => ⟨x1, x', by unfold putK; simp [tk, ky, s_ab, s_nb, s_mb], g1, g', kv4.2.1⟩⟩
theorem lk_num {v : V} (h : NumS v) (i j : Int) : v = .non ∨ (like (.int i) v ∧ like v (.int j)) := by
  rcases h with rfl | ⟨k, rfl, _⟩
  · exact .inl rfl
  · exact .inr ⟨trivial, trivial⟩
theorem lk_txt (x : Option Str) (a b : Str) : os x = .non ∨ (like (.str a) (os x) ∧ like (os x) (.str b)) := by
  cases x with
  | none => exact .inl rfl
  | some z => exact .inr ⟨trivial, trivial⟩
theorem lb_num {v u : V} (h : NumS v) (g : NumS u) : v = .non ∨ u = .non ∨ like v u := by
  rcases h with rfl | ⟨k, rfl, _⟩
  · exact .inl rfl
  · rcases g with rfl | ⟨k, rfl, _⟩
    · exact .inr (.inl rfl)
    · exact .inr (.inr trivial)
theorem lb_txt (x y : Option Str) : os x = .non ∨ os y = .non ∨ like (os x) (os y) := by
  cases x with
  | none => exact .inl rfl
  | some z => cases y with
    | none => exact .inr (.inl rfl)
    | some u => exact .inr (.inr trivial)
theorem fl_num {v : V} (h : NumS v) : flatV v = true := by rcases h with rfl | ⟨k, rfl, _⟩ <;> rfl
theorem fl_txt (x : Option Str) : flatV (os x) = true := by cases x <;> rfl
theorem lst_tup {H : Hp} {h p : Addr} {n : Nat} {xs : List V} (a : HandAt H h n) (e : H p = some (.tup xs)) : p ≠ h := by
  obtain ⟨g, t, c, e1, _⟩ := a
  intro z
  rw [z, e1] at e
  cases e
section
variable {P : Program} {w : World} {K : PySem.W.Frag} {mg : Str → Option Value} {base : Heap} {fTk fOf : Addr} {dTk dOf : FuncData} {fLTx fLFo fLNd fLNe fLSp fLCa : Addr} {dLTx dLFo dLNd dLNe dLSp dLCa : FuncData}
theorem ok_lcase {c Pt : Addr} (C : Cs K mg fLTx fLFo fLNd fLNe fLSp fLCa dLTx dLFo dLNd dLNe dLSp dLCa) (hc : dLSp.code = .ref c) (TB : TabB base mg c Pt) (T : Free mg) (W : Drw K mg fTk fOf dTk dOf) : FnOk P w K mg base CX0 5 fLCa dLCa ["_law_hand_here", "_law_lot"] (spLCa K Pt) := by
  have GTk : FnOk P w K mg base CX0 1 fTk dTk ["_law_hand_here", "_law_many"] spTake := ok_take W.Tk
  have GOf : FnOk P w K mg base CX0 2 fOf dOf ["_law_hand_here", "_law_some"] (spPick K) := ok_of W.Of T W.Tk W.bTk W.gTk
  have GLTx : FnOk P w K mg base CX0 3 fLTx dLTx ["_law_hand_here", "_law_sign"] spLTx := ok_ltext C.LTx T W
  have GLFo : FnOk P w K mg base CX0 3 fLFo dLFo ["_law_hand_here"] (spLFo K) := ok_lform C.LFo T W
  have GLNe : FnOk P w K mg base CX0 4 fLNe dLNe ["_law_hand_here", "_law_form_here"] (spLNe K) := ok_lnear C.LNe T W C.LNd C.bLNd C.gLNd
  have GLSp : FnOk P w K mg base CX0 4 fLSp dLSp ["_law_hand_here", "_law_name", "_law_column", "_law_own"] (spLSp Pt) := ok_lspelled C.LSp hc TB T W
  obtain ⟨FLTx, bLTx, gLTx, FLFo, bLFo, gLFo, _, _, _, FLNe, bLNe, gLNe, FLSp, bLSp, gLSp, F, _, _⟩ := C
  have FTk := W.Tk
  have bTk := W.bTk
  have gTk := W.gTk
  have FOf := W.Of
  have bOf := W.bOf
  have gOf := W.gOf
  refine F.ok scLCa (fun vs H Q E h => ?_) (fun cdv A outer s H vs Q E hr h => ?_)
  · obtain ⟨h, n, lot, rfl, _⟩ := h
    rfl
  · obtain ⟨h, n, lot, rfl, l9, hd, nb, tabs, q⟩ := h
    refine ⟨_, pss_cons (ps_set (i := 2) scLCa.nd rfl (Or.inl rfl) (pe_disp (pps_cons pe_str (pe_call GLTx (hr.mono (by decide)) (by rfl) gLTx FLTx.kp bLTx .nil pass0 (pa_cons (pv 0) (pa_cons pe_str pa_nil))) (pps_cons pe_str (pe_call GLTx (hr.mono (by decide)) (by rfl) gLTx FLTx.kp bLTx .nil pass0 (pa_cons (pv 0) (pa_cons pe_str pa_nil))) (pps_cons pe_str (pe_call GOf (hr.mono (by decide)) (by rfl) gOf FOf.kp bOf .nil pass0 (pa_cons (pv 0) (pa_cons (pe_lst (pa_cons pe_non (pa_cons pe_int (pa_cons pe_int (pa_cons (pe_un un_neg pe_int) (pa_cons (pe_op op_powX pe_int pe_int) pa_nil)))))) pa_nil))) pps_nil))) (by rfl) (by rfl) (fun z => by cases z) (by decide)))
      (pss_cons (ps_dput (u1 hr.units) (pv 2) pe_str (pe_call GOf (hr.mono (by decide)) (by rfl) gOf FOf.kp bOf .nil pass0 (pa_cons (pv 0) (pa_cons (pe_lst (pa_cons pe_non (pa_cons pe_int (pa_cons pe_int (pa_cons (pe_dget (u1 hr.units) (pv 2) pe_str (fun _ _ => rfl)) pa_nil))))) pa_nil))) rfl)
      (pss_cons (ps_par (i := 3) (j := 4) rfl scLCa.nd rfl rfl (by decide) rfl rfl (pa_cons (pe_call GOf (hr.mono (by decide)) (by rfl) gOf FOf.kp bOf .nil pass0 (pa_cons (pv 0) (pa_cons (pe_lst (pa_cons pe_str (pa_cons pe_str pa_nil))) pa_nil))) (pa_cons (pe_call GOf (hr.mono (by decide)) (by rfl) gOf FOf.kp bOf .nil pass0 (pa_cons (pv 0) (pa_cons (pe_lst (pa_cons pe_str (pa_cons pe_str (pa_cons pe_str (pa_cons pe_str (pa_cons pe_str pa_nil)))))) pa_nil))) pa_nil)) (by rfl))
      (pss_cons (ps_set (i := 5) scLCa.nd rfl (Or.inl rfl) (pe_call GOf (hr.mono (by decide)) (by rfl) gOf FOf.kp bOf .nil pass0 (pa_cons (pv 0) (pa_cons (pe_lst (pa_cons pe_str (pa_cons pe_str (pa_cons pe_str pa_nil)))) pa_nil))))
      (pss_cons (ps_if (pt_cmpR op_eq (pv 1) pe_int (nomark _)) (pss_one (ps_ret (pe_tup (pa_cons (pe_tup (pa_cons (pv 5) (pa_cons pe_str (pa_cons (pv 3) (pa_cons (pv 4) (pa_cons (pe_slice sl_tupA (pe_tup (pa_cons pe_str (pa_cons pe_str (pa_cons pe_str (pa_cons pe_str pa_nil))))) po_none (po_some (pe_op op_add pe_int (pe_call GTk (hr.mono (by decide)) (by rfl) gTk FTk.kp bTk .nil pass0 (pa_cons (pv 0) (pa_cons pe_int pa_nil)))))) pa_nil)))))) (pa_cons (pv 2) pa_nil))))) (pss_nil))
      (pss_cons (ps_if (pt_cmpR op_eq (pv 1) pe_int (nomark _)) (pss_cons (ps_set (i := 6) scLCa.nd rfl (Or.inl rfl) (pe_lst (pa_cons (pe_tup (pa_cons pe_str pa_nil)) (pa_cons (pe_tup (pa_cons pe_str (pa_cons pe_str pa_nil))) (pa_cons (pe_tup (pa_cons pe_str (pa_cons pe_str (pa_cons pe_str pa_nil)))) (pa_cons (pe_tup (pa_cons pe_str (pa_cons pe_str (pa_cons pe_str (pa_cons pe_str pa_nil))))) pa_nil))))))
      (pss_one (ps_ret (pe_tup (pa_cons (pe_tup (pa_cons (pv 5) (pa_cons pe_str (pa_cons (pe_call GOf (hr.mono (by decide)) (by rfl) gOf FOf.kp bOf .nil pass0 (pa_cons (pv 0) (pa_cons (pv 6) pa_nil))) (pa_cons (pv 4) (pa_cons pe_str pa_nil)))))) (pa_cons (pv 2) pa_nil)))))) (pss_nil))
      (pss_cons (ps_if (pt_cmpR op_eq (pv 1) pe_int (nomark _)) (pss_one (ps_ret (pe_tup (pa_cons (pe_call GLSp (hr.mono (by decide)) (by rfl) gLSp FLSp.kp bLSp .nil pass0 (pa_cons (pv 0) (pa_cons (pv 5) (pa_cons (pv 3) (pa_cons (pe_dget (u1 hr.units) (pv 2) (pv 3) (fun _ _ => rfl)) pa_nil))))) (pa_cons (pv 2) pa_nil))))) (pss_nil))
      (pss_cons (ps_if (pt_cmpR op_eq (pv 1) pe_int (nomark _)) (pss_cons (ps_set (i := 7) scLCa.nd rfl (Or.inl rfl) (pe_call GLFo (hr.mono (by decide)) (by rfl) gLFo FLFo.kp bLFo .nil pass0 (pa_cons (pv 0) pa_nil)))
      (pss_cons (ps_set (i := 8) scLCa.nd rfl (Or.inl rfl) (pe_call GLNe (hr.mono (by decide)) (by rfl) gLNe FLNe.kp bLNe .nil pass0 (pa_cons (pv 0) (pa_cons (pv 7) pa_nil))))
      (pss_cons (ps_dput (u1 hr.units) (pv 2) (pv 3) (pe_ifExp (PW.pt (pw_and (pt_cmpR op_ne (pv 8) pe_str (nomark _)) (pw_and1 (pt_cmpR op_gt (pe_call GTk (hr.mono (by decide)) (by rfl) gTk FTk.kp bTk .nil pass0 (pa_cons (pv 0) (pa_cons pe_int pa_nil))) pe_int (nomark _))))) (pv 8) pe_non) rfl)
      (pss_one (ps_ret (pe_tup (pa_cons (pe_tup (pa_cons (pv 5) (pa_cons pe_str (pa_cons (pv 3) (pa_cons (pv 7) (pa_cons pe_str pa_nil)))))) (pa_cons (pv 2) pa_nil)))))))) (pss_nil))
      (pss_cons (ps_set (i := 9) scLCa.nd rfl (Or.inl rfl) (pe_lst (pa_cons (pe_lst (pa_cons (pe_tup (pa_cons pe_str (pa_cons pe_str pa_nil))) (pa_cons (pe_tup (pa_cons pe_str (pa_cons pe_int pa_nil))) (pa_cons (pe_tup (pa_cons pe_str (pa_cons (pe_un un_neg pe_int) pa_nil))) (pa_cons (pe_tup (pa_cons pe_str (pa_cons pe_str pa_nil))) pa_nil))))) (pa_cons (pe_lst (pa_cons (pe_tup (pa_cons pe_str pa_nil)) (pa_cons (pe_tup (pa_cons pe_str pa_nil)) (pa_cons (pe_tup (pa_cons pe_str pa_nil)) (pa_cons (pe_tup (pa_cons pe_str pa_nil)) pa_nil))))) pa_nil))))
      (pss_cons (ps_expr (pe_bm PySem.F.plainAttrs_list PySem.F.slot_list_append PySem.F.type_list_append mt_append (pv 9) (pa_cons (pe_lst (pa_cons (pe_tup (pa_cons pe_str (pa_cons pe_int (pa_cons pe_int pa_nil)))) (pa_cons (pe_tup (pa_cons pe_str (pa_cons pe_int (pa_cons pe_int pa_nil)))) (pa_cons (pe_tup (pa_cons pe_str (pa_cons (pe_un un_neg pe_int) (pa_cons (pe_op op_powX pe_int pe_int) pa_nil)))) (pa_cons (pe_tup (pa_cons pe_str (pa_cons pe_str (pa_cons pe_str pa_nil)))) (pa_cons (pe_tup (pa_cons pe_str (pa_cons pe_str (pa_cons pe_str pa_nil)))) (pa_cons (pe_tup (pa_cons pe_str (pa_cons pe_int (pa_cons pe_int pa_nil)))) pa_nil))))))) pa_nil)))
      (pss_cons (ps_expr (pe_bm PySem.F.plainAttrs_list PySem.F.slot_list_append PySem.F.type_list_append mt_append (pv 9) (pa_cons (pe_lst (pa_cons (pe_tup (pa_cons pe_str (pa_cons (pe_tup (pa_cons pe_str pa_nil)) pa_nil))) (pa_cons (pe_tup (pa_cons pe_str (pa_cons (pe_tup (pa_cons pe_str (pa_cons pe_str (pa_cons pe_str pa_nil)))) pa_nil))) (pa_cons (pe_tup (pa_cons pe_str (pa_cons (pe_tup (pa_cons pe_int (pa_cons pe_int pa_nil))) pa_nil))) (pa_cons (pe_tup (pa_cons pe_str (pa_cons (pe_tup (pa_cons pe_int pa_nil)) pa_nil))) pa_nil))))) pa_nil)))
      (pss_cons (ps_expr (pe_bm PySem.F.plainAttrs_list PySem.F.slot_list_append PySem.F.type_list_append mt_append (pv 9) (pa_cons (pe_lst (pa_cons (pe_tup (pa_cons pe_str (pa_cons pe_str pa_nil))) (pa_cons (pe_tup (pa_cons pe_str (pa_cons pe_str pa_nil))) (pa_cons (pe_tup (pa_cons pe_str (pa_cons pe_str pa_nil))) (pa_cons (pe_tup (pa_cons pe_str (pa_cons pe_str pa_nil))) pa_nil))))) pa_nil)))
      (pss_cons (ps_set (i := 10) scLCa.nd rfl (Or.inl rfl) (pe_ix ix_list (pe_lst (pa_cons pe_str (pa_cons pe_str (pa_cons pe_str (pa_cons pe_str (pa_cons pe_str pa_nil)))))) (pe_op op_sub (pv 1) pe_int) (fun _ _ => rfl)))
      (pss_one (ps_ret (pe_tup (pa_cons (pe_op op_catT (pe_tup (pa_cons (pv 5) (pa_cons (pv 10) pa_nil))) (pe_call GOf (hr.mono (by decide)) (by rfl) gOf FOf.kp bOf .nil pass0 (pa_cons (pv 0) (pa_cons (pe_ix ix_list (pv 9) (pe_op op_sub (pv 1) pe_int) (fun _ _ => rfl)) pa_nil)))) (pa_cons (pv 2) pa_nil))))))))))))))))), ?_⟩
    have pick : ∀ (G : Hp) (m : Nat) (ys : List V) (D : Addr) (R : VK), HandAt G h m → m < 999999 → G D = none → 0 < ys.length → ys.length ≤ 1000 →
        (∀ y G', y ∈ ys → HandAt G' h (m + 1) → But h G G' → R y G') → ∀ X, spPick K [.ref h, .ref D] (upd G D (.lst ys)) R X := by
      intro G m ys D R hg mb nD l0 l1 k X
      exact ⟨h, m, .ref D, ys, rfl, hg.mono (Same.new nD) (Nat.le_refl _), by omega, l0, l1, .inr ⟨D, rfl, (hg.fresh nD).symm, SqL.of upd_same⟩, fun y G2 hy hd2 bt2 => k y G2 hy hd2 ((But.of (Same.new nD)).trans bt2)⟩
    have g1 : ∀ z : Str, z = "-" ∨ z = "," → Good 1 z := by
      rintro z (rfl | rfl) <;> constructor <;> decide +kernel
    refine fun D nD => ?_
    have hdD := hd.mono (Same.new (o := .dK []) nD) (Nat.le_refl _)
    have nDh : D ≠ h := (hd.fresh nD).symm
    refine ⟨_, rfl, h, n, "-", rfl, hdD, by omega, g1 _ (.inl rfl), fun x1 H1 gx1 hd1 bt1 => ?_⟩
    refine ⟨_, rfl, h, n + 7, ",", rfl, hd1, by omega, g1 _ (.inr rfl), fun x2 H2 gx2 hd2 bt2 => ?_⟩
    have eD2 : H2 D = some (.dK []) := bt2 D _ nDh (bt1 D _ nDh upd_same)
    refine ⟨_, rfl, _, rfl, _, _, rfl, rfl, ⟨by decide, by decide +kernel⟩, (show 5 ≤ sizeLine by decide), fun L1 n1 => ?_⟩
    refine pick H2 (n + 7 + 7) [V.non, .int 0, .int 5, .int (-7), .int (10 ^ (8 : Int).toNat)] L1 _ hd2 (by omega) n1 (by decide) (by decide) (fun v3 H3 hv3 hd3 bt3 => ?_) E0
    have nv3 : NumS v3 := by
      simp only [List.mem_cons, List.not_mem_nil, or_false] at hv3
      rcases hv3 with rfl | rfl | rfl | rfl | rfl
      · exact .inl rfl
      all_goals exact .inr ⟨_, rfl, by decide +kernel⟩
    have eD3 : H3 D = some (.dK []) := bt3 D _ nDh eD2
    refine ⟨eD3, [(ky "ta", os x1), (ky "tb", os x2), (ky "na", v3)], rfl, (show 3 ≤ 15 by decide), ?_⟩
    refine gN ?_
    try dsimp only
    rw [show mergeK [] [(ky "ta", os x1), (ky "tb", os x2), (ky "na", v3)] = [(ky "ta", os x1), (ky "tb", os x2), (ky "na", v3)] from rfl]
    have bH3 : But h H (upd H3 D (.dK [(ky "ta", os x1), (ky "tb", os x2), (ky "na", v3)])) := fun b u nb e => by
      have nb2 := ne_of_none e nD
      rw [upd_ne nb2]
      exact bt3 b u nb (bt2 b u nb (bt1 b u nb (by rw [upd_ne nb2]; exact e)))
    have eD3' : upd H3 D (.dK [(ky "ta", os x1), (ky "tb", os x2), (ky "na", v3)]) D = some (.dK [(ky "ta", os x1), (ky "tb", os x2), (ky "na", v3)]) := upd_same
    have hd3' : HandAt (upd H3 D (.dK [(ky "ta", os x1), (ky "tb", os x2), (ky "na", v3)])) h (n + 7 + 7 + 1) := hand_upd hd3 nDh
    generalize upd H3 D (.dK [(ky "ta", os x1), (ky "tb", os x2), (ky "na", v3)]) = G3 at bH3 eD3' hd3' ⊢
    refine ⟨_, rfl, _, rfl, D, v3, rfl, kv3 ▸ DGet.k (k := ky "na") eD3', (show 4 ≤ sizeLine by decide), fun L2 n2 => ?_⟩
    refine pick G3 (n + 7 + 7 + 1) [V.non, .int 5, .int 6, v3] L2 _ hd3' (by omega) n2 (show 0 < 4 by decide) (show 4 ≤ 1000 by decide) (fun v4 H4 hv4 hd4 bt4 => ?_) E0
    have nv4 : NumS v4 := by
      simp only [List.mem_cons, List.not_mem_nil, or_false] at hv4
      rcases hv4 with rfl | rfl | rfl | rfl
      · exact .inl rfl
      · exact .inr ⟨_, rfl, by decide +kernel⟩
      · exact .inr ⟨_, rfl, by decide +kernel⟩
      · exact nv3
    have e4 := bt4 D _ nDh eD3'
    refine ⟨_, rfl, D, _, rfl, DPut.k (k := ky "nb") e4 (show 3 < sizeLine by decide), ?_⟩
    try dsimp only
    rw [put_nb]
    have bH5 : But h H (upd H4 D (.dK (row4 x1 x2 v3 v4))) := fun b u nb e => by
      have nb2 : b ≠ D := ne_of_none e nD
      rw [upd_ne nb2]
      exact bt4 b u nb (bH3 b u nb e)
    have eD5 : upd H4 D (.dK (row4 x1 x2 v3 v4)) D = some (.dK (row4 x1 x2 v3 v4)) := upd_same
    have hd5 : HandAt (upd H4 D (.dK (row4 x1 x2 v3 v4))) h (n + 16) := (hand_upd hd4 nDh).up (by omega)
    generalize upd H4 D (.dK (row4 x1 x2 v3 v4)) = G5 at bH5 eD5 hd5 ⊢
    refine ⟨_, rfl, (show 2 ≤ sizeLine by decide), fun L3 n3 => ?_⟩
    refine pick G5 (n + 16) [.str "ta", .str "tb"] L3 _ hd5 (by omega) n3 (by decide) (by decide) (fun vc G6 hvc hd6 bt6 => ?_) E0
    obtain ⟨col, rfl, hcol⟩ : ∃ col : Str, vc = .str col ∧ (col = "ta" ∨ col = "tb") := by
      simp only [List.mem_cons, List.not_mem_nil, or_false] at hvc
      rcases hvc with rfl | rfl
      · exact ⟨_, rfl, .inl rfl⟩
      · exact ⟨_, rfl, .inr rfl⟩
    clear hvc
    refine ⟨_, rfl, (show 5 ≤ sizeLine by decide), fun L4 n4 => ?_⟩
    refine pick G6 (n + 16 + 1) [.str "-", .str ",", .str " ", .str "'", .str "a"] L4 _ hd6 (by omega) n4 (by decide) (by decide) (fun vs G7 hvs hd7 bt7 => ?_) E0
    obtain ⟨sg, rfl, hsg, gsg⟩ : ∃ sg : Nat, vs = .str ⟨#[sg]⟩ ∧ sg < 256 ∧ Good 1 (⟨#[sg]⟩ : Str) := by
      simp only [List.mem_cons, List.not_mem_nil, or_false] at hvs
      rcases hvs with rfl | rfl | rfl | rfl | rfl
      · exact ⟨45, by decide +kernel, by decide, by constructor <;> decide +kernel⟩
      · exact ⟨44, by decide +kernel, by decide, by constructor <;> decide +kernel⟩
      · exact ⟨32, by decide +kernel, by decide, by constructor <;> decide +kernel⟩
      · exact ⟨39, by decide +kernel, by decide, by constructor <;> decide +kernel⟩
      · exact ⟨97, by decide +kernel, by decide, by constructor <;> decide +kernel⟩
    clear hvs
    refine ⟨_, _, rfl, ?_⟩
    try dsimp only
    refine ⟨_, rfl, (show 3 ≤ sizeLine by decide), fun L5 n5 => ?_⟩
    refine pick G7 (n + 16 + 1 + 1) [.str "s", .str "st", .str "zzzzzzzz"] L5 _ hd7 (by omega) n5 (by decide) (by decide) (fun vn G8 hvn hd8 bt8 => ?_) E0
    obtain ⟨nm, rfl, gnm⟩ : ∃ nm : Str, vn = .str nm ∧ Good 8 nm := by
      simp only [List.mem_cons, List.not_mem_nil, or_false] at hvn
      rcases hvn with rfl | rfl | rfl <;> exact ⟨_, rfl, by constructor <;> decide +kernel⟩
    clear hvn
    have bH8 : But h H G8 := ((bH5.trans bt6).trans bt7).trans bt8
    have eD8 : G8 D = some (.dK (row4 x1 x2 v3 v4)) := bt8 _ _ nDh (bt7 _ _ nDh (bt6 _ _ nDh eD5))
    have hd8' : HandAt G8 h (n + 19) := hd8.up (by omega)
    have tabs8 : Tabs (tabsL Pt) G8 := tabs_but tabs hd bH8
    clear bt1 bt2 bt3 bt4 bt6 bt7 bt8 hd1 hd2 hd3 hd4 hd5 hd6 hd7 hd8 eD2 eD3 eD3' e4 eD5 bH3 bH5 hd3' n1 n2 n3 n4 n5 hv3 hv4 hdD
    refine gN ?_
    try dsimp only
    have gcol : Good 10 col := by rcases hcol with rfl | rfl <;> constructor <;> decide +kernel
    obtain ⟨xc, ec, gxc, pc⟩ := col_of (v3 := v3) (v4 := v4) gx1 gx2 hcol
    obtain ⟨tcol, fcol⟩ := text_of ec gxc
    have rs := row4_s gx1 gx2 nv3 nv4
    have b8 := butN_of bH8
    have fin : ∀ (p q1 : Addr) (a : V) (row : List (Key × V)) (dd : Deed) (G : Hp) (m : Nat), G p = some (.tup [.ref q1, .ref D]) → G q1 = some (.tup (dd.items a)) → (∀ x ∈ dd.items a, Nest G 2 x) → G D = some (.dK row) → RowS row → dd.ok K G row → dd.fit row → HandAt G h m → m ≤ n + 40 → ButN h H G → Tabs (tabsL Pt) G → Q (.ref p) G :=
      fun p q1 a row dd G m e1 e2 e3 e4 e5 e6 e7 e8 l e9 e10 => q p G ⟨q1, D, a, row, dd, e1, e2, e3, e4, e5, e6, e7, e8.up l, e9, e10⟩
    have s60 : ∀ {L : Nat} {z : Str}, Good L z → L ≤ 60 → ∀ (G : Hp) (k : Nat), Nest G k (.str z) := fun g l G k => Nest.cell (cs_str (g.le l)) k
    have w60 : ∀ z : Str, z.length ≤ 60 ∧ (∀ c ∈ z.cps.toList, 32 ≤ c ∧ c < 127) → ∀ (G : Hp) (k : Nat), Nest G k (.str z) := fun z g => s60 g (Nat.le_refl _)
    refine ⟨_, rfl, rfl, _, rfl, ?_⟩
    rcases (show lot = 0 ∨ lot = 1 ∨ lot = 2 ∨ lot = 3 ∨ 4 ≤ lot by omega) with rfl | rfl | rfl | rfl | l4
    · rw [decide_eq_true (show V.int ((0 : Nat) : Int) = V.int 0 from rfl)]
      refine iteT ?_
      unfold tRet
      dsimp only
      refine ⟨_, rfl, _, rfl, _, rfl, (show 4 ≤ sizeLine by decide), fun T4 m1 => newO m1 fun Ga sa ea => ?_⟩
      refine ⟨_, rfl, h, n + 19, 3, rfl, hd8'.mono sa (Nat.le_refl _), by omega, by decide, by decide, fun r Gb r0 r1 hdb bt => ?_⟩
      have eb := bt T4 _ (hd8'.fresh m1).symm ea
      have eDb : Gb D = some (.dK (row4 x1 x2 v3 v4)) := bt D _ nDh (sa _ _ eD8)
      have bb : ButN h H Gb := butN_trans b8 (butN_trans (butN_same sa) (butN_of bt))
      have tb : Tabs (tabsL Pt) Gb := tabs_but (tabs_same tabs8 sa) (hd8'.mono sa (Nat.le_refl _)) bt
      have go : ∀ (nw : Addr) (news : List Str) (G : Hp), Same Gb G → G nw = some (.tup (news.map V.str)) → news.Nodup → 1 ≤ news.length → news.length ≤ 4 → (∀ x ∈ news, Good 8 x) →
          ∀ (p1 p2 : Addr) (Gc Gd : Hp), Same G Gc → Same Gc Gd → Gc p1 = some (.tup [.str nm, .str "cut", .str col, .str ⟨#[sg]⟩, .ref nw]) → Gd p2 = some (.tup [.ref p1, .ref D]) → Q (.ref p2) Gd := by
        intro nw news G sG enw nd l1 l4 gn p1 p2 Gc Gd sc sd e1 e2
        have sf := sG.trans (sc.trans sd)
        refine fin p2 p1 (.str nm) _ (.cut col sg nw news) Gd (n + 19 + 1) e2 (sd _ _ e1) (fun x hx => ?_) (sf _ _ eDb) rs ⟨tcol, SqT.of (sd _ _ (sc _ _ enw)), hsg, nd, l1, l4⟩ ⟨fcol, hsg, fun x hx => (gn x hx).ok, l4⟩ (hdb.mono sf (Nat.le_refl _)) (by omega) (butN_trans bb (butN_same sf)) (tabs_same tb sf)
        simp only [Deed.items, List.mem_cons, List.not_mem_nil, or_false] at hx
        rcases hx with rfl | rfl | rfl | rfl | rfl
        · exact s60 gnm (by decide) _ _
        · exact w60 _ (by constructor <;> decide +kernel) _ _
        · exact s60 gcol (by decide) _ _
        · exact s60 gsg (by decide) _ _
        · refine Nest.tup (sd _ _ (sc _ _ enw)) (by rw [List.length_map]; omega) fun x hx => ?_
          obtain ⟨y, hy, rfl⟩ := List.mem_map.mp hx
          exact s60 (gn y hy) (by decide) _ _
      have g8 : ∀ x ∈ (["p", "q", "r", "u"] : List Str), Good 8 x := by
        intro x hx
        simp only [List.mem_cons, List.not_mem_nil, or_false] at hx
        rcases hx with rfl | rfl | rfl | rfl <;> constructor <;> decide +kernel
      have tail : ∀ (nw : Addr) (news : List Str) (G : Hp) (h0 : Same Gb G) (h1 : G nw = some (.tup (news.map V.str))) (h2 : news.Nodup) (h3 : 1 ≤ news.length) (h4 : news.length ≤ 4) (h5 : ∀ x ∈ news, Good 8 x),
          5 ≤ sizeLine ∧ ∀ p1, G p1 = none → 2 ≤ sizeLine ∧ ∀ p2, upd G p1 (.tup [.str nm, .str "cut", .str col, .str ⟨#[sg]⟩, .ref nw]) p2 = none → Q (.ref p2) (upd (upd G p1 (.tup [.str nm, .str "cut", .str col, .str ⟨#[sg]⟩, .ref nw])) p2 (.tup [.ref p1, .ref D])) :=
        fun nw news G h0 h1 h2 h3 h4 h5 => ⟨by decide, fun p1 m3 => newO m3 fun Gc sc ec => ⟨by decide, fun p2 m4 => newO m4 fun Gd sd ed => go nw news G h0 h1 h2 h3 h4 h5 p1 p2 Gc Gd sc sd ec ed⟩⟩
      rcases (show r = 0 ∨ r = 1 ∨ r = 2 by omega) with rfl | rfl | rfl
      · refine ⟨_, _, rfl, rfl, _, rfl, T4, _, rfl, SqT.of eb, fun wh => absurd wh.2 (by decide), fun _ T5 m2 => newO m2 fun Gc' sc ec => ?_⟩
        have t := tail T5 ["p", "q"] Gc' sc ec (by decide +kernel) (by decide) (by decide) fun x hx => g8 x (List.mem_of_mem_take (i := 2) hx)
        exact ⟨t.1, fun p1 m3 => ⟨_, rfl, t.2 p1 m3⟩⟩
      · refine ⟨_, _, rfl, rfl, _, rfl, T4, _, rfl, SqT.of eb, fun wh => absurd wh.2 (by decide), fun _ T5 m2 => newO m2 fun Gc' sc ec => ?_⟩
        have t := tail T5 ["p", "q", "r"] Gc' sc ec (by decide +kernel) (by decide) (by decide) fun x hx => g8 x (List.mem_of_mem_take (i := 3) hx)
        exact ⟨t.1, fun p1 m3 => ⟨_, rfl, t.2 p1 m3⟩⟩
      · refine ⟨_, _, rfl, rfl, _, rfl, T4, _, rfl, SqT.of eb, fun _ => ?_, fun nw => absurd ⟨by decide, by decide⟩ nw⟩
        have t := tail T4 ["p", "q", "r", "u"] Gb (Same.refl _) eb (by decide +kernel) (by decide) (by decide) g8
        exact ⟨t.1, fun p1 m3 => ⟨_, rfl, t.2 p1 m3⟩⟩
    · rw [decide_eq_false (show ¬ V.int ((1 : Nat) : Int) = V.int 0 from lot_no (by decide))]
      refine iteF ?_
      unfold tNext
      dsimp only
      refine ⟨_, rfl, rfl, _, rfl, ?_⟩
      rw [decide_eq_true (show V.int ((1 : Nat) : Int) = V.int 1 from rfl)]
      refine iteT ?_
      refine ⟨(show 1 ≤ sizeLine by decide), fun c1 m1 => newO m1 fun Ga sa ea => ?_⟩
      refine ⟨(show 2 ≤ sizeLine by decide), fun c2 m2 => newO m2 fun Gb sb eb => ?_⟩
      refine ⟨(show 3 ≤ sizeLine by decide), fun c3 m3 => newO m3 fun Gc sc ec => ?_⟩
      refine ⟨(show 4 ≤ sizeLine by decide), fun c4 m4 => newO m4 fun Gd sd ed => ?_⟩
      refine ⟨(show 4 ≤ sizeLine by decide), fun Lc m5 => ?_⟩
      refine gN ?_
      try dsimp only
      unfold tRet
      dsimp only
      have s4 : Same G8 Gd := ((sa.trans sb).trans sc).trans sd
      have hdd := hd8'.mono s4 (Nat.le_refl _)
      refine ⟨_, rfl, _, rfl, _, rfl, pick Gd (n + 19) [.ref c1, .ref c2, .ref c3, .ref c4] Lc _ hdd (by omega) m5 (show 0 < 4 by decide) (show 4 ≤ 1000 by decide) (fun vc Ge hvc hde bte => ?_) E0⟩
      have bb : ButN h H Ge := butN_trans b8 (butN_trans (butN_same s4) (butN_of bte))
      have tb : Tabs (tabsL Pt) Ge := tabs_but (tabs_same tabs8 s4) hdd bte
      have eDe : Ge D = some (.dK (row4 x1 x2 v3 v4)) := bte D _ nDh (s4 _ _ eD8)
      have mv : ∀ {a : Addr} {xs : List V}, Gd a = some (.tup xs) → Ge a = some (.tup xs) := fun e => bte _ _ (lst_tup hdd e) e
      obtain ⟨cs, cols, rfl, hcs, hcols, lc⟩ : ∃ (cs : Addr) (cols : List Str), vc = .ref cs ∧ Ge cs = some (.tup (cols.map V.str)) ∧ (∀ c ∈ cols, c = Str.ofString "ta" ∨ c = Str.ofString "tb") ∧ cols.length ≤ 4 := by
        simp only [List.mem_cons, List.not_mem_nil, or_false] at hvc
        rcases hvc with rfl | rfl | rfl | rfl
        · exact ⟨c1, ["ta"], rfl, mv (sd _ _ (sc _ _ (sb _ _ ea))), fun c hc => by simp at hc; exact .inl hc, by decide⟩
        · exact ⟨c2, ["ta", "tb"], rfl, mv (sd _ _ (sc _ _ eb)), fun c hc => by simp at hc; exact hc, by decide⟩
        · exact ⟨c3, ["tb", "ta", "tb"], rfl, mv (sd _ _ ec), fun c hc => by
            simp only [List.mem_cons, List.not_mem_nil, or_false] at hc
            rcases hc with h | h | h
            · exact .inr h
            · exact .inl h
            · exact .inr h, by decide⟩
        · exact ⟨c4, ["tb", "tb", "ta", "ta"], rfl, mv ed, fun c hc => by
            simp only [List.mem_cons, List.not_mem_nil, or_false] at hc
            rcases hc with h | h | h | h
            · exact .inr h
            · exact .inr h
            · exact .inl h
            · exact .inl h, by decide⟩
      clear hvc
      have allc : ∀ c ∈ cols, TextCol (row4 x1 x2 v3 v4) c ∧ ∀ z, txt (rowV (row4 x1 x2 v3 v4) c) = some z → Good 60 z := fun c hc => by
        obtain ⟨x, e, g, _⟩ := col_of (v3 := v3) (v4 := v4) gx1 gx2 (hcols c hc)
        exact text_of e g
      refine ⟨_, rfl, (show 5 ≤ sizeLine by decide), fun q1 m6 => newO m6 fun Gf sf ef => ⟨_, rfl, (show 2 ≤ sizeLine by decide), fun p1 m7 => newO m7 fun Gg sg2 eg => ?_⟩⟩
      have sfg := sf.trans sg2
      refine fin p1 q1 (.str nm) _ (.glue cs cols ⟨#[sg]⟩ "new") Gg (n + 19 + 1) eg (sg2 _ _ ef) (fun x hx => ?_) (sfg _ _ eDe) rs ⟨SqT.of (sfg _ _ hcs), fun c hc => (allc c hc).1, gsg.1, lc⟩ ⟨fun c hc => (allc c hc).2, gsg, by decide +kernel, lc⟩ (hde.mono sfg (Nat.le_refl _)) (by omega) (butN_trans bb (butN_same sfg)) (tabs_same tb sfg)
      simp only [Deed.items, List.mem_cons, List.not_mem_nil, or_false] at hx
      rcases hx with rfl | rfl | rfl | rfl | rfl
      · exact s60 gnm (by decide) _ _
      · exact w60 _ (by constructor <;> decide +kernel) _ _
      · refine Nest.tup (sfg _ _ hcs) (by rw [List.length_map]; omega) fun x hx => ?_
        obtain ⟨y, hy, rfl⟩ := List.mem_map.mp hx
        rcases hcols y hy with rfl | rfl <;> exact w60 _ (by constructor <;> decide +kernel) _ _
      · exact s60 gsg (by decide) _ _
      · exact w60 _ (by constructor <;> decide +kernel) _ _
    · rw [decide_eq_false (show ¬ V.int ((2 : Nat) : Int) = V.int 0 from lot_no (by decide))]
      refine iteF ?_
      unfold tNext
      dsimp only
      refine ⟨_, rfl, rfl, _, rfl, ?_⟩
      rw [decide_eq_false (show ¬ V.int ((2 : Nat) : Int) = V.int 1 from lot_no (by decide))]
      refine iteF ?_
      dsimp only
      refine ⟨_, rfl, rfl, _, rfl, ?_⟩
      rw [decide_eq_true (show V.int ((2 : Nat) : Int) = V.int 2 from rfl)]
      refine iteT ?_
      unfold tRet
      dsimp only
      refine ⟨_, rfl, _, rfl, _, rfl, _, rfl, _, rfl, D, os xc, rfl, ec ▸ DGet.k (k := tk col) eD8, h, n + 19, .str nm, .str col, xc, rfl, hd8', by omega, tabs8, gxc, fun q1 ts ps Ga hq1 hps lps gps hda ba ta => ?_⟩
      have eDa : Ga D = some (.dK (row4 x1 x2 v3 v4)) := ba D _ nDh eD8 dk_ne
      refine ⟨_, rfl, (show 2 ≤ sizeLine by decide), fun p1 m7 => newO m7 fun Gg sg2 eg => ?_⟩
      obtain ⟨qs, lq, hts, hqs⟩ := hps
      refine fin p1 q1 (.str nm) _ (.spell col ts ps) Gg (n + 19 + 1) eg (sg2 _ _ hq1) (fun x hx => ?_) (sg2 _ _ eDa) rs ⟨tcol, ⟨qs, lq, SqT.of (sg2 _ _ hts), fun j q p e1 e2 => SqT.of (sg2 _ _ (hqs j q p e1 e2))⟩, lps, fun pr hpr z e => ((gps pr hpr).2 z e).ok⟩ ⟨fcol, fun pr hpr z e => ((gps pr hpr).2 z e).le (by decide), gcol.ok⟩ (hda.mono sg2 (Nat.le_refl _)) (by omega) (butN_trans b8 (butN_trans ba (butN_same sg2))) (tabs_same ta sg2)
      simp only [Deed.items, List.mem_cons, List.not_mem_nil, or_false] at hx
      rcases hx with rfl | rfl | rfl | rfl
      · exact s60 gnm (by decide) _ _
      · exact w60 _ (by constructor <;> decide +kernel) _ _
      · exact s60 gcol (by decide) _ _
      · refine Nest.tup (sg2 _ _ hts) (by rw [List.length_map]; omega) fun x hx => ?_
        obtain ⟨q2, hq2, rfl⟩ := List.mem_map.mp hx
        obtain ⟨j, hj⟩ := List.mem_iff_getElem?.mp hq2
        have jl : j < ps.length := by
          rw [← lq]
          exact (List.getElem?_eq_some_iff.mp hj).1
        have ep := List.getElem?_eq_getElem jl
        have gp := gps _ (List.mem_of_getElem? ep)
        refine Nest.tup (sg2 _ _ (hqs j q2 _ hj ep)) (show 2 ≤ 10 by decide) fun x hx => ?_
        rcases List.mem_cons.mp hx with rfl | hx
        · exact s60 gp.1 (by decide) _ _
        · rw [List.mem_singleton.mp hx]
          exact Nest.cell (cs_os fun z e => (gp.2 z e).le (by decide)) _
    · rw [decide_eq_false (show ¬ V.int ((3 : Nat) : Int) = V.int 0 from lot_no (by decide))]
      refine iteF ?_
      unfold tNext
      dsimp only
      refine ⟨_, rfl, rfl, _, rfl, ?_⟩
      rw [decide_eq_false (show ¬ V.int ((3 : Nat) : Int) = V.int 1 from lot_no (by decide))]
      refine iteF ?_
      dsimp only
      refine ⟨_, rfl, rfl, _, rfl, ?_⟩
      rw [decide_eq_false (show ¬ V.int ((3 : Nat) : Int) = V.int 2 from lot_no (by decide))]
      refine iteF ?_
      dsimp only
      refine ⟨_, rfl, rfl, _, rfl, ?_⟩
      rw [decide_eq_true (show V.int ((3 : Nat) : Int) = V.int 3 from rfl)]
      refine iteT ?_
      refine ⟨_, rfl, h, n + 19, rfl, hd8', by omega, fun pf fm Ga fok hpf hda bta => ?_⟩
      refine gN ?_
      try dsimp only
      refine ⟨_, rfl, _, rfl, h, pf, n + 19 + 3, fm, rfl, lst_tup hda hpf, hpf, fok, hda, by omega, fun zn Gb gzn hdb btb => ?_⟩
      refine gN ?_
      try dsimp only
      have eDb : Gb D = some (.dK (row4 x1 x2 v3 v4)) := btb D _ nDh (bta D _ nDh eD8)
      have ePb : Gb pf = some (.tup fm.vals) := btb pf _ (lst_tup hda hpf) hpf
      refine cutT (fun σ' H' => σ' = [some (.ref h), some (.int ((3 : Nat) : Int)), some (.ref D), some (.str col), some (.str ⟨#[sg]⟩), some (.str nm), none, some (.ref pf), some (.str zn), none, none] ∧ ∃ x' : Option Str, (∀ z, x' = some z → Good 40 z) ∧ H' D = some (.dK (putK (row4 x1 x2 v3 v4) (tk col) (os x'))) ∧ HandAt H' h (n + 19 + 3 + 5 + 1) ∧ (∀ b o, b ≠ h → b ≠ D → Gb b = some o → H' b = some o)) (fun N kN => ?_) ?_
      · have put : ∀ (x' : Option Str) (Gc : Hp) (m : Nat), (∀ z, x' = some z → Good 40 z) → HandAt Gc h m → m ≤ n + 19 + 3 + 5 + 1 → But h Gb Gc → Gc D = some (.dK (row4 x1 x2 v3 v4)) ∧ ∃ H', DPut Gc D (.str col) (os x') H' ∧ N [some (.ref h), some (.int ((3 : Nat) : Int)), some (.ref D), some (.str col), some (.str ⟨#[sg]⟩), some (.str nm), none, some (.ref pf), some (.str zn), none, none] H' := by
          intro x' Gc m gx' hdc lm btc
          have e : Gc D = some (.dK (row4 x1 x2 v3 v4)) := btc D _ nDh eDb
          refine ⟨e, _, DPut.k (k := tk col) e (show 4 < sizeLine by decide), kN _ _ ⟨rfl, x', gx', upd_same, hand_upd (hdc.up lm) nDh, fun b o n1 n2 eb => ?_⟩⟩
          rw [upd_ne n2]
          exact btc b o n1 eb
        refine ⟨_, rfl, rfl, _, rfl, ?_⟩
        by_cases e0 : V.str zn = V.str ""
        · rw [decide_eq_true e0]
          refine iteF ?_
          obtain ⟨e, H', dp, kn⟩ := put none Gb _ (fun z e => nomatch e) hdb (by omega) (But.refl _ _)
          exact ⟨_, rfl, _, rfl, D, H', rfl, dp, kn⟩
        · rw [decide_eq_false e0]
          refine iteT ?_
          refine ⟨_, rfl, h, n + 19 + 3 + 5, 9, rfl, hdb, by omega, by decide, by decide, fun r Gc r0 r1 hdc btc => ?_⟩
          refine ⟨_, _, rfl, rfl, _, rfl, ?_⟩
          by_cases c0 : (0 : Int) < r
          · rw [decide_eq_true c0]
            refine iteT ?_
            obtain ⟨e, H', dp, kn⟩ := put (some zn) Gc _ (fun z e => by cases e; exact gzn.le (by decide)) hdc (by omega) btc
            exact ⟨_, rfl, _, rfl, _, rfl, D, H', rfl, dp, kn⟩
          · rw [decide_eq_false c0]
            refine iteF ?_
            obtain ⟨e, H', dp, kn⟩ := put none Gc _ (fun z e => nomatch e) hdc (by omega) btc
            exact ⟨_, rfl, _, rfl, D, H', rfl, dp, kn⟩
      · rintro σ' Gd ⟨rfl, x', gx', eDd, hdd, kd⟩
        unfold tRet
        dsimp only
        obtain ⟨y1, y2, ep, gy1, gy2, ev⟩ := pc x' gx'
        rw [ep] at eDd
        have eP : Gd pf = some (.tup fm.vals) := kd pf _ (lst_tup hdb ePb) (fun z => by rw [z, eDb] at ePb; cases ePb) ePb
        refine ⟨_, rfl, _, rfl, _, rfl, (show 5 ≤ sizeLine by decide), fun q1 m6 => newO m6 fun Gf sf ef => ⟨_, rfl, (show 2 ≤ sizeLine by decide), fun p1 m7 => newO m7 fun Gg sg2 eg => ?_⟩⟩
        have sfg := sf.trans sg2
        have bb : ButN h H Gg := fun b o nb e nt => sfg _ _ (kd b o nb (ne_of_none e nD) (btb b o nb (bta b o nb (bH8 b o nb e))))
        have tb : Tabs (tabsL Pt) Gd := fun p hp => by
          obtain ⟨ps, t1, t2, t3⟩ := tabs8 p hp
          have mv : ∀ b o, G8 b = some o → (∀ ks, o ≠ .dK ks) → (∀ l, o ≠ .lst l) → Gd b = some o := fun b o e nk nl => by
            have nh : b ≠ h := fun z => by
              obtain ⟨g, t, c0, e1, _⟩ := hd8'
              rw [z, e1] at e
              cases e
              exact nl _ rfl
            exact kd b o nh (fun z => by rw [z, eD8] at e; cases e; exact nk _ rfl) (btb b o nh (bta b o nh e))
          refine ⟨ps, mv _ _ t1 (fun ks z => by cases z) (fun l z => by cases z), t2, fun pos cv hcv => ?_⟩
          obtain ⟨c1, e1, e2⟩ := t3 pos cv hcv
          exact ⟨c1, e1, mv _ _ e2 (fun ks z => by unfold CodeO at z; cases z) (fun l z => by unfold CodeO at z; cases z)⟩
        have tx := text_of ev gx'
        refine fin p1 q1 (.str nm) _ (.read col pf fm "new") Gg (n + 19 + 3 + 5 + 1) eg (sg2 _ _ ef) (fun x hx => ?_) (sfg _ _ eDd) (row4_s gy1 gy2 nv3 nv4) ⟨tx.1, SqT.of (sfg _ _ eP), fok⟩ ⟨fok, by decide +kernel⟩ (hdd.mono sfg (Nat.le_refl _)) (by omega) bb (tabs_same tb sfg)
        simp only [Deed.items, List.mem_cons, List.not_mem_nil, or_false] at hx
        rcases hx with rfl | rfl | rfl | rfl | rfl
        · exact s60 gnm (by decide) _ _
        · exact w60 _ (by constructor <;> decide +kernel) _ _
        · exact s60 gcol (by decide) _ _
        · cases fm with
          | whole =>
            refine Nest.tup (sfg _ _ eP) (show 1 ≤ 10 by decide) fun x hx => ?_
            rw [List.mem_singleton.mp hx]
            exact w60 _ (by constructor <;> decide +kernel) _ _
          | amount m =>
            refine Nest.tup (sfg _ _ eP) (show 2 ≤ 10 by decide) fun x hx => ?_
            rcases List.mem_cons.mp hx with rfl | hx
            · exact w60 _ (by constructor <;> decide +kernel) _ _
            · rw [List.mem_singleton.mp hx]
              obtain ⟨_, m4⟩ := fok
              exact Nest.cell (cs_int (by omega)) _
          | day o =>
            refine Nest.tup (sfg _ _ eP) (show 2 ≤ 10 by decide) fun x hx => ?_
            rcases List.mem_cons.mp hx with rfl | hx
            · exact w60 _ (by constructor <;> decide +kernel) _ _
            · rw [List.mem_singleton.mp hx]
              rcases fok with rfl | rfl | rfl <;> exact w60 _ (by constructor <;> decide +kernel) _ _
        · exact w60 _ (by constructor <;> decide +kernel) _ _
    · rw [decide_eq_false (show ¬ V.int (lot : Int) = V.int 0 from lot_no (by omega))]
      refine iteF ?_
      unfold tNext
      dsimp only
      refine ⟨_, rfl, rfl, _, rfl, ?_⟩
      rw [decide_eq_false (show ¬ V.int (lot : Int) = V.int 1 from lot_no (by omega))]
      refine iteF ?_
      dsimp only
      refine ⟨_, rfl, rfl, _, rfl, ?_⟩
      rw [decide_eq_false (show ¬ V.int (lot : Int) = V.int 2 from lot_no (by omega))]
      refine iteF ?_
      dsimp only
      refine ⟨_, rfl, rfl, _, rfl, ?_⟩
      rw [decide_eq_false (show ¬ V.int (lot : Int) = V.int 3 from lot_no (by omega))]
      refine iteF ?_
      dsimp only
      refine ⟨(show 2 ≤ sizeLine by decide), fun t0_0 m1 => newO m1 fun J1 s1 e1 => ?_⟩
      refine ⟨(show 2 ≤ sizeLine by decide), fun t0_1 m2 => newO m2 fun J2 s2 e2 => ?_⟩
      refine ⟨_, rfl, (show 2 ≤ sizeLine by decide), fun t0_2 m3 => newO m3 fun J3 s3 e3 => ?_⟩
      refine ⟨(show 2 ≤ sizeLine by decide), fun t0_3 m4 => newO m4 fun J4 s4 e4 => ?_⟩
      refine ⟨(show 4 ≤ sizeLine by decide), fun I0 m5 => newO m5 fun J5 s5 e5 => ?_⟩
      refine ⟨(show 1 ≤ sizeLine by decide), fun t1_0 m6 => newO m6 fun J6 s6 e6 => ?_⟩
      refine ⟨(show 1 ≤ sizeLine by decide), fun t1_1 m7 => newO m7 fun J7 s7 e7 => ?_⟩
      refine ⟨(show 1 ≤ sizeLine by decide), fun t1_2 m8 => newO m8 fun J8 s8 e8 => ?_⟩
      refine ⟨(show 1 ≤ sizeLine by decide), fun t1_3 m9 => newO m9 fun J9 s9 e9 => ?_⟩
      refine ⟨(show 4 ≤ sizeLine by decide), fun I1 m10 => newO m10 fun J10 s10 e10 => ?_⟩
      refine ⟨(show 2 ≤ sizeLine by decide), fun L0 m11 => newO m11 fun J11 s11 e11 => ?_⟩
      refine gN ?_
      try dsimp only
      have l11 := e11
      refine ⟨_, rfl, .inl ⟨rfl, _, SqL.of l11⟩, ?_⟩
      refine ⟨(show 3 ≤ sizeLine by decide), fun t2_0 m12 => newO m12 fun J12 s12 e12 => ?_⟩
      refine ⟨(show 3 ≤ sizeLine by decide), fun t2_1 m13 => newO m13 fun J13 s13 e13 => ?_⟩
      refine ⟨_, rfl, _, _, rfl, rfl, ⟨by decide, by decide +kernel⟩, (show 3 ≤ sizeLine by decide), fun t2_2 m14 => newO m14 fun J14 s14 e14 => ?_⟩
      refine ⟨(show 3 ≤ sizeLine by decide), fun t2_3 m15 => newO m15 fun J15 s15 e15 => ?_⟩
      refine ⟨(show 3 ≤ sizeLine by decide), fun t2_4 m16 => newO m16 fun J16 s16 e16 => ?_⟩
      refine ⟨(show 3 ≤ sizeLine by decide), fun t2_5 m17 => newO m17 fun J17 s17 e17 => ?_⟩
      refine ⟨(show 6 ≤ sizeLine by decide), fun I2 m18 => newO m18 fun J18 s18 e18 => ?_⟩
      have l12 := s12 _ _ l11
      have l13 := s13 _ _ l12
      have l14 := s14 _ _ l13
      have l15 := s15 _ _ l14
      have l16 := s16 _ _ l15
      have l17 := s17 _ _ l16
      have l18 := s18 _ _ l17
      refine ⟨L0, [V.ref I0, V.ref I1], .ref I2, rfl, rfl, l18, (show 2 < sizeLine by decide), ?_⟩
      have b19 : But L0 J18 (upd J18 L0 (.lst [V.ref I0, V.ref I1, V.ref I2])) := But.upd
      have l19 : upd J18 L0 (.lst [V.ref I0, V.ref I1, V.ref I2]) L0 = some (.lst [V.ref I0, V.ref I1, V.ref I2]) := upd_same
      rw [show ([V.ref I0, V.ref I1] : List V) ++ [.ref I2] = [V.ref I0, V.ref I1, V.ref I2] from rfl]
      try dsimp only
      generalize upd J18 L0 (.lst [V.ref I0, V.ref I1, V.ref I2]) = J19 at b19 l19 ⊢
      refine ⟨_, rfl, .inl ⟨rfl, _, SqL.of l19⟩, ?_⟩
      refine ⟨(show 1 ≤ sizeLine by decide), fun u3_0 m20 => newO m20 fun J20 s20 e20 => ?_⟩
      refine ⟨(show 2 ≤ sizeLine by decide), fun t3_0 m21 => newO m21 fun J21 s21 e21 => ?_⟩
      refine ⟨(show 3 ≤ sizeLine by decide), fun u3_1 m22 => newO m22 fun J22 s22 e22 => ?_⟩
      refine ⟨(show 2 ≤ sizeLine by decide), fun t3_1 m23 => newO m23 fun J23 s23 e23 => ?_⟩
      refine ⟨(show 2 ≤ sizeLine by decide), fun u3_2 m24 => newO m24 fun J24 s24 e24 => ?_⟩
      refine ⟨(show 2 ≤ sizeLine by decide), fun t3_2 m25 => newO m25 fun J25 s25 e25 => ?_⟩
      refine ⟨(show 1 ≤ sizeLine by decide), fun u3_3 m26 => newO m26 fun J26 s26 e26 => ?_⟩
      refine ⟨(show 2 ≤ sizeLine by decide), fun t3_3 m27 => newO m27 fun J27 s27 e27 => ?_⟩
      refine ⟨(show 4 ≤ sizeLine by decide), fun I3 m28 => newO m28 fun J28 s28 e28 => ?_⟩
      have l20 := s20 _ _ l19
      have l21 := s21 _ _ l20
      have l22 := s22 _ _ l21
      have l23 := s23 _ _ l22
      have l24 := s24 _ _ l23
      have l25 := s25 _ _ l24
      have l26 := s26 _ _ l25
      have l27 := s27 _ _ l26
      have l28 := s28 _ _ l27
      refine ⟨L0, [V.ref I0, V.ref I1, V.ref I2], .ref I3, rfl, rfl, l28, (show 3 < sizeLine by decide), ?_⟩
      have b29 : But L0 J28 (upd J28 L0 (.lst [V.ref I0, V.ref I1, V.ref I2, V.ref I3])) := But.upd
      have l29 : upd J28 L0 (.lst [V.ref I0, V.ref I1, V.ref I2, V.ref I3]) L0 = some (.lst [V.ref I0, V.ref I1, V.ref I2, V.ref I3]) := upd_same
      rw [show ([V.ref I0, V.ref I1, V.ref I2] : List V) ++ [.ref I3] = [V.ref I0, V.ref I1, V.ref I2, V.ref I3] from rfl]
      try dsimp only
      generalize upd J28 L0 (.lst [V.ref I0, V.ref I1, V.ref I2, V.ref I3]) = J29 at b29 l29 ⊢
      refine ⟨_, rfl, .inl ⟨rfl, _, SqL.of l29⟩, ?_⟩
      refine ⟨(show 2 ≤ sizeLine by decide), fun t4_0 m30 => newO m30 fun J30 s30 e30 => ?_⟩
      refine ⟨(show 2 ≤ sizeLine by decide), fun t4_1 m31 => newO m31 fun J31 s31 e31 => ?_⟩
      refine ⟨(show 2 ≤ sizeLine by decide), fun t4_2 m32 => newO m32 fun J32 s32 e32 => ?_⟩
      refine ⟨(show 2 ≤ sizeLine by decide), fun t4_3 m33 => newO m33 fun J33 s33 e33 => ?_⟩
      refine ⟨(show 4 ≤ sizeLine by decide), fun I4 m34 => newO m34 fun J34 s34 e34 => ?_⟩
      have l30 := s30 _ _ l29
      have l31 := s31 _ _ l30
      have l32 := s32 _ _ l31
      have l33 := s33 _ _ l32
      have l34 := s34 _ _ l33
      refine ⟨L0, [V.ref I0, V.ref I1, V.ref I2, V.ref I3], .ref I4, rfl, rfl, l34, (show 4 < sizeLine by decide), ?_⟩
      have b35 : But L0 J34 (upd J34 L0 (.lst [V.ref I0, V.ref I1, V.ref I2, V.ref I3, V.ref I4])) := But.upd
      have l35 : upd J34 L0 (.lst [V.ref I0, V.ref I1, V.ref I2, V.ref I3, V.ref I4]) L0 = some (.lst [V.ref I0, V.ref I1, V.ref I2, V.ref I3, V.ref I4]) := upd_same
      rw [show ([V.ref I0, V.ref I1, V.ref I2, V.ref I3] : List V) ++ [.ref I4] = [V.ref I0, V.ref I1, V.ref I2, V.ref I3, V.ref I4] from rfl]
      try dsimp only
      generalize upd J34 L0 (.lst [V.ref I0, V.ref I1, V.ref I2, V.ref I3, V.ref I4]) = J35 at b35 l35 ⊢
      have B35 : But L0 J35 J35 := But.refl _ _
      have B34 : But L0 J34 J35 := (b35 : But L0 J34 J35).trans B35
      have B33 : But L0 J33 J35 := (But.of s34 : But L0 J33 J34).trans B34
      have B32 : But L0 J32 J35 := (But.of s33 : But L0 J32 J33).trans B33
      have B31 : But L0 J31 J35 := (But.of s32 : But L0 J31 J32).trans B32
      have B30 : But L0 J30 J35 := (But.of s31 : But L0 J30 J31).trans B31
      have B29 : But L0 J29 J35 := (But.of s30 : But L0 J29 J30).trans B30
      have B28 : But L0 J28 J35 := (b29 : But L0 J28 J29).trans B29
      have B27 : But L0 J27 J35 := (But.of s28 : But L0 J27 J28).trans B28
      have B26 : But L0 J26 J35 := (But.of s27 : But L0 J26 J27).trans B27
      have B25 : But L0 J25 J35 := (But.of s26 : But L0 J25 J26).trans B26
      have B24 : But L0 J24 J35 := (But.of s25 : But L0 J24 J25).trans B25
      have B23 : But L0 J23 J35 := (But.of s24 : But L0 J23 J24).trans B24
      have B22 : But L0 J22 J35 := (But.of s23 : But L0 J22 J23).trans B23
      have B21 : But L0 J21 J35 := (But.of s22 : But L0 J21 J22).trans B22
      have B20 : But L0 J20 J35 := (But.of s21 : But L0 J20 J21).trans B21
      have B19 : But L0 J19 J35 := (But.of s20 : But L0 J19 J20).trans B20
      have B18 : But L0 J18 J35 := (b19 : But L0 J18 J19).trans B19
      have B17 : But L0 J17 J35 := (But.of s18 : But L0 J17 J18).trans B18
      have B16 : But L0 J16 J35 := (But.of s17 : But L0 J16 J17).trans B17
      have B15 : But L0 J15 J35 := (But.of s16 : But L0 J15 J16).trans B16
      have B14 : But L0 J14 J35 := (But.of s15 : But L0 J14 J15).trans B15
      have B13 : But L0 J13 J35 := (But.of s14 : But L0 J13 J14).trans B14
      have B12 : But L0 J12 J35 := (But.of s13 : But L0 J12 J13).trans B13
      have B11 : But L0 J11 J35 := (But.of s12 : But L0 J11 J12).trans B12
      have B10 : But L0 J10 J35 := (But.of s11 : But L0 J10 J11).trans B11
      have B9 : But L0 J9 J35 := (But.of s10 : But L0 J9 J10).trans B10
      have B8 : But L0 J8 J35 := (But.of s9 : But L0 J8 J9).trans B9
      have B7 : But L0 J7 J35 := (But.of s8 : But L0 J7 J8).trans B8
      have B6 : But L0 J6 J35 := (But.of s7 : But L0 J6 J7).trans B7
      have B5 : But L0 J5 J35 := (But.of s6 : But L0 J5 J6).trans B6
      have B4 : But L0 J4 J35 := (But.of s5 : But L0 J4 J5).trans B5
      have B3 : But L0 J3 J35 := (But.of s4 : But L0 J3 J4).trans B4
      have B2 : But L0 J2 J35 := (But.of s3 : But L0 J2 J3).trans B3
      have B1 : But L0 J1 J35 := (But.of s2 : But L0 J1 J2).trans B2
      have B0 : But L0 G8 J35 := (But.of s1 : But L0 G8 J1).trans B1
      have S0 : Same G8 J10 := fun b u e => s10 _ _ (s9 _ _ (s8 _ _ (s7 _ _ (s6 _ _ (s5 _ _ (s4 _ _ (s3 _ _ (s2 _ _ (s1 _ _ (e))))))))))
      have SZ : Same G8 J35 := fun b u e => B0 b u (ne_of_none (S0 b u e) m11) e
      have z_t0_0 : J35 t0_0 = some (.tup [V.str "ta", V.str "q"]) := B1 _ _ (ne_of_none (show J10 t0_0 = some _ from s10 _ _ (s9 _ _ (s8 _ _ (s7 _ _ (s6 _ _ (s5 _ _ (s4 _ _ (s3 _ _ (s2 _ _ (e1)))))))))) m11) e1
      have z_t0_1 : J35 t0_1 = some (.tup [V.str "na", V.int 0]) := B2 _ _ (ne_of_none (show J10 t0_1 = some _ from s10 _ _ (s9 _ _ (s8 _ _ (s7 _ _ (s6 _ _ (s5 _ _ (s4 _ _ (s3 _ _ (e2))))))))) m11) e2
      have z_t0_2 : J35 t0_2 = some (.tup [V.str "nb", V.int (-1)]) := B3 _ _ (ne_of_none (show J10 t0_2 = some _ from s10 _ _ (s9 _ _ (s8 _ _ (s7 _ _ (s6 _ _ (s5 _ _ (s4 _ _ (e3)))))))) m11) e3
      have z_t0_3 : J35 t0_3 = some (.tup [V.str "tb", V.str "a b"]) := B4 _ _ (ne_of_none (show J10 t0_3 = some _ from s10 _ _ (s9 _ _ (s8 _ _ (s7 _ _ (s6 _ _ (s5 _ _ (e4))))))) m11) e4
      have z_I0 : J35 I0 = some (.lst [V.ref t0_0, V.ref t0_1, V.ref t0_2, V.ref t0_3]) := B5 _ _ (ne_of_none (show J10 I0 = some _ from s10 _ _ (s9 _ _ (s8 _ _ (s7 _ _ (s6 _ _ (e5)))))) m11) e5
      have z_t1_0 : J35 t1_0 = some (.tup [V.str "ta"]) := B6 _ _ (ne_of_none (show J10 t1_0 = some _ from s10 _ _ (s9 _ _ (s8 _ _ (s7 _ _ (e6))))) m11) e6
      have z_t1_1 : J35 t1_1 = some (.tup [V.str "tb"]) := B7 _ _ (ne_of_none (show J10 t1_1 = some _ from s10 _ _ (s9 _ _ (s8 _ _ (e7)))) m11) e7
      have z_t1_2 : J35 t1_2 = some (.tup [V.str "na"]) := B8 _ _ (ne_of_none (show J10 t1_2 = some _ from s10 _ _ (s9 _ _ (e8))) m11) e8
      have z_t1_3 : J35 t1_3 = some (.tup [V.str "nb"]) := B9 _ _ (ne_of_none (show J10 t1_3 = some _ from s10 _ _ (e9)) m11) e9
      have z_I1 : J35 I1 = some (.lst [V.ref t1_0, V.ref t1_1, V.ref t1_2, V.ref t1_3]) := B10 _ _ (ne_of_none (show J10 I1 = some _ from e10) m11) e10
      have z_t2_0 : J35 t2_0 = some (.tup [V.str "na", V.int 0, V.int 5]) := B12 _ _ (ne_of_none l11 m12).symm e12
      have z_t2_1 : J35 t2_1 = some (.tup [V.str "nb", V.int 5, V.int 5]) := B13 _ _ (ne_of_none l12 m13).symm e13
      have z_t2_2 : J35 t2_2 = some (.tup [V.str "na", V.int (-7), V.int (10 ^ (8 : Int).toNat)]) := B14 _ _ (ne_of_none l13 m14).symm e14
      have z_t2_3 : J35 t2_3 = some (.tup [V.str "ta", V.str "a", V.str "b"]) := B15 _ _ (ne_of_none l14 m15).symm e15
      have z_t2_4 : J35 t2_4 = some (.tup [V.str "tb", V.str "a", V.str "a"]) := B16 _ _ (ne_of_none l15 m16).symm e16
      have z_t2_5 : J35 t2_5 = some (.tup [V.str "nb", V.int 6, V.int 9]) := B17 _ _ (ne_of_none l16 m17).symm e17
      have z_I2 : J35 I2 = some (.lst [V.ref t2_0, V.ref t2_1, V.ref t2_2, V.ref t2_3, V.ref t2_4, V.ref t2_5]) := B18 _ _ (ne_of_none l17 m18).symm e18
      have z_u3_0 : J35 u3_0 = some (.tup [V.str "a"]) := B20 _ _ (ne_of_none l19 m20).symm e20
      have z_t3_0 : J35 t3_0 = some (.tup [V.str "ta", V.ref u3_0]) := B21 _ _ (ne_of_none l20 m21).symm e21
      have z_u3_1 : J35 u3_1 = some (.tup [V.str "a", V.str "b c", V.str "x"]) := B22 _ _ (ne_of_none l21 m22).symm e22
      have z_t3_1 : J35 t3_1 = some (.tup [V.str "tb", V.ref u3_1]) := B23 _ _ (ne_of_none l22 m23).symm e23
      have z_u3_2 : J35 u3_2 = some (.tup [V.int 0, V.int 5]) := B24 _ _ (ne_of_none l23 m24).symm e24
      have z_t3_2 : J35 t3_2 = some (.tup [V.str "na", V.ref u3_2]) := B25 _ _ (ne_of_none l24 m25).symm e25
      have z_u3_3 : J35 u3_3 = some (.tup [V.int 5]) := B26 _ _ (ne_of_none l25 m26).symm e26
      have z_t3_3 : J35 t3_3 = some (.tup [V.str "nb", V.ref u3_3]) := B27 _ _ (ne_of_none l26 m27).symm e27
      have z_I3 : J35 I3 = some (.lst [V.ref t3_0, V.ref t3_1, V.ref t3_2, V.ref t3_3]) := B28 _ _ (ne_of_none l27 m28).symm e28
      have z_t4_0 : J35 t4_0 = some (.tup [V.str "na", V.str "nb"]) := B30 _ _ (ne_of_none l29 m30).symm e30
      have z_t4_1 : J35 t4_1 = some (.tup [V.str "nb", V.str "na"]) := B31 _ _ (ne_of_none l30 m31).symm e31
      have z_t4_2 : J35 t4_2 = some (.tup [V.str "ta", V.str "tb"]) := B32 _ _ (ne_of_none l31 m32).symm e32
      have z_t4_3 : J35 t4_3 = some (.tup [V.str "tb", V.str "ta"]) := B33 _ _ (ne_of_none l32 m33).symm e33
      have z_I4 : J35 I4 = some (.lst [V.ref t4_0, V.ref t4_1, V.ref t4_2, V.ref t4_3]) := B34 _ _ (ne_of_none l33 m34).symm e34
      clear B0 B1 B2 B3 B4 B5 B6 B7 B8 B9 B10 B11 B12 B13 B14 B15 B16 B17 B18 B19 B20 B21 B22 B23 B24 B25 B26 B27 B28 B29 B30 B31 B32 B33 B34 B35
      have hdz : HandAt J35 h (n + 19) := hd8'.mono SZ (Nat.le_refl _)
      refine ⟨(show 5 ≤ sizeLine by decide), fun Lw mw => newO mw fun Jw sw ew => ?_⟩
      have SW : Same G8 Jw := SZ.trans sw
      have close : ∀ (wd : Str) (t w2 : Addr) (ys : List V) (dd : Deed) (Gp : Hp) (m : Nat), Gp D = some (.dK (row4 x1 x2 v3 v4)) → HandAt Gp h m → m ≤ n + 40 → ButN h H Gp → Tabs (tabsL Pt) Gp → Gp t = some (.tup ys) → dd.items (.str nm) = [.str nm, .str wd] ++ ys → (∀ x ∈ ys, Nest Gp 2 x) → Good 60 wd → (∀ G, Same Gp G → dd.ok K G (row4 x1 x2 v3 v4)) → dd.fit (row4 x1 x2 v3 v4) →
          ∀ p1, Gp p1 = none → 2 ≤ sizeLine ∧ ∀ p2, upd Gp p1 (.tup ([.str nm, .str wd] ++ ys)) p2 = none → Q (.ref p2) (upd (upd Gp p1 (.tup ([.str nm, .str wd] ++ ys))) p2 (.tup [.ref p1, .ref D])) := by
        intro wd t w2 ys dd Gp m eD hdp lm bp tp et ei ns gw ok ft p1 n1
        refine ⟨by decide, fun p2 n2 => newO n2 fun Gd sd ed => ?_⟩
        have s1 := Same.new (o := .tup ([.str nm, .str wd] ++ ys)) n1
        have sf := s1.trans sd
        refine fin p2 p1 (.str nm) _ dd Gd m ed (by rw [ei]; exact sd _ _ upd_same) (fun x hx => ?_) (sf _ _ eD) rs (ok Gd sf) ft (hdp.mono sf (Nat.le_refl _)) lm (butN_trans bp (butN_same sf)) (tabs_same tp sf)
        rw [ei] at hx
        rcases List.mem_append.mp hx with hx | hx
        · rcases List.mem_cons.mp hx with rfl | hx
          · exact s60 gnm (by decide) _ _
          · rw [List.mem_singleton.mp hx]
            exact s60 gw (by decide) _ _
        · exact Nest.mono (fun a xs e => sf _ _ e) (ns x hx)
      have pick2 : ∀ (G : Hp) (m : Nat) (ys : List V) (D : Addr) (R : VK), HandAt G h m → m < 999999 → G D = some (.lst ys) → D ≠ h → 0 < ys.length → ys.length ≤ 1000 →
          (∀ y G', y ∈ ys → HandAt G' h (m + 1) → But h G G' → R y G') → ∀ X, spPick K [.ref h, .ref D] G R X := by
        intro G m ys D R hg mb eD ne l0 l1 k X
        exact ⟨h, m, .ref D, ys, rfl, hg, by omega, l0, l1, .inr ⟨D, rfl, ne, SqL.of eD⟩, k⟩
      have neh : ∀ {G : Hp} {p a : Addr} {l : List V} {m : Nat}, HandAt G h m → G p = some (.lst (.ref a :: l)) → p ≠ h := fun hg e z => by
        obtain ⟨g0, t0, c0, e1, _⟩ := hg
        rw [z, e1] at e
        cases e
      have rta := rowV_of (kv4 (x1 := x1) (x2 := x2) (v3 := v3) (v4 := v4)).1
      have rtb := rowV_of (kv4 (x1 := x1) (x2 := x2) (v3 := v3) (v4 := v4)).2.1
      have rna := rowV_of (kv4 (x1 := x1) (x2 := x2) (v3 := v3) (v4 := v4)).2.2.1
      have rnb := rowV_of (kv4 (x1 := x1) (x2 := x2) (v3 := v3) (v4 := v4)).2.2.2
      have sta : (valV (row4 x1 x2 v3 v4) (tk "ta")).isSome = true := by show (valV _ (ky "ta")).isSome = true; rw [kv4.1]; rfl
      have stb : (valV (row4 x1 x2 v3 v4) (tk "tb")).isSome = true := by show (valV _ (ky "tb")).isSome = true; rw [kv4.2.1]; rfl
      have sna : (valV (row4 x1 x2 v3 v4) (tk "na")).isSome = true := by show (valV _ (ky "na")).isSome = true; rw [kv4.2.2.1]; rfl
      have snb : (valV (row4 x1 x2 v3 v4) (tk "nb")).isSome = true := by show (valV _ (ky "nb")).isSome = true; rw [kv4.2.2.2]; rfl
      have cta : CellOk (rowV (row4 x1 x2 v3 v4) "ta") := by rw [rta]; exact cell_os fun z e => (gx1 z e).le (by decide)
      have ctb : CellOk (rowV (row4 x1 x2 v3 v4) "tb") := by rw [rtb]; exact cell_os fun z e => (gx2 z e).le (by decide)
      have cna : CellOk (rowV (row4 x1 x2 v3 v4) "na") := by rw [rna]; exact nv3.cell.ok
      have cnb : CellOk (rowV (row4 x1 x2 v3 v4) "nb") := by rw [rnb]; exact nv4.cell.ok
      have gstr : ∀ z : Str, Good 60 z → CellOk (.str z) := fun z g => cell_str (g.le (by decide))
      rcases (show lot = 4 ∨ lot = 5 ∨ lot = 6 ∨ lot = 7 ∨ lot = 8 by omega) with rfl | rfl | rfl | rfl | rfl
      · refine ⟨_, rfl, _, _, rfl, rfl, Lw, _, _, V.str "put", rfl, rfl, SqL.of ew, rfl, ?_⟩
        refine gN ?_
        try dsimp only
        unfold tRet
        dsimp only
        refine ⟨_, rfl, _, rfl, (show 2 ≤ sizeLine by decide), fun w2 mw2 => newO mw2 fun Jv sv ev => ?_⟩
        have SV : Same J35 Jv := sw.trans sv
        have hdv : HandAt Jv h (n + 19) := hdz.mono SV (Nat.le_refl _)
        refine ⟨_, rfl, _, rfl, _, rfl, _, _, rfl, rfl, L0, _, _, V.ref I0, rfl, rfl, SqL.of (SV _ _ l35), rfl, ?_⟩
        refine pick2 Jv (n + 19) [V.ref t0_0, V.ref t0_1, V.ref t0_2, V.ref t0_3] I0 _ hdv (by omega) (SV _ _ z_I0) (neh hdv (SV _ _ z_I0)) (show 0 < 4 by decide) (show 4 ≤ 1000 by decide) (fun y Gp hy hdp btp => ?_) E0
        have eDp : Gp D = some (.dK (row4 x1 x2 v3 v4)) := btp D _ nDh (SV _ _ (SZ _ _ eD8))
        have bp : ButN h H Gp := butN_trans b8 (butN_trans (butN_same (SZ.trans SV)) (butN_of btp))
        have tp : Tabs (tabsL Pt) Gp := tabs_but (tabs_same tabs8 (SZ.trans SV)) hdv btp
        have mv : ∀ {a : Addr} {xs : List V}, J35 a = some (.tup xs) → Gp a = some (.tup xs) := fun e => btp _ _ (lst_tup hdv (SV _ _ e)) (SV _ _ e)
        have w2p : Gp w2 = some (.tup [.str nm, .str "put"]) := btp _ _ (lst_tup hdv ev) ev
        have gw : Good 60 ("put" : Str) := by constructor <;> decide +kernel
        simp only [List.mem_cons, List.not_mem_nil, or_false] at hy
        rcases hy with rfl | rfl | rfl | rfl
        · refine ⟨w2, t0_0, _, _, rfl, rfl, SqT.of w2p, SqT.of (mv z_t0_0), List.cons_ne_nil _ _, (show 2 + 2 ≤ sizeLine by decide), fun z => absurd z (List.cons_ne_nil _ _), fun _ p1 mp1 => ⟨_, rfl, close "put" t0_0 w2 _ (.put "ta" (V.str "q")) Gp (n + 19 + 1) eDp hdp (by omega) bp tp (mv z_t0_0) rfl (fun x hx => ?_) gw (fun G _ => sta) (⟨gstr _ (by constructor <;> decide +kernel), cta, by decide +kernel⟩) p1 mp1⟩⟩
          simp only [List.mem_cons, List.not_mem_nil, or_false] at hx
          rcases hx with rfl | rfl
          · exact w60 _ (by constructor <;> decide +kernel) _ _
          · exact w60 _ (by constructor <;> decide +kernel) _ _
        · refine ⟨w2, t0_1, _, _, rfl, rfl, SqT.of w2p, SqT.of (mv z_t0_1), List.cons_ne_nil _ _, (show 2 + 2 ≤ sizeLine by decide), fun z => absurd z (List.cons_ne_nil _ _), fun _ p1 mp1 => ⟨_, rfl, close "put" t0_1 w2 _ (.put "na" (V.int 0)) Gp (n + 19 + 1) eDp hdp (by omega) bp tp (mv z_t0_1) rfl (fun x hx => ?_) gw (fun G _ => sna) (⟨cell_int (by decide), cna, by decide +kernel⟩) p1 mp1⟩⟩
          simp only [List.mem_cons, List.not_mem_nil, or_false] at hx
          rcases hx with rfl | rfl
          · exact w60 _ (by constructor <;> decide +kernel) _ _
          · exact Nest.cell (cs_int (by decide +kernel)) _
        · refine ⟨w2, t0_2, _, _, rfl, rfl, SqT.of w2p, SqT.of (mv z_t0_2), List.cons_ne_nil _ _, (show 2 + 2 ≤ sizeLine by decide), fun z => absurd z (List.cons_ne_nil _ _), fun _ p1 mp1 => ⟨_, rfl, close "put" t0_2 w2 _ (.put "nb" (V.int (-1))) Gp (n + 19 + 1) eDp hdp (by omega) bp tp (mv z_t0_2) rfl (fun x hx => ?_) gw (fun G _ => snb) (⟨cell_int (by decide), cnb, by decide +kernel⟩) p1 mp1⟩⟩
          simp only [List.mem_cons, List.not_mem_nil, or_false] at hx
          rcases hx with rfl | rfl
          · exact w60 _ (by constructor <;> decide +kernel) _ _
          · exact Nest.cell (cs_int (by decide +kernel)) _
        · refine ⟨w2, t0_3, _, _, rfl, rfl, SqT.of w2p, SqT.of (mv z_t0_3), List.cons_ne_nil _ _, (show 2 + 2 ≤ sizeLine by decide), fun z => absurd z (List.cons_ne_nil _ _), fun _ p1 mp1 => ⟨_, rfl, close "put" t0_3 w2 _ (.put "tb" (V.str "a b")) Gp (n + 19 + 1) eDp hdp (by omega) bp tp (mv z_t0_3) rfl (fun x hx => ?_) gw (fun G _ => stb) (⟨gstr _ (by constructor <;> decide +kernel), ctb, by decide +kernel⟩) p1 mp1⟩⟩
          simp only [List.mem_cons, List.not_mem_nil, or_false] at hx
          rcases hx with rfl | rfl
          · exact w60 _ (by constructor <;> decide +kernel) _ _
          · exact w60 _ (by constructor <;> decide +kernel) _ _
      · refine ⟨_, rfl, _, _, rfl, rfl, Lw, _, _, V.str "given", rfl, rfl, SqL.of ew, rfl, ?_⟩
        refine gN ?_
        try dsimp only
        unfold tRet
        dsimp only
        refine ⟨_, rfl, _, rfl, (show 2 ≤ sizeLine by decide), fun w2 mw2 => newO mw2 fun Jv sv ev => ?_⟩
        have SV : Same J35 Jv := sw.trans sv
        have hdv : HandAt Jv h (n + 19) := hdz.mono SV (Nat.le_refl _)
        refine ⟨_, rfl, _, rfl, _, rfl, _, _, rfl, rfl, L0, _, _, V.ref I1, rfl, rfl, SqL.of (SV _ _ l35), rfl, ?_⟩
        refine pick2 Jv (n + 19) [V.ref t1_0, V.ref t1_1, V.ref t1_2, V.ref t1_3] I1 _ hdv (by omega) (SV _ _ z_I1) (neh hdv (SV _ _ z_I1)) (show 0 < 4 by decide) (show 4 ≤ 1000 by decide) (fun y Gp hy hdp btp => ?_) E0
        have eDp : Gp D = some (.dK (row4 x1 x2 v3 v4)) := btp D _ nDh (SV _ _ (SZ _ _ eD8))
        have bp : ButN h H Gp := butN_trans b8 (butN_trans (butN_same (SZ.trans SV)) (butN_of btp))
        have tp : Tabs (tabsL Pt) Gp := tabs_but (tabs_same tabs8 (SZ.trans SV)) hdv btp
        have mv : ∀ {a : Addr} {xs : List V}, J35 a = some (.tup xs) → Gp a = some (.tup xs) := fun e => btp _ _ (lst_tup hdv (SV _ _ e)) (SV _ _ e)
        have w2p : Gp w2 = some (.tup [.str nm, .str "given"]) := btp _ _ (lst_tup hdv ev) ev
        have gw : Good 60 ("given" : Str) := by constructor <;> decide +kernel
        simp only [List.mem_cons, List.not_mem_nil, or_false] at hy
        rcases hy with rfl | rfl | rfl | rfl
        · refine ⟨w2, t1_0, _, _, rfl, rfl, SqT.of w2p, SqT.of (mv z_t1_0), List.cons_ne_nil _ _, (show 2 + 1 ≤ sizeLine by decide), fun z => absurd z (List.cons_ne_nil _ _), fun _ p1 mp1 => ⟨_, rfl, close "given" t1_0 w2 _ (.met "ta" .given) Gp (n + 19 + 1) eDp hdp (by omega) bp tp (mv z_t1_0) rfl (fun x hx => ?_) gw (fun G _ => ⟨sta, trivial⟩) (trivial) p1 mp1⟩⟩
          simp only [List.mem_cons, List.not_mem_nil, or_false] at hx
          subst hx
          exact w60 _ (by constructor <;> decide +kernel) _ _
        · refine ⟨w2, t1_1, _, _, rfl, rfl, SqT.of w2p, SqT.of (mv z_t1_1), List.cons_ne_nil _ _, (show 2 + 1 ≤ sizeLine by decide), fun z => absurd z (List.cons_ne_nil _ _), fun _ p1 mp1 => ⟨_, rfl, close "given" t1_1 w2 _ (.met "tb" .given) Gp (n + 19 + 1) eDp hdp (by omega) bp tp (mv z_t1_1) rfl (fun x hx => ?_) gw (fun G _ => ⟨stb, trivial⟩) (trivial) p1 mp1⟩⟩
          simp only [List.mem_cons, List.not_mem_nil, or_false] at hx
          subst hx
          exact w60 _ (by constructor <;> decide +kernel) _ _
        · refine ⟨w2, t1_2, _, _, rfl, rfl, SqT.of w2p, SqT.of (mv z_t1_2), List.cons_ne_nil _ _, (show 2 + 1 ≤ sizeLine by decide), fun z => absurd z (List.cons_ne_nil _ _), fun _ p1 mp1 => ⟨_, rfl, close "given" t1_2 w2 _ (.met "na" .given) Gp (n + 19 + 1) eDp hdp (by omega) bp tp (mv z_t1_2) rfl (fun x hx => ?_) gw (fun G _ => ⟨sna, trivial⟩) (trivial) p1 mp1⟩⟩
          simp only [List.mem_cons, List.not_mem_nil, or_false] at hx
          subst hx
          exact w60 _ (by constructor <;> decide +kernel) _ _
        · refine ⟨w2, t1_3, _, _, rfl, rfl, SqT.of w2p, SqT.of (mv z_t1_3), List.cons_ne_nil _ _, (show 2 + 1 ≤ sizeLine by decide), fun z => absurd z (List.cons_ne_nil _ _), fun _ p1 mp1 => ⟨_, rfl, close "given" t1_3 w2 _ (.met "nb" .given) Gp (n + 19 + 1) eDp hdp (by omega) bp tp (mv z_t1_3) rfl (fun x hx => ?_) gw (fun G _ => ⟨snb, trivial⟩) (trivial) p1 mp1⟩⟩
          simp only [List.mem_cons, List.not_mem_nil, or_false] at hx
          subst hx
          exact w60 _ (by constructor <;> decide +kernel) _ _
      · refine ⟨_, rfl, _, _, rfl, rfl, Lw, _, _, V.str "within", rfl, rfl, SqL.of ew, rfl, ?_⟩
        refine gN ?_
        try dsimp only
        unfold tRet
        dsimp only
        refine ⟨_, rfl, _, rfl, (show 2 ≤ sizeLine by decide), fun w2 mw2 => newO mw2 fun Jv sv ev => ?_⟩
        have SV : Same J35 Jv := sw.trans sv
        have hdv : HandAt Jv h (n + 19) := hdz.mono SV (Nat.le_refl _)
        refine ⟨_, rfl, _, rfl, _, rfl, _, _, rfl, rfl, L0, _, _, V.ref I2, rfl, rfl, SqL.of (SV _ _ l35), rfl, ?_⟩
        refine pick2 Jv (n + 19) [V.ref t2_0, V.ref t2_1, V.ref t2_2, V.ref t2_3, V.ref t2_4, V.ref t2_5] I2 _ hdv (by omega) (SV _ _ z_I2) (neh hdv (SV _ _ z_I2)) (show 0 < 6 by decide) (show 6 ≤ 1000 by decide) (fun y Gp hy hdp btp => ?_) E0
        have eDp : Gp D = some (.dK (row4 x1 x2 v3 v4)) := btp D _ nDh (SV _ _ (SZ _ _ eD8))
        have bp : ButN h H Gp := butN_trans b8 (butN_trans (butN_same (SZ.trans SV)) (butN_of btp))
        have tp : Tabs (tabsL Pt) Gp := tabs_but (tabs_same tabs8 (SZ.trans SV)) hdv btp
        have mv : ∀ {a : Addr} {xs : List V}, J35 a = some (.tup xs) → Gp a = some (.tup xs) := fun e => btp _ _ (lst_tup hdv (SV _ _ e)) (SV _ _ e)
        have w2p : Gp w2 = some (.tup [.str nm, .str "within"]) := btp _ _ (lst_tup hdv ev) ev
        have gw : Good 60 ("within" : Str) := by constructor <;> decide +kernel
        simp only [List.mem_cons, List.not_mem_nil, or_false] at hy
        rcases hy with rfl | rfl | rfl | rfl | rfl | rfl
        · refine ⟨w2, t2_0, _, _, rfl, rfl, SqT.of w2p, SqT.of (mv z_t2_0), List.cons_ne_nil _ _, (show 2 + 3 ≤ sizeLine by decide), fun z => absurd z (List.cons_ne_nil _ _), fun _ p1 mp1 => ⟨_, rfl, close "within" t2_0 w2 _ (.met "na" (.within (V.int 0) (V.int 5))) Gp (n + 19 + 1) eDp hdp (by omega) bp tp (mv z_t2_0) rfl (fun x hx => ?_) gw (fun G _ => ⟨sna, by rw [rna]; exact lk_num nv3 _ _⟩) (trivial) p1 mp1⟩⟩
          simp only [List.mem_cons, List.not_mem_nil, or_false] at hx
          rcases hx with rfl | rfl | rfl
          · exact w60 _ (by constructor <;> decide +kernel) _ _
          · exact Nest.cell (cs_int (by decide +kernel)) _
          · exact Nest.cell (cs_int (by decide +kernel)) _
        · refine ⟨w2, t2_1, _, _, rfl, rfl, SqT.of w2p, SqT.of (mv z_t2_1), List.cons_ne_nil _ _, (show 2 + 3 ≤ sizeLine by decide), fun z => absurd z (List.cons_ne_nil _ _), fun _ p1 mp1 => ⟨_, rfl, close "within" t2_1 w2 _ (.met "nb" (.within (V.int 5) (V.int 5))) Gp (n + 19 + 1) eDp hdp (by omega) bp tp (mv z_t2_1) rfl (fun x hx => ?_) gw (fun G _ => ⟨snb, by rw [rnb]; exact lk_num nv4 _ _⟩) (trivial) p1 mp1⟩⟩
          simp only [List.mem_cons, List.not_mem_nil, or_false] at hx
          rcases hx with rfl | rfl | rfl
          · exact w60 _ (by constructor <;> decide +kernel) _ _
          · exact Nest.cell (cs_int (by decide +kernel)) _
          · exact Nest.cell (cs_int (by decide +kernel)) _
        · refine ⟨w2, t2_2, _, _, rfl, rfl, SqT.of w2p, SqT.of (mv z_t2_2), List.cons_ne_nil _ _, (show 2 + 3 ≤ sizeLine by decide), fun z => absurd z (List.cons_ne_nil _ _), fun _ p1 mp1 => ⟨_, rfl, close "within" t2_2 w2 _ (.met "na" (.within (V.int (-7)) (V.int (10 ^ (8 : Int).toNat)))) Gp (n + 19 + 1) eDp hdp (by omega) bp tp (mv z_t2_2) rfl (fun x hx => ?_) gw (fun G _ => ⟨sna, by rw [rna]; exact lk_num nv3 _ _⟩) (trivial) p1 mp1⟩⟩
          simp only [List.mem_cons, List.not_mem_nil, or_false] at hx
          rcases hx with rfl | rfl | rfl
          · exact w60 _ (by constructor <;> decide +kernel) _ _
          · exact Nest.cell (cs_int (by decide +kernel)) _
          · exact Nest.cell (cs_int (by decide +kernel)) _
        · refine ⟨w2, t2_3, _, _, rfl, rfl, SqT.of w2p, SqT.of (mv z_t2_3), List.cons_ne_nil _ _, (show 2 + 3 ≤ sizeLine by decide), fun z => absurd z (List.cons_ne_nil _ _), fun _ p1 mp1 => ⟨_, rfl, close "within" t2_3 w2 _ (.met "ta" (.within (V.str "a") (V.str "b"))) Gp (n + 19 + 1) eDp hdp (by omega) bp tp (mv z_t2_3) rfl (fun x hx => ?_) gw (fun G _ => ⟨sta, by rw [rta]; exact lk_txt _ _ _⟩) (trivial) p1 mp1⟩⟩
          simp only [List.mem_cons, List.not_mem_nil, or_false] at hx
          rcases hx with rfl | rfl | rfl
          · exact w60 _ (by constructor <;> decide +kernel) _ _
          · exact w60 _ (by constructor <;> decide +kernel) _ _
          · exact w60 _ (by constructor <;> decide +kernel) _ _
        · refine ⟨w2, t2_4, _, _, rfl, rfl, SqT.of w2p, SqT.of (mv z_t2_4), List.cons_ne_nil _ _, (show 2 + 3 ≤ sizeLine by decide), fun z => absurd z (List.cons_ne_nil _ _), fun _ p1 mp1 => ⟨_, rfl, close "within" t2_4 w2 _ (.met "tb" (.within (V.str "a") (V.str "a"))) Gp (n + 19 + 1) eDp hdp (by omega) bp tp (mv z_t2_4) rfl (fun x hx => ?_) gw (fun G _ => ⟨stb, by rw [rtb]; exact lk_txt _ _ _⟩) (trivial) p1 mp1⟩⟩
          simp only [List.mem_cons, List.not_mem_nil, or_false] at hx
          rcases hx with rfl | rfl | rfl
          · exact w60 _ (by constructor <;> decide +kernel) _ _
          · exact w60 _ (by constructor <;> decide +kernel) _ _
          · exact w60 _ (by constructor <;> decide +kernel) _ _
        · refine ⟨w2, t2_5, _, _, rfl, rfl, SqT.of w2p, SqT.of (mv z_t2_5), List.cons_ne_nil _ _, (show 2 + 3 ≤ sizeLine by decide), fun z => absurd z (List.cons_ne_nil _ _), fun _ p1 mp1 => ⟨_, rfl, close "within" t2_5 w2 _ (.met "nb" (.within (V.int 6) (V.int 9))) Gp (n + 19 + 1) eDp hdp (by omega) bp tp (mv z_t2_5) rfl (fun x hx => ?_) gw (fun G _ => ⟨snb, by rw [rnb]; exact lk_num nv4 _ _⟩) (trivial) p1 mp1⟩⟩
          simp only [List.mem_cons, List.not_mem_nil, or_false] at hx
          rcases hx with rfl | rfl | rfl
          · exact w60 _ (by constructor <;> decide +kernel) _ _
          · exact Nest.cell (cs_int (by decide +kernel)) _
          · exact Nest.cell (cs_int (by decide +kernel)) _
      · refine ⟨_, rfl, _, _, rfl, rfl, Lw, _, _, V.str "among", rfl, rfl, SqL.of ew, rfl, ?_⟩
        refine gN ?_
        try dsimp only
        unfold tRet
        dsimp only
        refine ⟨_, rfl, _, rfl, (show 2 ≤ sizeLine by decide), fun w2 mw2 => newO mw2 fun Jv sv ev => ?_⟩
        have SV : Same J35 Jv := sw.trans sv
        have hdv : HandAt Jv h (n + 19) := hdz.mono SV (Nat.le_refl _)
        refine ⟨_, rfl, _, rfl, _, rfl, _, _, rfl, rfl, L0, _, _, V.ref I3, rfl, rfl, SqL.of (SV _ _ l35), rfl, ?_⟩
        refine pick2 Jv (n + 19) [V.ref t3_0, V.ref t3_1, V.ref t3_2, V.ref t3_3] I3 _ hdv (by omega) (SV _ _ z_I3) (neh hdv (SV _ _ z_I3)) (show 0 < 4 by decide) (show 4 ≤ 1000 by decide) (fun y Gp hy hdp btp => ?_) E0
        have eDp : Gp D = some (.dK (row4 x1 x2 v3 v4)) := btp D _ nDh (SV _ _ (SZ _ _ eD8))
        have bp : ButN h H Gp := butN_trans b8 (butN_trans (butN_same (SZ.trans SV)) (butN_of btp))
        have tp : Tabs (tabsL Pt) Gp := tabs_but (tabs_same tabs8 (SZ.trans SV)) hdv btp
        have mv : ∀ {a : Addr} {xs : List V}, J35 a = some (.tup xs) → Gp a = some (.tup xs) := fun e => btp _ _ (lst_tup hdv (SV _ _ e)) (SV _ _ e)
        have w2p : Gp w2 = some (.tup [.str nm, .str "among"]) := btp _ _ (lst_tup hdv ev) ev
        have gw : Good 60 ("among" : Str) := by constructor <;> decide +kernel
        simp only [List.mem_cons, List.not_mem_nil, or_false] at hy
        rcases hy with rfl | rfl | rfl | rfl
        · refine ⟨w2, t3_0, _, _, rfl, rfl, SqT.of w2p, SqT.of (mv z_t3_0), List.cons_ne_nil _ _, (show 2 + 2 ≤ sizeLine by decide), fun z => absurd z (List.cons_ne_nil _ _), fun _ p1 mp1 => ⟨_, rfl, close "among" t3_0 w2 _ (.met "ta" (.among u3_0 [V.str "a"])) Gp (n + 19 + 1) eDp hdp (by omega) bp tp (mv z_t3_0) rfl (fun x hx => ?_) gw (fun G s => ⟨sta, SqT.of (s _ _ (mv z_u3_0)), by rw [rta]; exact fl_txt _, rfl⟩) (trivial) p1 mp1⟩⟩
          simp only [List.mem_cons, List.not_mem_nil, or_false] at hx
          rcases hx with rfl | rfl
          · exact w60 _ (by constructor <;> decide +kernel) _ _
          · refine Nest.tup (mv z_u3_0) (show 1 ≤ 10 by decide) fun x hx => ?_
            simp only [List.mem_cons, List.not_mem_nil, or_false] at hx
            subst hx
            exact w60 _ (by constructor <;> decide +kernel) _ _
        · refine ⟨w2, t3_1, _, _, rfl, rfl, SqT.of w2p, SqT.of (mv z_t3_1), List.cons_ne_nil _ _, (show 2 + 2 ≤ sizeLine by decide), fun z => absurd z (List.cons_ne_nil _ _), fun _ p1 mp1 => ⟨_, rfl, close "among" t3_1 w2 _ (.met "tb" (.among u3_1 [V.str "a", V.str "b c", V.str "x"])) Gp (n + 19 + 1) eDp hdp (by omega) bp tp (mv z_t3_1) rfl (fun x hx => ?_) gw (fun G s => ⟨stb, SqT.of (s _ _ (mv z_u3_1)), by rw [rtb]; exact fl_txt _, rfl⟩) (trivial) p1 mp1⟩⟩
          simp only [List.mem_cons, List.not_mem_nil, or_false] at hx
          rcases hx with rfl | rfl
          · exact w60 _ (by constructor <;> decide +kernel) _ _
          · refine Nest.tup (mv z_u3_1) (show 3 ≤ 10 by decide) fun x hx => ?_
            simp only [List.mem_cons, List.not_mem_nil, or_false] at hx
            rcases hx with rfl | rfl | rfl
            · exact w60 _ (by constructor <;> decide +kernel) _ _
            · exact w60 _ (by constructor <;> decide +kernel) _ _
            · exact w60 _ (by constructor <;> decide +kernel) _ _
        · refine ⟨w2, t3_2, _, _, rfl, rfl, SqT.of w2p, SqT.of (mv z_t3_2), List.cons_ne_nil _ _, (show 2 + 2 ≤ sizeLine by decide), fun z => absurd z (List.cons_ne_nil _ _), fun _ p1 mp1 => ⟨_, rfl, close "among" t3_2 w2 _ (.met "na" (.among u3_2 [V.int 0, V.int 5])) Gp (n + 19 + 1) eDp hdp (by omega) bp tp (mv z_t3_2) rfl (fun x hx => ?_) gw (fun G s => ⟨sna, SqT.of (s _ _ (mv z_u3_2)), by rw [rna]; exact fl_num nv3, rfl⟩) (trivial) p1 mp1⟩⟩
          simp only [List.mem_cons, List.not_mem_nil, or_false] at hx
          rcases hx with rfl | rfl
          · exact w60 _ (by constructor <;> decide +kernel) _ _
          · refine Nest.tup (mv z_u3_2) (show 2 ≤ 10 by decide) fun x hx => ?_
            simp only [List.mem_cons, List.not_mem_nil, or_false] at hx
            rcases hx with rfl | rfl
            · exact Nest.cell (cs_int (by decide)) _
            · exact Nest.cell (cs_int (by decide)) _
        · refine ⟨w2, t3_3, _, _, rfl, rfl, SqT.of w2p, SqT.of (mv z_t3_3), List.cons_ne_nil _ _, (show 2 + 2 ≤ sizeLine by decide), fun z => absurd z (List.cons_ne_nil _ _), fun _ p1 mp1 => ⟨_, rfl, close "among" t3_3 w2 _ (.met "nb" (.among u3_3 [V.int 5])) Gp (n + 19 + 1) eDp hdp (by omega) bp tp (mv z_t3_3) rfl (fun x hx => ?_) gw (fun G s => ⟨snb, SqT.of (s _ _ (mv z_u3_3)), by rw [rnb]; exact fl_num nv4, rfl⟩) (trivial) p1 mp1⟩⟩
          simp only [List.mem_cons, List.not_mem_nil, or_false] at hx
          rcases hx with rfl | rfl
          · exact w60 _ (by constructor <;> decide +kernel) _ _
          · refine Nest.tup (mv z_u3_3) (show 1 ≤ 10 by decide) fun x hx => ?_
            simp only [List.mem_cons, List.not_mem_nil, or_false] at hx
            subst hx
            exact Nest.cell (cs_int (by decide)) _
      · refine ⟨_, rfl, _, _, rfl, rfl, Lw, _, _, V.str "before", rfl, rfl, SqL.of ew, rfl, ?_⟩
        refine gN ?_
        try dsimp only
        unfold tRet
        dsimp only
        refine ⟨_, rfl, _, rfl, (show 2 ≤ sizeLine by decide), fun w2 mw2 => newO mw2 fun Jv sv ev => ?_⟩
        have SV : Same J35 Jv := sw.trans sv
        have hdv : HandAt Jv h (n + 19) := hdz.mono SV (Nat.le_refl _)
        refine ⟨_, rfl, _, rfl, _, rfl, _, _, rfl, rfl, L0, _, _, V.ref I4, rfl, rfl, SqL.of (SV _ _ l35), rfl, ?_⟩
        refine pick2 Jv (n + 19) [V.ref t4_0, V.ref t4_1, V.ref t4_2, V.ref t4_3] I4 _ hdv (by omega) (SV _ _ z_I4) (neh hdv (SV _ _ z_I4)) (show 0 < 4 by decide) (show 4 ≤ 1000 by decide) (fun y Gp hy hdp btp => ?_) E0
        have eDp : Gp D = some (.dK (row4 x1 x2 v3 v4)) := btp D _ nDh (SV _ _ (SZ _ _ eD8))
        have bp : ButN h H Gp := butN_trans b8 (butN_trans (butN_same (SZ.trans SV)) (butN_of btp))
        have tp : Tabs (tabsL Pt) Gp := tabs_but (tabs_same tabs8 (SZ.trans SV)) hdv btp
        have mv : ∀ {a : Addr} {xs : List V}, J35 a = some (.tup xs) → Gp a = some (.tup xs) := fun e => btp _ _ (lst_tup hdv (SV _ _ e)) (SV _ _ e)
        have w2p : Gp w2 = some (.tup [.str nm, .str "before"]) := btp _ _ (lst_tup hdv ev) ev
        have gw : Good 60 ("before" : Str) := by constructor <;> decide +kernel
        simp only [List.mem_cons, List.not_mem_nil, or_false] at hy
        rcases hy with rfl | rfl | rfl | rfl
        · refine ⟨w2, t4_0, _, _, rfl, rfl, SqT.of w2p, SqT.of (mv z_t4_0), List.cons_ne_nil _ _, (show 2 + 2 ≤ sizeLine by decide), fun z => absurd z (List.cons_ne_nil _ _), fun _ p1 mp1 => ⟨_, rfl, close "before" t4_0 w2 _ (.met "na" (.before "nb" v4)) Gp (n + 19 + 1) eDp hdp (by omega) bp tp (mv z_t4_0) rfl (fun x hx => ?_) gw (fun G _ => ⟨sna, kv4.2.2.2, by rw [rna]; exact lb_num nv3 nv4⟩) (trivial) p1 mp1⟩⟩
          simp only [List.mem_cons, List.not_mem_nil, or_false] at hx
          rcases hx with rfl | rfl
          · exact w60 _ (by constructor <;> decide +kernel) _ _
          · exact w60 _ (by constructor <;> decide +kernel) _ _
        · refine ⟨w2, t4_1, _, _, rfl, rfl, SqT.of w2p, SqT.of (mv z_t4_1), List.cons_ne_nil _ _, (show 2 + 2 ≤ sizeLine by decide), fun z => absurd z (List.cons_ne_nil _ _), fun _ p1 mp1 => ⟨_, rfl, close "before" t4_1 w2 _ (.met "nb" (.before "na" v3)) Gp (n + 19 + 1) eDp hdp (by omega) bp tp (mv z_t4_1) rfl (fun x hx => ?_) gw (fun G _ => ⟨snb, kv4.2.2.1, by rw [rnb]; exact lb_num nv4 nv3⟩) (trivial) p1 mp1⟩⟩
          simp only [List.mem_cons, List.not_mem_nil, or_false] at hx
          rcases hx with rfl | rfl
          · exact w60 _ (by constructor <;> decide +kernel) _ _
          · exact w60 _ (by constructor <;> decide +kernel) _ _
        · refine ⟨w2, t4_2, _, _, rfl, rfl, SqT.of w2p, SqT.of (mv z_t4_2), List.cons_ne_nil _ _, (show 2 + 2 ≤ sizeLine by decide), fun z => absurd z (List.cons_ne_nil _ _), fun _ p1 mp1 => ⟨_, rfl, close "before" t4_2 w2 _ (.met "ta" (.before "tb" (os x2))) Gp (n + 19 + 1) eDp hdp (by omega) bp tp (mv z_t4_2) rfl (fun x hx => ?_) gw (fun G _ => ⟨sta, kv4.2.1, by rw [rta]; exact lb_txt _ _⟩) (trivial) p1 mp1⟩⟩
          simp only [List.mem_cons, List.not_mem_nil, or_false] at hx
          rcases hx with rfl | rfl
          · exact w60 _ (by constructor <;> decide +kernel) _ _
          · exact w60 _ (by constructor <;> decide +kernel) _ _
        · refine ⟨w2, t4_3, _, _, rfl, rfl, SqT.of w2p, SqT.of (mv z_t4_3), List.cons_ne_nil _ _, (show 2 + 2 ≤ sizeLine by decide), fun z => absurd z (List.cons_ne_nil _ _), fun _ p1 mp1 => ⟨_, rfl, close "before" t4_3 w2 _ (.met "tb" (.before "ta" (os x1))) Gp (n + 19 + 1) eDp hdp (by omega) bp tp (mv z_t4_3) rfl (fun x hx => ?_) gw (fun G _ => ⟨stb, kv4.1, by rw [rtb]; exact lb_txt _ _⟩) (trivial) p1 mp1⟩⟩
          simp only [List.mem_cons, List.not_mem_nil, or_false] at hx
          rcases hx with rfl | rfl
          · exact w60 _ (by constructor <;> decide +kernel) _ _
          · exact w60 _ (by constructor <;> decide +kernel) _ _
end
end K21
set_option Elab.async false
set_option linter.all false
set_option maxRecDepth 100000
set_option maxHeartbeats 4000000
/-! Xo: the end of a row over a law that shows dicts, where one def holds a lambda -/
namespace Xo
open PySem PySem.Spec PyProof.Rows L2 Bs LamX
/-- nothing but frozen lists and the table c's -/
def Only1 (Pt : Addr) (H : Hp) : Prop := H Pt = some (.tbl #[]) ∧ ∀ b, H b = none ∨ b = Pt ∨ ∃ o xs, H b = some (.frz o (.lst xs))
theorem endT {P : Program} {w : World} {K : PySem.W.Frag} {mg mb : Str → Option Value} {k : Nat} {fa a c Pt : Addr} {fd : FuncData} {x : Str} {sp : Sp} {s : Shared} {us : List Value} {ns : List Int}
    (inK : K.In s.heap) (gl : s.heap.Ns mainGlobals mg) (bu : s.heap.Ns builtinsNs mb) (buE : ∀ x : Str, x ≠ "__name__" → mb x = bootBuiltins x) (noL : s.heap.NoLimit) (sm : ∃ mm, s.heap.Ns sysModules mm) (noG : s.gens = #[])
    (tP : s.heap.get? Pt = some { cls := .none, data := .fields #[] }) (nP : K.lookup Pt = none) (hd : PySem.W.CodeHd s.heap c Pt)
    (bmain : ∃ (bm : Addr) (ob : Obj), mg "__builtins__" = some (.ref bm) ∧ bm ≠ builtinsNs ∧ s.heap.get? bm = some ob ∧ ob.cls = .type "module" ∧ ob.dict = some builtinsNs ∧ ob.data = .plain)
    (at_ : s.heap.get? a = some { cls := .type "list", data := .seq us.toArray }) (iA : IntsAre us ns) (len : ns.length ≤ sizeLine) (room : Room k callerA)
    (F : ∀ base : Heap, K.In base → base.Ns mainGlobals mg → (∃ mm, base.Ns sysModules mm) → TabB base mg c Pt → FG P w K mg base k fa fd [x] sp) (bnd : ∀ (s : Shared) (u : Value), BindsTo s fd ⟨[u], []⟩ [(x, u)])
    (want : ∀ H : Hp, Only1 Pt H → SqL K H a (ns.map V.int) → sp [.ref a] H (fun v _ => v = .bl true) E0) :
    codeAny (model P w) callerA (.call (.ref fa) ⟨[.ref a], []⟩) (fun r s' => r = .ok (.ret (.bool true)) ∧ OldK s.heap s'.heap ∧ s'.os = s.os ∧ AllBare s'.gens) s := by
  have rv := vals_ints iA
  have lenV := iA.length
  have aP : a ≠ Pt := by
    intro z
    rw [z, tP] at at_
    cases at_
  have key : ∀ H : Hp, Only1 Pt H → SqL K H a (ns.map V.int) → HOk P w H s.heap → (∀ b, b ≠ a → b ≠ Pt → H b = none) → (K.lookup a ≠ none → H a = none) →
      codeAny (model P w) callerA (.call (.ref fa) ⟨[.ref a], []⟩) (fun r s' => r = .ok (.ret (.bool true)) ∧ OldK s.heap s'.heap ∧ s'.os = s.os ∧ AllBare s'.gens) s := by
    intro H oH sH okH one hK
    have free : ∀ {b : Addr} {o : Obj}, s.heap.get? b = some o → (∀ us n, o.data ≠ .seq us n) → o.data ≠ .fields #[] → H b = none := by
      intro b o e d1 d2
      by_cases eb : b = a
      · rw [eb, at_] at e
        cases e
        exact absurd rfl (d1 us.toArray _)
      · by_cases ep : b = Pt
        · rw [ep, tP] at e
          cases e
          exact absurd rfl d2
        · exact one b eb ep
    have nd : ∀ {b : Addr} {o : Obj} {es : Array DictEntry} {ep : Nat}, s.heap.get? b = some o → o.data = .dict es ep → H b = none := by
      intro b o es ep e d
      apply free e
      · intro us n z
        rw [d] at z
        cases z
      · intro z
        rw [d] at z
        cases z
    have nsH : ∀ {b : Addr} {m : Str → Option Value}, s.heap.Ns b m → (hidT s.heap H).Ns b m := by
      rintro b m ⟨o, es, ep, e, d, r⟩
      exact ⟨o, es, ep, hidT_get e (nd e d), d, r⟩
    have kH : K.In (hidT s.heap H) := by
      intro b o e
      apply hidT_get (inK b o e)
      by_cases eb : b = a
      · rw [eb]
        exact hK (by rw [← eb, e]; simp)
      · refine one b eb fun z => ?_
        rw [z, nP] at e
        cases e
    have md : Mod K mg (hidT s.heap H) := ⟨kH, nsH gl, ⟨mb, nsH bu, buE⟩, noL.elim fun mc q => ⟨mc, nsH q.1, q.2⟩⟩
    have e0 : Env0 P w K mg (hidT s.heap H) callerA [] s H :=
      { frames := rfl, mod := md, bs := fun b o e => of_hidT e, bsz := Nat.le_of_eq (hidT_size _ _), funs := trivial, frf := fun b hb => (nomatch (show b ∈ ([] : List Addr) from hb)), hok := okH, bare := .of_eq noG }
    have tb : TabB (hidT s.heap H) mg c Pt := by
      constructor
      · obtain ⟨o, vs, file, tf, flags, tg, inF, text, tt, q1, q2, q3, q4, rest⟩ := hd
        refine ⟨o, vs, file, tf, flags, tg, inF, text, tt, hidT_get q1 (free q1 ?_ ?_), q2, q3, q4, rest⟩
        · intro us n z
          rw [q3] at z
          cases z
        · intro z
          rw [q3] at z
          cases z
          cases q4
      · obtain ⟨bm, ob, q1, q2, q3, q4, q5, q6⟩ := bmain
        have n1 : bm ≠ mainGlobals := by
          intro z
          obtain ⟨o, es, ep, e, hd', _⟩ := gl
          rw [z, e] at q3
          cases q3
          rw [hd'] at q6
          cases q6
        have n2 : bm ≠ Pt := by
          intro z
          rw [z, tP] at q3
          cases q3
          cases q6
        refine ⟨bm, ob, q1, q2, n1, n2, hidT_get q3 (free q3 ?_ ?_), q4, q5, q6⟩
        · intro us n z
          rw [q6] at z
          cases z
        · intro z
          rw [q6] at z
          cases z
      · intro z
        obtain ⟨o, es, ep, e, hd', _⟩ := gl
        rw [z, tP] at e
        cases e
        cases hd'
    apply codeAny_mono ((F _ kH (nsH gl) (sm.elim fun mm q => ⟨mm, nsH q⟩) tb).goes callerA [] s H ⟨[.ref a], []⟩ [.ref a] [.ref a] _ _ rfl room e0 (bnd s (.ref a)) (.cons rfl .nil) (want H oH sH))
    intro r s' h
    match r, h with
    | .error e, h => exact h.elim
    | .ok .next, h => exact h.elim
    | .ok .brk, h => exact h.elim
    | .ok .cont, h => exact h.elim
    | .ok (.ret u), ⟨v, H', os, bare, un, ok', r', q⟩ =>
      have q' : v = .bl true := q
      subst q'
      have eu : u = Value.bool true := r'
      subst eu
      have grown : ∃ more : Array Value, s'.heap.get? Pt = some { cls := .none, data := .fields more } := by
        obtain ⟨more, z⟩ := un.tbls Pt #[] oH.1
        exact ⟨_, ok' Pt _ z⟩
      have kept : ∀ b o, b ≠ Pt → s.heap.get? b = some o → s'.heap.get? b = some o := by
        intro b o nb e
        cases eb : H b with
        | none => exact un.keep b o e eb (fun z => (nomatch (show b ∈ ([] : List Addr) from z))) (by simp)
        | some u =>
          rcases oH.2 b with z | z | ⟨ob, xs, z⟩
          · rw [eb] at z; cases z
          · exact absurd z nb
          · have e1 := (okH b _ z).1
            have e2 := (ok' b _ (un.frzs b ob _ z)).1
            rw [e] at e1
            cases e1
            exact e2
      refine ⟨rfl, ⟨fun b o e => ?_, fun b o e => ?_⟩, os, bare⟩
      · by_cases eb : b = Pt
        · obtain ⟨more, hm⟩ := grown
          rw [eb, tP] at e
          cases e
          rw [eb]
          exact .inr (.inl ⟨(hd.tab tP).isCodeTable, rfl, #[], more, rfl, by rw [Array.empty_append]; exact hm⟩)
        · exact .inl (kept b o eb e)
      · by_cases eb : b = Pt
        · obtain ⟨more, hm⟩ := grown
          rw [eb]
          exact ⟨_, hm⟩
        · exact ⟨o, kept b o eb e⟩
  have lst : ∀ fz : HO, ∀ b, b ≠ Pt → (if b = Pt then some (HO.tbl #[]) else if b = a then some fz else none) = (if b = a then some fz else none) := fun fz b h => if_neg h
  cases hk : K.lookup a with
  | some o =>
    have e := inK a o hk
    rw [at_] at e
    cases e
    apply key (fun b => if b = Pt then some (.tbl #[]) else none)
    · refine ⟨if_pos rfl, fun b => ?_⟩
      by_cases eb : b = Pt
      · exact .inr (.inl eb)
      · exact .inl (if_neg eb)
    · exact .inr ⟨_, us.toArray, _, hk, rfl, rfl, rfl, by rw [List.size_toArray, lenV]; exact len, by simpa using rv⟩
    · intro b u z
      by_cases eb : b = Pt
      · have z' := (if_pos eb).symm.trans z
        cases z'
        rw [eb]
        exact tP
      · have z' := (if_neg eb).symm.trans z
        cases z'
    · intro b _ nb
      exact if_neg nb
    · intro _
      exact if_neg aP
  | none =>
    let fz : HO := .frz { cls := .type "list", data := .seq us.toArray } (.lst (ns.map V.int))
    apply key (fun b => if b = Pt then some (.tbl #[]) else if b = a then some fz else none)
    · refine ⟨if_pos rfl, fun b => ?_⟩
      by_cases eb : b = Pt
      · exact .inr (.inl eb)
      · by_cases hb : b = a
        · exact .inr (.inr ⟨_, _, (if_neg eb).trans (if_pos hb)⟩)
        · exact .inl ((if_neg eb).trans (if_neg hb))
    · exact .inl (.inr ⟨_, (if_neg aP).trans (if_pos rfl)⟩)
    · intro b u z
      by_cases eb : b = Pt
      · have z' := (if_pos eb).symm.trans z
        cases z'
        rw [eb]
        exact tP
      · have z1 := (if_neg eb).symm.trans z
        by_cases hb : b = a
        · have z' := (if_pos hb).symm.trans z1
          cases z'
          subst hb
          exact ⟨at_, by rw [List.length_map]; exact len, us, _, rv, at_⟩
        · have z' := (if_neg hb).symm.trans z1
          cases z'
    · intro b hb nb
      exact (if_neg nb).trans (if_neg hb)
    · intro z
      exact absurd hk z
def tabOf (K : PySem.W.Frag) (y : Str) : Addr × Addr := (PySem.W.tabIn K y).getD (0, 0)
theorem tabOf_of {K : PySem.W.Frag} {y : Str} {c Pt : Addr} (h : PySem.W.tabIn K y = some (c, Pt)) : tabOf K y = (c, Pt) := by
  unfold tabOf
  rw [h]
  rfl
theorem walkT {l : PySem.W.OpenLaw} {n k : Nat} {q : Program} {loose : List Str} {XP : (Str → Option Value) → Heap → Prop} {YP : World → Heap → Prop} {d : DefRec} {K : Params → PySem.W.Frag} {sp : Addr → PySem.W.Frag → Sp} {x : Str} (y : Str)
    (calm : importsNone q = true) (most : l.most = some n) (small : n ≤ sizeLine) (plain : d.params.defaults = []) (room : Room k callerA) (hY : ∀ (w : World) (h : Heap), YP w h → (K w.params).In h)
    (rec : ((recsOf q).find? (fun e => e.name == y)).isSome = true) (tab : ∀ p, (PySem.W.tabIn (K p) y).isSome = true) (nP : ∀ p, (K p).lookup (tabOf (K p) y).2 = none)
    (F : ∀ (w : World) (mg : Str → Option Value) (fa : Addr) (h : Heap), (K w.params).In h → h.Ns mainGlobals mg → mg d.name = some (.ref fa) →
      ∃ fd : FuncData, (∀ (s : Shared) (u : Value), BindsTo s fd ⟨[u], []⟩ [(x, u)]) ∧
        ∀ base : Heap, (K w.params).In base → base.Ns mainGlobals mg → (∃ mm, base.Ns sysModules mm) → TabB base mg (tabOf (K w.params) y).1 (tabOf (K w.params) y).2 → FG l.prog w (K w.params) mg base k fa fd [x] (sp (tabOf (K w.params) y).2 (K w.params)))
    (want : ∀ (Pa : Addr) (K : PySem.W.Frag) (H : Hp) (a : Addr) (ns : List Int), ns.length ≤ n → Only1 Pa H → SqL K H a (ns.map V.int) → sp Pa K [.ref a] H (fun v _ => v = .bl true) E0) :
    PySem.W.WalkO q loose XP YP l.row.toRowW d [] (fun f vs => PySem.call f vs) := by
  apply Att.attach_call most plain
  intro w s₀ s₁ mg mb fa o pm cd doc a us ns G Y ho hd hcd hmg at_ iA len noG
  have KX := hY w _ Y
  obtain ⟨fd, hb, hF⟩ := F w mg fa _ KX G.T.g hmg
  obtain ⟨dx, rec'⟩ := Option.isSome_iff_exists.mp rec
  obtain ⟨⟨c, Pt⟩, tab'⟩ := Option.isSome_iff_exists.mp (tab w.params)
  have te := tabOf_of tab'
  have nP' := nP w.params
  rw [te] at hF nP'
  obtain ⟨C, tP⟩ := PySem.W.tab_of G.T KX rec' tab'
  exact endT KX G.T.g G.T.b G.T.builtins G.T.nolimit ((G.T.seer calm).mods.elim fun mm q => ⟨mm, q.1⟩) noG tP nP' C G.T.bmain at_ iA (Nat.le_trans len small) room hF hb fun H hO hS => want Pt (K w.params) H a ns len hO hS
end Xo
set_option Elab.async false
set_option linter.all false
set_option pp.maxSteps 4000
set_option maxRecDepth 100000
set_option maxHeartbeats 4000000
/-! k21: the law -/
namespace K21
open PySem PySem.Spec PyProof.Rows L2 Bs Xg TL Xk Xl K02 LamX Xn Xm Xo
abbrev sLaw : Stmt := top 44
structure Lw (K : PySem.W.Frag) (mg : Str → Option Value) (fHd fTr fDn fLDoes fLCa fTk : Addr) (dHd dTr dDn dLDoes dLCa dTk : FuncData) : Prop where
  Hd : Fun K "_law_hand" "_law_hand" sHand fHd dHd
  bHd : Binds K dHd ["_law_script", "_law_k"] []
  gHd : mg "_law_hand" = some (.ref fHd)
  Tk : Fun K "_law_take" "_law_take" sTake fTk dTk
  bTk : Binds K dTk ["_law_hand_here", "_law_many"] []
  gTk : mg "_law_take" = some (.ref fTk)
  Ca : Fun K "_law_case" "_law_case" sLCa fLCa dLCa
  bCa : Binds K dLCa ["_law_hand_here", "_law_lot"] []
  gCa : mg "_law_case" = some (.ref fLCa)
  Do : Fun K "_law_does" "_law_does" sLDoes fLDoes dLDoes
  bDo : Binds K dLDoes ["_law_deed", "_law_here"] []
  gDo : mg "_law_does" = some (.ref fLDoes)
  Dn : Fun K "done" "done" sDn fDn dDn
  bDn : Binds K dDn ["step", "worths"] []
  kDn : KBinds K dDn ["step", "worths"] ["worths", "step"] swp swp
  gDn : mg "done" = some (.ref fDn)
  Tr : Fun K "_law_told_right" "_law_told_right" sLTr fTr dTr
  bTr : Binds K dTr ["_law_told", "_law_due"] []
  gTr : mg "_law_told_right" = some (.ref fTr)
def spLaw (Pt : Addr) (K : PySem.W.Frag) : Sp := fun vs H Q _ => ∃ (a : Addr) (ns : List Int), vs = [.ref a] ∧ Only1 Pt H ∧ SqL K H a (ns.map V.int) ∧ ns.length ≤ 63 ∧ ∀ H', Q (.bl true) H'
theorem items_few (dd : Deed) (a : V) : (dd.items a).length ≤ 10 := by
  cases dd with
  | met c m => cases m <;> exact Nat.le_of_ble_eq_true rfl
  | _ => exact Nat.le_of_ble_eq_true rfl
theorem ok_same {K : PySem.W.Frag} {H H' : Hp} {row : List (Key × V)} {dd : Deed} (h : dd.ok K H row) (s : Same H H') : dd.ok K H' row := by
  cases dd with
  | cut col sg nw news => exact ⟨h.1, sameT s h.2.1, h.2.2⟩
  | glue cs cols sep new => exact ⟨sameT s h.1, h.2⟩
  | spell col ts ps =>
    obtain ⟨h1, ⟨qs, l, e, g⟩, h3⟩ := h
    exact ⟨h1, ⟨qs, l, sameT s e, fun j q p e1 e2 => sameT s (g j q p e1 e2)⟩, h3⟩
  | read col fo f new => exact ⟨h.1, sameT s h.2.1, h.2.2⟩
  | put col v => exact h
  | met col m => exact ⟨h.1, h.2.same s⟩
theorem res_same {H H' : Hp} {p : Addr} {r : List (Key × V) × Bool} (h : Res H p r) (s : Same H H') : Res H' p r := by
  obtain ⟨d, e1, e2⟩ := h
  exact ⟨d, s _ _ e1, s _ _ e2⟩
section
variable {P : Program} {w : World} {K : PySem.W.Frag} {mg : Str → Option Value} {base : Heap} {fHd fTr fDn fLDoes fLCa fTk : Addr} {dHd dTr dDn dLDoes dLCa dTk : FuncData}
abbrev nLaw : List Str := ["_law_script", "_law_k", "_law_hand_here", "_law_first", "_law_turn", "_law_one", "_law_here", "_law_kept", "_law_due"]
theorem scLaw : FnScope nLaw ["_law_script"] (defScope sLaw) := ⟨rfl, rfl, rfl, by decide +kernel, rfl, by decide +kernel, by decide +kernel⟩
theorem ok_law {f Pt : Addr} {fd : FuncData} (F : Fun K "law" "law" sLaw f fd) (T : Free mg) (D : Lw K mg fHd fTr fDn fLDoes fLCa fTk dHd dTr dDn dLDoes dLCa dTk) (sm : ∃ mm, base.Ns sysModules mm)
    (GCa : FnOk P w K mg base CX0 5 fLCa dLCa ["_law_hand_here", "_law_lot"] (spLCa K Pt)) (GDo : FnOk P w K mg base CX0 4 fLDoes dLDoes ["_law_deed", "_law_here"] (spDn K)) (GDn : FnOk P w K mg base CX0 8 fDn dDn ["step", "worths"] (spDn K)) :
    FG P w K mg base 9 f fd ["_law_script"] (spLaw Pt K) := by
  have GHd : FnOk P w K mg base CX0 1 fHd dHd ["_law_script", "_law_k"] (spHand K) := ok_hand D.Hd T
  have GTk : FnOk P w K mg base CX0 1 fTk dTk ["_law_hand_here", "_law_many"] spTake := ok_take D.Tk
  have GTr : FG P w K mg base 1 fTr dTr ["_law_told", "_law_due"] spTr := ok_told D.Tr T sm
  refine okG F scLaw (fun vs H Q E h => ?_) (fun cdv A outer s H vs Q E ng hr h => ?_)
  · obtain ⟨a, ns, rfl, _⟩ := h
    rfl
  · obtain ⟨a, ns, rfl, oH, hS, hl, q⟩ := h
    have hr1 : Room 1 _ := hr.mono (by decide)
    have hr4 : Room 4 _ := hr.mono (by decide)
    have hr5 : Room 5 _ := hr.mono (by decide)
    refine ⟨_,pss_cons (ps_for PassesOwn.never rfl (pi_range1 rfl T.range (pa_cons (pe_callB (call_max2 rfl) (by rfl) T.max (by decide +kernel) (pa_cons pe_int (pa_cons (pe_callB (call_min2 rfl) (by rfl) T.min (by decide +kernel) (pa_cons pe_int (pa_cons (pe_callB call_len_seq (by rfl) T.len PySem.boot_len (pa_cons (pv 0) pa_nil)) pa_nil))) pa_nil))) pa_nil)) (pg_name (i := 1) scLaw.nd rfl (Or.inl rfl)) (pss_cons (ps_set (i := 2) scLaw.nd rfl (Or.inl rfl) (pe_call GHd hr1 (by rfl) D.gHd D.Hd.kp D.bHd .nil pass0 (pa_cons (pv 0) (pa_cons (pv 1) pa_nil))))
      (pss_cons (ps_set (i := 3) scLaw.nd rfl (Or.inl rfl) (pe_call GTk hr1 (by rfl) D.gTk D.Tk.kp D.bTk .nil pass0 (pa_cons (pv 2) (pa_cons pe_int pa_nil))))
      (pss_one (ps_for PassesOwn.never rfl (pi_range1 rfl T.range (pa_cons pe_int pa_nil)) (pg_name (i := 4) scLaw.nd rfl (Or.inl rfl)) (pss_cons (ps_asg (pe_call GCa hr5 (by rfl) D.gCa D.Ca.kp D.bCa .nil pass0 (pa_cons (pv 2) (pa_cons (pe_op op_mod (pe_op op_add (pv 3) (pv 4)) pe_int) pa_nil))) (pg_tup rfl (pgs_cons (pg_name (i := 5) scLaw.nd rfl (Or.inl rfl)) (pgs_cons (pg_name (i := 6) scLaw.nd rfl (Or.inl rfl)) pgs_nil))))
      (pss_cons (ps_par (i := 7) (j := 8) rfl scLaw.nd rfl rfl (by decide) rfl rfl (pa_cons (pe_callB (call_reprZ (K := K) rfl ng hr.units sm) (by rfl) T.repr (by decide +kernel) (pa_cons (pe_tup (pa_cons (pv 5) (pa_cons (pv 6) pa_nil))) pa_nil)) (pa_cons (pe_call GDo hr4 (by rfl) D.gDo D.Do.kp D.bDo .nil pass0 (pa_cons (pv 5) (pa_cons (pv 6) pa_nil))) pa_nil)) (by rfl))
      (pss_cons (ps_if (PW.pt (pw_or (pt_not (pt_val (callG GTr ng hr1 (by rfl) D.gTr D.Tr.kp D.bTr .nil (pa_cons (pe_call GDn hr (by rfl) D.gDn D.Dn.kp D.bDn .nil pass0 (pa_cons (pv 5) (pa_cons (pv 6) pa_nil))) (pa_cons (pv 8) pa_nil))))) (pw_or1 (pt_not (pt_val (callG GTr ng hr1 (by rfl) D.gTr D.Tr.kp D.bTr .nil (pa_cons (callK0 GDn hr (by rfl) D.gDn D.Dn.kp D.kDn pass0 (pk_cons (pv 6) (pk_cons (pv 5) pk_nil))) (pa_cons (pv 8) pa_nil)))))))) (pss_one (ps_ret pe_bl)) pss_nil)
      (pss_one (ps_if (pt_cmpR op_ne (pe_callB (call_reprZ (K := K) rfl ng hr.units sm) (by rfl) T.repr (by decide +kernel) (pa_cons (pe_tup (pa_cons (pv 5) (pa_cons (pv 6) pa_nil))) pa_nil)) (pv 7) (nomark _)) (pss_one (ps_ret pe_bl)) pss_nil))))))))))
      (pss_one (ps_ret pe_bl)), ?_⟩
    have t0 : Tabs (tabsL Pt) H := fun p hp => by
      rw [List.mem_singleton.mp hp]
      exact TabS.nil oH.1
    refine ⟨_, rfl, a, _, rfl, .inl hS, _, _, rfl, _, _, rfl, _, rfl, ?_, ?_, for_range (lo := 0) (n := Int.toNat _) (fun i σ H' => SqL K H' a (ns.map V.int) ∧ Tabs (tabsL Pt) H' ∧ ∃ v1 v2 v3 v4 v5 v6 v7 v8, σ = [some (.ref a), v1, v2, v3, v4, v5, v6, v7, v8]) ⟨hS, t0, none, none, none, none, none, none, none, none, rfl⟩ ?_ ?_⟩
    · split <;> split <;> omega
    · split <;> split <;> omega
    · rintro i σ H1 hi ⟨hS1, t1, v1, v2, v3, v4, v5, v6, v7, v8, rfl⟩
      have i4 : i < 64 := by
        have : i < 6 + 1 := by
          revert hi
          split <;> split <;> omega
        omega
      rw [Int.zero_add (i : Int)]
      refine ⟨_, rfl, _, rfl, a, ns, i, rfl, hS1, hl, i4, fun h H2 nh s2 hd2 => ?_⟩
      refine gN ?_
      try dsimp only
      refine ⟨_, rfl, h, _, 9, rfl, hd2, by omega, by decide, by decide, fun r H3 r0 r1 hd3 bt3 => ?_⟩
      have x3 : ExtN H1 H3 := fun b o e _ => bt3 b o (ne_of_none e nh) (s2 b o e)
      have t3 : Tabs (tabsL Pt) H3 := tabs_but (tabs_same t1 s2) hd2 bt3
      refine gN ?_
      try dsimp only
      refine ⟨18, rfl, by decide, by decide, for_range (lo := 0) (n := 18) (fun j σ H' => HandAt H' h (1 + 40 * j) ∧ ExtN H1 H' ∧ Tabs (tabsL Pt) H' ∧ ∃ u4 u5 u6 u7 u8, σ = [some (.ref a), some (.int (i : Int)), some (.ref h), some (.int r), u4, u5, u6, u7, u8]) ⟨hd3.up (by omega), x3, t3, v4, v5, v6, v7, v8, rfl⟩ ?_ ?_⟩
      · rintro j σ H4 hj ⟨hd4, x4, t4, u4, u5, u6, u7, u8, rfl⟩
        rw [Int.zero_add (j : Int)]
        have em : (r + (j : Int)) % 9 = (((r.toNat + j) % 9 : Nat) : Int) := by omega
        refine ⟨_, rfl, _, rfl, _, rfl, _, _, rfl, rfl, _, _, rfl, rfl, (show (0 : Int) < 9 by decide), h, 1 + 40 * j, (r.toNat + j) % 9, (show [V.ref h, V.int ((r + (j : Int)) % 9)] = _ by rw [em]), Nat.mod_lt _ (by decide), hd4, by omega, t4, fun p H5 cs => ?_⟩
        obtain ⟨q1, d1, a0, row, dd, hp, hq, hn, hrw, rs, ok, ft, hd5, b5, t5⟩ := cs
        obtain ⟨d, dr, dis, sho, dep, len⟩ := shown_pair (K := K) hq (items_few dd a0) hn hrw rs
        obtain ⟨⟨ks, hk, few⟩, okk⟩ := doneP_fit ft
        refine ⟨p, [.ref q1, .ref d1], rfl, SqT.of hp, rfl, ?_⟩
        refine ⟨_, _, rfl, gN ⟨_, _, rfl, gN ⟨rfl, ?_⟩⟩⟩
        try dsimp only
        refine ⟨_, rfl, _, rfl, (show 2 ≤ sizeLine by decide), fun t6 n6 => newO n6 fun H6 s6 e6 => ⟨.ref t6, d, rfl, dr H6 t6 s6 e6, dis, sho, dep, len, ?_⟩⟩
        refine ⟨_, rfl, _, rfl, q1, d1, a0, row, dd, rfl, SqT.of (s6 _ _ hq), s6 _ _ hrw, ok_same ok s6, fun t7 H7 s7 res7 => ?_⟩
        have s57 := s6.trans s7
        refine ⟨_, _, rfl, ?_⟩
        try dsimp only
        refine ⟨_, rfl, _, rfl, q1, d1, a0, row, dd, rfl, SqT.of (s57 _ _ hq), s57 _ _ hrw, ok_same ok s57, fun t8 H8 s8 res8 => ?_⟩
        refine ⟨_, rfl, t8, t7, (doneP row dd).1, (doneP row dd).2, ks, rfl, res8, res_same res7 s8, hk, few, okk, fun H9 s9 => ⟨true, rfl, ?_⟩⟩
        refine iteF ?_
        have s59 := (s57.trans s8).trans s9
        refine ⟨_, rfl, _, rfl, q1, d1, a0, row, dd, rfl, SqT.of (s59 _ _ hq), s59 _ _ hrw, ok_same ok s59, fun tA HA sA resA => ?_⟩
        refine ⟨_, rfl, tA, t7, (doneP row dd).1, (doneP row dd).2, ks, rfl, resA, res_same res7 ((s8.trans s9).trans sA), hk, few, okk, fun HB sB => ⟨true, rfl, ?_⟩⟩
        refine iteF ?_
        unfold tNext
        dsimp only
        have s5B := (s59.trans sA).trans sB
        refine ⟨_, rfl, _, rfl, (show 2 ≤ sizeLine by decide), fun tC nC => newO nC fun HC sC eC => ⟨.ref tC, d, rfl, dr HC tC (s5B.trans sC) eC, dis, sho, dep, len, _, rfl, ?_⟩⟩
        refine ⟨rfl, _, rfl, ?_⟩
        rw [decide_eq_true rfl]
        refine iteF ?_
        have s5C := s5B.trans sC
        refine ⟨(hd5.mono s5C (Nat.le_refl _)).up (by omega), fun b o e nt => s5C _ _ (b5 b o (ne_of_none e nh) (x4 b o e nt) nt), tabs_same t5 s5C, _, _, _, _, _, rfl⟩
      · rintro σ H6 ⟨hd6, x6, t6, w4, w5, w6, w7, w8, rfl⟩
        exact ⟨seqL_N x6 hS1, t6, _, _, _, _, _, _, _, _, rfl⟩
    · rintro σ H1 _
      exact q _
end
end K21
set_option Elab.async false
set_option linter.all false
set_option maxRecDepth 100000
set_option maxHeartbeats 8000000
namespace K21
open PySem PySem.Spec PyProof.Rows L2 Bs Xg TL Xk Xl K02 LamX Xn Xm Xo
theorem tup_const {K : PySem.W.Frag} {o : Addr} {od : Option Addr} {its : Array Value} {m : Nat} {sl : Array (Option Value)} {xs : List V} (hk : K.lookup o = some ⟨.type "tuple", od, .seq its m, sl⟩) (hz : its.size ≤ sizeLine) (r : Vals xs its.toList) : ∀ H, SqT K H o xs :=
  fun H => .inr ⟨_, its, m, hk, rfl, rfl, hz, r⟩
theorem all_mk {l : PySem.W.OpenLaw} {w : World} {K : PySem.W.Frag} {h : Heap} {mg : Str → Option Value} {fa f1 f2 f3 f4 f5 f6 f7 f8 f9 f10 f11 f12 f13 f14 f15 f16 f17 f18 f19 f20 f21 f22 f23 f24 f25 f26 f27 f28 f29 f30 f31 f32 f33 c_MONTHS c_BETWEEN cc : Addr} (X : K.In h) (G : h.Ns mainGlobals mg) (hfa : mg "law" = some (.ref fa))
    {od1 an1 od2 an2 od3 an3 od4 an4 od5 an5 od6 an6 od7 an7 od8 an8 od9 an9 od10 an10 od11 an11 od12 an12 od13 an13 od14 an14 od15 an15 od16 an16 od17 an17 od18 an18 od19 an19 od20 an20 od21 an21 od22 an22 od23 an23 od24 an24 od25 an25 od26 an26 od27 an27 od28 an28 od29 an29 od30 an30 od31 an31 od32 an32 od33 an33 od_MONTHS od_BETWEEN : Option Addr} {sl1 sl2 sl3 sl4 sl5 sl6 sl7 sl8 sl9 sl10 sl11 sl12 sl13 sl14 sl15 sl16 sl17 sl18 sl19 sl20 sl21 sl22 sl23 sl24 sl25 sl26 sl27 sl28 sl29 sl30 sl31 sl32 sl33 sl_MONTHS sl_BETWEEN : Array (Option Value)}
    {oc1 kV1 dc1 pm1 cd1 ct1 oc2 kV2 dc2 pm2 cd2 ct2 oc3 kV3 dc3 pm3 cd3 ct3 oc4 kV4 dc4 pm4 cd4 ct4 oc5 kV5 dc5 pm5 cd5 ct5 oc6 kV6 dc6 pm6 cd6 ct6 oc7 kV7 dc7 pm7 cd7 ct7 oc8 kV8 dc8 pm8 cd8 ct8 oc9 kV9 dc9 pm9 cd9 ct9 oc10 kV10 dc10 pm10 cd10 ct10 oc11 kV11 dc11 pm11 cd11 ct11 oc12 kV12 dc12 pm12 cd12 ct12 oc13 kV13 dc13 pm13 cd13 ct13 oc14 kV14 dc14 pm14 cd14 ct14 oc15 kV15 dc15 pm15 cd15 ct15 oc16 kV16 dc16 pm16 cd16 ct16 oc17 kV17 dc17 pm17 cd17 ct17 oc18 kV18 dc18 pm18 cd18 ct18 oc19 kV19 dc19 pm19 cd19 ct19 oc20 kV20 dc20 pm20 cd20 ct20 oc21 kV21 dc21 pm21 cd21 ct21 oc22 kV22 dc22 pm22 cd22 ct22 oc23 kV23 dc23 pm23 cd23 ct23 oc24 kV24 dc24 pm24 cd24 ct24 oc25 kV25 dc25 pm25 cd25 ct25 oc26 kV26 dc26 pm26 cd26 ct26 oc27 kV27 dc27 pm27 cd27 ct27 oc28 kV28 dc28 pm28 cd28 ct28 oc29 kV29 dc29 pm29 cd29 ct29 oc30 kV30 dc30 pm30 cd30 ct30 oc31 kV31 dc31 pm31 cd31 ct31 oc32 kV32 dc32 pm32 cd32 ct32 oc33 kV33 dc33 pm33 cd33 ct33 : Value}
    {tk_FEBRUARY tk_WHOLE_FIGURES tk_AMOUNT_FIGURES tk_YEAR_FIGURES tk_DAY_FIGURES tk_MONTHS0 tk_MONTHS1 tk_MONTHS2 tk_MONTHS3 tk_MONTHS4 tk_MONTHS5 tk_MONTHS6 tk_MONTHS7 tk_MONTHS8 tk_MONTHS9 tk_MONTHS10 tk_MONTHS11 tk_BETWEEN0 tk_BETWEEN1 tk_BETWEEN2 : Tok} {m_MONTHS m_BETWEEN : Nat}
    (a1 : PySem.W.nsIn K mainGlobals "is_leap" = some (some (.ref f1)))
    (l1 : K.lookup f1 = some ⟨oc1, od1, .func (PySem.W.fnOf "is_leap" "is_leap" (defArgs sLeap) (defBody sLeap) (defScope sLeap) .none kV1 dc1 pm1 an1 cd1 ct1), sl1⟩)
    (c1 : PySem.W.codeIn K cd1 "is_leap" = true)
    (k1 : PySem.W.keepIn K (.ref f1) = true)
    (a2 : PySem.W.nsIn K mainGlobals "days_in" = some (some (.ref f2)))
    (l2 : K.lookup f2 = some ⟨oc2, od2, .func (PySem.W.fnOf "days_in" "days_in" (defArgs sDin) (defBody sDin) (defScope sDin) .none kV2 dc2 pm2 an2 cd2 ct2), sl2⟩)
    (c2 : PySem.W.codeIn K cd2 "days_in" = true)
    (k2 : PySem.W.keepIn K (.ref f2) = true)
    (a3 : PySem.W.nsIn K mainGlobals "days_ahead" = some (some (.ref f3)))
    (l3 : K.lookup f3 = some ⟨oc3, od3, .func (PySem.W.fnOf "days_ahead" "days_ahead" (defArgs sAhead) (defBody sAhead) (defScope sAhead) .none kV3 dc3 pm3 an3 cd3 ct3), sl3⟩)
    (c3 : PySem.W.codeIn K cd3 "days_ahead" = true)
    (k3 : PySem.W.keepIn K (.ref f3) = true)
    (a4 : PySem.W.nsIn K mainGlobals "number_of" = some (some (.ref f4)))
    (l4 : K.lookup f4 = some ⟨oc4, od4, .func (PySem.W.fnOf "number_of" "number_of" (defArgs sNum) (defBody sNum) (defScope sNum) .none kV4 dc4 pm4 an4 cd4 ct4), sl4⟩)
    (c4 : PySem.W.codeIn K cd4 "number_of" = true)
    (k4 : PySem.W.keepIn K (.ref f4) = true)
    (a5 : PySem.W.nsIn K mainGlobals "is_figures" = some (some (.ref f5)))
    (l5 : K.lookup f5 = some ⟨oc5, od5, .func (PySem.W.fnOf "is_figures" "is_figures" (defArgs sIsFig) (defBody sIsFig) (defScope sIsFig) .none kV5 dc5 pm5 an5 cd5 ct5), sl5⟩)
    (c5 : PySem.W.codeIn K cd5 "is_figures" = true)
    (k5 : PySem.W.keepIn K (.ref f5) = true)
    (a6 : PySem.W.nsIn K mainGlobals "read_amount" = some (some (.ref f6)))
    (l6 : K.lookup f6 = some ⟨oc6, od6, .func (PySem.W.fnOf "read_amount" "read_amount" (defArgs sReadAm) (defBody sReadAm) (defScope sReadAm) .none kV6 dc6 pm6 an6 cd6 ct6), sl6⟩)
    (c6 : PySem.W.codeIn K cd6 "read_amount" = true)
    (k6 : PySem.W.keepIn K (.ref f6) = true)
    (a7 : PySem.W.nsIn K mainGlobals "read_day" = some (some (.ref f7)))
    (l7 : K.lookup f7 = some ⟨oc7, od7, .func (PySem.W.fnOf "read_day" "read_day" (defArgs sRD) (defBody sRD) (defScope sRD) .none kV7 dc7 pm7 an7 cd7 ct7), sl7⟩)
    (c7 : PySem.W.codeIn K cd7 "read_day" = true)
    (k7 : PySem.W.keepIn K (.ref f7) = true)
    (a8 : PySem.W.nsIn K mainGlobals "day_of" = some (some (.ref f8)))
    (l8 : K.lookup f8 = some ⟨oc8, od8, .func (PySem.W.fnOf "day_of" "day_of" (defArgs sDo) (defBody sDo) (defScope sDo) .none kV8 dc8 pm8 an8 cd8 ct8), sl8⟩)
    (c8 : PySem.W.codeIn K cd8 "day_of" = true)
    (k8 : PySem.W.keepIn K (.ref f8) = true)
    (a9 : PySem.W.nsIn K mainGlobals "read_as" = some (some (.ref f9)))
    (l9 : K.lookup f9 = some ⟨oc9, od9, .func (PySem.W.fnOf "read_as" "read_as" (defArgs sRs) (defBody sRs) (defScope sRs) .none kV9 dc9 pm9 an9 cd9 ct9), sl9⟩)
    (c9 : PySem.W.codeIn K cd9 "read_as" = true)
    (k9 : PySem.W.keepIn K (.ref f9) = true)
    (a10 : PySem.W.nsIn K mainGlobals "cell_worth" = some (some (.ref f10)))
    (l10 : K.lookup f10 = some ⟨oc10, od10, .func (PySem.W.fnOf "cell_worth" "cell_worth" (defArgs sCW) (defBody sCW) (defScope sCW) .none kV10 dc10 pm10 an10 cd10 ct10), sl10⟩)
    (c10 : PySem.W.codeIn K cd10 "cell_worth" = true)
    (k10 : PySem.W.keepIn K (.ref f10) = true)
    (a11 : PySem.W.nsIn K mainGlobals "cut_done" = some (some (.ref f11)))
    (l11 : K.lookup f11 = some ⟨oc11, od11, .func (PySem.W.fnOf "cut_done" "cut_done" (defArgs sCu) (defBody sCu) (defScope sCu) .none kV11 dc11 pm11 an11 cd11 ct11), sl11⟩)
    (c11 : PySem.W.codeIn K cd11 "cut_done" = true)
    (k11 : PySem.W.keepIn K (.ref f11) = true)
    (a12 : PySem.W.nsIn K mainGlobals "glued" = some (some (.ref f12)))
    (l12 : K.lookup f12 = some ⟨oc12, od12, .func (PySem.W.fnOf "glued" "glued" (defArgs sGl) (defBody sGl) (defScope sGl) .none kV12 dc12 pm12 an12 cd12 ct12), sl12⟩)
    (c12 : PySem.W.codeIn K cd12 "glued" = true)
    (k12 : PySem.W.keepIn K (.ref f12) = true)
    (a13 : PySem.W.nsIn K mainGlobals "spelled" = some (some (.ref f13)))
    (l13 : K.lookup f13 = some ⟨oc13, od13, .func (PySem.W.fnOf "spelled" "spelled" (defArgs sSp) (defBody sSp) (defScope sSp) .none kV13 dc13 pm13 an13 cd13 ct13), sl13⟩)
    (c13 : PySem.W.codeIn K cd13 "spelled" = true)
    (k13 : PySem.W.keepIn K (.ref f13) = true)
    (a14 : PySem.W.nsIn K mainGlobals "read_done" = some (some (.ref f14)))
    (l14 : K.lookup f14 = some ⟨oc14, od14, .func (PySem.W.fnOf "read_done" "read_done" (defArgs sRdn) (defBody sRdn) (defScope sRdn) .none kV14 dc14 pm14 an14 cd14 ct14), sl14⟩)
    (c14 : PySem.W.codeIn K cd14 "read_done" = true)
    (k14 : PySem.W.keepIn K (.ref f14) = true)
    (a15 : PySem.W.nsIn K mainGlobals "is_met" = some (some (.ref f15)))
    (l15 : K.lookup f15 = some ⟨oc15, od15, .func (PySem.W.fnOf "is_met" "is_met" (defArgs sMe) (defBody sMe) (defScope sMe) .none kV15 dc15 pm15 an15 cd15 ct15), sl15⟩)
    (c15 : PySem.W.codeIn K cd15 "is_met" = true)
    (k15 : PySem.W.keepIn K (.ref f15) = true)
    (a16 : PySem.W.nsIn K mainGlobals "done" = some (some (.ref f16)))
    (l16 : K.lookup f16 = some ⟨oc16, od16, .func (PySem.W.fnOf "done" "done" (defArgs sDn) (defBody sDn) (defScope sDn) .none kV16 dc16 pm16 an16 cd16 ct16), sl16⟩)
    (c16 : PySem.W.codeIn K cd16 "done" = true)
    (k16 : PySem.W.keepIn K (.ref f16) = true)
    (a17 : PySem.W.nsIn K mainGlobals "_law_hand" = some (some (.ref f17)))
    (l17 : K.lookup f17 = some ⟨oc17, od17, .func (PySem.W.fnOf "_law_hand" "_law_hand" (defArgs sHand) (defBody sHand) (defScope sHand) .none kV17 dc17 pm17 an17 cd17 ct17), sl17⟩)
    (c17 : PySem.W.codeIn K cd17 "_law_hand" = true)
    (k17 : PySem.W.keepIn K (.ref f17) = true)
    (a18 : PySem.W.nsIn K mainGlobals "_law_take" = some (some (.ref f18)))
    (l18 : K.lookup f18 = some ⟨oc18, od18, .func (PySem.W.fnOf "_law_take" "_law_take" (defArgs sTake) (defBody sTake) (defScope sTake) .none kV18 dc18 pm18 an18 cd18 ct18), sl18⟩)
    (c18 : PySem.W.codeIn K cd18 "_law_take" = true)
    (k18 : PySem.W.keepIn K (.ref f18) = true)
    (a19 : PySem.W.nsIn K mainGlobals "_law_of" = some (some (.ref f19)))
    (l19 : K.lookup f19 = some ⟨oc19, od19, .func (PySem.W.fnOf "_law_of" "_law_of" (defArgs sOf) (defBody sOf) (defScope sOf) .none kV19 dc19 pm19 an19 cd19 ct19), sl19⟩)
    (c19 : PySem.W.codeIn K cd19 "_law_of" = true)
    (k19 : PySem.W.keepIn K (.ref f19) = true)
    (a20 : PySem.W.nsIn K mainGlobals "_law_number" = some (some (.ref f20)))
    (l20 : K.lookup f20 = some ⟨oc20, od20, .func (PySem.W.fnOf "_law_number" "_law_number" (defArgs sLNu) (defBody sLNu) (defScope sLNu) .none kV20 dc20 pm20 an20 cd20 ct20), sl20⟩)
    (c20 : PySem.W.codeIn K cd20 "_law_number" = true)
    (k20 : PySem.W.keepIn K (.ref f20) = true)
    (a21 : PySem.W.nsIn K mainGlobals "_law_are_figures" = some (some (.ref f21)))
    (l21 : K.lookup f21 = some ⟨oc21, od21, .func (PySem.W.fnOf "_law_are_figures" "_law_are_figures" (defArgs sLAF) (defBody sLAF) (defScope sLAF) .none kV21 dc21 pm21 an21 cd21 ct21), sl21⟩)
    (c21 : PySem.W.codeIn K cd21 "_law_are_figures" = true)
    (k21 : PySem.W.keepIn K (.ref f21) = true)
    (a22 : PySem.W.nsIn K mainGlobals "_law_figures" = some (some (.ref f22)))
    (l22 : K.lookup f22 = some ⟨oc22, od22, .func (PySem.W.fnOf "_law_figures" "_law_figures" (defArgs sLF) (defBody sLF) (defScope sLF) .none kV22 dc22 pm22 an22 cd22 ct22), sl22⟩)
    (c22 : PySem.W.codeIn K cd22 "_law_figures" = true)
    (k22 : PySem.W.keepIn K (.ref f22) = true)
    (a23 : PySem.W.nsIn K mainGlobals "_law_day" = some (some (.ref f23)))
    (l23 : K.lookup f23 = some ⟨oc23, od23, .func (PySem.W.fnOf "_law_day" "_law_day" (defArgs sLDay) (defBody sLDay) (defScope sLDay) .none kV23 dc23 pm23 an23 cd23 ct23), sl23⟩)
    (c23 : PySem.W.codeIn K cd23 "_law_day" = true)
    (k23 : PySem.W.keepIn K (.ref f23) = true)
    (a24 : PySem.W.nsIn K mainGlobals "_law_worth" = some (some (.ref f24)))
    (l24 : K.lookup f24 = some ⟨oc24, od24, .func (PySem.W.fnOf "_law_worth" "_law_worth" (defArgs sLW) (defBody sLW) (defScope sLW) .none kV24 dc24 pm24 an24 cd24 ct24), sl24⟩)
    (c24 : PySem.W.codeIn K cd24 "_law_worth" = true)
    (k24 : PySem.W.keepIn K (.ref f24) = true)
    (a25 : PySem.W.nsIn K mainGlobals "_law_does" = some (some (.ref f25)))
    (l25 : K.lookup f25 = some ⟨oc25, od25, .func (PySem.W.fnOf "_law_does" "_law_does" (defArgs sLDoes) (defBody sLDoes) (defScope sLDoes) .none kV25 dc25 pm25 an25 cd25 ct25), sl25⟩)
    (c25 : PySem.W.codeIn K cd25 "_law_does" = true)
    (k25 : PySem.W.keepIn K (.ref f25) = true)
    (a26 : PySem.W.nsIn K mainGlobals "_law_text" = some (some (.ref f26)))
    (l26 : K.lookup f26 = some ⟨oc26, od26, .func (PySem.W.fnOf "_law_text" "_law_text" (defArgs sLTx) (defBody sLTx) (defScope sLTx) .none kV26 dc26 pm26 an26 cd26 ct26), sl26⟩)
    (c26 : PySem.W.codeIn K cd26 "_law_text" = true)
    (k26 : PySem.W.keepIn K (.ref f26) = true)
    (a27 : PySem.W.nsIn K mainGlobals "_law_near_day" = some (some (.ref f27)))
    (l27 : K.lookup f27 = some ⟨oc27, od27, .func (PySem.W.fnOf "_law_near_day" "_law_near_day" (defArgs sLNd) (defBody sLNd) (defScope sLNd) .none kV27 dc27 pm27 an27 cd27 ct27), sl27⟩)
    (c27 : PySem.W.codeIn K cd27 "_law_near_day" = true)
    (k27 : PySem.W.keepIn K (.ref f27) = true)
    (a28 : PySem.W.nsIn K mainGlobals "_law_near" = some (some (.ref f28)))
    (l28 : K.lookup f28 = some ⟨oc28, od28, .func (PySem.W.fnOf "_law_near" "_law_near" (defArgs sLNe) (defBody sLNe) (defScope sLNe) .none kV28 dc28 pm28 an28 cd28 ct28), sl28⟩)
    (c28 : PySem.W.codeIn K cd28 "_law_near" = true)
    (k28 : PySem.W.keepIn K (.ref f28) = true)
    (a29 : PySem.W.nsIn K mainGlobals "_law_spelled" = some (some (.ref f29)))
    (l29 : K.lookup f29 = some ⟨oc29, od29, .func (PySem.W.fnOf "_law_spelled" "_law_spelled" (defArgs sLSp) (defBody sLSp) (defScope sLSp) .none kV29 dc29 pm29 an29 cd29 ct29), sl29⟩)
    (c29 : PySem.W.codeIn K cd29 "_law_spelled" = true)
    (k29 : PySem.W.keepIn K (.ref f29) = true)
    (a30 : PySem.W.nsIn K mainGlobals "_law_form" = some (some (.ref f30)))
    (l30 : K.lookup f30 = some ⟨oc30, od30, .func (PySem.W.fnOf "_law_form" "_law_form" (defArgs sLFo) (defBody sLFo) (defScope sLFo) .none kV30 dc30 pm30 an30 cd30 ct30), sl30⟩)
    (c30 : PySem.W.codeIn K cd30 "_law_form" = true)
    (k30 : PySem.W.keepIn K (.ref f30) = true)
    (a31 : PySem.W.nsIn K mainGlobals "_law_case" = some (some (.ref f31)))
    (l31 : K.lookup f31 = some ⟨oc31, od31, .func (PySem.W.fnOf "_law_case" "_law_case" (defArgs sLCa) (defBody sLCa) (defScope sLCa) .none kV31 dc31 pm31 an31 cd31 ct31), sl31⟩)
    (c31 : PySem.W.codeIn K cd31 "_law_case" = true)
    (k31 : PySem.W.keepIn K (.ref f31) = true)
    (a32 : PySem.W.nsIn K mainGlobals "_law_told_right" = some (some (.ref f32)))
    (l32 : K.lookup f32 = some ⟨oc32, od32, .func (PySem.W.fnOf "_law_told_right" "_law_told_right" (defArgs sLTr) (defBody sLTr) (defScope sLTr) .none kV32 dc32 pm32 an32 cd32 ct32), sl32⟩)
    (c32 : PySem.W.codeIn K cd32 "_law_told_right" = true)
    (k32 : PySem.W.keepIn K (.ref f32) = true)
    (a33 : PySem.W.nsIn K mainGlobals "law" = some (some (.ref f33)))
    (l33 : K.lookup f33 = some ⟨oc33, od33, .func (PySem.W.fnOf "law" "law" (defArgs sLaw) (defBody sLaw) (defScope sLaw) .none kV33 dc33 pm33 an33 cd33 ct33), sl33⟩)
    (c33 : PySem.W.codeIn K cd33 "law" = true)
    (k33 : PySem.W.keepIn K (.ref f33) = true)
    (z_isinstance : PySem.W.nsIn K mainGlobals "isinstance" = some none)
    (z_int : PySem.W.nsIn K mainGlobals "int" = some none)
    (z_bool : PySem.W.nsIn K mainGlobals "bool" = some none)
    (z_str : PySem.W.nsIn K mainGlobals "str" = some none)
    (z_tuple : PySem.W.nsIn K mainGlobals "tuple" = some none)
    (z_dict : PySem.W.nsIn K mainGlobals "dict" = some none)
    (z_len : PySem.W.nsIn K mainGlobals "len" = some none)
    (z_abs : PySem.W.nsIn K mainGlobals "abs" = some none)
    (z_range : PySem.W.nsIn K mainGlobals "range" = some none)
    (z_all : PySem.W.nsIn K mainGlobals "all" = some none)
    (z_sum : PySem.W.nsIn K mainGlobals "sum" = some none)
    (z_zip : PySem.W.nsIn K mainGlobals "zip" = some none)
    (z_list : PySem.W.nsIn K mainGlobals "list" = some none)
    (z_sorted : PySem.W.nsIn K mainGlobals "sorted" = some none)
    (z_repr : PySem.W.nsIn K mainGlobals "repr" = some none)
    (z_max : PySem.W.nsIn K mainGlobals "max" = some none)
    (z_min : PySem.W.nsIn K mainGlobals "min" = some none)
    (n_FEBRUARY : PySem.W.nsIn K mainGlobals "FEBRUARY" = some (some (.int 2 tk_FEBRUARY)))
    (n_WHOLE_FIGURES : PySem.W.nsIn K mainGlobals "WHOLE_FIGURES" = some (some (.int 9 tk_WHOLE_FIGURES)))
    (n_AMOUNT_FIGURES : PySem.W.nsIn K mainGlobals "AMOUNT_FIGURES" = some (some (.int 8 tk_AMOUNT_FIGURES)))
    (n_YEAR_FIGURES : PySem.W.nsIn K mainGlobals "YEAR_FIGURES" = some (some (.int 4 tk_YEAR_FIGURES)))
    (n_DAY_FIGURES : PySem.W.nsIn K mainGlobals "DAY_FIGURES" = some (some (.int 2 tk_DAY_FIGURES)))
    (n_MONTHS : PySem.W.nsIn K mainGlobals "MONTHS" = some (some (.ref c_MONTHS)))
    (L_MONTHS : K.lookup c_MONTHS = some ⟨.type "tuple", od_MONTHS, .seq #[.int 31 tk_MONTHS0, .int 28 tk_MONTHS1, .int 31 tk_MONTHS2, .int 30 tk_MONTHS3, .int 31 tk_MONTHS4, .int 30 tk_MONTHS5, .int 31 tk_MONTHS6, .int 31 tk_MONTHS7, .int 30 tk_MONTHS8, .int 31 tk_MONTHS9, .int 30 tk_MONTHS10, .int 31 tk_MONTHS11] m_MONTHS, sl_MONTHS⟩)
    (n_BETWEEN : PySem.W.nsIn K mainGlobals "BETWEEN" = some (some (.ref c_BETWEEN)))
    (L_BETWEEN : K.lookup c_BETWEEN = some ⟨.type "tuple", od_BETWEEN, .seq #[.str (Str.ofString "-") tk_BETWEEN0, .str (Str.ofString ".") tk_BETWEEN1, .str (Str.ofString "/") tk_BETWEEN2] m_BETWEEN, sl_BETWEEN⟩)
    (csp : cd29 = .ref cc)
    (tsp : (tabOf K "_law_spelled").1 = cc) :
    ∃ fd : FuncData, (∀ (s : Shared) (v : Value), BindsTo s fd ⟨[v], []⟩ [("_law_script", v)]) ∧ ∀ base : Heap, K.In base → base.Ns mainGlobals mg → (∃ mm, base.Ns sysModules mm) → TabB base mg (tabOf K "_law_spelled").1 (tabOf K "_law_spelled").2 → FG l.prog w K mg base 9 fa fd ["_law_script"] (spLaw (tabOf K "_law_spelled").2 K) := by
  have e := hfa.symm.trans (PySem.W.mg_of X G a33)
  cases e
  have FLp := fun_mk (st := sLeap) l1 c1 k1
  have FDi := fun_mk (st := sDin) l2 c2 k2
  have FAh := fun_mk (st := sAhead) l3 c3 k3
  have FNu := fun_mk (st := sNum) l4 c4 k4
  have FIF := fun_mk (st := sIsFig) l5 c5 k5
  have FRA := fun_mk (st := sReadAm) l6 c6 k6
  have FRD := fun_mk (st := sRD) l7 c7 k7
  have FDo := fun_mk (st := sDo) l8 c8 k8
  have FRs := fun_mk (st := sRs) l9 c9 k9
  have FCW := fun_mk (st := sCW) l10 c10 k10
  have FCu := fun_mk (st := sCu) l11 c11 k11
  have FGl := fun_mk (st := sGl) l12 c12 k12
  have FSp := fun_mk (st := sSp) l13 c13 k13
  have FRdn := fun_mk (st := sRdn) l14 c14 k14
  have FMe := fun_mk (st := sMe) l15 c15 k15
  have FDn := fun_mk (st := sDn) l16 c16 k16
  have FHd := fun_mk (st := sHand) l17 c17 k17
  have FTk := fun_mk (st := sTake) l18 c18 k18
  have FOf := fun_mk (st := sOf) l19 c19 k19
  have FLNu := fun_mk (st := sLNu) l20 c20 k20
  have FLAF := fun_mk (st := sLAF) l21 c21 k21
  have FLF := fun_mk (st := sLF) l22 c22 k22
  have FLDay := fun_mk (st := sLDay) l23 c23 k23
  have FLW := fun_mk (st := sLW) l24 c24 k24
  have FLDoes := fun_mk (st := sLDoes) l25 c25 k25
  have FLTx := fun_mk (st := sLTx) l26 c26 k26
  have FLNd := fun_mk (st := sLNd) l27 c27 k27
  have FLNe := fun_mk (st := sLNe) l28 c28 k28
  have FLSp := fun_mk (st := sLSp) l29 c29 k29
  have FLFo := fun_mk (st := sLFo) l30 c30 k30
  have FLCa := fun_mk (st := sLCa) l31 c31 k31
  have FTr := fun_mk (st := sLTr) l32 c32 k32
  have Flaw := fun_mk (st := sLaw) l33 c33 k33
  have bLp := FLp.binds (ps := ["year"]) fun _ _ _ _ _ _ us hl => match us, hl with | [_], _ => rfl
  have gLp := PySem.W.mg_of X G a1
  have bDi := FDi.binds (ps := ["year", "month"]) fun _ _ _ _ _ _ us hl => match us, hl with | [_, _], _ => rfl
  have gDi := PySem.W.mg_of X G a2
  have bAh := FAh.binds (ps := ["year"]) fun _ _ _ _ _ _ us hl => match us, hl with | [_], _ => rfl
  have gAh := PySem.W.mg_of X G a3
  have bNu := FNu.binds (ps := ["year", "month", "day"]) fun _ _ _ _ _ _ us hl => match us, hl with | [_, _, _], _ => rfl
  have gNu := PySem.W.mg_of X G a4
  have bIF := FIF.binds (ps := ["text", "most"]) fun _ _ _ _ _ _ us hl => match us, hl with | [_, _], _ => rfl
  have gIF := PySem.W.mg_of X G a5
  have bRA := FRA.binds (ps := ["text", "most", "places"]) fun _ _ _ _ _ _ us hl => match us, hl with | [_, _, _], _ => rfl
  have gRA := PySem.W.mg_of X G a6
  have bRD := FRD.binds (ps := ["text", "order"]) fun _ _ _ _ _ _ us hl => match us, hl with | [_, _], _ => rfl
  have gRD := PySem.W.mg_of X G a7
  have bDo := FDo.binds (ps := ["parts"]) fun _ _ _ _ _ _ us hl => match us, hl with | [_], _ => rfl
  have gDo := PySem.W.mg_of X G a8
  have bRs := FRs.binds (ps := ["form", "text"]) fun _ _ _ _ _ _ us hl => match us, hl with | [_, _], _ => rfl
  have gRs := PySem.W.mg_of X G a9
  have bCW := FCW.binds (ps := ["text"]) fun _ _ _ _ _ _ us hl => match us, hl with | [_], _ => rfl
  have gCW := PySem.W.mg_of X G a10
  have bCu := FCu.binds (ps := ["step", "text"]) fun _ _ _ _ _ _ us hl => match us, hl with | [_, _], _ => rfl
  have gCu := PySem.W.mg_of X G a11
  have bGl := FGl.binds (ps := ["step", "worths"]) fun _ _ _ _ _ _ us hl => match us, hl with | [_, _], _ => rfl
  have gGl := PySem.W.mg_of X G a12
  have bSp := FSp.binds (ps := ["step", "text"]) fun _ _ _ _ _ _ us hl => match us, hl with | [_, _], _ => rfl
  have gSp := PySem.W.mg_of X G a13
  have bRdn := FRdn.binds (ps := ["step", "text"]) fun _ _ _ _ _ _ us hl => match us, hl with | [_, _], _ => rfl
  have gRdn := PySem.W.mg_of X G a14
  have bMe := FMe.binds (ps := ["step", "worths"]) fun _ _ _ _ _ _ us hl => match us, hl with | [_, _], _ => rfl
  have gMe := PySem.W.mg_of X G a15
  have bDn := FDn.binds (ps := ["step", "worths"]) fun _ _ _ _ _ _ us hl => match us, hl with | [_, _], _ => rfl
  have gDn := PySem.W.mg_of X G a16
  have bHd := FHd.binds (ps := ["_law_script", "_law_k"]) fun _ _ _ _ _ _ us hl => match us, hl with | [_, _], _ => rfl
  have gHd := PySem.W.mg_of X G a17
  have bTk := FTk.binds (ps := ["_law_hand_here", "_law_many"]) fun _ _ _ _ _ _ us hl => match us, hl with | [_, _], _ => rfl
  have gTk := PySem.W.mg_of X G a18
  have bOf := FOf.binds (ps := ["_law_hand_here", "_law_some"]) fun _ _ _ _ _ _ us hl => match us, hl with | [_, _], _ => rfl
  have gOf := PySem.W.mg_of X G a19
  have bLNu := FLNu.binds (ps := ["_law_form_here", "_law_text_here"]) fun _ _ _ _ _ _ us hl => match us, hl with | [_, _], _ => rfl
  have gLNu := PySem.W.mg_of X G a20
  have bLAF := FLAF.binds (ps := ["_law_text_here", "_law_most"]) fun _ _ _ _ _ _ us hl => match us, hl with | [_, _], _ => rfl
  have gLAF := PySem.W.mg_of X G a21
  have bLF := FLF.binds (ps := ["_law_text_here"]) fun _ _ _ _ _ _ us hl => match us, hl with | [_], _ => rfl
  have gLF := PySem.W.mg_of X G a22
  have bLDay := FLDay.binds (ps := ["_law_order", "_law_text_here"]) fun _ _ _ _ _ _ us hl => match us, hl with | [_, _], _ => rfl
  have gLDay := PySem.W.mg_of X G a23
  have bLW := FLW.binds (ps := ["_law_text_here"]) fun _ _ _ _ _ _ us hl => match us, hl with | [_], _ => rfl
  have gLW := PySem.W.mg_of X G a24
  have bLDoes := FLDoes.binds (ps := ["_law_deed", "_law_here"]) fun _ _ _ _ _ _ us hl => match us, hl with | [_, _], _ => rfl
  have gLDoes := PySem.W.mg_of X G a25
  have bLTx := FLTx.binds (ps := ["_law_hand_here", "_law_sign"]) fun _ _ _ _ _ _ us hl => match us, hl with | [_, _], _ => rfl
  have gLTx := PySem.W.mg_of X G a26
  have bLNd := FLNd.binds (ps := ["_law_hand_here", "_law_order"]) fun _ _ _ _ _ _ us hl => match us, hl with | [_, _], _ => rfl
  have gLNd := PySem.W.mg_of X G a27
  have bLNe := FLNe.binds (ps := ["_law_hand_here", "_law_form_here"]) fun _ _ _ _ _ _ us hl => match us, hl with | [_, _], _ => rfl
  have gLNe := PySem.W.mg_of X G a28
  have bLSp := FLSp.binds (ps := ["_law_hand_here", "_law_name", "_law_column", "_law_own"]) fun _ _ _ _ _ _ us hl => match us, hl with | [_, _, _, _], _ => rfl
  have gLSp := PySem.W.mg_of X G a29
  have bLFo := FLFo.binds (ps := ["_law_hand_here"]) fun _ _ _ _ _ _ us hl => match us, hl with | [_], _ => rfl
  have gLFo := PySem.W.mg_of X G a30
  have bLCa := FLCa.binds (ps := ["_law_hand_here", "_law_lot"]) fun _ _ _ _ _ _ us hl => match us, hl with | [_, _], _ => rfl
  have gLCa := PySem.W.mg_of X G a31
  have bTr := FTr.binds (ps := ["_law_told", "_law_due"]) fun _ _ _ _ _ _ us hl => match us, hl with | [_, _], _ => rfl
  have gTr := PySem.W.mg_of X G a32
  refine ⟨PySem.W.fnOf "law" "law" (defArgs sLaw) (defBody sLaw) (defScope sLaw) .none kV33 dc33 pm33 an33 cd33 ct33, fun s v => .of_eq rfl, fun base _ _ sm TB => ?_⟩
  rw [tsp] at TB
  have T : Free mg := ⟨PySem.W.mg_none_of X G z_isinstance, PySem.W.mg_none_of X G z_int, PySem.W.mg_none_of X G z_bool, PySem.W.mg_none_of X G z_str, PySem.W.mg_none_of X G z_tuple, PySem.W.mg_none_of X G z_dict, PySem.W.mg_none_of X G z_len, PySem.W.mg_none_of X G z_abs, PySem.W.mg_none_of X G z_range, PySem.W.mg_none_of X G z_all, PySem.W.mg_none_of X G z_sum, PySem.W.mg_none_of X G z_zip, PySem.W.mg_none_of X G z_list, PySem.W.mg_none_of X G z_sorted, PySem.W.mg_none_of X G z_repr, PySem.W.mg_none_of X G z_max, PySem.W.mg_none_of X G z_min⟩
  have C : Cal K mg c_MONTHS _ _ _ _ _ _ _ _ := ⟨PySem.W.mg_of X G n_MONTHS, tup_const L_MONTHS (by show 12 ≤ sizeLine; decide) (.cons ⟨_, rfl⟩ (.cons ⟨_, rfl⟩ (.cons ⟨_, rfl⟩ (.cons ⟨_, rfl⟩ (.cons ⟨_, rfl⟩ (.cons ⟨_, rfl⟩ (.cons ⟨_, rfl⟩ (.cons ⟨_, rfl⟩ (.cons ⟨_, rfl⟩ (.cons ⟨_, rfl⟩ (.cons ⟨_, rfl⟩ (.cons ⟨_, rfl⟩ .nil)))))))))))), ⟨_, PySem.W.mg_of X G n_FEBRUARY⟩, FLp, bLp, gLp, FDi, bDi, gDi, FAh, bAh, gAh, FNu, bNu, gNu⟩
  have Fr : Frm K mg c_BETWEEN _ _ _ _ _ _ _ _ _ _ := ⟨PySem.W.mg_of X G n_BETWEEN, tup_const L_BETWEEN (by show 3 ≤ sizeLine; decide) (.cons ⟨_, rfl⟩ (.cons ⟨_, rfl⟩ (.cons ⟨_, rfl⟩ .nil))), ⟨_, PySem.W.mg_of X G n_WHOLE_FIGURES⟩, ⟨_, PySem.W.mg_of X G n_AMOUNT_FIGURES⟩, ⟨_, PySem.W.mg_of X G n_YEAR_FIGURES⟩, ⟨_, PySem.W.mg_of X G n_DAY_FIGURES⟩, FIF, bIF, gIF, FRA, bRA, gRA, FRD, bRD, gRD, FDo, bDo, gDo, FRs, bRs, gRs⟩
  have St : Stp K mg _ _ _ _ _ _ _ _ _ _ _ _ _ _ := ⟨FCW, bCW, gCW, FCu, bCu, gCu, FGl, bGl, gGl, FSp, bSp, gSp, FRdn, bRdn, gRdn, FMe, bMe, gMe, FDn, bDn, gDn⟩
  have L : Lnm K mg _ _ _ _ _ _ _ _ _ _ _ _ := ⟨FLNu, bLNu, gLNu, FLAF, bLAF, gLAF, FLF, bLF, gLF, FLDay, bLDay, gLDay, FLW, bLW, gLW, FLDoes, bLDoes, gLDoes⟩
  have W : Drw K mg _ _ _ _ := ⟨FTk, bTk, gTk, FOf, bOf, gOf⟩
  have Ca : Cs K mg _ _ _ _ _ _ _ _ _ _ _ _ := ⟨FLTx, bLTx, gLTx, FLFo, bLFo, gLFo, FLNd, bLNd, gLNd, FLNe, bLNe, gLNe, FLSp, bLSp, gLSp, FLCa, bLCa, gLCa⟩
  have kDn := kb_swp (p1 := "step") (p2 := "worths") FDn fun _ _ _ _ _ _ _ _ => rfl
  have D : Lw K mg _ _ _ _ _ _ _ _ _ _ _ _ := ⟨FHd, bHd, gHd, FTk, bTk, gTk, FLCa, bLCa, gLCa, FLDoes, bLDoes, gLDoes, FDn, bDn, kDn, gDn, FTr, bTr, gTr⟩
  exact ok_law Flaw T D sm (ok_lcase (c := cc) Ca csp TB T W) (ok_does L T) (ok_done C Fr St T)
end K21
open PySem PySem.W PyProof.Rows
set_option maxRecDepth 100000 in
set_option maxHeartbeats 0 in
theorem PySem.Challenge.cw_cleanedtables_k21_steps_on_rows_holds : PySem.Challenge.rw_cleanedtables_k21_steps_on_rows.Holds := by
  w_on; o_law; k_head; (case hw => w_witness2)
  k_fill
  refine Xo.walkT (l := PySem.Challenge.rw_cleanedtables_k21_steps_on_rows) (n := 63) (k := 9) (sp := K21.spLaw) (x := "_law_script") "_law_spelled" ?calm rfl (by decide) rfl ⟨rfl, by decide, by decide⟩ (fun w h Y => PySem.W.km_in_of Y) ?rec ?tab ?nP ?F (fun Pa K H a ns hl hO hS => ⟨a, ns, rfl, hO, hS, hl, fun _ => rfl⟩)
  case calm => decide +kernel
  case rec => decide +kernel
  case tab => intro p; kernel_rfl
  case nP => intro p; kernel_rfl
  case F =>
    intro w mg fa h KX G hmg
    refine' K21.all_mk KX G hmg ?a1 ?l1 ?c1 ?k1 ?a2 ?l2 ?c2 ?k2 ?a3 ?l3 ?c3 ?k3 ?a4 ?l4 ?c4 ?k4 ?a5 ?l5 ?c5 ?k5 ?a6 ?l6 ?c6 ?k6 ?a7 ?l7 ?c7 ?k7 ?a8 ?l8 ?c8 ?k8 ?a9 ?l9 ?c9 ?k9 ?a10 ?l10 ?c10 ?k10 ?a11 ?l11 ?c11 ?k11 ?a12 ?l12 ?c12 ?k12 ?a13 ?l13 ?c13 ?k13 ?a14 ?l14 ?c14 ?k14 ?a15 ?l15 ?c15 ?k15 ?a16 ?l16 ?c16 ?k16 ?a17 ?l17 ?c17 ?k17 ?a18 ?l18 ?c18 ?k18 ?a19 ?l19 ?c19 ?k19 ?a20 ?l20 ?c20 ?k20 ?a21 ?l21 ?c21 ?k21 ?a22 ?l22 ?c22 ?k22 ?a23 ?l23 ?c23 ?k23 ?a24 ?l24 ?c24 ?k24 ?a25 ?l25 ?c25 ?k25 ?a26 ?l26 ?c26 ?k26 ?a27 ?l27 ?c27 ?k27 ?a28 ?l28 ?c28 ?k28 ?a29 ?l29 ?c29 ?k29 ?a30 ?l30 ?c30 ?k30 ?a31 ?l31 ?c31 ?k31 ?a32 ?l32 ?c32 ?k32 ?a33 ?l33 ?c33 ?k33 ?z_isinstance ?z_int ?z_bool ?z_str ?z_tuple ?z_dict ?z_len ?z_abs ?z_range ?z_all ?z_sum ?z_zip ?z_list ?z_sorted ?z_repr ?z_max ?z_min ?n_FEBRUARY ?n_WHOLE_FIGURES ?n_AMOUNT_FIGURES ?n_YEAR_FIGURES ?n_DAY_FIGURES ?n_MONTHS ?L_MONTHS ?n_BETWEEN ?L_BETWEEN ?csp ?tsp
    (case a1 => k_is)
    (case l1 => k_is)
    (case c1 => k_is)
    (case k1 => k_is)
    (case a2 => k_is)
    (case l2 => k_is)
    (case c2 => k_is)
    (case k2 => k_is)
    (case a3 => k_is)
    (case l3 => k_is)
    (case c3 => k_is)
    (case k3 => k_is)
    (case a4 => k_is)
    (case l4 => k_is)
    (case c4 => k_is)
    (case k4 => k_is)
    (case a5 => k_is)
    (case l5 => k_is)
    (case c5 => k_is)
    (case k5 => k_is)
    (case a6 => k_is)
    (case l6 => k_is)
    (case c6 => k_is)
    (case k6 => k_is)
    (case a7 => k_is)
    (case l7 => k_is)
    (case c7 => k_is)
    (case k7 => k_is)
    (case a8 => k_is)
    (case l8 => k_is)
    (case c8 => k_is)
    (case k8 => k_is)
    (case a9 => k_is)
    (case l9 => k_is)
    (case c9 => k_is)
    (case k9 => k_is)
    (case a10 => k_is)
    (case l10 => k_is)
    (case c10 => k_is)
    (case k10 => k_is)
    (case a11 => k_is)
    (case l11 => k_is)
    (case c11 => k_is)
    (case k11 => k_is)
    (case a12 => k_is)
    (case l12 => k_is)
    (case c12 => k_is)
    (case k12 => k_is)
    (case a13 => k_is)
    (case l13 => k_is)
    (case c13 => k_is)
    (case k13 => k_is)
    (case a14 => k_is)
    (case l14 => k_is)
    (case c14 => k_is)
    (case k14 => k_is)
    (case a15 => k_is)
    (case l15 => k_is)
    (case c15 => k_is)
    (case k15 => k_is)
    (case a16 => k_is)
    (case l16 => k_is)
    (case c16 => k_is)
    (case k16 => k_is)
    (case a17 => k_is)
    (case l17 => k_is)
    (case c17 => k_is)
    (case k17 => k_is)
    (case a18 => k_is)
    (case l18 => k_is)
    (case c18 => k_is)
    (case k18 => k_is)
    (case a19 => k_is)
    (case l19 => k_is)
    (case c19 => k_is)
    (case k19 => k_is)
    (case a20 => k_is)
    (case l20 => k_is)
    (case c20 => k_is)
    (case k20 => k_is)
    (case a21 => k_is)
    (case l21 => k_is)
    (case c21 => k_is)
    (case k21 => k_is)
    (case a22 => k_is)
    (case l22 => k_is)
    (case c22 => k_is)
    (case k22 => k_is)
    (case a23 => k_is)
    (case l23 => k_is)
    (case c23 => k_is)
    (case k23 => k_is)
    (case a24 => k_is)
    (case l24 => k_is)
    (case c24 => k_is)
    (case k24 => k_is)
    (case a25 => k_is)
    (case l25 => k_is)
    (case c25 => k_is)
    (case k25 => k_is)
    (case a26 => k_is)
    (case l26 => k_is)
    (case c26 => k_is)
    (case k26 => k_is)
    (case a27 => k_is)
    (case l27 => k_is)
    (case c27 => k_is)
    (case k27 => k_is)
    (case a28 => k_is)
    (case l28 => k_is)
    (case c28 => k_is)
    (case k28 => k_is)
    (case a29 => k_is)
    (case l29 => k_is)
    (case c29 => k_is)
    (case k29 => k_is)
    (case a30 => k_is)
    (case l30 => k_is)
    (case c30 => k_is)
    (case k30 => k_is)
    (case a31 => k_is)
    (case l31 => k_is)
    (case c31 => k_is)
    (case k31 => k_is)
    (case a32 => k_is)
    (case l32 => k_is)
    (case c32 => k_is)
    (case k32 => k_is)
    (case a33 => k_is)
    (case l33 => k_is)
    (case c33 => k_is)
    (case k33 => k_is)
    (case z_isinstance => k_is)
    (case z_int => k_is)
    (case z_bool => k_is)
    (case z_str => k_is)
    (case z_tuple => k_is)
    (case z_dict => k_is)
    (case z_len => k_is)
    (case z_abs => k_is)
    (case z_range => k_is)
    (case z_all => k_is)
    (case z_sum => k_is)
    (case z_zip => k_is)
    (case z_list => k_is)
    (case z_sorted => k_is)
    (case z_repr => k_is)
    (case z_max => k_is)
    (case z_min => k_is)
    (case n_FEBRUARY => k_is)
    (case n_WHOLE_FIGURES => k_is)
    (case n_AMOUNT_FIGURES => k_is)
    (case n_YEAR_FIGURES => k_is)
    (case n_DAY_FIGURES => k_is)
    (case n_MONTHS => k_is)
    (case L_MONTHS => k_is)
    (case n_BETWEEN => k_is)
    (case L_BETWEEN => k_is)
    (case csp => rfl)
    (case tsp => kernel_rfl)
