import PyProof.Rows.All
import Wide.All
import OpenK.AllK
import Wide.FinOn
import HandS.ForMost
import HandS.Flow
import HandS.Wide
import HandS.StrMore
import HandS.StrSplit
import HandS.Codes
import PyProof.ReprRoads
import HandS.ExcInit
import HandS.IsInst
import KE.KExcInit
import HandS.MakeKw
import HandS.TryMany
import HandS.ExcField
import HandS.ExcIs
import KE.KExcIs
import HandS.ExcOwn
import HandS.ExcValue
import KE.KxText
import HandS.Walk
import HandS.Strs
import HandS.TupAny
import KE.Datum
import HandS.SortKw
import PySem.Challenge.RW_cleanedtables_k01_worths_forms_shapes_of
set_option Elab.async false
set_option linter.all false
set_option maxRecDepth 100000
set_option maxHeartbeats 4000000
/-! Bs: what all our texts lean on: defs that ask for reprs (no guard stands on the stack), reprs of data, draws. -/
namespace Bs
open PySem PySem.Spec PyProof.Rows L2

/-! ### defs under an empty stack of guards -/
/-- a def's promise where no guard stands on the stack -/
structure FG (P : Program) (w : World) (K : PySem.W.Frag) (mg : Str → Option Value) (base : Heap) (k : Nat) (f : Addr) (fd : FuncData) (ps : List Str) (sp : Sp) : Prop where
  many : ∀ vs H Q E, sp vs H Q E → vs.length = ps.length
  goes : ∀ (A : Around) (outer : List Env) (s : Shared) (H : Hp) (args : Args) (us : List Value) (vs : List V) (Q : VK) (E : XK),
    A.guards = some [] → Room k A → Env0 P w K mg base A outer s H → BindsTo s fd args (ps.zip us) → Vals vs us → sp vs H Q E →
    codeAny (model P w) A (.call (.ref f) args) (CR CX0 outer P w H s Q E) s
theorem FG.of {P : Program} {w : World} {K : PySem.W.Frag} {mg : Str → Option Value} {base : Heap} {k : Nat} {f : Addr} {fd : FuncData} {ps : List Str} {sp : Sp}
    (F : FnOk P w K mg base CX0 k f fd ps sp) : FG P w K mg base k f fd ps sp :=
  ⟨F.len, fun A outer s H args us vs Q E _ => F.run A outer s H args us vs Q E⟩

section
variable {P : Program} {w : World} {K : PySem.W.Frag} {mg : Str → Option Value} {base : Heap} {x qual : Str} {st : Stmt} {f : Addr} {fd : FuncData} {N ps : List Str} {k : Nat} {sp : Sp}
theorem okG (F : Fun K x qual st f fd) (S : FnScope N ps (defScope st)) (many : ∀ vs H Q E, sp vs H Q E → vs.length = ps.length)
    (body : ∀ (cdv : Value) (A : Around) (outer : List Env) (s : Shared) (H : Hp) (vs : List V) (Q : VK) (E : XK), A.guards = some [] →
      Room k (A.deeper (envOfC qual (defScope st) s.heap.objs.size f cdv)) → sp vs H Q E →
      ∃ t, PSs (cxOf CX0 P w K mg base N qual (defScope st) f cdv A outer s H E).nox (defBody st) t ∧ t { nx := fun _ H' => Q .non H', rt := Q } (start N vs) H) :
    FG P w K mg base (k + 1) f fd ps sp := by
  obtain ⟨oc, od, kV, doc, pm, an, cdv, ct, osl, rfl, lk, hcd⟩ := F.ex
  constructor
  · exact many
  · intro A outer s H args us vs Q E ng hr e0 hb rv hsp
    have inK : K.In s.heap := e0.mod.kin.keeps fun b o q => (e0.bs b o q).1
    have noL : s.heap.NoLimit := e0.mod.nolimit.keeps fun b o q => (e0.bs b o q).1
    have kinds : ∀ y ∈ ps.zip us, (defScope st).names.lookup y.1 = some .local ∨ ((defScope st).names.lookup y.1 = some .cell ∧ ((cellsFrom (s.heap.objs.size + 1) (defScope st).names []).lookup y.1).isSome = true) := by
      rintro ⟨n, v⟩ hy
      cases S.par n (List.of_mem_zip hy).1 with
      | inl q => exact .inl q
      | inr q => exact .inr ⟨q, PySem.W.cellsFrom_some _ _ _ (.inl q)⟩
    apply codeAny_call_function hr.depth (inK _ _ lk) rfl S.co S.gen rfl (PySem.W.codeRec_of inK hcd)
    apply hb
    apply wpAny_newFunctionEnv_cells S.kind kinds
    intro env he s1 xx
    subst he
    refine ⟨noL.keeps xx.toInCall.keep, ?_⟩
    apply codeAny_func
    obtain ⟨t, ht, hq⟩ := body cdv A outer s H vs Q E ng (hr.deeper _) hsp
    have J : Inv (cxOf CX0 P w K mg base N qual (defScope st) f cdv A outer s H E) [] (start N vs) H s1 := inv_start S hr.hd e0 (many _ _ _ _ hsp) rv xx
    refine wpAny_mono (ht.nox.run [] s1 (start N vs) H _ J hq) ?_ (fun _ _ z => z)
    intro fl s' hs
    cases fl with
    | ret u =>
      obtain ⟨v, σ', H', J', r', q⟩ := hs
      exact ⟨v, H', J'.os, J'.bare, J'.base, J'.hok, r', q⟩
    | next =>
      obtain ⟨σ', H', J', q⟩ := hs
      exact ⟨V.non, H', J'.os, J'.bare, J'.base, J'.hok, (rfl : RelV V.non Value.none), q⟩
    | brk => exact hs.elim fun _ z => z.elim fun _ z => z.2.elim
    | cont => exact hs.elim fun _ z => z.elim fun _ z => z.2.elim
end

section
variable {X : Cx} {k : Nat} {f : Addr} {fd : FuncData} {ps : List Str} {sp : Sp} {dvs : List V} {ds : List Value} {x : Str} {p pos : Pos} {e : Expr} {es : List Expr} {t : TA}
/-- a call of such a def, where no guard stands -/
theorem callG (F : FG X.prog X.w X.K X.mg X.base k f fd ps sp) (ng : X.A.guards = some []) (hr : Room k X.A) (hg : Gl X x) (hm : X.mg x = some (.ref f)) (hk : PySem.W.keepIn X.K (.ref f) = true) (hb : Binds X.K fd ps ds) (hd : Vals dvs ds)
    (ha : PA X (e :: es) t) (hdb : (x == ("__debug__" : Str)) = false := by decide) (he : starEach (e :: es) X.env = (false, eval e X.env) :: starEach es X.env := by rfl) (hpl : (backTo pos (starEach es X.env)).any (·.1) = false := by rfl) :
    PE X (.Call (.Name x p) (e :: es) [] pos) (tCall sp dvs E0 t) := by
  constructor
  intro pins s σ H Q I h
  apply wpAny_Call_Name_kw
  apply ld_glob I hg hm _ hdb
  apply PySem.W.callWith_K (h₀ := X.base) I.ok.mod.kin hk _ he hpl
  apply thn (ha.run pos pins s σ H _ I h)
  rintro us s1 ⟨vs, H1, I1, r, q⟩
  refine ⟨I1.kIn, ?_⟩
  have r2 : Vals (vs ++ dvs) (us ++ ds) := r.append hd
  have hl : (us ++ ds).length = ps.length := by rw [← r2.length]; exact F.many _ _ _ _ q
  apply wpAny_call
  apply codeAny_mono (F.goes X.A X.stack s1 H1 ⟨us, []⟩ (us ++ ds) (vs ++ dvs) Q E0 ng hr I1.env0 (hb s1 us I1.kIn hl) r2 q)
  intro res s' hq
  match res, hq with
  | .error _, hq => exact hq.elim
  | .ok (.ret u), hq => exact I1.after hq
  | .ok .next, hq => exact hq.elim
  | .ok .brk, hq => exact hq.elim
  | .ok .cont, hq => exact hq.elim
end

/-! ### the end of a row over such a law -/
theorem endG {P : Program} {w : World} {K : PySem.W.Frag} {mg mb : Str → Option Value} {k : Nat} {fa a : Addr} {fd : FuncData} {x : Str} {sp : Sp} {s : Shared} {us : List Value} {ns : List Int}
    (inK : K.In s.heap) (gl : s.heap.Ns mainGlobals mg) (bu : s.heap.Ns builtinsNs mb) (buE : ∀ x : Str, x ≠ "__name__" → mb x = bootBuiltins x) (noL : s.heap.NoLimit) (noG : s.gens = #[])
    (at_ : s.heap.get? a = some { cls := .type "list", data := .seq us.toArray }) (iA : IntsAre us ns) (len : ns.length ≤ sizeLine) (room : Room k callerA)
    (F : ∀ base : Heap, K.In base → base.Ns mainGlobals mg → FG P w K mg base k fa fd [x] sp) (bnd : ∀ (s : Shared) (u : Value), BindsTo s fd ⟨[u], []⟩ [(x, u)])
    (want : ∀ H : Hp, Only H → SqL K H a (ns.map V.int) → sp [.ref a] H (fun v _ => v = .bl true) E0) :
    codeAny (model P w) callerA (.call (.ref fa) ⟨[.ref a], []⟩) (fun r s' => r = .ok (.ret (.bool true)) ∧ OldK s.heap s'.heap ∧ s'.os = s.os ∧ AllBare s'.gens) s := by
  have rv := vals_ints iA
  have lenV := iA.length
  have key : ∀ H : Hp, Only H → SqL K H a (ns.map V.int) → HOk P w H s.heap → (∀ b, b ≠ a → H b = none) → (K.lookup a ≠ none → H a = none) →
      codeAny (model P w) callerA (.call (.ref fa) ⟨[.ref a], []⟩) (fun r s' => r = .ok (.ret (.bool true)) ∧ OldK s.heap s'.heap ∧ s'.os = s.os ∧ AllBare s'.gens) s := by
    intro H oH sH okH one hK
    have nd : ∀ {b : Addr} {o : Obj} {es : Array DictEntry} {ep : Nat}, s.heap.get? b = some o → o.data = .dict es ep → H b = none := by
      intro b o es ep e d
      by_cases eb : b = a
      · rw [eb, at_] at e
        cases e
        exact nomatch (show Data.seq us.toArray _ = Data.dict es ep from d)
      · exact one b eb
    have nsH : ∀ {b : Addr} {m : Str → Option Value}, s.heap.Ns b m → (hidT s.heap H).Ns b m := by
      rintro b m ⟨o, es, ep, e, d, r⟩
      exact ⟨o, es, ep, hidT_get e (nd e d), d, r⟩
    have kH : K.In (hidT s.heap H) := by
      intro b o e
      apply hidT_get (inK b o e)
      by_cases eb : b = a
      · rw [eb]
        exact hK (by rw [← eb, e]; simp)
      · exact one b eb
    have md : Mod K mg (hidT s.heap H) := ⟨kH, nsH gl, ⟨mb, nsH bu, buE⟩, noL.elim fun mc q => ⟨mc, nsH q.1, q.2⟩⟩
    have e0 : Env0 P w K mg (hidT s.heap H) callerA [] s H :=
      { frames := rfl, mod := md, bs := fun b o e => of_hidT e, bsz := Nat.le_of_eq (hidT_size _ _), funs := trivial, frf := fun b hb => (nomatch (show b ∈ ([] : List Addr) from hb)), hok := okH, bare := .of_eq noG }
    apply codeAny_mono ((F _ kH (nsH gl)).goes callerA [] s H ⟨[.ref a], []⟩ [.ref a] [.ref a] _ _ rfl room e0 (bnd s (.ref a)) (.cons rfl .nil) (want H oH sH))
    intro r s' h
    match r, h with
    | .error e, h => exact h.elim
    | .ok .next, h => exact h.elim
    | .ok .brk, h => exact h.elim
    | .ok .cont, h => exact h.elim
    | .ok (.ret u), ⟨v, H', os, bare, un, ok', r', q⟩ =>
      have q' : v = .bl true := q
      subst q'
      have eu : u = Value.bool true := r'
      subst eu
      refine ⟨rfl, OldK.of_keep ?_, os, bare⟩
      intro b o e
      cases eb : H b with
      | none => exact un.keep b o e eb (fun z => (nomatch (show b ∈ ([] : List Addr) from z))) (by simp)
      | some u =>
        cases oH b with
        | inl z => rw [eb] at z; cases z
        | inr z =>
          obtain ⟨ob, xs, z⟩ := z
          have e1 := (okH b _ z).1
          have e2 := (ok' b _ (un.frzs b ob _ z)).1
          rw [e] at e1
          cases e1
          exact e2
  cases hk : K.lookup a with
  | some o =>
    have e := inK a o hk
    rw [at_] at e
    cases e
    apply key (fun _ => none) (fun _ => .inl rfl) _ (fun b u z => nomatch (show (none : Option HO) = some u from z)) (fun _ _ => rfl) (fun _ => rfl)
    exact .inr ⟨_, us.toArray, _, hk, rfl, rfl, rfl, by rw [List.size_toArray, lenV]; exact len, by simpa using rv⟩
  | none =>
    let fz : HO := .frz { cls := .type "list", data := .seq us.toArray } (.lst (ns.map V.int))
    apply key (fun b => if b = a then some fz else none)
    · intro b
      by_cases hb : b = a
      · exact .inr ⟨_, _, if_pos hb⟩
      · exact .inl (if_neg hb)
    · exact .inl (.inr ⟨_, if_pos rfl⟩)
    · intro b u z
      by_cases hb : b = a
      · have z' := (if_pos hb).symm.trans z
        cases z'
        subst hb
        exact ⟨at_, by rw [List.length_map]; exact len, us, _, rv, at_⟩
      · have z' := (if_neg hb).symm.trans z
        cases z'
    · intro b hb
      exact if_neg hb
    · intro z
      exact absurd hk z
theorem walkG {l : PySem.W.OpenLaw} {n k : Nat} {q : Program} {loose : List Str} {XP : (Str → Option Value) → Heap → Prop} {YP : World → Heap → Prop} {d : DefRec} {K : Params → PySem.W.Frag} {sp : PySem.W.Frag → Sp} {x : Str}
    (most : l.most = some n) (small : n ≤ sizeLine) (plain : d.params.defaults = []) (room : Room k callerA) (hY : ∀ (w : World) (h : Heap), YP w h → (K w.params).In h)
    (F : ∀ (w : World) (mg : Str → Option Value) (fa : Addr) (h : Heap), (K w.params).In h → h.Ns mainGlobals mg → mg d.name = some (.ref fa) →
      ∃ fd : FuncData, (∀ (s : Shared) (u : Value), BindsTo s fd ⟨[u], []⟩ [(x, u)]) ∧
        ∀ base : Heap, (K w.params).In base → base.Ns mainGlobals mg → FG l.prog w (K w.params) mg base k fa fd [x] (sp (K w.params)))
    (want : ∀ (K : PySem.W.Frag) (H : Hp) (a : Addr) (ns : List Int), ns.length ≤ n → Only H → SqL K H a (ns.map V.int) → sp K [.ref a] H (fun v _ => v = .bl true) E0) :
    PySem.W.WalkO q loose XP YP l.row.toRowW d [] (fun f vs => PySem.call f vs) := by
  apply Att.attach_call most plain
  intro w s₀ s₁ mg mb fa o pm cd doc a us ns G Y ho hd hcd hmg at_ iA len noG
  obtain ⟨fd, hb, hF⟩ := F w mg fa _ (hY w _ Y) G.T.g hmg
  exact endG (hY w _ Y) G.T.g G.T.b G.T.builtins G.T.nolimit noG at_ iA (Nat.le_trans len small) room hF hb fun H hO hS => want (K w.params) H a ns len hO hS

/-! ### a value is told by what is wanted of it, then what follows is shown once -/
theorem cutA {te : TE} {g : TG} {u : TS} {D : Ends} {σ : L2.St} {H : Hp} (W : V → Hp → Prop) (h1 : ∀ Q : VK, (∀ v H', W v H' → Q v H') → te σ H Q) (h2 : ∀ v H', W v H' → g v σ H' (u D)) : tSeq (tAsg te g) u D σ H := h1 _ h2
theorem cutT {t u : TS} {D : Ends} {σ : L2.St} {H : Hp} (W : L2.St → Hp → Prop) (h1 : ∀ N : L2.St → Hp → Prop, (∀ σ' H', W σ' H' → N σ' H') → t { D with nx := N } σ H) (h2 : ∀ σ' H', W σ' H' → u D σ' H') : tSeq t u D σ H := h1 _ h2

/-- a store; then «dsimp only» -/
theorem gN {i : Nat} {v : V} {σ : L2.St} {H : Hp} {N : L2.St → Hp → Prop} (h : N (σ.set i (some v)) H) : gName i v σ H N := h
/-- a comprehension without a test -/
theorem yes {σ : L2.St} {H : Hp} {F G : Hp → Prop} (h : F H) : tYes σ H (fun b H3 => if b = true then F H3 else G H3) := by
  show (if true = true then F H else G H)
  rw [if_pos rfl]
  exact h

/-! ### reprs of data -/
section
variable {X : Cx}
/-- repr(x), x a list or a tuple of data -/
theorem call_repr (ng : X.A.guards = some []) (hu : X.A.units + 64 < cLine) :
    CallR X (.builtin "repr") (fun xs H Q => ∃ x d, xs = [x] ∧ Dp X.K H x d ∧ isDisplay d = true ∧ d.showable = true ∧ d.hasDict = false ∧ d.depth < 60 ∧ d.shown.length ≤ sizeLine ∧ Q (.str d.shown) H) := by
  intro pins s σ H xs us Q I r h
  obtain ⟨x, d, rfl, dp, dis, sho, nod, dep, len, q⟩ := h
  cases r with
  | cons r1 r2 =>
    cases r2
    obtain ⟨as, rd⟩ := Dp.reads I d x _ dp r1
    obtain ⟨a, rfl⟩ := isRef_of_reads rd dis
    apply repr_of_reads' rd sho (PyData.noDict_hsm nod) ng (by omega) (fun _ _ e => e) _ len
    intro h' u tk kp
    exact ⟨.str d.shown, H, I.kept (h' := h') (t' := tk) kp, ⟨u, rfl⟩, q⟩
/-- x.ljust(i, c) -/
theorem mt_ljustF : MtR X "str.ljust" (fun x xs H Q => ∃ (a : Str) (i : Int) (c : Nat), x = .str a ∧ xs = [.int i, .str ⟨#[c]⟩] ∧ PadOk i = true ∧ Q (.str (Txt.ljustF a i c)) H) := by
  intro pins s σ H x xs v us Q I rx rs h
  obtain ⟨a, i, c, rfl, rfl, pad, q⟩ := h
  obtain ⟨t, rfl⟩ := rx
  cases rs with
  | cons r1 rs =>
    cases rs with
    | cons r2 rs =>
      cases rs
      obtain ⟨u, rfl⟩ := r1
      obtain ⟨z, rfl⟩ := r2
      apply ljust_fill pad rfl
      intro t' k
      exact ⟨.str _, H, I.tok k, ⟨t', rfl⟩, q⟩
end

/-! ### calls by names alone -/
section
variable {X : Cx} {CX : CXT} {k : Nat} {f : Addr} {fd : FuncData} {ps ks : List Str} {sp : Sp} {E : XK} {x : Str} {p pos : Pos} {kws : List Keyword} {tk : TA} {g : List Value → List Value → List Value} {gV : List V → List V → List V}
/-- f(k = v, ..) -/
theorem callK0 (F : FnOk X.prog X.w X.K X.mg X.base CX k f fd ps sp) (hr : Room k X.A) (hg : Gl X x) (hm : X.mg x = some (.ref f)) (hk : PySem.W.keepIn X.K (.ref f) = true) (hb : KBinds X.K fd ps ks g gV) (hx : Passes CX X E) (hkw : PK X kws tk)
    (hall : (backToKw pos (keywordEach kws X.env)).all (·.1.isSome) = true := by rfl) (hks : (backToKw pos (keywordEach kws X.env)).filterMap (·.1) = ks := by rfl) (hdb : (x == ("__debug__" : Str)) = false := by decide)
    (hpl : ((backTo pos (starEach [] X.env)).any (·.1) || (backToKw pos (keywordEach kws X.env)).any (·.1.isNone)) = false := by rfl) :
    PE X (.Call (.Name x p) [] kws pos) (tCallK sp gV E tNil tk) := by
  constructor
  intro pins s σ H Q I h
  apply wpAny_Call_Name_kw
  apply ld_glob I hg hm _ hdb
  apply PySem.W.callWith_KW0 (h₀ := X.base) I.ok.mod.kin hk hall _ hpl
  apply thn (hkw.run pos pins s σ H _ I h)
  rintro ws s2 ⟨zs, H2, I2, rz, q2⟩
  refine ⟨I2.kIn, ?_⟩
  rw [hks]
  exact run_fnk (us := []) (vs := []) F hr hb hx I2 .nil rz q2
end
/-- two parameters, told by their names the other way about -/
def swp {α : Type} : List α → List α → List α
  | [], [a, b] => [b, a]
  | _, _ => []
theorem kb_swp {K : PySem.W.Frag} {x qual : Str} {st : Stmt} {f : Addr} {fd : FuncData} {p1 p2 : Str} (F : Fun K x qual st f fd)
    (h : ∀ (kV doc pm : Value) (an : Option Addr) (cdv ct : Value) (a b : Value), bindArgs (PySem.W.fnOf x qual (defArgs st) (defBody st) (defScope st) .none kV doc pm an cdv ct) ⟨[], [(p2, a), (p1, b)]⟩ = pure [(p1, b), (p2, a)]) :
    KBinds K fd [p1, p2] [p2, p1] swp swp := by
  obtain ⟨oc, od, kV, doc, pm, an, cdv, ct, osl, rfl, lk, hcd⟩ := F.ex
  constructor
  · intro s us ws _ hl
    match us, ws, hl with
    | [], [a, b], _ => exact .of_eq (h kV doc pm an cdv ct a b)
    | [], [], hl => exact absurd hl (by simp [swp])
    | [], [_], hl => exact absurd hl (by simp [swp])
    | [], _ :: _ :: _ :: _, hl => exact absurd hl (by simp [swp])
    | _ :: _, _, hl => exact absurd hl (by simp [swp])
  · intro vs us zs ws h1 h2
    cases h1 with
    | nil =>
      cases h2 with
      | nil => exact .nil
      | cons a h2 =>
        cases h2 with
        | nil => exact .nil
        | cons b h2 =>
          cases h2 with
          | nil => exact .cons b (.cons a .nil)
          | cons c h2 => exact .nil
    | cons a h1 =>
      cases h2 with
      | nil => exact .nil
      | cons b h2 => exact .nil
/-! ### the text of a list of two -/
theorem two_text (t u : Str) : (listText [t, u]).length = t.length + u.length + 4 := by
  have e : listText [t, u] = ((((Str.ofString "[" ++ Str.ofString "") ++ t) ++ Str.ofString ", ") ++ u) ++ Str.ofString "]" := rfl
  rw [e, TL.len_tl]
  simp only [TL.tl_append, List.length_append]
  rw [show (TL.tl (Str.ofString "[")).length = 1 by decide +kernel, show (TL.tl (Str.ofString "")).length = 0 by decide +kernel, show (TL.tl (Str.ofString ", ")).length = 2 by decide +kernel, show (TL.tl (Str.ofString "]")).length = 1 by decide +kernel, ← TL.len_tl, ← TL.len_tl]
  omega
theorem two_small {t : Str} {d : PyData} (e : d.shown = t) (h : t.length ≤ 1000) : (PyData.list [d, d]).shown.length ≤ sizeLine := by
  simp only [PyData.shown, PyData.shownAll, e]
  rw [two_text]
  exact Nat.le_trans (show _ ≤ 3000 by omega) (by decide)
end Bs
set_option Elab.async false
set_option linter.all false
set_option maxRecDepth 100000
set_option maxHeartbeats 4000000
/-! Xc: exceptions of the program's own, over ValueError, LookupError or RuntimeError, with own classes between, made and held as values: stored into by their own __init__, read, asked for their class. -/
namespace PySem
namespace XcW
open PySem.W PySem.Calls PyProof.Rows Builtin Builtin.ObjectAttr
section
variable {prog : Program} {w : World} {A : Around} {R : Result → Shared → Prop} {hp : Heap} {g : Array GenState} {d : Drawn} {t : Nat} {os : OsState} {K : Frag} {x C : Addr} {fv : Array Value} {name : Str} {tk : Tok} {v : Value} {B : String} {bmB : List Value}
/-- the first field -/
theorem store1 (SF : StoreFacts B bmB "object.__setattr__" "object") (inK : K.In hp) (hx : hp.get? x = some { cls := .ref C, data := .fields fv }) (ov : excOver K C bmB = true) (tn : takerIn K C name = some none) (hd : hasDictIn K C = true)
    (go : ∀ h' tk' dx, (∀ b o, b ≠ x → hp.get? b = some o → h'.get? b = some o) → hp.objs.size ≤ dx → dx ≠ x → h'.get? x = some { cls := .ref C, dict := some dx, data := .fields fv } →
      h'.Ns1 dx (fun y => if y = name then some v else none) → R (.ok (.ret .none)) ⟨h', g, d, tk', os⟩) :
    codeAny (model prog w) A (.call (.builtin "object.__setattr__") ⟨[.ref x, .str name tk, v], []⟩) R ⟨hp, g, d, t, os⟩ := by
  apply osa_openX (od := none) SF inK ⟨hx, rfl, rfl, trivial⟩ ov tn
  intro b
  obtain ⟨cd, hc, hd'⟩ := any_some hd
  have away : x ≠ hp.objs.size := Nat.ne_of_lt (Heap.lt_size hx)
  have cls : Looks (model prog w) hp (classData C) cd := looks_clsIn inK hc
  show wpAny _ _ (storeInOwnDict (.ref x) (.ref C) (.str name tk) name v b) _ _ _
  obtain ⟨nm, bs, mro, ns, qn, hdd, sn, sb, ab, col, del⟩ := cd
  have e : hdd = true := hd'
  subst e
  unfold storeInOwnDict ownDictForStores
  repeat (first | with_reducible refine HandSPX.store_in_new ?_ ?_ | with_reducible refine wpAny_loadPart_at hx ?_ | with_reducible refine cls.at ?_ | wp_step)
  · exact ⟨_, #[], _, (Heap.get?_update_ne _ _ _ _ away.symm).trans (Heap.get?_push_at rfl rfl), rfl, (fun e he => absurd he (by simp)), (fun _ => rfl)⟩
  · intro h' tk' hn' hs
    have hx1 : (hp.push { cls := .type "dict", data := .dict #[] }).get? x = some { cls := .ref C, data := .fields fv } := Heap.get?_push_of_some _ hx
    apply go h' tk' hp.objs.size _ (Nat.le_refl _) away.symm _ hn'
    · intro b o hb ho
      exact (hs.2 b (Nat.ne_of_lt (Heap.lt_size ho))).trans ((Heap.get?_update_ne _ _ _ _ hb).trans (Heap.get?_push_of_some _ ho))
    · exact (hs.2 x away).trans (Heap.get?_update_self _ hx1 rfl)
/-- a further field -/
theorem store2 {dx : Addr} {m0 : Str → Option Value} {nl : List Str} (SF : StoreFacts B bmB "object.__setattr__" "object") (inK : K.In hp) (hx : hp.get? x = some { cls := .ref C, dict := some dx, data := .fields fv }) (hns : hp.Ns1 dx m0) (hw : Within m0 nl) (few : nl.length ≤ 1000)
    (ov : excOver K C bmB = true) (tn : takerIn K C name = some none) (hd : hasDictIn K C = true)
    (go : ∀ h' tk', (∀ b o, b ≠ dx → hp.get? b = some o → h'.get? b = some o) → h'.Ns1 dx (fun y => if y = name then some v else m0 y) → R (.ok (.ret .none)) ⟨h', g, d, tk', os⟩) :
    codeAny (model prog w) A (.call (.builtin "object.__setattr__") ⟨[.ref x, .str name tk, v], []⟩) R ⟨hp, g, d, t, os⟩ := by
  obtain ⟨oD, _, _, hoD, _, _⟩ := hns.count hw
  apply osa_openX (od := some oD) SF inK ⟨hx, rfl, rfl, hoD⟩ ov tn
  intro b
  obtain ⟨cd, hc, hd'⟩ := any_some hd
  have cls : Looks (model prog w) hp (classData C) cd := looks_clsIn inK hc
  show wpAny _ _ (storeInOwnDict (.ref x) (.ref C) (.str name tk) name v b) _ _ _
  obtain ⟨nm, bs, mro, ns, qn, hdd, sn, sb, ab, col, del⟩ := cd
  have e : hdd = true := hd'
  subst e
  unfold storeInOwnDict ownDictForStores
  repeat (first | with_reducible refine OEX.store_in_old hns hw few ?_ | with_reducible refine wpAny_loadPart_at hx ?_ | with_reducible refine cls.at ?_ | wp_step)
  intro h' tk' hn' hs
  exact go h' tk' (fun b o hb ho => (hs.2 b hb).trans ho) hn'
end
end XcW
end PySem
namespace Xc
open PySem PySem.Spec PyProof.Rows L2 Bs
/-- what the written part says of such a class -/
structure Cl (K : PySem.W.Frag) (C : Addr) (B newId initId : String) (bmB : List Value) : Prop where
  F : ExcBaseFacts B newId initId bmB
  SF : StoreFacts B bmB "object.__setattr__" "object"
  ini : PySem.W.excInitIn K C bmB newId = true
  ov : PySem.W.excOver K C bmB = true
  hd : PySem.W.hasDictIn K C = true
  sa : PySem.W.findIn K (.ref C) "__setattr__" = some (some (.builtin "object.__setattr__"))
  ga : PySem.W.findIn K (.ref C) "__getattribute__" = some (some (.builtin "BaseException.__getattribute__"))
  gg : PySem.W.findIn K (.ref C) "__getattr__" = some none
  ex : PySem.W.subIn K (.ref C) (.type "BaseException") = some true
  ty : PySem.W.typeIn K (.ref C) = some (.type "type")
  kp : PySem.W.keepIn K (.ref C) = true
section
variable {X : Cx} {pins : List (Addr × Obj)} {σ : L2.St} {H : Hp} {s : Shared} {a C dx : Addr} {f : Str} {y : V} {u : Value} {fs : List (Str × V)} {Q : Unit → Shared → Prop} {E : Value → Shared → Prop} {A : Around} {B newId initId : String} {bmB : List Value}
theorem put1 (T : Cl X.K C B newId initId bmB) (I : Inv X pins σ H s) (e : H a = some (exo a C none)) (tn : PySem.W.takerIn X.K C f = some none) (ry : RelV y u)
    (go : ∀ dx s', H dx = none → dx ≠ a → Inv X pins σ (upd (upd H dx (exd dx [(f, y)])) a (exo a C (some dx))) s' → Q () s') : wpAny (model X.prog X.w) A (setAttr (.ref a) f u) Q E s := by
  obtain ⟨t1, ho⟩ := exo_at I.hok e
  obtain ⟨hp, g, d, t, os⟩ := s
  apply PySem.W.set_plain I.kIn (ox := { cls := .ref C, dict := none, data := .fields #[.ref t1, .none, .none, .none, .bool false, .none] }) (od := none) ⟨ho, rfl, rfl, trivial⟩ T.sa
  apply PySem.XcW.store1 T.SF I.kIn ho T.ov tn T.hd
  intro h' tk' dx k dn dne hx hn
  have fresh : H dx = none := I.hok.fresh dn
  have offd : ∀ {b : Addr} {o : Obj}, hp.get? b = some o → b ≠ dx := fun {b o} q => Nat.ne_of_lt (Nat.lt_of_lt_of_le (Heap.lt_size q) dn)
  have offa : ∀ {b : Addr}, H b = none → b ≠ a := by
    intro b n z
    rw [z, e] at n
    cases n
  have un : Un X.fs [] H (upd (upd H dx (exd dx [(f, y)])) a (exo a C (some dx))) hp h' := by
    constructor
    · exact fun b o q n _ _ => k b o (offa n) q
    · exact fun b o q n _ _ => ⟨o.slots, k b o (offa n) q⟩
    · intro b o q n _
      rw [upd_ne (offa n), upd_ne (offd q)]
      exact n
    · intro b o q _
      by_cases hb : b = a
      · exact ⟨_, by rw [hb]; exact hx⟩
      · exact ⟨o, k b o hb q⟩
    · intro b xs q
      rw [upd_ne (at_ne e q exo_tup), upd_ne (ne_of_none q fresh)]
      exact q
    · intro b o v q
      rw [upd_ne (at_ne e q exo_frz), upd_ne (ne_of_none q fresh)]
      exact q
    · intro b ps q
      exact ⟨#[], by rw [upd_ne (at_ne e q exo_tbl), upd_ne (ne_of_none q fresh), q]; simp⟩
  apply go dx _ fresh dne
  apply I.un (t' := tk') un
  intro b o q
  by_cases hb : b = a
  · subst hb
    rw [upd_same] at q
    cases q
    exact exo_ok hx
  · rw [upd_ne hb] at q
    by_cases hd : b = dx
    · subst hd
      rw [upd_same] at q
      cases q
      exact exd_ok hn (relO_put (fs := []) ry fun g => True.intro)
    · rw [upd_ne hd] at q
      apply (I.hok b o q).stay
      · intro c v hc z
        apply k c v _ z
        cases hc with
        | inl hc =>
          rw [hc]
          exact hb
        | inr hc => exact at_ne e hc exo_own
      · intro c hc
        rw [upd_ne (at_ne e hc exo_own), upd_ne (ne_of_none hc fresh)]
        exact hc
      · intro c xs hc
        rw [upd_ne (at_ne e hc exo_tup), upd_ne (ne_of_none hc fresh)]
        exact hc
theorem put2 (T : Cl X.K C B newId initId bmB) (I : Inv X pins σ H s) (e : H a = some (exo a C (some dx))) (ed : H dx = some (exd dx fs)) (few : fs.length ≤ 900) (tn : PySem.W.takerIn X.K C f = some none) (ry : RelV y u)
    (go : ∀ s', Inv X pins σ (upd H dx (exd dx ((f, y) :: fs))) s' → Q () s') : wpAny (model X.prog X.w) A (setAttr (.ref a) f u) Q E s := by
  obtain ⟨t1, ho⟩ := exo_at I.hok e
  obtain ⟨mA, hns, rel⟩ := exd_at I.hok ed
  have hw := within_of rel
  obtain ⟨hp, g, d, t, os⟩ := s
  obtain ⟨oD, _, _, hoD, _, _⟩ := hns.count hw
  apply PySem.W.set_plain I.kIn (ox := { cls := .ref C, dict := some dx, data := .fields #[.ref t1, .none, .none, .none, .bool false, .none] }) (od := some oD) ⟨ho, rfl, rfl, hoD⟩ T.sa
  apply PySem.XcW.store2 T.SF I.kIn ho hns hw (by rw [List.length_map]; omega) T.ov tn T.hd
  intro h' tk' k hn
  have hd : ∃ o, h'.get? dx = some o := by
    obtain ⟨o, _, _, e', _⟩ := hn
    exact ⟨o, e'⟩
  apply go
  exact I.write (t' := tk') (x := dx) (e := dx) (o := exd dx ((f, y) :: fs)) (by rw [ed]; exact True.intro) (.inl rfl) k hd (exd_ok hn (relO_put ry rel))
end
end Xc
set_option Elab.async false
set_option linter.all false
set_option maxRecDepth 100000
set_option maxHeartbeats 4000000
/-! Xd: such exceptions made by places and by names. -/
namespace PySem
namespace XcW
open PySem.W PySem.Calls PyProof.Rows Builtin Builtin.ObjectAttr
section
variable {M : Model} {A : Around} {E : Value → Shared → Prop} {hp : Heap} {g : Array GenState} {d : Drawn} {t : Nat} {os : OsState}
variable {nm qn : Str} {C N : Addr} {bs bm bmB : List Value} {hdct : Bool} {sn : List Str} {sub : List Value} {ab : Bool} {col : Option Bool} {dd : Option Addr} {k0 k1 k2 k3 k5 : Option Value} {B newId initId : String} {us : List Value} {kw : List (Str × Value)}
theorem newCheck (F : ExcBaseFacts B newId initId bmB) (alike : ∀ Y : String, bm.contains (.type Y) = bmB.contains (.type Y)) {Q : Unit → Shared → Prop}
    (atC : hp.get? C = some (excClassObj nm qn C N bs bm hdct sn sub ab col dd k0 k1 k2 k3 k5 newId)) (go : Q () ⟨hp, g, d, t, os⟩) :
    wpAny M A (checkBuiltinCall newId ⟨.ref C :: us, kw⟩) Q E ⟨hp, g, d, t, os⟩ := by
  have below : (Value.ref C :: bm).contains (.type B) = true := by
    rw [List.contains_cons, alike, F.hasB]
    exact Bool.or_true _
  have star := F.noStar
  simp only [checkBuiltinCall, F.newRow, F.newSplit, F.newKind]
  repeat (first | refine wpAny_staticBase_exc atC ?_ | refine wpAny_madeBy_exc atC ?_ | refine wpAny_loadPart_at atC ?_ | (refine wpAny_isSubtype_exc atC ?_; rw [below]) | simp only [bne_self_eq_false, Bool.false_eq_true, if_false] | wp_step)
  exact go
theorem tcCheck {Q : Unit → Shared → Prop} (atC : hp.get? C = some (excClassObj nm qn C N bs bm hdct sn sub ab col dd k0 k1 k2 k3 k5 newId))
    (go : Q () ⟨hp, g, d, t, os⟩) : wpAny M A (checkBuiltinCall "type.__call__" ⟨.ref C :: us, kw⟩) Q E ⟨hp, g, d, t, os⟩ := by
  have g3 := tc_sub
  have isT : (⟨hp, g, d, t, os⟩ : Shared).TypeIs (.ref C) "type" := ⟨_, atC, rfl⟩
  simp only [checkBuiltinCall, tc_split, tc_kind]
  repeat (any_goals (first | assumption | with_reducible refine wpAny_map ?_ | with_reducible refine wpAny_onRaise ?_ | with_reducible refine wpAny_loadPart_at atC ?_ | wp_step))
end
section
variable {prog : Program} {w : World} {A : Around} {E : Value → Shared → Prop} {R : Result → Shared → Prop} {hp : Heap} {g : Array GenState} {d : Drawn} {t : Nat} {os : OsState}
variable {nm qn : Str} {C N fI : Addr} {bs bm bmB : List Value} {hdct : Bool} {sn : List Str} {sub : List Value} {ab : Bool} {col : Option Bool} {dd : Option Addr} {k0 k1 k2 k3 k5 : Option Value} {B newId initId : String} {us : List Value} {kw : List (Str × Value)}
/-- the heap with the new one, not yet filled -/
abbrev bornH (hp : Heap) (C : Addr) (us : List Value) : Heap := (hp.push (kdv_tup us)).push (HandSPX.excO C hp.objs.size)
theorem newMade (F : ExcBaseFacts B newId initId bmB) (alike : ∀ Y : String, bm.contains (.type Y) = bmB.contains (.type Y))
    (atC : hp.get? C = some (excClassObj nm qn C N bs bm hdct sn sub ab col dd k0 k1 k2 k3 k5 newId)) (few : us.length ≤ sizeLine)
    (go : R (.ok (.ret (.ref (hp.objs.size + 1)))) ⟨bornH hp C us, g, d, t, os⟩) :
    codeAny (model prog w) A (.builtin newId ⟨.ref C :: us, kw⟩) R ⟨hp, g, d, t, os⟩ := by
  have fe := F.ends
  have isB : (Value.ref C :: bm).contains (.type B) = true := by
    rw [List.contains_cons, alike, F.hasB]
    exact Bool.or_true _
  have notA : (Value.ref C :: bm).contains (.type "AttributeError") = false := by
    rw [List.contains_cons, alike, F.noAttr]
    rfl
  have notN : (Value.ref C :: bm).contains (.type "NameError") = false := by
    rw [List.contains_cons, alike, F.noName]
    rfl
  apply codeAny_builtinAt F.entry
  unfold Builtin.«BaseException.__new__»
  apply wpAt_bind
  show wpAt _ _ _ (stack >>= _) _ _ _
  apply wpAt_bind
  apply wpAt_stack
  intro p below
  apply wpAt_of_wpAny
  wp_walk
  apply wpAt_of_wpAny
  rw [F.owner]
  repeat (first | with_reducible refine wpAny_loadPart_at atC ?_ | (with_reducible refine wpAny_isSubtype_exc atC ?_; first | rw [isB] | rw [notA] | rw [notN]) | with_reducible refine wpAny_madeHere_exc F.canon atC ?_ | wp_step)
  show R _ _
  rw [Heap.size_push]
  exact go
theorem tcMade (F : ExcBaseFacts B newId initId bmB) (alike : ∀ Y : String, bm.contains (.type Y) = bmB.contains (.type Y)) {Q : Fin → Shared → Prop}
    (atC : hp.get? C = some (excClassObj nm qn C N bs bm hdct sn sub ab col dd k0 k1 k2 k3 k5 newId)) (few : us.length ≤ sizeLine)
    (li : Looks (model prog w) hp (typeLookup (.ref C) "__init__") (some (.ref fI))) (lb : ∀ self, Looks (model prog w) hp (bindSpecial (.ref fI) self) (.ref fI, [self]))
    (go : codeAny (model prog w) A (.call (.ref fI) ⟨.ref (hp.objs.size + 1) :: us, kw⟩)
      (fun r s' => match r with | .error e => E e s' | .ok (.ret v) => v = .none ∧ Q (.done (.ret (.ref (hp.objs.size + 1)))) s' | .ok _ => False) ⟨bornH hp C us, g, d, t, os⟩) :
    wpAny (model prog w) A (Builtin.«type.__call__» ⟨.ref C :: us, kw⟩) Q E ⟨hp, g, d, t, os⟩ := by
  repeat (first | with_reducible refine wpAny_madeBy_exc atC ?_ | with_reducible refine wpAny_loadPart_at atC ?_ | wp_step)
  apply codeAny_call_builtin_code (Code.quiet_builtin _ F.quiet) (newCheck F alike atC _)
  apply newMade F alike atC few
  show wpAny _ _ _ _ _ _
  have keeps : ∀ b o, hp.get? b = some o → (bornH hp C us).get? b = some o := by
    intro b o e
    exact Heap.get?_push_of_some _ (Heap.get?_push_of_some _ e)
  have atC' := keeps _ _ atC
  have born : (bornH hp C us).get? (hp.objs.size + 1) = some (HandSPX.excO C hp.objs.size) := by heap_get
  have self : (Value.ref C :: bm).contains (.ref C) = true := by simp
  have li' := li.keeps keeps
  have lb' := (lb (.ref (hp.objs.size + 1))).keeps keeps
  unfold isInstance
  repeat (first | (with_reducible refine wpAny_isSubtype_exc atC' ?_; rw [self]) | with_reducible refine wpAny_loadPart_at born ?_ | wp_step)
  show wpAny _ _ (typeLookup (.ref C) _) _ _ _
  apply li'.at
  apply wpAny_holding
  apply wpAny_bind
  apply lb'.at
  apply wpAny_bind
  apply wpAny_call
  apply codeAny_mono go
  intro r s' z
  match r, z with
  | .error e, z => exact z
  | .ok .next, z => exact z.elim
  | .ok .brk, z => exact z.elim
  | .ok .cont, z => exact z.elim
  | .ok (.ret v), z =>
    obtain ⟨rfl, z⟩ := z
    first
      | exact wpAny_pure (wpAny_pure z)
      | (wp_walk; exact z)
theorem callMade (F : ExcBaseFacts B newId initId bmB) (alike : ∀ Y : String, bm.contains (.type Y) = bmB.contains (.type Y))
    (atC : hp.get? C = some (excClassObj nm qn C N bs bm hdct sn sub ab col dd k0 k1 k2 k3 k5 newId)) (few : us.length ≤ sizeLine)
    (li : Looks (model prog w) hp (typeLookup (.ref C) "__init__") (some (.ref fI))) (lb : ∀ self, Looks (model prog w) hp (bindSpecial (.ref fI) self) (.ref fI, [self]))
    (go : codeAny (model prog w) (A.under (.builtin "type.__call__" ⟨.ref C :: us, kw⟩)) (.call (.ref fI) ⟨.ref (hp.objs.size + 1) :: us, kw⟩) (InitBack (hp.objs.size + 1) R) ⟨bornH hp C us, g, d, t, os⟩) :
    codeAny (model prog w) A (.call (.ref C) ⟨us, kw⟩) R ⟨hp, g, d, t, os⟩ := by
  have g1 := tc_lookup
  have g2 := tc_bind (.ref C)
  have isT : (⟨hp, g, d, t, os⟩ : Shared).TypeIs (.ref C) "type" := ⟨_, atC, rfl⟩
  apply codeAny_of_tree
  show wpAny _ _ (callAny (.ref C) _) _ _ _
  repeat (any_goals (first | with_reducible refine wpAny_loadPart_at atC ?_ | assumption | wp_step))
  constructor
  · rfl
  apply codeAny_call_builtin_at (Code.quiet_builtin _ (by decide +kernel)) entry_typeCall
  apply tcCheck atC
  apply tcMade F alike atC few li lb
  apply codeAny_mono go
  intro r s' z
  match r, z with
  | .error _, z => exact z
  | .ok .next, z => exact z
  | .ok .brk, z => exact z
  | .ok .cont, z => exact z
  | .ok (.ret _), z => exact z
end
end XcW
end PySem
set_option Elab.async false
set_option linter.all false
set_option maxRecDepth 100000
set_option maxHeartbeats 4000000
/-! Xe: such exceptions as values: made, stored into, read. -/
namespace Xc
open PySem PySem.Spec PyProof.Rows L2 Bs
/-! ### self.f = e -/
def tPut (K : PySem.W.Frag) (f : Str) (to te : TE) : TS := fun D σ H => te σ H fun y H1 => to σ H1 fun x H2 =>
  ∃ (a C : Addr) (B n i : String) (bm : List Value), x = .ref a ∧ Cl K C B n i bm ∧ PySem.W.takerIn K C f = some none ∧
    ((H2 a = some (exo a C none) ∧ ∀ dx, H2 dx = none → dx ≠ a → D.nx σ (upd (upd H2 dx (exd dx [(f, y)])) a (exo a C (some dx)))) ∨
      ∃ (dx : Addr) (fs : List (Str × V)), H2 a = some (exo a C (some dx)) ∧ H2 dx = some (exd dx fs) ∧ fs.length ≤ 900 ∧ D.nx σ (upd H2 dx (exd dx ((f, y) :: fs))))
theorem ps_put {X : Cx} {o e : Expr} {f : Str} {to te : TE} {p' pos : Pos} (ho : PE X o to) (he : PE X e te) (hs : swapsWith e (some (.Attribute o f p')) pos.line X.env = pure false := by rfl) :
    PS X (.Assign [.Attribute o f p'] e pos) (tPut X.K f to te) := by
  constructor
  intro pins s σ H D I h
  apply plainObj_wpAny_Assign_Attribute _ hs
  apply thn (he.run pins s σ H _ I h)
  rintro v s1 ⟨y, H1, I1, r1, q1⟩
  apply thn (ho.run pins s1 σ H1 _ I1 q1)
  rintro u s2 ⟨x, H2, I2, r2, a, C, B, n, i, bm, rfl, T, tn, q⟩
  obtain rfl : u = Value.ref a := r2
  cases q with
  | inl q => exact put1 T I2 q.1 tn r1 fun dx s' h1 h2 J => ⟨σ, _, J, q.2 dx h1 h2⟩
  | inr q =>
    obtain ⟨dx, fs, ea, ed, few, q⟩ := q
    exact put2 T I2 ea ed few tn r1 fun s' J => ⟨σ, _, J, q⟩

/-! ### __init__'s own promise -/
def spIn (C : Addr) (n : Nat) (mk : List V → List (Str × V)) : Sp := fun vs H Q _ => ∃ (a : Addr) (xs : List V), vs = .ref a :: xs ∧ xs.length = n ∧ H a = some (exo a C none) ∧
  ∀ (dx : Addr) (H' : Hp), H dx = none → dx ≠ a → H' a = some (exo a C (some dx)) → H' dx = some (exd dx (mk xs)) → (∀ b, b ≠ a → b ≠ dx → H' b = H b) → Q .non H'

/-! ### C(..) -/
/-- what the class has: its own __init__ -/
structure Ini (K : PySem.W.Frag) (C fI : Addr) : Prop where
  at_ : PySem.W.findIn K (.ref C) "__init__" = some (some (.ref fI))
  ty : PySem.W.typeIn K (.ref fI) = some (.type "function")
section
variable {X : Cx} {pins : List (Addr × Obj)} {σ : L2.St} {H : Hp} {s : Shared} {Q : VK} {us ws : List Value} {vs zs : List V} {B newId initId : String} {bmB : List Value} {C fI : Addr} {k n : Nat} {fd : FuncData} {ps ks : List Str} {sp : Sp} {g : List Value → List Value → List Value} {gV : List V → List V → List V}
theorem runMade (T : Cl X.K C B newId initId bmB) (N : Ini X.K C fI) (F1 : FnOk X.prog X.w X.K X.mg X.base CX0 k fI fd ps sp) (hr : Room (k + 1) X.A) (hb : KBn X.K fd ps (n + 1) ks g gV) (few : n ≤ 1000)
    (I : Inv X pins σ H s) (r : Vals vs us) (rz : Vals zs ws) (l1 : vs.length = n) (l2 : zs.length = ks.length)
    (h : ∀ a, H a = none → sp (gV (.ref a :: vs) zs) (upd H a (exo a C none)) (fun v H2 => v = .non ∧ Q (.ref a) H2) E0) :
    wpAny (model X.prog X.w) X.A (call (.ref C) us (ks.zip ws)) (EP X pins σ Q) X.xe s := by
  obtain ⟨nm, N', qn, bs, bm, hdct, sn, sub, ab, col, dd, k0, k1, k2, k3, k5, hC, alike⟩ := PySem.W.excInit_of I.kIn T.ini
  have li := PySem.W.looks_findIn (M := model X.prog X.w) I.kIn N.at_
  have lb : ∀ self, PySem.W.Looks (model X.prog X.w) s.heap (bindSpecial (.ref fI) self) (.ref fI, [self]) := fun self => PySem.W.bind_fn I.kIn self N.ty
  have fresh : s.heap.objs.size ≤ s.heap.objs.size + 1 := Nat.le_succ _
  have hn : H (s.heap.objs.size + 1) = none := I.hok.fresh fresh
  have q0 := h _ hn
  have ul : us.length ≤ sizeLine := by
    have e := r.length
    rw [sizeLine_eq]
    omega
  obtain ⟨hp, gg, d, t, os⟩ := s
  have keeps : ∀ b o, hp.get? b = some o → (PySem.XcW.bornH hp C us).get? b = some o := by
    intro b o e
    exact Heap.get?_push_of_some _ (Heap.get?_push_of_some _ e)
  have born : (PySem.XcW.bornH hp C us).get? (hp.objs.size + 1) = some (PySem.HandSPX.excO C hp.objs.size) := by heap_get
  have I2 : Inv X pins σ (upd H (hp.objs.size + 1) (exo (hp.objs.size + 1) C none)) ⟨PySem.XcW.bornH hp C us, gg, d, t, os⟩ :=
    I.laid (h' := PySem.XcW.bornH hp C us) (t' := t) (o := exo (hp.objs.size + 1) C none) (a := hp.objs.size + 1) keeps fresh (exo_ok born)
  have r2 : Vals (V.ref (hp.objs.size + 1) :: vs) (Value.ref (hp.objs.size + 1) :: us) := .cons rfl r
  have e1 : (Value.ref (hp.objs.size + 1) :: us).length = n + 1 := r2.length.symm.trans (congrArg Nat.succ l1)
  have e2 : ws.length = ks.length := rz.length.symm.trans l2
  apply wpAny_call
  apply PySem.XcW.callMade T.F alike hC ul li lb
  apply codeAny_mono (F1.run _ X.stack _ _ ⟨Value.ref (hp.objs.size + 1) :: us, ks.zip ws⟩ _ _ _ E0 (hr.make C us (ks.zip ws)) (I2.env0.make C us (ks.zip ws)) (hb.to _ _ ws I2.kIn e1 e2) (hb.rel r2 rz) q0)
  intro res s' z
  match res, z with
  | .error _, z => exact z.elim
  | .ok .next, z => exact z.elim
  | .ok .brk, z => exact z.elim
  | .ok .cont, z => exact z.elim
  | .ok (.ret u), z =>
    obtain ⟨v, H3, I3, rv, ev, q3⟩ := I2.after z
    subst ev
    exact ⟨rv, V.ref (hp.objs.size + 1), H3, I3, rfl, q3⟩
/-- C(e, .., k = v, ..) as a value -/
def tMkX (C : Addr) (n m : Nat) (sp : Sp) (gV : List V → List V → List V) (t tk : TA) : TE := fun σ H Q => t σ H fun vs H1 => tk σ H1 fun zs H2 => vs.length = n ∧ zs.length = m ∧
  ∀ a, H2 a = none → sp (gV (.ref a :: vs) zs) (upd H2 a (exo a C none)) (fun v H3 => v = .non ∧ Q (.ref a) H3) E0
variable {x : Str} {p pos : Pos} {e : Expr} {es : List Expr} {kws : List Keyword} {ta tk : TA}
theorem pe_mkx (T : Cl X.K C B newId initId bmB) (N : Ini X.K C fI) (F1 : FnOk X.prog X.w X.K X.mg X.base CX0 k fI fd ps sp) (hr : Room (k + 1) X.A) (hb : KBn X.K fd ps (n + 1) ks g gV) (few : n ≤ 1000) (hg : Gl X x) (hm : X.mg x = some (.ref C))
    (ha : PA X (e :: es) ta) (hkw : PK X kws tk) (hall : (backToKw pos (keywordEach kws X.env)).all (·.1.isSome) = true := by rfl) (hks : (backToKw pos (keywordEach kws X.env)).filterMap (·.1) = ks := by rfl)
    (hdb : (x == ("__debug__" : Str)) = false := by decide) (he : starEach (e :: es) X.env = (false, eval e X.env) :: starEach es X.env := by rfl)
    (hpl : ((backTo pos (starEach (e :: es) X.env)).any (·.1) || (backToKw pos (keywordEach kws X.env)).any (·.1.isNone)) = false := by rfl) :
    PE X (.Call (.Name x p) (e :: es) kws pos) (tMkX C n ks.length sp gV ta tk) := by
  constructor
  intro pins s σ H Q I h
  apply wpAny_Call_Name_kw
  apply ld_glob I hg hm _ hdb
  apply PySem.W.callWith_KW (h₀ := X.base) I.ok.mod.kin T.kp hall _ hpl he
  apply thn (ha.run pos pins s σ H _ I h)
  rintro us s1 ⟨vs, H1, I1, r, q⟩
  apply thn (hkw.run pos pins s1 σ H1 _ I1 q)
  rintro ws s2 ⟨zs, H2, I2, rz, l1, l2, q2⟩
  refine ⟨I2.kIn, ?_⟩
  rw [hks]
  exact runMade T N F1 hr hb few I2 r rz l1 l2 q2
theorem pe_mkx0 (T : Cl X.K C B newId initId bmB) (N : Ini X.K C fI) (F1 : FnOk X.prog X.w X.K X.mg X.base CX0 k fI fd ps sp) (hr : Room (k + 1) X.A) (hb : KBn X.K fd ps 1 ks g gV) (hg : Gl X x) (hm : X.mg x = some (.ref C))
    (hkw : PK X kws tk) (hall : (backToKw pos (keywordEach kws X.env)).all (·.1.isSome) = true := by rfl) (hks : (backToKw pos (keywordEach kws X.env)).filterMap (·.1) = ks := by rfl)
    (hdb : (x == ("__debug__" : Str)) = false := by decide)
    (hpl : ((backTo pos (starEach [] X.env)).any (·.1) || (backToKw pos (keywordEach kws X.env)).any (·.1.isNone)) = false := by rfl) :
    PE X (.Call (.Name x p) [] kws pos) (tMkX C 0 ks.length sp gV tNil tk) := by
  constructor
  intro pins s σ H Q I h
  apply wpAny_Call_Name_kw
  apply ld_glob I hg hm _ hdb
  apply PySem.W.callWith_KW0 (h₀ := X.base) I.ok.mod.kin T.kp hall _ hpl
  apply thn (hkw.run pos pins s σ H _ I h)
  rintro ws s2 ⟨zs, H2, I2, rz, l1, l2, q2⟩
  refine ⟨I2.kIn, ?_⟩
  rw [hks]
  exact runMade (us := []) (vs := []) T N F1 hr hb (Nat.zero_le _) I2 .nil rz rfl l2 q2
end
/-! ### what such a call binds -/
section
variable {K : PySem.W.Frag} {x qual : Str} {st : Stmt} {f : Addr} {fd : FuncData} {ps ks : List Str} {n : Nat}
def gS {α : Type} (xs ys : List α) : List α := xs ++ ys
def gR {α : Type} (xs ys : List α) : List α := xs ++ ys.reverse
theorem kbS (F : Fun K x qual st f fd) (h : ∀ (kV doc pm : Value) (an : Option Addr) (cdv ct : Value) (us ws : List Value), us.length = n → ws.length = ks.length → bindArgs (PySem.W.fnOf x qual (defArgs st) (defBody st) (defScope st) .none kV doc pm an cdv ct) ⟨us, ks.zip ws⟩ = pure (ps.zip (gS us ws))) :
    KBn K fd ps n ks gS gS := by
  obtain ⟨oc, od, kV, doc, pm, an, cdv, ct, osl, rfl, lk, hcd⟩ := F.ex
  exact ⟨fun s us ws _ h1 h2 => .of_eq (h kV doc pm an cdv ct us ws h1 h2), fun r1 r2 => r1.append r2⟩
theorem kbR (F : Fun K x qual st f fd) (h : ∀ (kV doc pm : Value) (an : Option Addr) (cdv ct : Value) (us ws : List Value), us.length = n → ws.length = ks.length → bindArgs (PySem.W.fnOf x qual (defArgs st) (defBody st) (defScope st) .none kV doc pm an cdv ct) ⟨us, ks.zip ws⟩ = pure (ps.zip (gR us ws))) :
    KBn K fd ps n ks gR gR := by
  obtain ⟨oc, od, kV, doc, pm, an, cdv, ct, osl, rfl, lk, hcd⟩ := F.ex
  exact ⟨fun s us ws _ h1 h2 => .of_eq (h kV doc pm an cdv ct us ws h1 h2), fun r1 r2 => r1.append r2.reverse⟩
end
end Xc
set_option Elab.async false
set_option linter.all false
set_option maxRecDepth 100000
set_option maxHeartbeats 4000000
/-! Xf: such exceptions read and asked for their class; one without an __init__ of its own. -/
namespace Xc
open PySem PySem.Spec PyProof.Rows L2 Bs
/-- an exception at a, of the class at C, with these fields -/
def Ex (H : Hp) (a C : Addr) (fs : List (Str × V)) : Prop := (fs = [] ∧ H a = some (exo a C none)) ∨ ∃ dx, H a = some (exo a C (some dx)) ∧ H dx = some (exd dx fs)
/-- what asking for its class needs -/
structure As (K : PySem.W.Frag) (C : Addr) : Prop where
  cl : (PySem.W.clsIn K C).isSome = true
  cc : PySem.W.findIn K (.ref C) "__class__" = some (some (.builtin "object.__class__"))
  gs : PySem.W.specialIn K (.builtin "object.__class__") "__get__" = some (some (.builtin "getset_descriptor.__get__"))
  tk : PySem.W.takesIn K (.builtin "object.__class__") = some true
  ob : PySem.W.mroIn K C (.type "object") = some true
section
variable {X : Cx} {pins : List (Addr × Obj)} {σ : L2.St} {H : Hp} {s : Shared} {a C : Addr} {fs : List (Str × V)} {B newId initId : String} {bmB : List Value}
theorem Ex.inst (I : Inv X pins σ H s) (e : Ex H a C fs) : ∃ (ox : Obj) (od : Option Obj), PySem.W.InstAt s.heap a ox C od := by
  cases e with
  | inl e =>
    obtain ⟨t, ho⟩ := exo_at I.hok e.2
    exact ⟨_, none, ho, rfl, rfl, True.intro⟩
  | inr e =>
    obtain ⟨dx, e1, e2⟩ := e
    obtain ⟨t, ho⟩ := exo_at I.hok e1
    obtain ⟨mA, hns, _⟩ := exd_at I.hok e2
    obtain ⟨od, hd, _⟩ := lookIn_ns hns
    exact ⟨_, some od, ho, rfl, rfl, hd⟩
/-- isinstance(x, c), x such an exception -/
def rIsX (K : PySem.W.Frag) : List V → Hp → VK → Prop := fun xs H Q => ∃ (a C : Addr) (fs : List (Str × V)) (c : V) (u : Value) (b : Bool), xs = [.ref a, c] ∧ Ex H a C fs ∧ (∃ B n i bm, Cl K C B n i bm) ∧ As K C ∧ ClsV c u ∧
  PySem.W.kitOne K (.ref C) u = some b ∧ Q (.bl b) H
theorem call_isX : CallR X (.builtin "isinstance") (rIsX X.K) := by
  intro pins s σ H xs us Q I r h
  obtain ⟨a, C, fs, c, u, b, rfl, ex, ⟨B, n, i, bm, T⟩, S, cv, e, q⟩ := h
  cases r with
  | cons r1 r =>
    cases r with
    | cons r2 r =>
      cases r
      have e2 := cv.eq r2
      subst e2
      obtain rfl := (show _ = Value.ref a from r1)
      obtain ⟨ox, od, J⟩ := ex.inst I
      exact PySem.W.kia_one (PySem.W.kitx_exc S.cl T.ga T.gg T.ex S.cc S.gs S.tk S.ob) I.kIn J e (fun z => nomatch z) fun tk => ⟨.bl b, H, I.tok tk, rfl, q⟩
/-- e.f -/
def tFld (K : PySem.W.Frag) (f : Str) (te : TE) : TE := fun σ H Q => te σ H fun x H1 => ∃ (a C : Addr) (fs : List (Str × V)) (v : V), x = .ref a ∧ Ex H1 a C fs ∧ (∃ B n i bm, Cl K C B n i bm) ∧ PySem.W.findIn K (.ref C) f = some none ∧ fs.lookup f = some v ∧ Q v H1
theorem pe_fld {e : Expr} {te : TE} {pos : Pos} {f : Str} (he : PE X e te) (hb : attributeBase e f X.env (eval e X.env) = eval e X.env := by rfl) : PE X (.Attribute e f pos) (tFld X.K f te) := by
  constructor
  intro pins s σ H Q I h
  apply attr_of hb
  apply thn (he.run pins s σ H _ I h)
  rintro u s1 ⟨x, H1, I1, rx, a, C, fs, v, rfl, ex, ⟨B, n, i, bm, T⟩, fn, l, q⟩
  obtain rfl : u = Value.ref a := rx
  cases ex with
  | inl e =>
    rw [e.1] at l
    exact nomatch l
  | inr e =>
    obtain ⟨dx, e1, e2⟩ := e
    obtain ⟨t, ho⟩ := exo_at I1.hok e1
    obtain ⟨mA, hns, rel⟩ := exd_at I1.hok e2
    obtain ⟨od, hd, look⟩ := lookIn_ns hns
    have rf := rel f
    rw [l] at rf
    obtain ⟨w, hw, rw'⟩ := RelO.some_of rf
    have J : PySem.W.InstAt s1.heap a _ C (some od) := ⟨ho, rfl, rfl, hd⟩
    apply PySem.HandSPX.exc_get I1.kIn J T.ga T.gg T.ex (PySem.W.findObj_own T.hd fn rfl _) (handed_of rw') ⟨v, H1, I1.tok _, rw', q⟩
    rw [look, hw]
/-- C(), without an __init__ of its own -/
def tMk0 (C : Addr) : TE := fun σ H Q => ∀ a, H a = none → Q (.ref a) (upd H a (exo a C none))
theorem pe_mk00 {x : Str} {p pos : Pos} (F : ExcBaseFacts B newId initId bmB) (q : PySem.W.excIn X.K C bmB newId = true) (kC : PySem.W.keepIn X.K (.ref C) = true) (hg : Gl X x) (hm : X.mg x = some (.ref C)) (hdb : (x == ("__debug__" : Str)) = false := by decide)
    (hpl : ((backTo pos (starEach [] X.env)).any (·.1) || (backToKw pos (keywordEach [] X.env)).any (·.1.isNone)) = false := by rfl) :
    PE X (.Call (.Name x p) [] [] pos) (tMk0 C) := by
  constructor
  intro pins s σ H Q I h
  apply wpAny_Call_Name_kw
  apply ld_glob I hg hm _ hdb
  apply PySem.W.callWith_KW0 (h₀ := X.base) I.ok.mod.kin kC (by rfl) _ hpl
  apply thn (pk_nil.run pos pins s σ H (fun vs H1 => vs = [] ∧ H1 = H) I ⟨rfl, rfl⟩)
  rintro ws s2 ⟨zs, H2, I2, rz, rfl, rfl⟩
  cases rz
  refine ⟨I2.kIn, ?_⟩
  show wpAny _ _ (call (.ref C) []) _ _ _
  obtain ⟨bm, N, nm, qn, bs, hdct, sn, sub, ab, col, dd, k0, k1, k2, k3, k5, mN, hC, hN, none, T⟩ := exc_obj I2.kIn q
  apply wpAny_call_exc_subT F T hC hN none _ (Nat.zero_le _)
  intro h' a made
  have hn := I2.hok.gone made.new
  obtain ⟨t, ht, _, _⟩ := made.there
  exact ⟨.ref a, _, I2.laidN made.keeps made.new hn (exo_ok ht), rfl, h a hn⟩
end
/-! ### all of it by one look -/
def clB (K : PySem.W.Frag) (C : Addr) (newId : String) (bmB : List Value) : Bool :=
  PySem.W.excInitIn K C bmB newId && (PySem.W.excOver K C bmB && (PySem.W.hasDictIn K C && (decide (PySem.W.findIn K (.ref C) "__setattr__" = some (some (.builtin "object.__setattr__"))) &&
  (decide (PySem.W.findIn K (.ref C) "__getattribute__" = some (some (.builtin "BaseException.__getattribute__"))) && (decide (PySem.W.findIn K (.ref C) "__getattr__" = some none) && (decide (PySem.W.subIn K (.ref C) (.type "BaseException") = some true) &&
  (decide (PySem.W.typeIn K (.ref C) = some (.type "type")) && PySem.W.keepIn K (.ref C))))))))
theorem Cl.of {K : PySem.W.Frag} {C : Addr} {B newId initId : String} {bmB : List Value} (F : ExcBaseFacts B newId initId bmB) (SF : StoreFacts B bmB "object.__setattr__" "object") (h : clB K C newId bmB = true) : Cl K C B newId initId bmB := by
  unfold clB at h
  simp only [Bool.and_eq_true, decide_eq_true_eq] at h
  obtain ⟨h1, h2, h3, h4, h5, h6, h7, h8, h9⟩ := h
  exact ⟨F, SF, h1, h2, h3, h4, h5, h6, h7, h8, h9⟩
def asB (K : PySem.W.Frag) (C : Addr) : Bool := (PySem.W.clsIn K C).isSome && (decide (PySem.W.findIn K (.ref C) "__class__" = some (some (.builtin "object.__class__"))) &&
  (decide (PySem.W.specialIn K (.builtin "object.__class__") "__get__" = some (some (.builtin "getset_descriptor.__get__"))) && (decide (PySem.W.takesIn K (.builtin "object.__class__") = some true) && decide (PySem.W.mroIn K C (.type "object") = some true))))
theorem As.of {K : PySem.W.Frag} {C : Addr} (h : asB K C = true) : As K C := by
  unfold asB at h
  simp only [Bool.and_eq_true, decide_eq_true_eq] at h
  obtain ⟨h1, h2, h3, h4, h5⟩ := h
  exact ⟨h1, h2, h3, h4, h5⟩
/-- of which classes it is -/
def kitB' (K : PySem.W.Frag) (C : Addr) (us : List Value) (bs : List Bool) : Bool := decide (us.map (PySem.W.kitOne K (.ref C)) = bs.map some)
theorem kitB'_at {K : PySem.W.Frag} {C : Addr} {us : List Value} {bs : List Bool} (h : kitB' K C us bs = true) {j : Nat} {u : Value} {b : Bool} (e1 : us[j]? = some u) (e2 : bs[j]? = some b) : PySem.W.kitOne K (.ref C) u = some b := by
  have e := congrArg (fun l => l[j]?) (of_decide_eq_true h)
  simp only [List.getElem?_map, e1, e2, Option.map_some] at e
  exact Option.some.inj e
end Xc
set_option Elab.async false
set_option linter.all false
set_option maxRecDepth 100000
set_option maxHeartbeats 4000000
/-! Xg: data with a dict of one row in it, shown; the end of a row over a law that shows it. -/
namespace Xg
open PySem PySem.Spec PyProof.Rows L2 Bs
/-- data at any depth, with dicts of one text and one number -/
inductive Dq (K : PySem.W.Frag) (H : Hp) : V → PyData → Prop
  | non : Dq K H .non .none
  | bl (b : Bool) : Dq K H (.bl b) (.bool b)
  | int (i : Int) : Dq K H (.int i) (.int i)
  | str (x : Str) : Dq K H (.str x) (.str x)
  | dk {a : Addr} (x : Str) (i : Int) : H a = some (.dK [(.inr x, .int i)]) → Dq K H (.ref a) (.dict [(.str x, .int i)])
  | d0 {a : Addr} : H a = some (.dK []) → Dq K H (.ref a) (.dict [])
  | lst {a : Addr} (ps : List (V × PyData)) : SqL K H a (ps.map (·.1)) → (∀ p ∈ ps, Dq K H p.1 p.2) → Dq K H (.ref a) (.list (ps.map (·.2)))
  | tup {a : Addr} (ps : List (V × PyData)) : SqT K H a (ps.map (·.1)) → (∀ p ∈ ps, Dq K H p.1 p.2) → Dq K H (.ref a) (.tuple (ps.map (·.2)))
theorem sameL {K : PySem.W.Frag} {H H' : Hp} {a : Addr} {xs : List V} (s : Same H H') (q : SqL K H a xs) : SqL K H' a xs := by
  rcases q with (q | ⟨o, q⟩) | q
  · exact .inl (.inl (s _ _ q))
  · exact .inl (.inr ⟨o, s _ _ q⟩)
  · exact .inr q
theorem sameT {K : PySem.W.Frag} {H H' : Hp} {a : Addr} {xs : List V} (s : Same H H') (q : SqT K H a xs) : SqT K H' a xs := by
  rcases q with (q | ⟨o, q⟩) | q
  · exact .inl (.inl (s _ _ q))
  · exact .inl (.inr ⟨o, s _ _ q⟩)
  · exact .inr q
theorem Dq.same {K : PySem.W.Frag} {H H' : Hp} {x : V} {d : PyData} (h : Dq K H x d) (s : Same H H') : Dq K H' x d := by
  induction h with
  | non => exact .non
  | bl b => exact .bl b
  | int i => exact .int i
  | str x => exact .str x
  | dk x i e => exact .dk x i (s _ _ e)
  | d0 e => exact .d0 (s _ _ e)
  | lst ps e _ ih => exact .lst ps (sameL s e) ih
  | tup ps e _ ih => exact .tup ps (sameT s e) ih
section
variable {X : Cx} {pins : List (Addr × Obj)} {σ : L2.St} {H : Hp} {s : Shared}
theorem readsAll_of {h : Heap} : ∀ {ps : List (V × PyData)} {us : List Value}, (∀ p ∈ ps, ∀ u, RelV p.1 u → ∃ as, Reads h u p.2 as ∧ sysModules ∉ as) → Vals (ps.map (·.1)) us → ∃ as, ReadsAll h us (ps.map (·.2)) as ∧ sysModules ∉ as
  | [], _, _, r => by
    cases r
    exact ⟨_, .nil, by simp⟩
  | p :: ps, _, h, r => by
    cases r with
    | cons r1 r2 =>
      obtain ⟨as, q1, n1⟩ := h p List.mem_cons_self _ r1
      obtain ⟨bs, q2, n2⟩ := readsAll_of (fun q hq => h q (List.mem_cons_of_mem _ hq)) r2
      refine ⟨_, .cons q1 q2, ?_⟩
      intro z
      cases List.mem_append.mp z with
      | inl z => exact n1 z
      | inr z => exact n2 z
theorem Dq.reads (I : Inv X pins σ H s) (sm : ∃ mm, X.base.Ns sysModules mm) {x : V} {d : PyData} (h : Dq X.K H x d) : ∀ u, RelV x u → ∃ as, Reads s.heap u d as ∧ sysModules ∉ as := by
  obtain ⟨mm, om, es, ep, hm, hdm, _⟩ := sm
  have hm' : s.heap.get? sysModules = some om := I.bk _ _ hm
  induction h with
  | non =>
    intro u r
    cases r
    exact ⟨_, .none, by simp⟩
  | bl b =>
    intro u r
    cases r
    exact ⟨_, .bool b, by simp⟩
  | int i =>
    intro u r
    obtain ⟨t, rfl⟩ := r
    exact ⟨_, .int i t, by simp⟩
  | str x =>
    intro u r
    obtain ⟨t, rfl⟩ := r
    exact ⟨_, .str x t, by simp⟩
  | @dk a x i e =>
    intro u r
    cases r
    obtain ⟨_, ns, vs, kv, o, es, ep, ho, hc, hd, _, pr, _⟩ := (show ObjOk X.prog X.w H s.heap a (.dK [(.inr x, .int i)]) from I.hok a _ e)
    cases kv with
    | @cons _ b _ _ k1 k2 =>
      cases k2
      obtain ⟨qk, qv⟩ := b
      obtain ⟨e1, e2⟩ := k1
      dsimp only at e1 e2
      subst e1
      obtain ⟨t, rfl⟩ := e2
      generalize hl : es.toList = l at pr
      cases pr with
      | cons p1 p2 p3 =>
        rename_i en _
        cases p3
        obtain ⟨t2, hk⟩ := Value.isStrOf_shape (x := x) (v := en.key) p1
        dsimp only at p2
        have rk : ReadsAll s.heap (es.toList.map (·.key)) [PyData.str x] ([] ++ []) := by
          rw [hl]
          show ReadsAll s.heap [en.key] _ _
          rw [hk]
          exact .cons (.str x t2) .nil
        have rv : ReadsAll s.heap (es.toList.map (·.val)) [PyData.int i] ([] ++ []) := by
          rw [hl]
          show ReadsAll s.heap [en.val] _ _
          rw [p2]
          exact .cons (.int i t) .nil
        refine ⟨_, Reads.dict (kvs := [(PyData.str x, PyData.int i)]) ho hc.1 hd rk rv, ?_⟩
        have ne : a ≠ sysModules := by
          intro z
          rw [z] at ns
          exact absurd ns (by decide)
        intro z
        simp at z
        exact ne z.symm
  | @d0 a e =>
    intro u r
    cases r
    obtain ⟨_, ns, vs, kv, o, es, ep, ho, hc, hd, _, pr, _⟩ := (show ObjOk X.prog X.w H s.heap a (.dK []) from I.hok a _ e)
    cases kv
    generalize hl : es.toList = l at pr
    cases pr
    have rk : ReadsAll s.heap (es.toList.map (·.key)) [] [] := by
      rw [hl]
      exact .nil
    have rv : ReadsAll s.heap (es.toList.map (·.val)) [] [] := by
      rw [hl]
      exact .nil
    refine ⟨_, Reads.dict (kvs := []) ho hc.1 hd rk rv, ?_⟩
    have ne : a ≠ sysModules := by
      intro z
      rw [z] at ns
      exact absurd ns (by decide)
    intro z
    simp at z
    exact ne z.symm
  | @lst a ps e _ ih =>
    intro u r
    cases r
    obtain ⟨its, rv, ⟨o, n, ho, hc, _, hd⟩, _⟩ := I.list e
    obtain ⟨as, hr, na⟩ := readsAll_of ih rv
    refine ⟨_, .list ho hc hd hr, ?_⟩
    intro z
    cases List.mem_cons.mp z with
    | inl z =>
      rw [← z, hm'] at ho
      cases ho
      rw [hdm] at hd
      cases hd
    | inr z => exact na z
  | @tup a ps e _ ih =>
    intro u r
    cases r
    obtain ⟨its, rv, ⟨o, ho, hc, n, hd⟩, _⟩ := I.tuple e
    obtain ⟨as, hr, na⟩ := readsAll_of ih rv
    exact ⟨_, .tuple ho hc hd hr, na⟩
end
section
variable {X : Cx}
/-- repr(x), x such a list, tuple or dict -/
theorem call_reprQ (ng : X.A.guards = some []) (hu : X.A.units + 64 < cLine) (sm : ∃ mm, X.base.Ns sysModules mm) :
    CallR X (.builtin "repr") (fun xs H Q => ∃ x d, xs = [x] ∧ Dq X.K H x d ∧ isDisplay d = true ∧ d.showable = true ∧ d.depth < 60 ∧ d.shown.length ≤ sizeLine ∧ Q (.str d.shown) H) := by
  intro pins s σ H xs us Q I r h
  obtain ⟨x, d, rfl, dp, dis, sho, dep, len, q⟩ := h
  cases r with
  | cons r1 r2 =>
    cases r2
    obtain ⟨as, rd, no⟩ := dp.reads I sm _ r1
    obtain ⟨a, rfl⟩ := isRef_of_reads rd dis
    apply repr_of_reads' rd sho (fun _ => no) ng (by omega) (fun _ _ e => e) _ len
    intro h' u tk kp
    exact ⟨.str d.shown, H, I.kept (h' := h') (t' := tk) kp, ⟨u, rfl⟩, q⟩
end
end Xg
set_option Elab.async false
set_option linter.all false
set_option maxRecDepth 100000
set_option maxHeartbeats 4000000
/-! Xh: the end of a row over a law that shows dicts. -/
namespace Xg
open PySem PySem.Spec PyProof.Rows L2 Bs
theorem endS {P : Program} {w : World} {K : PySem.W.Frag} {mg mb : Str → Option Value} {k : Nat} {fa a : Addr} {fd : FuncData} {x : Str} {sp : Sp} {s : Shared} {us : List Value} {ns : List Int}
    (inK : K.In s.heap) (gl : s.heap.Ns mainGlobals mg) (bu : s.heap.Ns builtinsNs mb) (buE : ∀ x : Str, x ≠ "__name__" → mb x = bootBuiltins x) (noL : s.heap.NoLimit) (sm : ∃ mm, s.heap.Ns sysModules mm) (noG : s.gens = #[])
    (at_ : s.heap.get? a = some { cls := .type "list", data := .seq us.toArray }) (iA : IntsAre us ns) (len : ns.length ≤ sizeLine) (room : Room k callerA)
    (F : ∀ base : Heap, K.In base → base.Ns mainGlobals mg → (∃ mm, base.Ns sysModules mm) → FG P w K mg base k fa fd [x] sp) (bnd : ∀ (s : Shared) (u : Value), BindsTo s fd ⟨[u], []⟩ [(x, u)])
    (want : ∀ H : Hp, Only H → SqL K H a (ns.map V.int) → sp [.ref a] H (fun v _ => v = .bl true) E0) :
    codeAny (model P w) callerA (.call (.ref fa) ⟨[.ref a], []⟩) (fun r s' => r = .ok (.ret (.bool true)) ∧ OldK s.heap s'.heap ∧ s'.os = s.os ∧ AllBare s'.gens) s := by
  have rv := vals_ints iA
  have lenV := iA.length
  have key : ∀ H : Hp, Only H → SqL K H a (ns.map V.int) → HOk P w H s.heap → (∀ b, b ≠ a → H b = none) → (K.lookup a ≠ none → H a = none) →
      codeAny (model P w) callerA (.call (.ref fa) ⟨[.ref a], []⟩) (fun r s' => r = .ok (.ret (.bool true)) ∧ OldK s.heap s'.heap ∧ s'.os = s.os ∧ AllBare s'.gens) s := by
    intro H oH sH okH one hK
    have nd : ∀ {b : Addr} {o : Obj} {es : Array DictEntry} {ep : Nat}, s.heap.get? b = some o → o.data = .dict es ep → H b = none := by
      intro b o es ep e d
      by_cases eb : b = a
      · rw [eb, at_] at e
        cases e
        exact nomatch (show Data.seq us.toArray _ = Data.dict es ep from d)
      · exact one b eb
    have nsH : ∀ {b : Addr} {m : Str → Option Value}, s.heap.Ns b m → (hidT s.heap H).Ns b m := by
      rintro b m ⟨o, es, ep, e, d, r⟩
      exact ⟨o, es, ep, hidT_get e (nd e d), d, r⟩
    have kH : K.In (hidT s.heap H) := by
      intro b o e
      apply hidT_get (inK b o e)
      by_cases eb : b = a
      · rw [eb]
        exact hK (by rw [← eb, e]; simp)
      · exact one b eb
    have md : Mod K mg (hidT s.heap H) := ⟨kH, nsH gl, ⟨mb, nsH bu, buE⟩, noL.elim fun mc q => ⟨mc, nsH q.1, q.2⟩⟩
    have e0 : Env0 P w K mg (hidT s.heap H) callerA [] s H :=
      { frames := rfl, mod := md, bs := fun b o e => of_hidT e, bsz := Nat.le_of_eq (hidT_size _ _), funs := trivial, frf := fun b hb => (nomatch (show b ∈ ([] : List Addr) from hb)), hok := okH, bare := .of_eq noG }
    apply codeAny_mono ((F _ kH (nsH gl) (sm.elim fun mm q => ⟨mm, nsH q⟩)).goes callerA [] s H ⟨[.ref a], []⟩ [.ref a] [.ref a] _ _ rfl room e0 (bnd s (.ref a)) (.cons rfl .nil) (want H oH sH))
    intro r s' h
    match r, h with
    | .error e, h => exact h.elim
    | .ok .next, h => exact h.elim
    | .ok .brk, h => exact h.elim
    | .ok .cont, h => exact h.elim
    | .ok (.ret u), ⟨v, H', os, bare, un, ok', r', q⟩ =>
      have q' : v = .bl true := q
      subst q'
      have eu : u = Value.bool true := r'
      subst eu
      refine ⟨rfl, OldK.of_keep ?_, os, bare⟩
      intro b o e
      cases eb : H b with
      | none => exact un.keep b o e eb (fun z => (nomatch (show b ∈ ([] : List Addr) from z))) (by simp)
      | some u =>
        cases oH b with
        | inl z => rw [eb] at z; cases z
        | inr z =>
          obtain ⟨ob, xs, z⟩ := z
          have e1 := (okH b _ z).1
          have e2 := (ok' b _ (un.frzs b ob _ z)).1
          rw [e] at e1
          cases e1
          exact e2
  cases hk : K.lookup a with
  | some o =>
    have e := inK a o hk
    rw [at_] at e
    cases e
    apply key (fun _ => none) (fun _ => .inl rfl) _ (fun b u z => nomatch (show (none : Option HO) = some u from z)) (fun _ _ => rfl) (fun _ => rfl)
    exact .inr ⟨_, us.toArray, _, hk, rfl, rfl, rfl, by rw [List.size_toArray, lenV]; exact len, by simpa using rv⟩
  | none =>
    let fz : HO := .frz { cls := .type "list", data := .seq us.toArray } (.lst (ns.map V.int))
    apply key (fun b => if b = a then some fz else none)
    · intro b
      by_cases hb : b = a
      · exact .inr ⟨_, _, if_pos hb⟩
      · exact .inl (if_neg hb)
    · exact .inl (.inr ⟨_, if_pos rfl⟩)
    · intro b u z
      by_cases hb : b = a
      · have z' := (if_pos hb).symm.trans z
        cases z'
        subst hb
        exact ⟨at_, by rw [List.length_map]; exact len, us, _, rv, at_⟩
      · have z' := (if_neg hb).symm.trans z
        cases z'
    · intro b hb
      exact if_neg hb
    · intro z
      exact absurd hk z
theorem walkS {l : PySem.W.OpenLaw} {n k : Nat} {q : Program} {loose : List Str} {XP : (Str → Option Value) → Heap → Prop} {YP : World → Heap → Prop} {d : DefRec} {K : Params → PySem.W.Frag} {sp : PySem.W.Frag → Sp} {x : Str}
    (calm : importsNone q = true) (most : l.most = some n) (small : n ≤ sizeLine) (plain : d.params.defaults = []) (room : Room k callerA) (hY : ∀ (w : World) (h : Heap), YP w h → (K w.params).In h)
    (F : ∀ (w : World) (mg : Str → Option Value) (fa : Addr) (h : Heap), (K w.params).In h → h.Ns mainGlobals mg → mg d.name = some (.ref fa) →
      ∃ fd : FuncData, (∀ (s : Shared) (u : Value), BindsTo s fd ⟨[u], []⟩ [(x, u)]) ∧
        ∀ base : Heap, (K w.params).In base → base.Ns mainGlobals mg → (∃ mm, base.Ns sysModules mm) → FG l.prog w (K w.params) mg base k fa fd [x] (sp (K w.params)))
    (want : ∀ (K : PySem.W.Frag) (H : Hp) (a : Addr) (ns : List Int), ns.length ≤ n → Only H → SqL K H a (ns.map V.int) → sp K [.ref a] H (fun v _ => v = .bl true) E0) :
    PySem.W.WalkO q loose XP YP l.row.toRowW d [] (fun f vs => PySem.call f vs) := by
  apply Att.attach_call most plain
  intro w s₀ s₁ mg mb fa o pm cd doc a us ns G Y ho hd hcd hmg at_ iA len noG
  obtain ⟨fd, hb, hF⟩ := F w mg fa _ (hY w _ Y) G.T.g hmg
  exact endS (hY w _ Y) G.T.g G.T.b G.T.builtins G.T.nolimit ((G.T.seer calm).mods.elim fun mm q => ⟨mm, q.1⟩) noG at_ iA (Nat.le_trans len small) room hF hb fun H hO hS => want (K w.params) H a ns len hO hS

end Xg
set_option Elab.async false
set_option linter.all false
set_option maxRecDepth 100000
set_option maxHeartbeats 4000000
/-! Xi: repr of data of any form; such exceptions raised; a try with several named clauses. -/
namespace Xg
open PySem PySem.Spec PyProof.Rows L2 Bs Xc
section
variable {X : Cx}
/-- repr(x), x data of any form -/
theorem call_reprA (ng : X.A.guards = some []) (hu : X.A.units + 64 < cLine) (sm : ∃ mm, X.base.Ns sysModules mm) :
    CallR X (.builtin "repr") (fun xs H Q => ∃ x d, xs = [x] ∧ Dq X.K H x d ∧ d.showable = true ∧ d.depth < 60 ∧ d.shown.length ≤ sizeLine ∧ Q (.str d.shown) H) := by
  intro pins s σ H xs us Q I r h
  obtain ⟨x, d, rfl, dp, sho, dep, len, q⟩ := h
  cases r with
  | cons r1 r2 =>
    cases r2
    obtain ⟨as, rd, no⟩ := dp.reads I sm _ r1
    have far : ∀ {a : Addr} {u : Value}, u = .ref a → Reads s.heap u d as → wpAny (model X.prog X.w) X.A (call (.builtin "repr") [u]) (EP X pins σ Q) X.xe s := by
      rintro a u rfl rd
      apply repr_of_reads' rd sho (fun _ => no) ng (by omega) (fun _ _ e => e) _ len
      intro h' u tk kp
      exact ⟨.str d.shown, H, I.kept (h' := h') (t' := tk) kp, ⟨u, rfl⟩, q⟩
    cases dp with
    | non =>
      cases r1
      simp only [PyData.shown] at q
      exact PySem.P.repr_of_none ⟨.str _, H, I.tok _, ⟨_, rfl⟩, q⟩
    | bl b =>
      cases r1
      simp only [PyData.shown] at q
      exact PySem.P.repr_of_bool ⟨.str _, H, I.tok _, ⟨_, rfl⟩, q⟩
    | int i =>
      obtain ⟨t, rfl⟩ := r1
      simp only [PyData.shown] at q
      simp only [PyData.showable, decide_eq_true_eq] at sho
      exact PySem.P.repr_of_int sho ⟨.str _, H, I.tok _, ⟨_, rfl⟩, q⟩
    | str x =>
      obtain ⟨t, rfl⟩ := r1
      rw [PyData.shown_str] at q len
      exact PySem.P.repr_of_str ⟨.str _, H, I.tok _, ⟨_, rfl⟩, q⟩ len
    | dk x i e => exact far r1 rd
    | d0 e => exact far r1 rd
    | lst ps e k => exact far r1 rd
    | tup ps e k => exact far r1 rd
end
/-- .. the written part told -/
def rRp (K : PySem.W.Frag) : List V → Hp → VK → Prop := fun xs H Q => ∃ x d, xs = [x] ∧ Dq K H x d ∧ d.showable = true ∧ d.depth < 60 ∧ d.shown.length ≤ sizeLine ∧ Q (.str d.shown) H
theorem call_reprK {X : Cx} {K : PySem.W.Frag} (hK : X.K = K) (ng : X.A.guards = some []) (hu : X.A.units + 64 < cLine) (sm : ∃ mm, X.base.Ns sysModules mm) : CallR X (.builtin "repr") (rRp K) := by
  subst hK
  exact call_reprA ng hu sm
/-! ### raise C(e, .., k = v, ..) -/
section
variable {X : Cx} {pins : List (Addr × Obj)} {σ : L2.St} {H : Hp} {s : Shared} {us ws : List Value} {vs zs : List V} {B newId initId : String} {bmB : List Value} {C fI : Addr} {k n : Nat} {fd : FuncData} {ps ks : List Str} {sp : Sp} {g : List Value → List Value → List Value} {gV : List V → List V → List V}
/-- what is wanted of it, behind its __init__ -/
def flew (C a : Addr) (H : Hp) (Q : XK) : VK := fun v H3 => v = .non ∧ ∃ (d : Addr) (fs : List (Str × V)), H3 a = some (exo a C (some d)) ∧ H3 d = some (exd d fs) ∧ H d = none ∧ Q (.ref C) (some d) (upd (del H3 a) d (.xd fs))
theorem runRaise {Q : XK} (T : Cl X.K C B newId initId bmB) (N : Ini X.K C fI) (F1 : FnOk X.prog X.w X.K X.mg X.base CX0 k fI fd ps sp) (hr : Room (k + 1) X.A) (hb : KBn X.K fd ps (n + 1) ks g gV) (few : n ≤ 1000)
    (I : Inv X pins σ H s) (r : Vals vs us) (rz : Vals zs ws) (l1 : vs.length = n) (l2 : zs.length = ks.length)
    (h : ∀ a, H a = none → sp (gV (.ref a :: vs) zs) (upd H a (exo a C none)) (flew C a H Q) E0) :
    wpAny (model X.prog X.w) X.A (call (.ref C) us (ks.zip ws)) (MkP X pins σ Q) X.xe s := by
  obtain ⟨nm, N', qn, bs, bm, hdct, sn, sub, ab, col, dd, k0, k1, k2, k3, k5, hC, alike⟩ := PySem.W.excInit_of I.kIn T.ini
  have li := PySem.W.looks_findIn (M := model X.prog X.w) I.kIn N.at_
  have lb : ∀ self, PySem.W.Looks (model X.prog X.w) s.heap (bindSpecial (.ref fI) self) (.ref fI, [self]) := fun self => PySem.W.bind_fn I.kIn self N.ty
  have fresh : s.heap.objs.size ≤ s.heap.objs.size + 1 := Nat.le_succ _
  have hn : H (s.heap.objs.size + 1) = none := I.hok.fresh fresh
  have q0 := h _ hn
  have ul : us.length ≤ sizeLine := by
    have e := r.length
    rw [sizeLine_eq]
    omega
  obtain ⟨hp, gg, d, t, os⟩ := s
  have keeps : ∀ b o, hp.get? b = some o → (PySem.XcW.bornH hp C us).get? b = some o := by
    intro b o e
    exact Heap.get?_push_of_some _ (Heap.get?_push_of_some _ e)
  have born : (PySem.XcW.bornH hp C us).get? (hp.objs.size + 1) = some (PySem.HandSPX.excO C hp.objs.size) := by heap_get
  have I2 : Inv X pins σ (upd H (hp.objs.size + 1) (exo (hp.objs.size + 1) C none)) ⟨PySem.XcW.bornH hp C us, gg, d, t, os⟩ :=
    I.laid (h' := PySem.XcW.bornH hp C us) (t' := t) (o := exo (hp.objs.size + 1) C none) (a := hp.objs.size + 1) keeps fresh (exo_ok born)
  have r2 : Vals (V.ref (hp.objs.size + 1) :: vs) (Value.ref (hp.objs.size + 1) :: us) := .cons rfl r
  have e1 : (Value.ref (hp.objs.size + 1) :: us).length = n + 1 := r2.length.symm.trans (congrArg Nat.succ l1)
  have e2 : ws.length = ks.length := rz.length.symm.trans l2
  apply wpAny_call
  apply PySem.XcW.callMade T.F alike hC ul li lb
  apply codeAny_mono (F1.run _ X.stack _ _ ⟨Value.ref (hp.objs.size + 1) :: us, ks.zip ws⟩ _ _ _ E0 (hr.make C us (ks.zip ws)) (I2.env0.make C us (ks.zip ws)) (hb.to _ _ ws I2.kIn e1 e2) (hb.rel r2 rz) q0)
  intro res s' z
  match res, z with
  | .error _, z => exact z.elim
  | .ok .next, z => exact z.elim
  | .ok .brk, z => exact z.elim
  | .ok .cont, z => exact z.elim
  | .ok (.ret u), z =>
    obtain ⟨v, H3, os3, bare3, un3, hok3, rv, ev, dx, fs, ea, ed, n1, q3⟩ := z
    subst ev
    obtain ⟨h3, g3, d3, t3, os'⟩ := s'
    exact ⟨rv, mk_end (raises_own T.ex T.ty) I fresh keeps un3 hok3 os3 bare3 ea ed n1 q3⟩
def tRs (C : Addr) (n m : Nat) (sp : Sp) (gV : List V → List V → List V) (t tk : TA) : L2.St → Hp → XK → Prop := fun σ H Q => t σ H fun vs H1 => tk σ H1 fun zs H2 => vs.length = n ∧ zs.length = m ∧
  ∀ a, H2 a = none → sp (gV (.ref a :: vs) zs) (upd H2 a (exo a C none)) (flew C a H2 Q) E0
variable {x : Str} {p pos : Pos} {e : Expr} {es : List Expr} {kws : List Keyword} {ta tk : TA}
theorem pmk_x (T : Cl X.K C B newId initId bmB) (N : Ini X.K C fI) (F1 : FnOk X.prog X.w X.K X.mg X.base CX0 k fI fd ps sp) (hr : Room (k + 1) X.A) (hb : KBn X.K fd ps (n + 1) ks g gV) (few : n ≤ 1000) (hg : Gl X x) (hm : X.mg x = some (.ref C))
    (ha : PA X (e :: es) ta) (hkw : PK X kws tk) (hall : (backToKw pos (keywordEach kws X.env)).all (·.1.isSome) = true := by rfl) (hks : (backToKw pos (keywordEach kws X.env)).filterMap (·.1) = ks := by rfl)
    (hdb : (x == ("__debug__" : Str)) = false := by decide) (he : starEach (e :: es) X.env = (false, eval e X.env) :: starEach es X.env := by rfl)
    (hpl : ((backTo pos (starEach (e :: es) X.env)).any (·.1) || (backToKw pos (keywordEach kws X.env)).any (·.1.isNone)) = false := by rfl) :
    PMk X (.Call (.Name x p) (e :: es) kws pos) (tRs C n ks.length sp gV ta tk) := by
  intro pins s σ H Q I h
  apply wpAny_Call_Name_kw
  apply ld_glob I hg hm _ hdb
  apply PySem.W.callWith_KW (h₀ := X.base) I.ok.mod.kin T.kp hall _ hpl he
  apply thn (ha.run pos pins s σ H _ I h)
  rintro us s1 ⟨vs, H1, I1, r, q⟩
  apply thn (hkw.run pos pins s1 σ H1 _ I1 q)
  rintro ws s2 ⟨zs, H2, I2, rz, l1, l2, q2⟩
  refine ⟨I2.kIn, ?_⟩
  rw [hks]
  exact runRaise T N F1 hr hb few I2 r rz l1 l2 q2
theorem pmk_x0 (T : Cl X.K C B newId initId bmB) (N : Ini X.K C fI) (F1 : FnOk X.prog X.w X.K X.mg X.base CX0 k fI fd ps sp) (hr : Room (k + 1) X.A) (hb : KBn X.K fd ps 1 ks g gV) (hg : Gl X x) (hm : X.mg x = some (.ref C))
    (hkw : PK X kws tk) (hall : (backToKw pos (keywordEach kws X.env)).all (·.1.isSome) = true := by rfl) (hks : (backToKw pos (keywordEach kws X.env)).filterMap (·.1) = ks := by rfl)
    (hdb : (x == ("__debug__" : Str)) = false := by decide)
    (hpl : ((backTo pos (starEach [] X.env)).any (·.1) || (backToKw pos (keywordEach kws X.env)).any (·.1.isNone)) = false := by rfl) :
    PMk X (.Call (.Name x p) [] kws pos) (tRs C 0 ks.length sp gV tNil tk) := by
  intro pins s σ H Q I h
  apply wpAny_Call_Name_kw
  apply ld_glob I hg hm _ hdb
  apply PySem.W.callWith_KW0 (h₀ := X.base) I.ok.mod.kin T.kp hall _ hpl
  apply thn (hkw.run pos pins s σ H _ I h)
  rintro ws s2 ⟨zs, H2, I2, rz, l1, l2, q2⟩
  refine ⟨I2.kIn, ?_⟩
  rw [hks]
  exact runRaise (us := []) (vs := []) T N F1 hr hb (Nat.zero_le _) I2 .nil rz rfl l2 q2
end
/-- such an __init__, and it flies -/
theorem flies {H : Hp} {a C : Addr} {n : Nat} {mk : List V → List (Str × V)} {l xs : List V} {Q : XK} (el : l = .ref a :: xs) (hl : xs.length = n) (ha : H a = none)
    (k : ∀ (d : Addr) (H' : Hp), (∀ b o, H b = some o → H' b = some o) → H' d = some (.xd (mk xs)) → Q (.ref C) (some d) H') :
    spIn C n mk l (upd H a (exo a C none)) (flew C a H Q) E0 := by
  refine ⟨a, xs, el, hl, upd_same, fun dx H' n1 n2 e1 e2 keep => ?_⟩
  have nd : H dx = none := by
    rw [upd_ne n2] at n1
    exact n1
  refine ⟨rfl, dx, _, e1, e2, nd, k dx _ ?_ upd_same⟩
  intro b o e
  have b1 : b ≠ a := ne_of_none e ha
  have b2 : b ≠ dx := ne_of_none e nd
  rw [upd_ne b2, del_ne b1, keep b b1 b2, upd_ne b1]
  exact e
end Xg
set_option Elab.async false
set_option linter.all false
set_option maxRecDepth 100000
set_option maxHeartbeats 4000000
/-! Xj: a try with several named clauses, one of which takes what flies. -/
namespace Xg
open PySem PySem.Spec PyProof.Rows L2 Bs Xc
/-- the wishes behind a clause's suite: the name is gone -/
def gone (i : Nat) (D : Ends) : Ends := { nx := fun σ H => D.nx (σ.set i none) H, rt := D.rt, bk := fun σ H => D.bk (σ.set i none) H, ct := fun σ H => D.ct (σ.set i none) H }
/-- the clauses' wish: the first that names the class -/
def wN (K : PySem.W.Frag) (i : Nat) (D : Ends) : List (Value × (Addr → Value → Option Addr → TS)) → WX
  | [] => fun _ _ _ _ => False
  | (c, ts) :: r => fun cls d σ H => ∃ b, PySem.W.exmOne K cls c = some b ∧ (if b = true then ∀ a, H a = none → ts a cls d (gone i D) (σ.set i (some (.ref a))) H else wN K i D r cls d σ H)
inductive HdsN (X : Cx) (n : Str) : List ExceptHandler → List (Value × (Addr → Value → Option Addr → TS)) → Prop
  | nil : HdsN X n [] []
  | cons {x : Str} {c : Value} {ts : Addr → Value → Option Addr → TS} {b₀ : Stmt} {suite : List Stmt} {np pos' : Pos} {hds : List ExceptHandler} {l : List (Value × (Addr → Value → Option Addr → TS))} (hc : Names X x c)
      (su : ∀ (a : Addr) (oe : Obj) (cls : Value) (d : Option Addr) (pn : List (Addr × Obj)), Zc cls d oe → (∃ vs, oe.data = .fields vs) → PSs (X.suite a ((a, oe) :: pn)) (b₀ :: suite) (ts a cls d)) (r : HdsN X n hds l) :
      HdsN X n (.ExceptHandler (some (.Name x np)) (some n) (b₀ :: suite) pos' :: hds) ((c, ts) :: l)
/-- what is wanted of what the body lets fly -/
def sought (X : Cx) (pins : List (Addr × Obj)) (D : Ends) (hds : List ExceptHandler) (e : Value) (s1 : Shared) : Prop :=
  wpAny (model X.prog X.w) X.A (noteFrame e X.env) (fun _ s2 => wpAny (model X.prog X.w) X.A (setFlight e none) (fun _ s3 => wpAny (model X.prog X.w) X.A (handleBy e X.env hds) (SP X pins D) X.xe s3) X.xe s2) X.xe s1
section
variable {X : Cx} {n : Str} {i : Nat} {body : List Stmt} {h₀ : ExceptHandler} {hds : List ExceptHandler} {l : List (Value × (Addr → Value → Option Addr → TS))} {pos : Pos} {tb : WX → TS}
theorem ps_tryN (hs : X.stack = X.env :: X.outer) (hf : X.env.frame = some X.env.locals) (hN : X.N.Nodup) (hi : X.N[i]? = some n) (ln : X.env.kindOf n = some .local)
    (hb : ∀ (W : WX) (pn : List (Addr × Obj)) (xe : Value → Shared → Prop), Takes (X.tr pn xe) W → PSs (X.tr pn xe) body (tb W))
    (hh : HdsN X n (h₀ :: hds) l) : PS X (.Try body (h₀ :: hds) [] [] pos) (fun D σ H => tb (wN X.K i D l) D σ H) := by
  constructor
  intro pins s σ H D I h
  have ok := I.ok
  have fr : X.A.frames = some (X.env :: X.outer) := by
    rw [ok.frames, hs]
  have place : Loc X.env.scope n := .inl ln
  have caught : Takes (X.tr (X.pn ++ pins) (sought X pins D (h₀ :: hds))) (wN X.K i D l) := by
    rintro u s' ⟨a, B, sI, pins', σ', H', cls, d, rfl, J', nb, up, sky, na, os, ag, wish⟩
    have J : Inv X pins σ' H' sI := J'.ofTry ok
    have sky' : Sky B (X.env :: X.outer) a (Zc cls d) X.env.locals s'.heap := by
      rw [← hs]
      exact sky
    show wpAny _ _ (noteFrame (.ref a) X.env) _ _ _
    apply Sky.land Zc.steady fr hf sky'
    intro h3 fly up3
    have J3 : Inv X pins σ' H' { s' with heap := h3 } := J.landed nb fly.1 (up.trans up3) os ag
    obtain ⟨oe3, vs3, at3, z3, d3⟩ := fly.there
    have off : a ∉ frs (X.env :: X.outer) := by
      intro hm
      obtain ⟨_, o', e', notF⟩ := fly.2.2.1.mem hm
      rw [at3] at e'
      cases e'
      exact notF _ d3
    have offL : a ≠ X.env.locals := by
      intro z
      exact off (List.mem_filterMap.mpr ⟨X.env, List.mem_cons_self, by rw [hf, z]⟩)
    have offF : a ∉ X.fs := by
      intro hm
      obtain ⟨e, he, q⟩ := List.mem_filterMap.mp hm
      exact off (List.mem_filterMap.mpr ⟨e, List.mem_cons_of_mem _ he, q⟩)
    have S3 := J3.suite at3 d3 na offL offF
    have turn : ∀ {hds' : List ExceptHandler} {l' : List (Value × (Addr → Value → Option Addr → TS))}, HdsN X n hds' l' → wN X.K i D l' cls d σ' H' →
        wpAny (model X.prog X.w) X.A (handleBy (.ref a) X.env hds') (SP X pins D) X.xe { s' with heap := h3 } := by
      intro hds' l' hk
      induction hk with
      | nil =>
        intro z
        exact z.elim
      | @cons x c ts b₀ suite np pos' hds2 l2 hc su r ih =>
        rintro ⟨b, is, go⟩
        apply wpAny_handleBy_cons (codeAny_handlers_test _) (by intro q; cases q)
        have lt : PySem.W.Looks (model X.prog X.w) h3 (typeOf (.ref a)) cls := by
          intro A Q E s k q
          apply wpAny_typeOf_ref (k _ _ at3)
          rw [z3.1]
          exact q
        have lm := PySem.W.exm_one (M := model X.prog X.w) J3.kIn lt is
        have named : ∀ {Q : Value → Shared → Prop} {E : Value → Shared → Prop}, Q c { s' with heap := h3 } → wpAny (model X.prog X.w) (X.A.mark (some (.ref a))) (eval (.Name x np) X.env) Q E { s' with heap := h3 } := by
          intro Q E q
          obtain ⟨hg, hd, hm | ⟨hm, hv, nn⟩⟩ := hc
          · exact ld_glob (X := X.suite a ((a, oe3) :: (X.pn ++ pins))) S3 hg hm q hd
          · exact ld_blt (X := X.suite a ((a, oe3) :: (X.pn ++ pins))) S3 hg hm hv q nn hd
        apply named
        apply lm.here
        cases b with
        | false =>
          show wpAny _ X.A (handleBy (.ref a) X.env hds2) _ _ _
          exact ih go
        | true =>
          apply codeAny_handlers_suite_as
          apply HandSPX.lands_againZ fly
          intro h4 fly4 up4
          have J4 : Inv X pins σ' H' { s' with heap := h4 } := J.landed nb fly4.1 ((up.trans up3).trans up4) os ag
          obtain ⟨oe4, vs4, at4, z4, d4⟩ := fly4.there
          have S4 := J4.suite at4 d4 na offL offF
          refine store_ok (X := X.suite a ((a, oe4) :: (X.pn ++ pins))) (v := .ref a) S4 hN hi place rfl ?_ (.inr ln)
          intro s5 S5
          refine wpAny_mono ((su a oe4 cls d (X.pn ++ pins) z4 ⟨_, d4⟩).run [] s5 _ H' _ S5 (go a na)) ?_ (fun _ _ z => z.elim)
          intro f s6 sp
          have fin : ∀ {σ6 : L2.St} {H6 : Hp} {Q : Shared → Prop}, Inv (X.suite a ((a, oe4) :: (X.pn ++ pins))) [] σ6 H6 s6 → (∀ s7, Inv X pins (σ6.set i none) H6 s7 → Q s7) →
              wpAny (model X.prog X.w) X.A (do bindName X.env n .none; unbindBehindTheSuite X.env n pos') (fun _ s7 => Q s7) X.xe s6 := by
            intro σ6 H6 Q S6 q
            exact gone_ok (S6.unsuite ok) hN hi ln q
          match f, sp with
          | .next, ⟨σ6, H6, S6, q6⟩ => exact fin S6 fun s7 J7 => ⟨_, _, J7, q6⟩
          | .brk, ⟨σ6, H6, S6, q6⟩ => exact fin S6 fun s7 J7 => ⟨_, _, J7, q6⟩
          | .cont, ⟨σ6, H6, S6, q6⟩ => exact fin S6 fun s7 J7 => ⟨_, _, J7, q6⟩
          | .ret u, ⟨v6, σ6, H6, S6, r6, q6⟩ => exact fin S6 fun s7 J7 => ⟨_, _, _, J7, r6, q6⟩
    exact turn hh wish
  apply wpAny_Try_except
  refine wpAny_mono ((hb _ _ _ caught).run [] s σ H D (I.toTry _) h) ?_ (fun e s1 z => z)
  intro f s1 sp
  match f, sp with
  | .next, ⟨σ', H', J', q⟩ => exact wpAny_execs_nil ⟨σ', H', J'.ofTry ok, q⟩
  | .brk, ⟨σ', H', J', q⟩ => exact ⟨σ', H', J'.ofTry ok, q⟩
  | .cont, ⟨σ', H', J', q⟩ => exact ⟨σ', H', J'.ofTry ok, q⟩
  | .ret u, ⟨v, σ', H', J', r, q⟩ => exact ⟨v, σ', H', J'.ofTry ok, r, q⟩
end
end Xg
set_option Elab.async false
set_option linter.all false
set_option maxRecDepth 100000
set_option maxHeartbeats 4000000
namespace K01
open PySem PySem.Spec PyProof.Rows L2 Bs TL
def top (i : Nat) : Stmt := PySem.Challenge.pw_cleanedtables_k01_worths_forms_shapes_of.main.body.getD i (.Pass ⟨0, 0, 0, 0⟩)
abbrev sHand : Stmt := top 24
abbrev sTake : Stmt := top 25
abbrev sPick : Stmt := top 26
/-! ### a hand: its three numbers -/
def HandAt (H : Hp) (h : Addr) (n : Nat) : Prop := ∃ g s c : Int, H h = some (.lst [.int g, .int s, .int c]) ∧ 0 ≤ s ∧ s < 2305843009213693951 ∧ 0 ≤ c ∧ c ≤ n
/-- all but h as it was -/
def But (h : Addr) (H H' : Hp) : Prop := ∀ b o, b ≠ h → H b = some o → H' b = some o
theorem But.refl (h : Addr) (H : Hp) : But h H H := fun _ _ _ e => e
theorem But.trans {h : Addr} {H H1 H2 : Hp} (a : But h H H1) (b : But h H1 H2) : But h H H2 := fun c o n e => b c o n (a c o n e)
theorem But.upd {h : Addr} {H : Hp} {o : HO} : But h H (upd H h o) := fun c p n e => by rw [upd_ne n]; exact e
theorem But.of {h : Addr} {H H' : Hp} (s : Same H H') : But h H H' := fun b o _ e => s b o e
theorem But.seq {K : PySem.W.Frag} {h a : Addr} {H H' : Hp} {xs : List V} (e : But h H H') (n : a ≠ h) (q : SqL K H a xs) : SqL K H' a xs := by
  rcases q with (q | ⟨o, q⟩) | q
  · exact .inl (.inl (e _ _ n q))
  · exact .inl (.inr ⟨o, e _ _ n q⟩)
  · exact .inr q
theorem Same.new {H : Hp} {p : Addr} {o : HO} (n : H p = none) : Same H (upd H p o) := fun b u e => by rw [upd_ne (ne_of_none e n)]; exact e
theorem HandAt.mono {H H' : Hp} {h : Addr} {n m : Nat} (a : HandAt H h n) (s : Same H H') (l : n ≤ m) : HandAt H' h m := by
  obtain ⟨g, t, c, e, h1, h2, h3, h4⟩ := a
  exact ⟨g, t, c, s _ _ e, h1, h2, h3, by omega⟩
theorem HandAt.up {H : Hp} {h : Addr} {n m : Nat} (a : HandAt H h n) (l : n ≤ m) : HandAt H h m := a.mono (Same.refl H) l

/-! ### the promises -/
def spTake : Sp := fun vs H Q _ => ∃ (h : Addr) (n : Nat) (m : Int), vs = [.ref h, .int m] ∧ HandAt H h n ∧ n < 1000000 ∧ 0 < m ∧ m < 1000000000 ∧
  ∀ (r : Int) (H' : Hp), 0 ≤ r → r < m → HandAt H' h (n + 1) → But h H H' → Q (.int r) H'
/-- pick from a text, from a list -/
def spPick (K : PySem.W.Frag) : Sp := fun vs H Q _ => ∃ (h : Addr) (n : Nat) (x : V) (ys : List V), vs = [.ref h, x] ∧ HandAt H h n ∧ n < 1000000 ∧ 0 < ys.length ∧ ys.length ≤ 1000 ∧
  ((∃ z : Str, x = .str z ∧ ys = z.cps.toList.map fun c => V.str ⟨#[c]⟩) ∨ (∃ p, x = .ref p ∧ p ≠ h ∧ SqL K H p ys)) ∧
  ∀ (y : V) (H' : Hp), y ∈ ys → HandAt H' h (n + 1) → But h H H' → Q y H'
structure Txt (mg : Str → Option Value) : Prop where
  len : mg "len" = none
  abs : mg "abs" = none
  int : mg "int" = none
  range : mg "range" = none
section
variable {P : Program} {w : World} {K : PySem.W.Frag} {mg : Str → Option Value} {base : Heap}
theorem scT : FnScope ["_law_hand_here", "_law_many", "_law_digit", "_law_turn", "_law_one", "_law_two", "_law_mixed", "_law_last"] ["_law_hand_here", "_law_many"] (defScope sTake) := ⟨rfl, rfl, rfl, by decide +kernel, rfl, by decide +kernel, by decide +kernel⟩
theorem at3 {a b c : V} : ∀ j : Nat, j < 3 → ∃ v, ([a, b, c] : List V)[j]? = some v := fun j h => ⟨_, List.getElem?_eq_getElem (l := [a, b, c]) (by simpa using h)⟩
theorem ok_take {f : Addr} {fd : FuncData} (F : Fun K "_law_take" "_law_take" sTake f fd) : FnOk P w K mg base CX0 1 f fd ["_law_hand_here", "_law_many"] spTake := by
  refine F.ok scT (fun vs H Q E h => ?_) (fun cdv A outer s H vs Q E hr h => ?_)
  · obtain ⟨h, n, m, rfl, _⟩ := h
    rfl
  · obtain ⟨h, n, m, rfl, ⟨g, t, c, e, t0, t1, c0, c1⟩, nb, m0, m1, k⟩ := h
    have at0 : atI ([V.int g, V.int t, V.int c]) 0 = some (V.int g) := atI_nat (j := 0) rfl
    have at1 : atI ([V.int g, V.int t, V.int c]) 1 = some (V.int t) := atI_nat (j := 1) rfl
    have at2 : atI ([V.int g, V.int t, V.int c]) 2 = some (V.int c) := atI_nat (j := 2) rfl
    refine ⟨_, pss_cons (ps_if (pt_cmpR op_gt (pe_ix ix_list (pv 0) pe_int (fun _ _ => rfl)) pe_int (nomark _))
        (pss_cons (ps_set (i := 2) scT.nd rfl (Or.inl rfl) (pe_op op_mod (pe_ix ix_list (pv 0) pe_int (fun _ _ => rfl)) (pv 1)))
          (pss_cons (ps_asg (pe_op op_fdiv (pe_ix ix_list (pv 0) pe_int (fun _ _ => rfl)) (pv 1)) (pg_sub (pv 0) pe_int set_list))
            (pss_one (ps_ret (pv 2))))) pss_nil)
      (pss_cons (ps_set (i := 3) scT.nd rfl (Or.inl rfl) (pe_op op_add (pe_ix ix_list (pv 0) pe_int (fun _ _ => rfl)) pe_int))
      (pss_cons (ps_asg (pv 3) (pg_sub (pv 0) pe_int set_list))
      (pss_cons (ps_set (i := 4) scT.nd rfl (Or.inl rfl) (pe_op op_add (pe_ix ix_list (pv 0) pe_int (fun _ _ => rfl)) (pe_op op_mul pe_int (pv 3))))
      (pss_cons (ps_set (i := 5) scT.nd rfl (Or.inl rfl) (pe_op op_add (pe_op op_add (pe_op op_mod (pe_ix ix_list (pv 0) pe_int (fun _ _ => rfl)) pe_int) (pe_op op_mul pe_int (pv 3))) pe_int))
      (pss_cons (ps_set (i := 6) scT.nd rfl (Or.inl rfl) (pe_op op_mod (pe_op op_mul (pv 4) (pv 5)) pe_int))
      (pss_cons (ps_set (i := 7) scT.nd rfl (Or.inl rfl) (pe_op op_add (pe_op op_add (pe_op op_mod (pv 6) pe_int) (pe_op op_mul pe_int (pv 3))) pe_int))
      (pss_one (ps_ret (pe_op op_mod (pe_op op_fdiv (pe_op op_mod (pe_op op_mul (pe_op op_add (pv 6) pe_int) (pv 7)) pe_int) pe_int) (pv 1)))))))))), ?_⟩
    refine ⟨_, rfl, h, _, _, _, rfl, rfl, SqL.of e, at0, _, _, rfl, rfl, _, rfl, ?_⟩
    by_cases hc : (0 : Int) < g
    · rw [decide_eq_true hc]
      refine iteT ?_
      refine ⟨_, rfl, h, _, _, _, rfl, rfl, SqL.of e, at0, _, rfl, _, _, rfl, rfl, m0, ?_⟩
      refine ⟨_, rfl, h, _, _, _, rfl, rfl, SqL.of e, at0, _, rfl, _, _, rfl, rfl, ⟨m0, by omega⟩, ?_⟩
      refine ⟨_, rfl, h, _, _, 0, rfl, rfl, e, rfl, ?_⟩
      refine ⟨_, rfl, ?_⟩
      exact k _ _ (Int.emod_nonneg _ (by omega)) (Int.emod_lt_of_pos _ m0) ⟨g / m, t, c, upd_same, t0, t1, c0, by omega⟩ But.upd
    · rw [decide_eq_false hc]
      refine iteF ?_
      refine ⟨_, rfl, h, _, _, _, rfl, rfl, SqL.of e, at2, _, _, rfl, rfl, ?_⟩
      refine ⟨_, rfl, _, rfl, h, _, _, 2, rfl, rfl, e, rfl, ?_⟩
      have e1 : upd H h (.lst [.int g, .int t, .int (c + 1)]) h = some (.lst [.int g, .int t, .int (c + 1)]) := upd_same
      have b1 : atI ([V.int g, V.int t, V.int (c + 1)]) 1 = some (V.int t) := atI_nat (j := 1) rfl
      refine ⟨_, rfl, h, _, _, _, rfl, rfl, SqL.of e1, b1, _, rfl, _, _, rfl, rfl, .inl ⟨by decide, by decide⟩, _, _, rfl, rfl, ?_⟩
      refine ⟨_, rfl, h, _, _, _, rfl, rfl, SqL.of e1, b1, _, _, rfl, rfl, (by decide : (0 : Int) < 7919), _, rfl, _, _, rfl, rfl, .inl ⟨by decide, by decide⟩, _, _, rfl, rfl, _, _, rfl, rfl, ?_⟩
      have oneB : -(2 ^ 64) < t + 104729 * (c + 1) ∧ t + 104729 * (c + 1) < 2 ^ 64 := by omega
      refine ⟨_, rfl, _, rfl, _, _, rfl, rfl, .inl oneB, _, _, rfl, rfl, (by decide : (0 : Int) < 2305843009213693951), ?_⟩
      generalize (t + 104729 * (c + 1)) * (t % 7919 + 15485863 * (c + 1) + 17) = big
      have m0' : 0 ≤ big % 2305843009213693951 := Int.emod_nonneg _ (by decide)
      have m1' : big % 2305843009213693951 < 2305843009213693951 := Int.emod_lt_of_pos _ (by decide)
      refine ⟨_, rfl, _, _, rfl, rfl, (by decide : (0 : Int) < 1000003), _, rfl, _, _, rfl, rfl, .inl ⟨by decide, by decide⟩, _, _, rfl, rfl, _, _, rfl, rfl, ?_⟩
      have mB : -(2 ^ 64) < big % 2305843009213693951 + 13 ∧ big % 2305843009213693951 + 13 < 2 ^ 64 := by omega
      refine ⟨_, rfl, _, _, rfl, rfl, _, rfl, _, _, rfl, rfl, .inl mB, _, _, rfl, rfl, (by decide : (0 : Int) < 2305843009213693907), _, _, rfl, rfl, ⟨by decide, by decide⟩, _, rfl, _, _, rfl, rfl, m0, ?_⟩
      exact k _ _ (Int.emod_nonneg _ (by omega)) (Int.emod_lt_of_pos _ m0) ⟨g, t, c + 1, upd_same, t0, t1, by omega, by omega⟩ But.upd

/-! ### the hand, a pick, figures, signs -/
theorem scH : FnScope ["_law_script", "_law_k", "_law_cell", "_law_great"] ["_law_script", "_law_k"] (defScope sHand) := ⟨rfl, rfl, rfl, by decide +kernel, rfl, by decide +kernel, by decide +kernel⟩
def spHand (K : PySem.W.Frag) : Sp := fun vs H Q _ => ∃ (a : Addr) (ns : List Int) (j : Nat), vs = [.ref a, .int (j : Int)] ∧ SqL K H a (ns.map V.int) ∧ ns.length ≤ 63 ∧ j < 64 ∧
  ∀ (p : Addr) (H' : Hp), H p = none → Same H H' → HandAt H' p 0 → Q (.ref p) H'
theorem ok_hand {f : Addr} {fd : FuncData} (F : Fun K "_law_hand" "_law_hand" sHand f fd) (T : Txt mg) : FnOk P w K mg base CX0 1 f fd ["_law_script", "_law_k"] (spHand K) := by
  refine F.ok scH (fun vs H Q E h => ?_) (fun cdv A outer s H vs Q E hr h => ?_)
  · obtain ⟨a, ns, j, rfl, _⟩ := h
    rfl
  · obtain ⟨a, ns, j, rfl, hS, hl, hj, k⟩ := h
    have hr1 := hr
    refine ⟨_, pss_cons (ps_set (i := 2) scH.nd rfl (Or.inl rfl) (pe_ifExp (pt_cmpR op_lt (pv 1) (pe_callB call_len_seq (by rfl) T.len PySem.boot_len (pa_cons (pv 0) pa_nil)) (nomark _)) (pe_ix ix_list (pv 0) (pv 1) (fun _ _ => rfl)) pe_int))
      (pss_cons (ps_set (i := 3) scH.nd rfl (Or.inl rfl) (pe_ifExp (pt_cmpR op_ge (pe_callB call_abs (by rfl) T.abs (by decide +kernel) (pa_cons (pv 2) pa_nil)) (pe_op op_pow pe_int pe_int) (nomark _))
        (pe_op op_mod (pe_callB call_abs (by rfl) T.abs (by decide +kernel) (pa_cons (pv 2) pa_nil)) (pe_op op_mulW (pe_op op_mulW (pe_op op_pow pe_int pe_int) (pe_op op_pow pe_int pe_int)) (pe_op op_pow pe_int pe_int))) pe_int))
      (pss_one (ps_ret (pe_lst (pa_cons (pv 3) (pa_cons (pe_op op_mod (pe_op op_add (pe_op op_add (pe_op op_mul (pe_op op_mod (pv 2) pe_int) pe_int) (pe_op op_mul pe_int (pv 1))) pe_int) pe_int) (pa_cons pe_int pa_nil))))))), ?_⟩
    refine cutA (fun v H' => (∃ cell : Int, v = .int cell) ∧ H' = H) (fun Q' q => ?_) ?_
    · refine ⟨_, rfl, _, rfl, a, _, rfl, .inl hS, _, _, rfl, rfl, _, rfl, ?_⟩
      by_cases c : (j : Int) < ((ns.map V.int).length : Nat)
      · rw [decide_eq_true c]
        refine iteT ?_
        rw [List.length_map] at c
        have hj' : j < ns.length := by omega
        refine ⟨_, rfl, _, rfl, a, _, _, .int ns[j], rfl, rfl, hS, atI_nat (by rw [List.getElem?_map, List.getElem?_eq_getElem hj']; rfl), ?_⟩
        exact q _ _ ⟨⟨_, rfl⟩, rfl⟩
      · rw [decide_eq_false c]
        refine iteF ?_
        exact q _ _ ⟨⟨_, rfl⟩, rfl⟩
    · rintro v H' ⟨⟨cell, rfl⟩, rfl⟩
      refine cutA (fun v H2 => (∃ great : Int, v = .int great) ∧ H2 = H') (fun Q' q => ?_) ?_
      · refine ⟨_, rfl, _, rfl, _, _, rfl, rfl, ⟨by decide, by decide, by decide⟩, _, _, rfl, rfl, _, rfl, ?_⟩
        refine ite2 (fun _ => ?_) (fun _ => ?_)
        · refine ⟨_, rfl, _, rfl, _, _, rfl, rfl, ⟨by decide, by decide, by decide⟩, _, _, rfl, rfl, ⟨by decide, by decide, by decide⟩, _, _, rfl, rfl, wide_mul (a := 300) (b := 300) (by decide +kernel) (by decide +kernel) (by decide) (by decide) (by decide), _, _, rfl, rfl, ⟨by decide, by decide, by decide⟩,
            _, _, rfl, rfl, wide_mul (a := 600) (b := 300) (by decide +kernel) (by decide +kernel) (by decide) (by decide) (by decide), _, _, rfl, rfl, (by show (0 : Int) < 10 ^ Int.toNat 60 * 10 ^ Int.toNat 60 * 10 ^ Int.toNat 60; decide +kernel), ?_⟩
          exact q _ _ ⟨⟨_, rfl⟩, rfl⟩
        · exact q _ _ ⟨⟨_, rfl⟩, rfl⟩
      · rintro v H2 ⟨⟨great, rfl⟩, rfl⟩
        have mB : -(2 ^ 64) < cell % 2305843009213693951 ∧ cell % 2305843009213693951 < 2 ^ 64 := by omega
        refine ⟨_, rfl, _, rfl, _, _, rfl, rfl, (by decide : (0 : Int) < 2305843009213693951), _, _, rfl, rfl, .inl mB, _, rfl, _, _, rfl, rfl, .inl ⟨by decide, by decide⟩, _, _, rfl, rfl, _, _, rfl, rfl, _, _, rfl, rfl, (by decide : (0 : Int) < 2305843009213693921), (by show 3 ≤ sizeLine; decide), fun p hp => ?_⟩
        exact k p _ hp (Same.new hp) ⟨_, _, _, upd_same, Int.emod_nonneg _ (by decide), Int.lt_trans (Int.emod_lt_of_pos _ (by decide)) (by decide), Int.le_refl _, Int.le_refl _⟩

theorem scP : FnScope ["_law_hand_here", "_law_some"] ["_law_hand_here", "_law_some"] (defScope sPick) := ⟨rfl, rfl, rfl, by decide +kernel, rfl, by decide +kernel, by decide +kernel⟩
theorem ok_pick {f fT : Addr} {fd fdT : FuncData} (F : Fun K "_law_pick" "_law_pick" sPick f fd) (T : Txt mg) (FT : Fun K "_law_take" "_law_take" sTake fT fdT) (bT : Binds K fdT ["_law_hand_here", "_law_many"] []) (gT : mg "_law_take" = some (.ref fT)) :
    FnOk P w K mg base CX0 2 f fd ["_law_hand_here", "_law_some"] (spPick K) := by
  have GT : FnOk P w K mg base CX0 1 fT fdT ["_law_hand_here", "_law_many"] spTake := ok_take FT
  refine F.ok scP (fun vs H Q E h => ?_) (fun cdv A outer s H vs Q E hr h => ?_)
  · obtain ⟨h, n, x, ys, rfl, _⟩ := h
    rfl
  · obtain ⟨h, n, x, ys, rfl, hd, nb, l0, l1, sh, k⟩ := h
    rcases sh with ⟨z, rfl, rfl⟩ | ⟨p, rfl, ne, hp⟩
    · have zl : z.length = (z.cps.toList.map fun c => V.str ⟨#[c]⟩).length := by rw [List.length_map]; simp [Str.length]
      refine ⟨_, pss_one (ps_ret (pe_ix ix_str (pv 1) (pe_call GT hr (by rfl) gT FT.kp bT .nil pass0 (pa_cons (pv 0) (pa_cons (pe_callB call_len_str (by rfl) T.len PySem.boot_len (pa_cons (pv 1) pa_nil)) pa_nil))) (fun _ _ => rfl))), ?_⟩
      refine ⟨_, rfl, _, rfl, _, rfl, z, rfl, Nat.le_trans (by omega) (show 1000 ≤ sizeLine by decide), h, n, _, rfl, hd, nb, by omega, by omega, fun r H' r0 r1 hd' bt => ?_⟩
      have rl : r.toNat < z.cps.toList.length := by rw [List.length_map] at zl; omega
      refine ⟨z, r, z.cps.toList[r.toNat], rfl, rfl, Nat.le_trans (by omega) (show 1000 ≤ sizeLine by decide), ?_, ?_⟩
      · have e := atI_nat (xs := z.cps.toList) (j := r.toNat) (List.getElem?_eq_getElem rl)
        rw [Int.toNat_of_nonneg r0] at e
        exact e
      · exact k _ _ (List.mem_map.mpr ⟨_, List.getElem_mem rl, rfl⟩) hd' bt
    · refine ⟨_, pss_one (ps_ret (pe_ix ix_list (pv 1) (pe_call GT hr (by rfl) gT FT.kp bT .nil pass0 (pa_cons (pv 0) (pa_cons (pe_callB call_len_seq (by rfl) T.len PySem.boot_len (pa_cons (pv 1) pa_nil)) pa_nil))) (fun _ _ => rfl))), ?_⟩
      refine ⟨_, rfl, _, rfl, _, rfl, p, _, rfl, .inl hp, h, n, _, rfl, hd, nb, by omega, by omega, fun r H' r0 r1 hd' bt => ?_⟩
      have rl : r.toNat < ys.length := by omega
      refine ⟨p, _, r, ys[r.toNat], rfl, rfl, bt.seq ne hp, ?_, ?_⟩
      · have e := atI_nat (xs := ys) (j := r.toNat) (List.getElem?_eq_getElem rl)
        rw [Int.toNat_of_nonneg r0] at e
        exact e
      · exact k _ _ (List.getElem_mem rl) hd' bt
/-! texts of plain signs -/
def Good (L : Nat) (z : Str) : Prop := z.length ≤ L ∧ ∀ c ∈ z.cps.toList, 32 ≤ c ∧ c < 127
theorem Good.app {a b : Nat} {x y : Str} (h : Good a x) (g : Good b y) : Good (a + b) (x ++ y) := by
  refine ⟨?_, fun c hc => ?_⟩
  · have e := congrArg List.length (tl_append x y)
    rw [List.length_append] at e
    rw [len_tl, e, ← len_tl, ← len_tl]
    exact Nat.add_le_add h.1 g.1
  · have e : c ∈ tl x ++ tl y := by rw [← tl_append]; exact hc
    rcases List.mem_append.mp e with e | e
    · exact h.2 c e
    · exact g.2 c e
theorem Good.cut {L : Nat} {z : Str} (h : Good L z) (lo hi : Option Int) : Good L (cutS z lo hi) :=
  ⟨Nat.le_trans (cutS_length z lo hi) h.1, fun c hc => h.2 c (List.mem_of_mem_drop (List.mem_of_mem_take hc))⟩
theorem Good.le {a b : Nat} {z : Str} (h : Good a z) (l : a ≤ b) : Good b z := ⟨Nat.le_trans h.1 l, h.2⟩
end
end K01
set_option Elab.async false
set_option linter.all false
set_option maxRecDepth 100000
set_option maxHeartbeats 4000000
namespace K01
open PySem PySem.Spec PyProof.Rows L2 Bs Xg
abbrev sWhole : Stmt := top 1
abbrev sWorth : Stmt := top 2
abbrev sLWorth : Stmt := top 31
/-! ### data by its kind -/
def tyD : PyData → String
  | .none => "NoneType"
  | .bool _ => "bool"
  | .int _ => "int"
  | .str _ => "str"
  | .list _ => "list"
  | .tuple _ => "tuple"
  | .dict _ => "dict"
section
variable {P : Program} {w : World} {K : PySem.W.Frag} {mg : Str → Option Value} {base : Heap}
theorem ty_of {H : Hp} {x : V} {d : PyData} (h : Dq K H x d) : TyX K H x (.type (tyD d)) := by
  cases h with
  | non => exact .base .non
  | bl b => exact .base (.bl b)
  | int i => exact .base (.int i)
  | str z => exact .base (.str z)
  | dk z i e => exact .base (.dK e)
  | d0 e => exact .base (.dK e)
  | lst ps e _ =>
    rcases e with (e | ⟨o, e⟩) | ⟨o, its, n, e, c, _⟩
    · exact .base (.lst e)
    · exact .base (.frz e)
    · exact .kList e c
  | tup ps e _ =>
    rcases e with (e | ⟨o, e⟩) | ⟨o, its, n, e, c, _⟩
    · exact .base (.tup e)
    · exact .fTuple e
    · exact .kTuple e c
def isN (t n : String) : Bool := t == n || (t == "bool" && n == "int")
def isT (n : String) (d : PyData) : Bool := isN (tyD d) n
theorem kit_d (d : PyData) (n : String) (hn : n = "int" ∨ n = "bool" ∨ n = "str" ∨ n = "tuple") : PySem.W.kitOne K (.type (tyD d)) (.type n) = some (isT n d) := by
  rcases hn with rfl | rfl | rfl | rfl <;> cases d <;> (unfold isT; simp only [tyD]; exact kit_ty (by decide +kernel))
/-- isinstance(x, n) of data -/
theorem isi_use {H : Hp} {x : V} {d : PyData} {n : String} {Q : VK} (h : Dq K H x d) (hn : n = "int" ∨ n = "bool" ∨ n = "str" ∨ n = "tuple") (q : Q (.bl (isT n d)) H) : rIsi K [x, .ty n] H Q :=
  ⟨x, .ty n, _, _, _, rfl, .ty n, ty_of h, kit_d d n hn, q⟩
def wholeD : PyData → Bool
  | .int _ => true
  | _ => false
structure Isi (mg : Str → Option Value) : Prop where
  i : mg "isinstance" = none
  int : mg "int" = none
  bool : mg "bool" = none
  str : mg "str" = none
  tuple : mg "tuple" = none
def spD (f : PyData → Bool) (K : PySem.W.Frag) (ok : PyData → Prop) : Sp := fun vs H Q _ => ∃ (x : V) (d : PyData), vs = [x] ∧ Dq K H x d ∧ ok d ∧ ∀ H', Same H H' → Q (.bl (f d)) H'
theorem scW : FnScope ["thing"] ["thing"] (defScope sWhole) := ⟨rfl, rfl, rfl, by decide +kernel, rfl, by decide +kernel, by decide +kernel⟩
theorem ok_whole {f : Addr} {fd : FuncData} (F : Fun K "is_whole" "is_whole" sWhole f fd) (T : Isi mg) : FnOk P w K mg base CX0 1 f fd ["thing"] (spD wholeD K fun _ => True) := by
  refine F.ok scW (fun vs H Q E h => ?_) (fun cdv A outer s H vs Q E hr h => ?_)
  · obtain ⟨x, d, rfl, _⟩ := h
    rfl
  · obtain ⟨x, d, rfl, dq, _, k⟩ := h
    refine ⟨_, pss_one (ps_ret (pe_and (pe_callB call_isi (by rfl) T.i (by decide +kernel) (pa_cons (pv 0) (pa_cons (pe_bltn rfl T.int (v := V.ty "int") (by decide +kernel) rfl) pa_nil))) (pe_one (pe_not (pe_callB call_isi (by rfl) T.i (by decide +kernel) (pa_cons (pv 0) (pa_cons (pe_bltn rfl T.bool (v := V.ty "bool") (by decide +kernel) rfl) pa_nil))))))), ?_⟩
    refine ⟨_, rfl, x, .ty "int", _, _, _, rfl, .ty "int", ty_of dq, kit_d d "int" (.inl rfl), _, rfl, ?_⟩
    have k' := k H (Same.refl _)
    cases d with
    | int i =>
      refine iteT ?_
      exact ⟨_, rfl, _, .ty "bool", _, _, _, rfl, .ty "bool", ty_of dq, kit_d _ "bool" (.inr (.inl rfl)), _, rfl, k'⟩
    | bool b =>
      refine iteT ?_
      exact ⟨_, rfl, _, .ty "bool", _, _, _, rfl, .ty "bool", ty_of dq, kit_d _ "bool" (.inr (.inl rfl)), _, rfl, k'⟩
    | none => exact iteF k'
    | str z => exact iteF k'
    | list l => exact iteF k'
    | tuple l => exact iteF k'
    | dict l => exact iteF k'
end
end K01
set_option Elab.async false
set_option linter.all false
set_option maxRecDepth 100000
set_option maxHeartbeats 4000000
namespace K01
open PySem PySem.Spec PyProof.Rows L2 Bs Xg TL
/-! ### texts without a blank at either end -/
def bl (c : Nat) : Bool := (Str.ofString " ").cps.contains c
theorem bl_iff (c : Nat) : bl c = true ↔ c = 32 := by
  unfold bl
  rw [show (Str.ofString " ").cps = #[32] by decide +kernel]
  simp
theorem strip_self (z : Str) : Txt.stripChars z (Str.ofString " ") = z ↔ (z.cps.toList.takeWhile bl).length = 0 ∧ (z.cps.toList.reverse.takeWhile bl).length = 0 := by
  have e : Txt.stripChars z (Str.ofString " ") = Builtin.Str.strSub z (stripLo bl true z) (stripHi bl true z (stripLo bl true z)) := stripBy_eq bl true true z
  have le : stripHi bl true z (stripLo bl true z) ≤ z.length := by
    unfold stripHi
    rw [if_pos rfl]
    omega
  have sz := size_strSub z (stripLo bl true z) _ le
  have zl : z.length = z.cps.toList.length := by simp [Str.length]
  have lo : stripLo bl true z = (z.cps.toList.takeWhile bl).length := by
    unfold stripLo
    rw [if_pos rfl]
  have tl1 : (z.cps.toList.takeWhile bl).length ≤ z.cps.toList.length := (List.takeWhile_sublist bl).length_le
  constructor
  · intro q
    rw [e] at q
    have l2 := congrArg Str.length q
    rw [sz] at l2
    by_cases h0 : z.length = 0
    · have nl : z.cps.toList = [] := List.eq_nil_of_length_eq_zero (by omega)
      rw [nl]
      exact ⟨rfl, rfl⟩
    · have l0 : stripLo bl true z = 0 := by omega
      have hi : stripHi bl true z 0 = z.length := by
        rw [l0] at l2 le
        omega
      refine ⟨by omega, ?_⟩
      unfold stripHi at hi
      rw [if_pos rfl, List.drop_zero] at hi
      have := (List.takeWhile_sublist bl (l := z.cps.toList.reverse)).length_le
      rw [List.length_reverse] at this
      omega
  · rintro ⟨h1, h2⟩
    have l0 : stripLo bl true z = 0 := by omega
    have hi : stripHi bl true z 0 = z.length := by
      unfold stripHi
      rw [if_pos rfl, List.drop_zero]
      omega
    rw [e, l0, hi]
    exact StrLaws.sub_whole z
theorem tw_nil (l : List Nat) : (l.takeWhile bl).length = 0 ↔ l.head? ≠ some 32 := by
  cases l with
  | nil => simp
  | cons a r =>
    by_cases h : bl a = true
    · have e := (bl_iff a).mp h
      subst e
      rw [List.takeWhile_cons_of_pos h]
      simp
    · rw [List.takeWhile_cons_of_neg h]
      have : a ≠ 32 := fun z => h ((bl_iff a).mpr z)
      simp [this]
theorem strip_ends (z : Str) : Txt.stripChars z (Str.ofString " ") = z ↔ z.cps.toList.head? ≠ some 32 ∧ z.cps.toList.getLast? ≠ some 32 := by
  rw [strip_self, tw_nil, tw_nil, List.head?_reverse]
/-- whether a text is a worth -/
def worthS (z : Str) : Bool := !decide (z.cps.toList = []) && (!decide (z.cps.toList.head? = some 32) && (!decide (z.cps.toList.getLast? = some 32) && !decide (10 ∈ z.cps.toList)))
def worthD : PyData → Bool
  | .none => true
  | .str z => worthS z
  | .int _ => true
  | _ => false
theorem str_empty (z : Str) : V.str z = V.str (Str.ofString "") ↔ z.cps.toList = [] := by
  constructor
  · intro h
    rw [V.str.inj h]
    decide +kernel
  · intro h
    refine congrArg V.str (ext_tl ?_)
    show z.cps.toList = _
    rw [h]
    decide +kernel
section
variable {P : Program} {w : World} {K : PySem.W.Frag} {mg : Str → Option Value} {base : Heap}
theorem scWo : FnScope ["thing"] ["thing"] (defScope sWorth) := ⟨rfl, rfl, rfl, by decide +kernel, rfl, by decide +kernel, by decide +kernel⟩
/-- texts are short -/
def fitD : PyData → Prop
  | .str z => z.length ≤ 100000
  | _ => True
theorem ok_worth {f fW : Addr} {fd dW : FuncData} (F : Fun K "is_worth" "is_worth" sWorth f fd) (T : Isi mg) (FW : Fun K "is_whole" "is_whole" sWhole fW dW) (bW : Binds K dW ["thing"] []) (gW : mg "is_whole" = some (.ref fW)) :
    FnOk P w K mg base CX0 2 f fd ["thing"] (spD worthD K fitD) := by
  have GW : FnOk P w K mg base CX0 1 fW dW ["thing"] (spD wholeD K fun _ => True) := ok_whole FW T
  refine F.ok scWo (fun vs H Q E h => ?_) (fun cdv A outer s H vs Q E hr h => ?_)
  · obtain ⟨x, d, rfl, _⟩ := h
    rfl
  · obtain ⟨x, d, rfl, dq, fit, k⟩ := h
    refine ⟨_, pss_cons (ps_if (pt_val (pe_callB call_isi (by rfl) T.i (by decide +kernel) (pa_cons (pv 0) (pa_cons (pe_bltn rfl T.str (v := V.ty "str") (by decide +kernel) rfl) pa_nil))))
        (pss_one (ps_ret (pe_and (pe_cmpR op_ne (pv 0) pe_str (nomark _)) (pe_and (pe_cmpR op_eq (pv 0) (pe_bm PySem.F.plainAttrs_str PySem.F.slot_str_strip PySem.F.type_str_strip mt_stripChars (pv 0) (pa_cons pe_str pa_nil)) (nomark _)) (pe_one (pe_cmpR op_notIn_sign pe_str (pv 0) rfl)))))) pss_nil)
      (pss_one (ps_ret (pe_or (pe_cmpR op_isN (pv 0) pe_non (nomark _)) (pe_one (pe_call GW hr (by rfl) gW FW.kp bW .nil pass0 (pa_cons (pv 0) pa_nil)))))), ?_⟩
    refine ⟨_, rfl, x, .ty "str", _, _, _, rfl, .ty "str", ty_of dq, kit_d d "str" (.inr (.inr (.inl rfl))), _, rfl, ?_⟩
    have k' := k H (Same.refl _)
    cases dq with
    | str z =>
      refine iteT ?_
      refine ⟨_, rfl, rfl, _, rfl, ?_⟩
      by_cases he : z.cps.toList = []
      · rw [decide_eq_true ((str_empty z).mpr he)]
        have e : worthS z = false := by
          unfold worthS
          rw [decide_eq_true he]
          rfl
        have k2 : Q (.bl (worthS z)) H := k'
        rw [e] at k2
        exact iteF k2
      · rw [decide_eq_false (fun q => he ((str_empty z).mp q))]
        refine iteT ?_
        have zl : z.length ≤ sizeLine := Nat.le_trans (show z.length ≤ 100000 from fit) (by decide)
        refine ⟨_, rfl, _, rfl, rfl, z, _, rfl, rfl, zl, rfl, _, rfl, ?_⟩
        have k2 : Q (.bl (worthS z)) H := k'
        unfold worthS at k2
        rw [decide_eq_false he] at k2
        by_cases hs : Txt.stripChars z (Str.ofString " ") = z
        · rw [decide_eq_true (congrArg V.str hs.symm)]
          obtain ⟨h1, h2⟩ := (strip_ends z).mp hs
          rw [decide_eq_false h1, decide_eq_false h2] at k2
          refine iteT ?_
          exact ⟨_, rfl, 10, z, congrArg V.str (by decide +kernel), rfl, k2⟩
        · rw [decide_eq_false (fun q => hs (V.str.inj q).symm)]
          refine iteF ?_
          have nb : (!decide (z.cps.toList.head? = some 32) && (!decide (z.cps.toList.getLast? = some 32) && !decide (10 ∈ z.cps.toList))) = false := by
            by_cases h1 : z.cps.toList.head? = some 32
            · rw [decide_eq_true h1]
              rfl
            · by_cases h2 : z.cps.toList.getLast? = some 32
              · rw [decide_eq_true h2]
                simp
              · exact absurd ((strip_ends z).mpr ⟨h1, h2⟩) hs
          rw [nb] at k2
          exact k2
    | non =>
      refine iteF ?_
      refine ⟨_, rfl, rfl, _, rfl, iteT k'⟩
    | int i =>
      refine iteF ?_
      refine ⟨_, rfl, rfl, _, rfl, ?_⟩
      rw [show decide (V.int i = V.non) = false from by simp]
      refine iteF ?_
      exact ⟨_, rfl, _, _, rfl, .int i, True.intro, fun H' s => k H' s⟩
    | bl b =>
      refine iteF ?_
      refine ⟨_, rfl, rfl, _, rfl, ?_⟩
      rw [show decide (V.bl b = V.non) = false from by simp]
      refine iteF ?_
      exact ⟨_, rfl, _, _, rfl, .bl b, True.intro, fun H' s => k H' s⟩
    | @dk a y i e =>
      refine iteF ?_
      refine ⟨_, rfl, rfl, _, rfl, ?_⟩
      rw [show decide (V.ref a = V.non) = false from by simp]
      refine iteF ?_
      exact ⟨_, rfl, _, _, rfl, .dk y i e, True.intro, fun H' s => k H' s⟩
    | @d0 a e =>
      refine iteF ?_
      refine ⟨_, rfl, rfl, _, rfl, ?_⟩
      rw [show decide (V.ref a = V.non) = false from by simp]
      refine iteF ?_
      exact ⟨_, rfl, _, _, rfl, .d0 e, True.intro, fun H' s => k H' s⟩
    | @lst a ps e p =>
      refine iteF ?_
      refine ⟨_, rfl, rfl, _, rfl, ?_⟩
      rw [show decide (V.ref a = V.non) = false from by simp]
      refine iteF ?_
      exact ⟨_, rfl, _, _, rfl, .lst ps e p, True.intro, fun H' s => k H' s⟩
    | @tup a ps e p =>
      refine iteF ?_
      refine ⟨_, rfl, rfl, _, rfl, ?_⟩
      rw [show decide (V.ref a = V.non) = false from by simp]
      refine iteF ?_
      exact ⟨_, rfl, _, _, rfl, .tup ps e p, True.intro, fun H' s => k H' s⟩
end
end K01
set_option Elab.async false
set_option linter.all false
set_option maxRecDepth 100000
set_option maxHeartbeats 4000000
namespace K01
open PySem PySem.Spec PyProof.Rows L2 Bs Xg TL
section
variable {P : Program} {w : World} {K : PySem.W.Frag} {mg : Str → Option Value} {base : Heap}
theorem sign32 (c : Nat) : decide (V.str ⟨#[c]⟩ = V.str (Str.ofString " ")) = decide (c = 32) := by
  have e : Str.ofString " " = ⟨#[32]⟩ := by decide +kernel
  rw [e]
  by_cases h : c = 32
  · rw [h]
    simp
  · have n : ¬ V.str ⟨#[c]⟩ = V.str ⟨#[32]⟩ := by
      intro z
      have z' := congrArg (fun s : Str => s.cps.toList) (V.str.inj z)
      simp at z'
      exact h z'
    rw [decide_eq_false n, decide_eq_false h]
theorem scLW : FnScope ["_law_what"] ["_law_what"] (defScope sLWorth) := ⟨rfl, rfl, rfl, by decide +kernel, rfl, by decide +kernel, by decide +kernel⟩
theorem ok_lworth {f : Addr} {fd : FuncData} (F : Fun K "_law_is_worth" "_law_is_worth" sLWorth f fd) (T : Isi mg) : FnOk P w K mg base CX0 1 f fd ["_law_what"] (spD worthD K fitD) := by
  refine F.ok scLW (fun vs H Q E h => ?_) (fun cdv A outer s H vs Q E hr h => ?_)
  · obtain ⟨x, d, rfl, _⟩ := h
    rfl
  · obtain ⟨x, d, rfl, dq, fit, k⟩ := h
    refine ⟨_, pss_cons (ps_if (pt_cmpR op_isN (pv 0) pe_non (nomark _)) (pss_one (ps_ret pe_bl)) pss_nil)
      (pss_cons (ps_if (pt_val (pe_callB call_isi (by rfl) T.i (by decide +kernel) (pa_cons (pv 0) (pa_cons (pe_bltn rfl T.str (v := V.ty "str") (by decide +kernel) rfl) pa_nil))))
        (pss_one (ps_ret (pe_and (pe_cmpR op_ne (pv 0) pe_str (nomark _)) (pe_and (pe_cmpR op_ne (pe_ix ix_str (pv 0) pe_int (fun _ _ => rfl)) pe_str (nomark _)) (pe_and (pe_cmpR op_ne (pe_ix ix_str (pv 0) (pe_un un_neg pe_int) (fun _ _ => rfl)) pe_str (nomark _)) (pe_one (pe_cmpR op_notIn_sign pe_str (pv 0) rfl))))))) pss_nil)
      (pss_one (ps_ret (pe_and (pe_callB call_isi (by rfl) T.i (by decide +kernel) (pa_cons (pv 0) (pa_cons (pe_bltn rfl T.int (v := V.ty "int") (by decide +kernel) rfl) pa_nil))) (pe_one (pe_not (pe_callB call_isi (by rfl) T.i (by decide +kernel) (pa_cons (pv 0) (pa_cons (pe_bltn rfl T.bool (v := V.ty "bool") (by decide +kernel) rfl) pa_nil))))))))), ?_⟩
    have k' := k H (Same.refl _)
    refine ⟨_, rfl, rfl, _, rfl, ?_⟩
    cases dq with
    | non =>
      rw [decide_eq_true rfl]
      exact iteT k'
    | str z =>
      rw [show decide (V.str z = V.non) = false from by simp]
      refine iteF ?_
      refine ⟨_, rfl, .str z, .ty "str", _, _, _, rfl, .ty "str", ty_of (.str z), kit_d _ "str" (.inr (.inr (.inl rfl))), _, rfl, ?_⟩
      refine iteT ?_
      refine ⟨_, rfl, rfl, _, rfl, ?_⟩
      have k2 : Q (.bl (worthS z)) H := k'
      unfold worthS at k2
      by_cases he : z.cps.toList = []
      · rw [decide_eq_true he] at k2
        rw [decide_eq_true ((str_empty z).mpr he)]
        exact iteF k2
      · rw [decide_eq_false he] at k2
        rw [decide_eq_false (fun q => he ((str_empty z).mp q))]
        refine iteT ?_
        have zl : z.length ≤ sizeLine := Nat.le_trans (show z.length ≤ 100000 from fit) (by decide)
        have hh : z.cps.toList.head? = some (z.cps.toList.head he) := List.head?_eq_some_head he
        have hl : z.cps.toList.getLast? = some (z.cps.toList.getLast he) := List.getLast?_eq_some_getLast he
        have a0 : atI z.cps.toList 0 = some (z.cps.toList.head he) := atI_nat (j := 0) (by rw [← hh, List.head?_eq_getElem?])
        have a1 : atI z.cps.toList (-1) = some (z.cps.toList.getLast he) := by
          have q := atI_last z.cps.toList.dropLast (z.cps.toList.getLast he)
          rw [List.dropLast_concat_getLast he] at q
          exact q
        rw [hh, hl] at k2
        refine ⟨_, rfl, z, 0, _, rfl, rfl, zl, a0, rfl, _, rfl, ?_⟩
        rw [sign32]
        by_cases c0 : z.cps.toList.head he = 32
        · rw [decide_eq_true c0]
          rw [decide_eq_true (congrArg some c0)] at k2
          exact iteF k2
        · rw [decide_eq_false c0]
          rw [decide_eq_false (fun q => c0 (Option.some.inj q))] at k2
          refine iteT ?_
          refine ⟨_, rfl, _, rfl, z, -1, _, rfl, rfl, zl, a1, rfl, _, rfl, ?_⟩
          rw [sign32]
          by_cases c1 : z.cps.toList.getLast he = 32
          · rw [decide_eq_true c1]
            rw [decide_eq_true (congrArg some c1)] at k2
            exact iteF k2
          · rw [decide_eq_false c1]
            rw [decide_eq_false (fun q => c1 (Option.some.inj q))] at k2
            refine iteT ?_
            exact ⟨_, rfl, 10, z, congrArg V.str (by decide +kernel), rfl, k2⟩
    | int i =>
      rw [show decide (V.int i = V.non) = false from by simp]
      refine iteF ?_
      refine ⟨_, rfl, .int i, .ty "str", _, _, _, rfl, .ty "str", ty_of (.int i), kit_d _ "str" (.inr (.inr (.inl rfl))), _, rfl, ?_⟩
      refine iteF ?_
      refine ⟨_, rfl, .int i, .ty "int", _, _, _, rfl, .ty "int", ty_of (.int i), kit_d _ "int" (.inl rfl), _, rfl, ?_⟩
      refine iteT ?_
      exact ⟨_, rfl, .int i, .ty "bool", _, _, _, rfl, .ty "bool", ty_of (.int i), kit_d _ "bool" (.inr (.inl rfl)), _, rfl, k'⟩
    | bl b =>
      rw [show decide (V.bl b = V.non) = false from by simp]
      refine iteF ?_
      refine ⟨_, rfl, .bl b, .ty "str", _, _, _, rfl, .ty "str", ty_of (.bl b), kit_d _ "str" (.inr (.inr (.inl rfl))), _, rfl, ?_⟩
      refine iteF ?_
      refine ⟨_, rfl, .bl b, .ty "int", _, _, _, rfl, .ty "int", ty_of (.bl b), kit_d _ "int" (.inl rfl), _, rfl, ?_⟩
      refine iteT ?_
      exact ⟨_, rfl, .bl b, .ty "bool", _, _, _, rfl, .ty "bool", ty_of (.bl b), kit_d _ "bool" (.inr (.inl rfl)), _, rfl, k'⟩
    | @dk a y i e =>
      rw [show decide (V.ref a = V.non) = false from by simp]
      refine iteF ?_
      refine ⟨_, rfl, .ref a, .ty "str", _, _, _, rfl, .ty "str", ty_of (.dk y i e), kit_d _ "str" (.inr (.inr (.inl rfl))), _, rfl, ?_⟩
      refine iteF ?_
      refine ⟨_, rfl, .ref a, .ty "int", _, _, _, rfl, .ty "int", ty_of (.dk y i e), kit_d _ "int" (.inl rfl), _, rfl, ?_⟩
      exact iteF k'
    | @d0 a e =>
      rw [show decide (V.ref a = V.non) = false from by simp]
      refine iteF ?_
      refine ⟨_, rfl, .ref a, .ty "str", _, _, _, rfl, .ty "str", ty_of (.d0 e), kit_d _ "str" (.inr (.inr (.inl rfl))), _, rfl, ?_⟩
      refine iteF ?_
      refine ⟨_, rfl, .ref a, .ty "int", _, _, _, rfl, .ty "int", ty_of (.d0 e), kit_d _ "int" (.inl rfl), _, rfl, ?_⟩
      exact iteF k'
    | @lst a ps e p =>
      rw [show decide (V.ref a = V.non) = false from by simp]
      refine iteF ?_
      refine ⟨_, rfl, .ref a, .ty "str", _, _, _, rfl, .ty "str", ty_of (.lst ps e p), kit_d _ "str" (.inr (.inr (.inl rfl))), _, rfl, ?_⟩
      refine iteF ?_
      refine ⟨_, rfl, .ref a, .ty "int", _, _, _, rfl, .ty "int", ty_of (.lst ps e p), kit_d _ "int" (.inl rfl), _, rfl, ?_⟩
      exact iteF k'
    | @tup a ps e p =>
      rw [show decide (V.ref a = V.non) = false from by simp]
      refine iteF ?_
      refine ⟨_, rfl, .ref a, .ty "str", _, _, _, rfl, .ty "str", ty_of (.tup ps e p), kit_d _ "str" (.inr (.inr (.inl rfl))), _, rfl, ?_⟩
      refine iteF ?_
      refine ⟨_, rfl, .ref a, .ty "int", _, _, _, rfl, .ty "int", ty_of (.tup ps e p), kit_d _ "int" (.inl rfl), _, rfl, ?_⟩
      exact iteF k'
end
end K01
set_option Elab.async false
set_option linter.all false
set_option maxRecDepth 100000
set_option maxHeartbeats 4000000
namespace K01
open PySem PySem.Spec PyProof.Rows L2 Bs Xg TL
abbrev sForm : Stmt := top 7
def ordersL : List Str := [Str.ofString "ymd", Str.ofString "dmy", Str.ofString "mdy"]
def formL : List PyData → Bool
  | [.str a] => decide (a = Str.ofString "whole")
  | [.str a, .int i] => decide (a = Str.ofString "amount") && (decide (1 ≤ i) && decide (i ≤ 4))
  | [.str a, .str b] => decide (a = Str.ofString "day") && decide (b ∈ ordersL)
  | _ => false
def formD : PyData → Bool
  | .tuple l => formL l
  | _ => false
section
variable {P : Program} {w : World} {K : PySem.W.Frag} {mg : Str → Option Value} {base : Heap}
theorem form_whole (l : List PyData) : formL (.str (Str.ofString "whole") :: l) = l.isEmpty := by
  match l with
  | [] => decide +kernel
  | [d] =>
    cases d with
    | int i =>
      show (decide (Str.ofString "whole" = Str.ofString "amount") && (decide (1 ≤ i) && decide (i ≤ 4))) = false
      rw [show decide (Str.ofString "whole" = Str.ofString "amount") = false by decide +kernel]
      rfl
    | str b =>
      show (decide (Str.ofString "whole" = Str.ofString "day") && decide (b ∈ ordersL)) = false
      rw [show decide (Str.ofString "whole" = Str.ofString "day") = false by decide +kernel]
      rfl
    | none => rfl
    | bool b => rfl
    | list l => rfl
    | tuple l => rfl
    | dict l => rfl
  | d :: d' :: l => cases d <;> rfl
theorem in_strs (b : Str) : ∀ l : List Str, inV (.str b) (l.map V.str) = decide (b ∈ l)
  | [] => by simp [inV]
  | y :: l => by
    have ih := in_strs b l
    unfold inV at ih ⊢
    rw [List.map_cons, List.any_cons, ih]
    by_cases h : y = b
    · subst h
      simp [eqV]
    · have h2 : ¬ b = y := fun q => h q.symm
      have e : eqV (V.str y) (V.str b) = false := beq_eq_false_iff_ne.mpr h
      rw [e]
      simp [h2]
theorem form_long (z : Str) (d d' : PyData) (l : List PyData) : formL (.str z :: d :: d' :: l) = false := by cases d <;> rfl
theorem lenI (ps : List (V × PyData)) (m : Nat) : (V.int (((ps.map (·.1)).length : Nat) : Int) = V.int (m : Int)) ↔ ps.length = m := by
  constructor
  · intro h
    have z := V.int.inj h
    rw [List.length_map] at z
    omega
  · intro h
    rw [List.length_map, h]
theorem scFo : FnScope ["thing"] ["thing"] (defScope sForm) := ⟨rfl, rfl, rfl, by decide +kernel, rfl, by decide +kernel, by decide +kernel⟩
structure Cst (K : PySem.W.Frag) (mg : Str → Option Value) (o : Addr) : Prop where
  len : mg "len" = none
  mp : ∃ t, mg "MOST_PLACES" = some (.int 4 t)
  go : mg "ORDERS" = some (.ref o)
  so : ∀ H, SqT K H o (ordersL.map V.str)
theorem ok_form {f fW o : Addr} {fd dW : FuncData} (F : Fun K "is_form" "is_form" sForm f fd) (T : Isi mg) (Z : Cst K mg o) (FW : Fun K "is_whole" "is_whole" sWhole fW dW) (bW : Binds K dW ["thing"] []) (gW : mg "is_whole" = some (.ref fW)) :
    FnOk P w K mg base CX0 2 f fd ["thing"] (spD formD K fun _ => True) := by
  have GW : FnOk P w K mg base CX0 1 fW dW ["thing"] (spD wholeD K fun _ => True) := ok_whole FW T
  obtain ⟨tm, gm⟩ := Z.mp
  refine F.ok scFo (fun vs H Q E h => ?_) (fun cdv A outer s H vs Q E hr h => ?_)
  · obtain ⟨x, d, rfl, _⟩ := h
    rfl
  · obtain ⟨x, d, rfl, dq, _, k⟩ := h
    refine ⟨_, pss_cons (ps_if (PW.pt (pw_or (pt_not (pt_val (pe_callB call_isi (by rfl) T.i (by decide +kernel) (pa_cons (pv 0) (pa_cons (pe_bltn rfl T.tuple (v := V.ty "tuple") (by decide +kernel) rfl) pa_nil)))))
          (pw_or (pt_cmpR op_eq (pe_callB call_len_seq (by rfl) Z.len PySem.boot_len (pa_cons (pv 0) pa_nil)) pe_int (nomark _)) (pw_or1 (pt_not (pt_val (pe_callB call_isi (by rfl) T.i (by decide +kernel) (pa_cons (pe_ix ix_tup (pv 0) pe_int (fun _ _ => rfl)) (pa_cons (pe_bltn rfl T.str (v := V.ty "str") (by decide +kernel) rfl) pa_nil)))))))))
        (pss_one (ps_ret pe_bl)) pss_nil)
      (pss_cons (ps_if (pt_cmpR op_eq (pe_ix ix_tup (pv 0) pe_int (fun _ _ => rfl)) pe_str (nomark _)) (pss_one (ps_ret (pe_cmpR op_eq (pe_callB call_len_seq (by rfl) Z.len PySem.boot_len (pa_cons (pv 0) pa_nil)) pe_int (nomark _)))) pss_nil)
      (pss_cons (ps_if (pt_cmpR op_ne (pe_callB call_len_seq (by rfl) Z.len PySem.boot_len (pa_cons (pv 0) pa_nil)) pe_int (nomark _)) (pss_one (ps_ret pe_bl)) pss_nil)
      (pss_cons (ps_if (pt_cmpR op_eq (pe_ix ix_tup (pv 0) pe_int (fun _ _ => rfl)) pe_str (nomark _)) (pss_one (ps_ret (pe_and (pe_call GW hr (by rfl) gW FW.kp bW .nil pass0 (pa_cons (pe_ix ix_tup (pv 0) pe_int (fun _ _ => rfl)) pa_nil)) (pe_one (pe_chain op_le op_le pe_int (pe_ix ix_tup (pv 0) pe_int (fun _ _ => rfl)) (pe_glob (v := V.int 4) rfl gm ⟨_, rfl⟩)))))) pss_nil)
      (pss_one (ps_ret (pe_and (pe_cmpR op_eq (pe_ix ix_tup (pv 0) pe_int (fun _ _ => rfl)) pe_str (nomark _)) (pe_and (pe_callB call_isi (by rfl) T.i (by decide +kernel) (pa_cons (pe_ix ix_tup (pv 0) pe_int (fun _ _ => rfl)) (pa_cons (pe_bltn rfl T.str (v := V.ty "str") (by decide +kernel) rfl) pa_nil))) (pe_one (pe_cmpR op_in_seq (pe_ix ix_tup (pv 0) pe_int (fun _ _ => rfl)) (pe_glob (v := V.ref o) rfl Z.go rfl) rfl)))))))))
      , ?_⟩
    have k' := k H (Same.refl _)
    refine ⟨_, rfl, x, .ty "tuple", _, _, _, rfl, .ty "tuple", ty_of dq, kit_d d "tuple" (.inr (.inr (.inr rfl))), _, rfl, ?_⟩
    cases dq with
    | non => exact iteT (iteT k')
    | bl b => exact iteT (iteT k')
    | int i => exact iteT (iteT k')
    | str z => exact iteT (iteT k')
    | dk y i e => exact iteT (iteT k')
    | d0 e => exact iteT (iteT k')
    | lst ps e p => exact iteT (iteT k')
    | @tup a ps e p =>
      refine iteF ?_
      refine ⟨_, rfl, a, _, rfl, .inr e, rfl, _, rfl, ?_⟩
      match ps, e, p, k' with
      | [], e, p, k' =>
        refine ite2 (fun _ => iteT k') (fun q => absurd (decide_eq_true ((lenI [] 0).mpr rfl)) q)
      | p0 :: r, e, p, k' =>
        refine ite2 (fun q => absurd ((lenI (p0 :: r) 0).mp (of_decide_eq_true q)) (by simp)) (fun _ => ?_)
        have at0 : atI ((p0 :: r).map (·.1)) 0 = some p0.1 := atI_nat (j := 0) rfl
        have d0 := p p0 List.mem_cons_self
        refine ⟨_, rfl, a, _, 0, p0.1, rfl, rfl, e, at0, p0.1, .ty "str", _, _, _, rfl, .ty "str", ty_of d0, kit_d p0.2 "str" (.inr (.inr (.inl rfl))), _, rfl, ?_⟩
        have k2 : Q (.bl (formL (p0.2 :: r.map (·.2)))) H := k'
        obtain ⟨v0, e0⟩ := p0
        dsimp only at d0 at0 k2 e ⊢
        cases d0 with
        | non => exact iteT k2
        | bl b => exact iteT k2
        | int i => exact iteT k2
        | dk y i e => exact iteT k2
        | d0 e => exact iteT k2
        | lst ps e p => exact iteT k2
        | tup ps e p => exact iteT k2
        | str z =>
          refine iteF ?_
          refine ⟨_, rfl, a, _, 0, _, rfl, rfl, e, at0, rfl, _, rfl, ?_⟩
          by_cases hw : z = Str.ofString "whole"
          · subst hw
            rw [decide_eq_true rfl]
            refine iteT ?_
            refine ⟨_, rfl, a, _, rfl, .inr e, rfl, ?_⟩
            rw [form_whole] at k2
            match r, e, k2 with
            | [], e, k2 => exact k2
            | p1 :: r, e, k2 =>
              have n : decide (V.int (((((V.str (Str.ofString "whole"), PyData.str (Str.ofString "whole")) :: p1 :: r).map (·.1)).length : Nat) : Int) = V.int 1) = false := decide_eq_false fun q => absurd ((lenI _ 1).mp q) (by simp)
              show Q (.bl (decide (V.int (((((V.str (Str.ofString "whole"), PyData.str (Str.ofString "whole")) :: p1 :: r).map (·.1)).length : Nat) : Int) = V.int 1))) H
              rw [n]
              exact k2
          · rw [decide_eq_false (fun q => hw (V.str.inj q))]
            refine iteF ?_
            refine ⟨_, rfl, a, _, rfl, .inr e, rfl, _, rfl, ?_⟩
            match r, e, p, k2, at0 with
            | [], e, p, k2, at0 =>
              rw [show formL (PyData.str z :: List.map (·.2) ([] : List (V × PyData))) = false from decide_eq_false hw] at k2
              refine ite2 (fun _ => k2) (fun q => absurd ?_ q)
              have n : decide (V.int (((([(V.str z, PyData.str z)] : List (V × PyData)).map (·.1)).length : Nat) : Int) = V.int 2) = false := decide_eq_false fun q => absurd ((lenI _ 2).mp q) (by simp)
              show (!decide (V.int (((([(V.str z, PyData.str z)] : List (V × PyData)).map (·.1)).length : Nat) : Int) = V.int 2)) = true
              rw [n]
              rfl
            | p1 :: p2 :: r, e, p, k2, at0 =>
              rw [show formL (PyData.str z :: List.map (·.2) (p1 :: p2 :: r)) = false from form_long z p1.2 p2.2 _] at k2
              refine ite2 (fun _ => k2) (fun q => absurd ?_ q)
              have n : decide (V.int ((((((V.str z, PyData.str z) :: p1 :: p2 :: r) : List (V × PyData)).map (·.1)).length : Nat) : Int) = V.int 2) = false := decide_eq_false fun q => absurd ((lenI _ 2).mp q) (by simp)
              show (!decide (V.int ((((((V.str z, PyData.str z) :: p1 :: p2 :: r) : List (V × PyData)).map (·.1)).length : Nat) : Int) = V.int 2)) = true
              rw [n]
              rfl
            | [p1], e, p, k2, at0 =>
              refine iteF ?_
              have at1 : atI ([(V.str z, PyData.str z), p1].map (·.1)) 1 = some p1.1 := atI_nat (j := 1) rfl
              have d1 := p p1 (by simp)
              obtain ⟨v1, e1⟩ := p1
              dsimp only at d1 at1 k2 e ⊢
              refine ⟨_, rfl, a, _, 0, _, rfl, rfl, e, at0, rfl, _, rfl, ?_⟩
              by_cases ha : z = Str.ofString "amount"
              · rw [decide_eq_true (congrArg V.str ha)]
                refine iteT ?_
                refine ⟨_, rfl, a, _, 1, v1, rfl, rfl, e, at1, v1, e1, rfl, d1, True.intro, fun H' s => ⟨_, rfl, ?_⟩⟩
                have kk : Q (.bl (formL [.str z, e1])) H' := k H' s
                cases d1 with
                | int i =>
                  refine iteT ?_
                  have kf : Q (.bl (decide (z = Str.ofString "amount") && (decide (1 ≤ i) && decide (i ≤ 4)))) H' := kk
                  rw [decide_eq_true ha] at kf
                  refine ⟨_, rfl, a, _, 1, _, rfl, rfl, sameT s e, at1, _, _, rfl, rfl, _, rfl, ?_⟩
                  by_cases c : (1 : Int) ≤ i
                  · rw [decide_eq_true c] at kf ⊢
                    refine iteT ?_
                    exact ⟨_, _, rfl, rfl, kf⟩
                  · rw [decide_eq_false c] at kf ⊢
                    exact iteF kf
                | non => exact iteF kk
                | bl b => exact iteF kk
                | str b =>
                  have kf : Q (.bl (decide (z = Str.ofString "day") && decide (b ∈ ordersL))) H' := kk
                  rw [ha, show decide (Str.ofString "amount" = Str.ofString "day") = false by decide +kernel] at kf
                  exact iteF kf
                | dk y i e => exact iteF kk
                | d0 e => exact iteF kk
                | lst ps e p => exact iteF kk
                | tup ps e p => exact iteF kk
              · rw [decide_eq_false (fun q => ha (V.str.inj q))]
                refine iteF ?_
                refine ⟨_, rfl, a, _, 0, _, rfl, rfl, e, at0, rfl, _, rfl, ?_⟩
                have kk : Q (.bl (formL [.str z, e1])) H := k2
                by_cases hd : z = Str.ofString "day"
                · rw [decide_eq_true (congrArg V.str hd)]
                  refine iteT ?_
                  refine ⟨_, rfl, a, _, 1, v1, rfl, rfl, e, at1, v1, .ty "str", _, _, _, rfl, .ty "str", ty_of d1, kit_d e1 "str" (.inr (.inr (.inl rfl))), _, rfl, ?_⟩
                  cases d1 with
                  | str b =>
                    refine iteT ?_
                    have kf : Q (.bl (decide (z = Str.ofString "day") && decide (b ∈ ordersL))) H := kk
                    rw [decide_eq_true hd, ← in_strs] at kf
                    exact ⟨_, rfl, a, _, 1, _, rfl, rfl, e, at1, o, _, rfl, .inr (Z.so H), rfl, rfl, kf⟩
                  | int i =>
                    have kf : Q (.bl (decide (z = Str.ofString "amount") && (decide (1 ≤ i) && decide (i ≤ 4)))) H := kk
                    rw [decide_eq_false ha] at kf
                    exact iteF kf
                  | non => exact iteF kk
                  | bl b => exact iteF kk
                  | dk y i e => exact iteF kk
                  | d0 e => exact iteF kk
                  | lst ps e p => exact iteF kk
                  | tup ps e p => exact iteF kk
                · rw [decide_eq_false (fun q => hd (V.str.inj q))]
                  have nf : formL [.str z, e1] = false := by
                    cases e1 with
                    | int i =>
                      show (decide (z = Str.ofString "amount") && (decide (1 ≤ i) && decide (i ≤ 4))) = false
                      rw [decide_eq_false ha]
                      rfl
                    | str b =>
                      show (decide (z = Str.ofString "day") && decide (b ∈ ordersL)) = false
                      rw [decide_eq_false hd]
                      rfl
                    | none => rfl
                    | bool b => rfl
                    | list l => rfl
                    | tuple l => rfl
                    | dict l => rfl
                  rw [nf] at kk
                  exact iteF kk
end
end K01
set_option Elab.async false
set_option linter.all false
set_option maxRecDepth 100000
set_option maxHeartbeats 4000000
namespace K01
open PySem PySem.Spec PyProof.Rows L2 Bs Xg TL
abbrev sRank : Stmt := top 3
abbrev sOne : Stmt := top 21
section
variable {P : Program} {w : World} {K : PySem.W.Frag} {mg : Str → Option Value} {base : Heap}
/-- what a worth is sorted by -/
def rankL (x : V) : List V := if x = .non then [.int 0, .int 0] else [.int 1, x]
def spRank : Sp := fun vs H Q _ => ∃ x : V, vs = [x] ∧ ∀ p, H p = none → Q (.ref p) (upd H p (.tup (rankL x)))
theorem scRk : FnScope ["worth"] ["worth"] (defScope sRank) := ⟨rfl, rfl, rfl, by decide +kernel, rfl, by decide +kernel, by decide +kernel⟩
theorem ok_rank {f : Addr} {fd : FuncData} (F : Fun K "rank" "rank" sRank f fd) : FnOk P w K mg base CX0 1 f fd ["worth"] spRank := by
  refine F.ok scRk (fun vs H Q E h => ?_) (fun cdv A outer s H vs Q E hr h => ?_)
  · obtain ⟨x, rfl, _⟩ := h
    rfl
  · obtain ⟨x, rfl, k⟩ := h
    refine ⟨_, pss_cons (ps_if (pt_cmpR op_isN (pv 0) pe_non (nomark _)) (pss_one (ps_ret (pe_tup (pa_cons pe_int (pa_cons pe_int pa_nil))))) pss_nil) (pss_one (ps_ret (pe_tup (pa_cons pe_int (pa_cons (pv 0) pa_nil))))), ?_⟩
    refine ⟨_, rfl, rfl, _, rfl, ?_⟩
    unfold rankL at k
    by_cases hx : x = .non
    · rw [decide_eq_true hx]
      rw [if_pos hx] at k
      refine iteT ?_
      exact ⟨(by show 2 ≤ sizeLine; decide), k⟩
    · rw [decide_eq_false hx]
      rw [if_neg hx] at k
      refine iteF ?_
      exact ⟨_, rfl, (by show 2 ≤ sizeLine; decide), k⟩
/-- one of these signs, of anything -/
def oneD (l : List Str) : PyData → Bool
  | .str z => decide (z ∈ l)
  | _ => false
def spOne (K : PySem.W.Frag) : Sp := fun vs H Q _ => ∃ (x : V) (d : PyData) (t : Addr) (l : List Str), vs = [x, .ref t] ∧ Dq K H x d ∧ SqT K H t (l.map V.str) ∧ Q (.bl (oneD l d)) H
theorem scOn : FnScope ["thing", "signs"] ["thing", "signs"] (defScope sOne) := ⟨rfl, rfl, rfl, by decide +kernel, rfl, by decide +kernel, by decide +kernel⟩
theorem flat_strs : ∀ l : List Str, (l.map V.str).all flatV = true
  | [] => rfl
  | _ :: l => by
    rw [List.map_cons, List.all_cons, flat_strs l]
    rfl
theorem ok_one {f : Addr} {fd : FuncData} (F : Fun K "is_one_of" "is_one_of" sOne f fd) (T : Isi mg) : FnOk P w K mg base CX0 1 f fd ["thing", "signs"] (spOne K) := by
  refine F.ok scOn (fun vs H Q E h => ?_) (fun cdv A outer s H vs Q E hr h => ?_)
  · obtain ⟨x, d, t, l, rfl, _⟩ := h
    rfl
  · obtain ⟨x, d, t, l, rfl, dq, st, k⟩ := h
    refine ⟨_, pss_one (ps_ret (pe_and (pe_callB call_isi (by rfl) T.i (by decide +kernel) (pa_cons (pv 0) (pa_cons (pe_bltn rfl T.str (v := V.ty "str") (by decide +kernel) rfl) pa_nil))) (pe_one (pe_cmpR op_in_seq (pv 0) (pv 1) rfl)))), ?_⟩
    refine ⟨_, rfl, x, .ty "str", _, _, _, rfl, .ty "str", ty_of dq, kit_d d "str" (.inr (.inr (.inl rfl))), _, rfl, ?_⟩
    cases dq with
    | str z =>
      refine iteT ?_
      have kf : Q (.bl (decide (z ∈ l))) H := k
      rw [← in_strs] at kf
      exact ⟨_, rfl, _, rfl, t, _, rfl, .inr st, rfl, flat_strs l, kf⟩
    | non => exact iteF k
    | bl b => exact iteF k
    | int i => exact iteF k
    | dk y i e => exact iteF k
    | d0 e => exact iteF k
    | lst ps e p => exact iteF k
    | tup ps e p => exact iteF k
end
end K01
set_option Elab.async false
set_option linter.all false
set_option maxRecDepth 100000
set_option maxHeartbeats 4000000
namespace K01
open PySem PySem.Spec PyProof.Rows L2 Bs Xg TL
abbrev sWid : Stmt := top 22
section
variable {P : Program} {w : World} {K : PySem.W.Frag} {mg : Str → Option Value} {base : Heap}
def widOne : PyData → Bool
  | .int i => decide (1 ≤ i) && decide (i ≤ 20)
  | _ => false
def widD (m : Nat) : PyData → Bool
  | .tuple l => decide (l.length = m) && l.all widOne
  | _ => false
def spWid (K : PySem.W.Frag) : Sp := fun vs H Q _ => ∃ (x : V) (d : PyData) (m : Nat), vs = [x, .int (m : Int)] ∧ Dq K H x d ∧ m ≤ 1000 ∧ ∀ H', Same H H' → Q (.bl (widD m d)) H'
abbrev nWi : List Str := ["thing", "many", "width"]
theorem scWi : FnScope nWi ["thing", "many"] (defScope sWid) := ⟨rfl, rfl, rfl, by decide +kernel, rfl, by decide +kernel, by decide +kernel⟩
theorem ok_wid {f fW : Addr} {fd dW : FuncData} (F : Fun K "are_widths" "are_widths" sWid f fd) (T : Isi mg) (len : mg "len" = none) (al : mg "all" = none) (gm : ∃ t, mg "WIDEST" = some (.int 20 t)) (FW : Fun K "is_whole" "is_whole" sWhole fW dW) (bW : Binds K dW ["thing"] []) (gW : mg "is_whole" = some (.ref fW)) :
    FnOk P w K mg base CX0 2 f fd ["thing", "many"] (spWid K) := by
  have GW : FnOk P w K mg base CX0 1 fW dW ["thing"] (spD wholeD K fun _ => True) := ok_whole FW T
  obtain ⟨tm, gm⟩ := gm
  refine F.ok scWi (fun vs H Q E h => ?_) (fun cdv A outer s H vs Q E hr h => ?_)
  · obtain ⟨x, d, m, rfl, _⟩ := h
    rfl
  · obtain ⟨x, d, m, rfl, dq, mb, k⟩ := h
    refine ⟨_, pss_cons (ps_if (PW.pt (pw_or (pt_not (pt_val (pe_callB call_isi (by rfl) T.i (by decide +kernel) (pa_cons (pv 0) (pa_cons (pe_bltn rfl T.tuple (v := V.ty "tuple") (by decide +kernel) rfl) pa_nil)))))
          (pw_or1 (pt_cmpR op_ne (pe_callB call_len_seq (by rfl) len PySem.boot_len (pa_cons (pv 0) pa_nil)) (pv 1) (nomark _))))) (pss_one (ps_ret pe_bl)) pss_nil)
      (pss_one (ps_ret (pe_callB (cr_all rfl) (by rfl) al (by decide +kernel) (pa_cons (pe_lc (own := [("width", 2)]) (g := gName 2) (tt := tYes) rfl scWi.nd (pi_tup (pv 0)) (blkOk_by (N := nWi) (sc := defScope sWid) (by decide +kernel)) (fun _ _ _ _ _ => pg_name (i := 2) scWi.nd rfl (Or.inl rfl)) (fun _ _ _ _ _ => pts_nil)
        (fun _ _ _ _ _ => pe_and (pe_call GW hr (by rfl) gW FW.kp bW .nil pass0 (pa_cons (pv 2) pa_nil)) (pe_one (pe_chain op_le op_le pe_int (pv 2) (pe_glob (v := V.int 20) rfl gm ⟨_, rfl⟩))))) pa_nil)))), ?_⟩
    have k' := k H (Same.refl _)
    refine ⟨_, rfl, x, .ty "tuple", _, _, _, rfl, .ty "tuple", ty_of dq, kit_d d "tuple" (.inr (.inr (.inr rfl))), _, rfl, ?_⟩
    cases dq with
    | non => exact iteT (iteT k')
    | bl b => exact iteT (iteT k')
    | int i => exact iteT (iteT k')
    | str z => exact iteT (iteT k')
    | dk y i e => exact iteT (iteT k')
    | d0 e => exact iteT (iteT k')
    | lst ps e p => exact iteT (iteT k')
    | @tup a ps e p =>
      refine iteF ?_
      refine ⟨_, rfl, a, _, rfl, .inr e, _, rfl, rfl, _, rfl, ?_⟩
      have ln := lenI ps m
      by_cases hm : ps.length = m
      · rw [decide_eq_true (ln.mpr hm)]
        refine iteF ?_
        refine ⟨_, rfl, a, rfl, ⟨_, e⟩, fun D nD => lc_it (walk_tup (K := K) (a := a) (xs := ps.map (fun q : V × PyData => q.1))) (fun i G => Same H G ∧ G D = some (.lst ((((ps.take i).map fun q => widOne q.2)).map V.bl))) ⟨Same.new nD, upd_same⟩ (fun i G _ pv => sameT (K := K) pv.1 e) ?_ ?_⟩
        · rintro i v G G' hi ⟨sG, eD⟩ ⟨rfl, hv⟩
          rw [List.getElem?_map] at hv
          rw [List.length_map] at hi
          obtain ⟨q, hq, rfl⟩ : ∃ q, ps[i]? = some q ∧ v = q.1 := by
            cases hh : ps[i]? with
            | none =>
              rw [hh] at hv
              cases hv
            | some q =>
              rw [hh] at hv
              cases hv
              exact ⟨q, rfl, rfl⟩
          have dqq := (p q (List.mem_of_getElem? hq)).same sG
          have tk : ps.take (i + 1) = ps.take i ++ [q] := by rw [List.take_succ, hq]; rfl
          have step : ∀ G2 b, Same G' G2 → b = widOne q.2 → ∃ acc, G2 D = some (.lst acc) ∧ acc.length < sizeLine ∧ (Same H (upd G2 D (.lst (acc ++ [V.bl b]))) ∧ upd G2 D (.lst (acc ++ [V.bl b])) D = some (.lst ((((ps.take (i + 1)).map fun q => widOne q.2)).map V.bl))) := by
            rintro G2 b s2 rfl
            refine ⟨_, s2 _ _ eD, ?_, fun b o eo => ?_, ?_⟩
            · rw [List.length_map, List.length_map, List.length_take, sizeLine_eq]
              omega
            · rw [upd_ne (ne_of_none eo nD)]
              exact s2 _ _ (sG b o eo)
            · rw [upd_same, tk, List.map_append, List.map_append]
              rfl
          refine ⟨rfl, yes ?_⟩
          refine ⟨_, rfl, q.1, q.2, rfl, dqq, True.intro, fun G2 s2 => ⟨_, rfl, ?_⟩⟩
          obtain ⟨v1, d1⟩ := q
          dsimp only at dqq step ⊢
          cases dqq with
          | int i1 =>
            refine iteT ?_
            refine ⟨_, rfl, _, _, rfl, rfl, _, rfl, ?_⟩
            by_cases c : (1 : Int) ≤ i1
            · rw [decide_eq_true c]
              refine iteT ?_
              exact ⟨_, _, rfl, rfl, step G2 _ s2 (by simp [widOne, c])⟩
            · rw [decide_eq_false c]
              refine iteF ?_
              exact step G2 _ s2 (by simp [widOne, c])
          | non => exact iteF (step G2 _ s2 rfl)
          | bl b => exact iteF (step G2 _ s2 rfl)
          | str b => exact iteF (step G2 _ s2 rfl)
          | dk y i e => exact iteF (step G2 _ s2 rfl)
          | d0 e => exact iteF (step G2 _ s2 rfl)
          | lst ps e p => exact iteF (step G2 _ s2 rfl)
          | tup ps e p => exact iteF (step G2 _ s2 rfl)
        · rintro G ⟨sG, eD⟩
          rw [List.length_map, List.take_length] at eD
          refine ⟨D, _, rfl, SqL.of eD, ?_⟩
          have kk : Q (.bl (decide ((ps.map (·.2)).length = m) && (ps.map (·.2)).all widOne)) G := k G sG
          rw [List.length_map, decide_eq_true hm, List.all_map] at kk
          rw [List.all_map]
          exact kk
      · rw [decide_eq_false (fun q => hm (ln.mp q))]
        refine iteT ?_
        have kk : Q (.bl (decide ((ps.map (·.2)).length = m) && (ps.map (·.2)).all widOne)) H := k'
        rw [List.length_map, decide_eq_false hm] at kk
        exact kk
end
end K01
set_option Elab.async false
set_option linter.all false
set_option maxRecDepth 100000
set_option maxHeartbeats 4000000
namespace K01
open PySem PySem.Spec PyProof.Rows L2 Bs Xg TL
abbrev sName : Stmt := top 10
def lowc (c : Nat) : Bool := decide (97 ≤ c) && decide (c ≤ 122)
theorem tab128 : ∀ c < 128, Unicode.isAlpha c = (lowc c || (decide (65 ≤ c) && decide (c ≤ 90))) ∧ Unicode.isLower c = lowc c ∧ (Unicode.isUpper c || Unicode.isTitle c) = (decide (65 ≤ c) && decide (c ≤ 90)) := by decide +kernel
/-- a NAME -/
def nameS (z : Str) : Bool := decide (z.length ≤ 8) && (decide (0 < z.length) && z.cps.toList.all lowc)
def nameD : PyData → Bool
  | .str z => nameS z
  | _ => false
theorem name_own (z : Str) : (Txt.isascii z && (Txt.isalpha z && Txt.islower z)) = (decide (0 < z.length) && z.cps.toList.all lowc) := by
  have zl : z.length = z.cps.toList.length := by simp [Str.length]
  unfold Txt.isascii Txt.isalpha Txt.islower
  rw [zl, ← Array.all_toList, ← Array.all_toList, ← Array.any_toList, ← Array.any_toList]
  generalize z.cps.toList = l
  by_cases h : l.all lowc = true
  · have lt : ∀ c ∈ l, c < 128 ∧ lowc c = true := by
      intro c hc
      have q := List.all_eq_true.mp h c hc
      refine ⟨?_, q⟩
      unfold lowc at q
      simp only [Bool.and_eq_true, decide_eq_true_eq] at q
      omega
    rw [h]
    have a1 : (l.all fun x => decide (x < 128)) = true := List.all_eq_true.mpr fun c hc => decide_eq_true (lt c hc).1
    have a2 : l.all Unicode.isAlpha = true := List.all_eq_true.mpr fun c hc => by
      rw [(tab128 c (lt c hc).1).1, (lt c hc).2]
      rfl
    have a3 : (l.any fun c => Unicode.isUpper c || Unicode.isTitle c) = false := by
      rw [List.any_eq_false]
      intro c hc
      rw [(tab128 c (lt c hc).1).2.2]
      have q := (lt c hc).2
      unfold lowc at q
      simp only [Bool.and_eq_true, decide_eq_true_eq] at q ⊢
      omega
    rw [a1, a2, a3]
    cases l with
    | nil => rfl
    | cons c r =>
      have a4 : (c :: r).any Unicode.isLower = true := by
        rw [List.any_cons, (tab128 c (lt c List.mem_cons_self).1).2.1, (lt c List.mem_cons_self).2]
        rfl
      rw [a4]
      simp
  · have h' : l.all lowc = false := by simpa using h
    rw [h', Bool.and_false]
    by_cases a1 : (l.all fun x => decide (x < 128)) = true
    · rw [a1]
      by_cases a2 : l.all Unicode.isAlpha = true
      · rw [a2]
        have up : (l.any fun c => Unicode.isUpper c || Unicode.isTitle c) = true := by
          obtain ⟨c, hc, nc⟩ : ∃ c ∈ l, lowc c = false := by
            have q := List.all_eq_false.mp h'
            obtain ⟨c, hc, q⟩ := q
            exact ⟨c, hc, by simpa using q⟩
          have lt : c < 128 := of_decide_eq_true (List.all_eq_true.mp a1 c hc)
          have al := List.all_eq_true.mp a2 c hc
          rw [(tab128 c lt).1, nc, Bool.false_or] at al
          exact List.any_eq_true.mpr ⟨c, hc, by rw [(tab128 c lt).2.2]; exact al⟩
        rw [up]
        simp
      · have a2' : l.all Unicode.isAlpha = false := by simpa using a2
        rw [a2']
        simp
    · have a1' : (l.all fun x => decide (x < 128)) = false := by simpa using a1
      rw [a1']
      rfl
section
variable {P : Program} {w : World} {K : PySem.W.Frag} {mg : Str → Option Value} {base : Heap}
theorem scNa : FnScope ["thing"] ["thing"] (defScope sName) := ⟨rfl, rfl, rfl, by decide +kernel, rfl, by decide +kernel, by decide +kernel⟩
theorem ok_name {f : Addr} {fd : FuncData} (F : Fun K "is_name" "is_name" sName f fd) (T : Isi mg) (len : mg "len" = none) (gl : ∃ t, mg "LONGEST" = some (.int 8 t)) : FnOk P w K mg base CX0 1 f fd ["thing"] (spD nameD K fitD) := by
  obtain ⟨tl, gl⟩ := gl
  refine F.ok scNa (fun vs H Q E h => ?_) (fun cdv A outer s H vs Q E hr h => ?_)
  · obtain ⟨x, d, rfl, _⟩ := h
    rfl
  · obtain ⟨x, d, rfl, dq, fit, k⟩ := h
    refine ⟨_, pss_cons (ps_if (PW.pt (pw_or (pt_not (pt_val (pe_callB call_isi (by rfl) T.i (by decide +kernel) (pa_cons (pv 0) (pa_cons (pe_bltn rfl T.str (v := V.ty "str") (by decide +kernel) rfl) pa_nil)))))
          (pw_or1 (pt_cmpR op_gt (pe_callB call_len_str (by rfl) len PySem.boot_len (pa_cons (pv 0) pa_nil)) (pe_glob (v := V.int 8) rfl gl ⟨_, rfl⟩) (nomark _))))) (pss_one (ps_ret pe_bl)) pss_nil)
      (pss_one (ps_ret (pe_and (pe_bm0 PySem.F.plainAttrs_str PySem.F.slot_str_isascii PySem.F.type_str_isascii mt_isascii (pv 0)) (pe_and (pe_bm0 PySem.F.plainAttrs_str PySem.F.slot_str_isalpha PySem.F.type_str_isalpha mt_isalpha (pv 0)) (pe_one (pe_bm0 PySem.F.plainAttrs_str PySem.F.slot_str_islower PySem.F.type_str_islower mt_islower (pv 0))))))), ?_⟩
    have k' := k H (Same.refl _)
    refine ⟨_, rfl, x, .ty "str", _, _, _, rfl, .ty "str", ty_of dq, kit_d d "str" (.inr (.inr (.inl rfl))), _, rfl, ?_⟩
    cases dq with
    | non => exact iteT (iteT k')
    | bl b => exact iteT (iteT k')
    | int i => exact iteT (iteT k')
    | dk y i e => exact iteT (iteT k')
    | d0 e => exact iteT (iteT k')
    | lst ps e p => exact iteT (iteT k')
    | tup ps e p => exact iteT (iteT k')
    | str z =>
      refine iteF ?_
      have zl : z.length ≤ sizeLine := Nat.le_trans (show z.length ≤ 100000 from fit) (by decide)
      have kk : Q (.bl (nameS z)) H := k'
      unfold nameS at kk
      rw [← name_own] at kk
      refine ⟨_, rfl, z, rfl, zl, _, _, rfl, rfl, _, rfl, ?_⟩
      by_cases c : (8 : Int) < (z.length : Nat)
      · have n : ¬ z.length ≤ 8 := by omega
        rw [decide_eq_true c]
        rw [decide_eq_false n] at kk
        exact iteT kk
      · have n : z.length ≤ 8 := by omega
        rw [decide_eq_false c]
        rw [decide_eq_true n, Bool.true_and] at kk
        refine iteF ?_
        refine ⟨_, rfl, rfl, z, rfl, rfl, True.intro, _, rfl, ?_⟩
        cases h1 : Txt.isascii z with
        | false =>
          rw [h1] at kk
          exact iteF kk
        | true =>
          rw [h1, Bool.true_and] at kk
          refine iteT ?_
          refine ⟨_, rfl, rfl, z, rfl, rfl, True.intro, _, rfl, ?_⟩
          cases h2 : Txt.isalpha z with
          | false =>
            rw [h2] at kk
            exact iteF kk
          | true =>
            rw [h2, Bool.true_and] at kk
            refine iteT ?_
            exact ⟨_, rfl, rfl, z, rfl, rfl, True.intro, kk⟩
end
end K01
set_option Elab.async false
set_option linter.all false
set_option maxRecDepth 100000
set_option maxHeartbeats 4000000
namespace K01
open PySem PySem.Spec PyProof.Rows L2 Bs Xg TL
/-! ### what is shown tells what it is shown of: texts, ints, pairs -/
abbrev rC := Builtin.Str.reprChar
theorem rc_kind (q c : Nat) : (rC q c = [c] ∧ c ≠ q ∧ c ≠ 92) ∨ ∃ r, rC q c = 92 :: r := by
  unfold rC Builtin.Str.reprChar
  dsimp only
  by_cases h : (c == q || c == 92) = true
  · rw [if_pos h]
    exact .inr ⟨_, rfl⟩
  · rw [if_neg h]
    have h' : ¬ (c = q ∨ c = 92) := by simpa using h
    split
    · exact .inr ⟨_, rfl⟩
    · split
      · exact .inr ⟨_, rfl⟩
      · split
        · exact .inr ⟨_, rfl⟩
        · split
          · exact .inl ⟨rfl, fun e => h' (.inl e), fun e => h' (.inr e)⟩
          · split
            · exact .inr ⟨_, rfl⟩
            · split
              · exact .inr ⟨_, rfl⟩
              · exact .inr ⟨_, rfl⟩
theorem fold_repr (q : Nat) : ∀ (l : List Nat) (acc : Array Nat), (l.foldl (fun out c => out ++ (rC q c).toArray) acc).toList = acc.toList ++ l.flatMap (rC q)
  | [], acc => by simp
  | c :: l, acc => by
    rw [List.foldl_cons, fold_repr q l]
    simp
theorem tl_repr (z : Str) : tl (reprText z) = reprQuote z :: (tl z).flatMap (rC (reprQuote z)) ++ [reprQuote z] := by
  show (reprText z).cps.toList = _
  unfold reprText
  show (Array.push _ _).toList = _
  rw [Array.toList_push, ← Array.foldl_toList, fold_repr]
  rfl
theorem quote_two (z : Str) : reprQuote z = 34 ∨ reprQuote z = 39 := by
  unfold reprQuote
  split
  · exact .inl rfl
  · exact .inr rfl
theorem pre_repr (q : Nat) (hq : q ≠ 92) (r r' : List Nat) : ∀ (l w : List Nat), (∀ c ∈ w, c ≠ q ∧ c ≠ 92) → l.flatMap (rC q) ++ q :: r = w ++ q :: r' → l = w ∧ r = r'
  | [], [], _, h => ⟨rfl, by simpa using h⟩
  | [], c :: w, hw, h => by
    have e : q = c := by
      have := congrArg List.head? h
      simpa using this
    exact absurd e.symm (hw c List.mem_cons_self).1
  | c :: l, w, hw, h => by
    rw [List.flatMap_cons, List.append_assoc] at h
    rcases rc_kind q c with ⟨e, n1, n2⟩ | ⟨u, e⟩
    · rw [e] at h
      cases w with
      | nil =>
        have e : c = q := by
          have := congrArg List.head? h
          simpa using this
        exact absurd e n1
      | cons c' w =>
        have e1 : c = c' := by
          have := congrArg List.head? h
          simpa using this
        have e2 : l.flatMap (rC q) ++ q :: r = w ++ q :: r' := by
          have := congrArg List.tail h
          simpa using this
        obtain ⟨e3, e4⟩ := pre_repr q hq r r' l w (fun x hx => hw x (List.mem_cons_of_mem _ hx)) e2
        exact ⟨by rw [e1, e3], e4⟩
    · rw [e] at h
      cases w with
      | nil =>
        have e : 92 = q := by
          have := congrArg List.head? h
          simpa using this
        exact absurd e.symm hq
      | cons c' w =>
        have e : 92 = c' := by
          have := congrArg List.head? h
          simpa using this
        exact absurd e.symm (hw c' List.mem_cons_self).2
/-- a text's repr ahead of anything -/
theorem str_pre {z : Str} {q : Nat} {w r r' : List Nat} (hq : q ≠ 92) (hw : ∀ c ∈ w, c ≠ q ∧ c ≠ 92) (h : tl (reprText z) ++ r = q :: (w ++ q :: r')) : tl z = w ∧ r = r' := by
  rw [tl_repr] at h
  have e1 : reprQuote z = q := by
    have := congrArg List.head? h
    simpa using this
  have e2 : (tl z).flatMap (rC (reprQuote z)) ++ reprQuote z :: r = w ++ q :: r' := by
    have := congrArg List.tail h
    simpa using this
  rw [e1] at e2
  exact pre_repr q hq r r' _ w hw e2
abbrev sh (d : PyData) : List Nat := tl d.shown
theorem sh_str (z : Str) : sh (.str z) = tl (reprText z) := by
  unfold sh
  rw [PyData.shown_str]
theorem sh_none : sh .none = [78, 111, 110, 101] := by
  unfold sh
  rw [PyData.shown_none]
  decide
theorem sh_bool (b : Bool) : sh (.bool b) = if b = true then [84, 114, 117, 101] else [70, 97, 108, 115, 101] := by
  unfold sh
  rw [PyData.shown_bool]
  cases b <;> decide
theorem sh_list (l : List PyData) : ∃ r, sh (.list l) = 91 :: r := by
  unfold sh
  rw [PyData.shown_list, tl_append, tl_append]
  exact ⟨_, rfl⟩
theorem sh_dict (l : List (PyData × PyData)) : ∃ r, sh (.dict l) = 123 :: r := by
  unfold sh
  rw [PyData.shown_dict, tl_append, tl_append]
  exact ⟨_, rfl⟩
abbrev jn (l : List PyData) : List Nat := tl (Str.join ", " (PyData.shownAll l))
theorem sh_tup (l : List PyData) : sh (.tuple l) = 40 :: (jn l ++ if l.length = 1 then [44, 41] else [41]) := by
  unfold sh
  rw [PyData.shown_tuple, tl_append, tl_append]
  have e : tl (Str.ofString (if (l.length == 1) = true then ",)" else ")")) = if l.length = 1 then [44, 41] else [41] := by
    by_cases h : l.length = 1
    · rw [h]
      decide
    · have h2 : (l.length == 1) = false := by simpa using h
      rw [h2, if_neg h]
      decide
  have e2 : tl (Str.ofString "(") = [40] := by decide
  show tl (Str.ofString "(") ++ _ ++ tl (Str.ofString (if (l.length == 1) = true then ",)" else ")")) = _
  rw [e, e2]
  simp
theorem jn_nil : jn [] = [] := rfl
theorem jn_one (d : PyData) : jn [d] = sh d := by
  unfold jn
  rw [PyData.shownAll_cons, PyData.shownAll_nil, join_one]
theorem jn_more (d e : PyData) (l : List PyData) : jn (d :: e :: l) = sh d ++ 44 :: 32 :: jn (e :: l) := by
  unfold jn
  rw [PyData.shownAll_cons, PyData.shownAll_cons, join_cons_cons, tl_append, tl_append, ← PyData.shownAll_cons]
  have e : tl (Str.ofString ", ") = [44, 32] := by decide
  show _ ++ tl (Str.ofString ", ") ++ _ = _
  rw [e]
  simp
theorem sh_int_free {k : Nat} (i : Int) (hk : k ≠ 45 ∧ (k < 48 ∨ 57 < k)) : k ∉ sh (.int i) := shown_int_free' hk i
theorem sh_int_inj {i j : Int} (h : (PyData.int i).shown = (PyData.int j).shown) : i = j := by
  rw [PyData.shown_int, PyData.shown_int] at h
  have e := congrArg tl h
  have e2 : (toString i : String).toList.map Char.toNat = (toString j : String).toList.map Char.toNat := by
    rw [← signs_ofString, ← signs_ofString]
    exact e
  have e3 : (toString i : String).toList = (toString j : String).toList := (List.map_inj_right (fun a b => Char.toNat_inj.mp)).mp e2
  have e4 : toString i = toString j := String.toList_inj.mp e3
  rw [Int.toString_eq_repr, Int.toString_eq_repr] at e4
  exact Int.repr_injective e4
/-- which texts begin with a quote -/
theorem quoted {d : PyData} {q : Nat} {r : List Nat} (hq : q = 34 ∨ q = 39) (h : ∃ x, sh d ++ x = q :: r) (ne : sh d ≠ []) : ∃ z, d = .str z := by
  obtain ⟨x, h⟩ := h
  have hd : (sh d).head? = some q := by
    cases e : sh d with
    | nil => exact absurd e ne
    | cons a l =>
      rw [e] at h
      have := congrArg List.head? h
      simpa using this
  cases d with
  | str z => exact ⟨z, rfl⟩
  | none =>
    rw [sh_none] at hd
    have := Option.some.inj hd
    omega
  | bool b =>
    rw [sh_bool] at hd
    cases b
    · have := Option.some.inj hd
      omega
    · have := Option.some.inj hd
      omega
  | int i =>
    have m : q ∈ sh (.int i) := List.mem_of_mem_head? hd
    exact absurd m (sh_int_free i (by omega))
  | list l =>
    obtain ⟨u, e⟩ := sh_list l
    rw [e] at hd
    have := Option.some.inj hd
    omega
  | dict l =>
    obtain ⟨u, e⟩ := sh_dict l
    rw [e] at hd
    have := Option.some.inj hd
    omega
  | tuple l =>
    rw [sh_tup] at hd
    have := Option.some.inj hd
    omega
theorem sh_ne (d : PyData) : sh d ≠ [] := by
  cases d with
  | str z =>
    rw [sh_str, tl_repr]
    simp
  | none =>
    rw [sh_none]
    simp
  | bool b =>
    rw [sh_bool]
    cases b <;> simp
  | int i =>
    intro h
    unfold sh at h
    rw [PyData.shown_int] at h
    have e2 : (toString i : String).toList.map Char.toNat = [] := by
      rw [← signs_ofString]
      exact h
    have e3 : (toString i : String).toList = [] := List.map_eq_nil_iff.mp e2
    rw [Int.toString_eq_repr, Int.repr_eq_if] at e3
    split at e3
    · rw [Nat.toList_repr] at e3
      exact absurd e3 Nat.toDigits_ne_nil
    · rw [String.toList_append] at e3
      simp at e3
  | list l =>
    obtain ⟨u, e⟩ := sh_list l
    rw [e]
    simp
  | dict l =>
    obtain ⟨u, e⟩ := sh_dict l
    rw [e]
    simp
  | tuple l =>
    rw [sh_tup]
    simp
/-- a text alone -/
theorem shown_str_inj {d : PyData} {z : Str} {q : Nat} {w : List Nat} (hq : q = 34 ∨ q = 39) (hz : tl (reprText z) = q :: (w ++ [q])) (hw : ∀ c ∈ w, c ≠ q ∧ c ≠ 92) (h : d.shown = (PyData.str z).shown) : d = .str z := by
  have e := congrArg tl h
  have e2 : sh d = q :: (w ++ [q]) := by
    show tl d.shown = _
    rw [e, PyData.shown_str]
    exact hz
  obtain ⟨y, rfl⟩ := quoted hq ⟨[], by rw [List.append_nil]; exact e2⟩ (sh_ne d)
  have q2 : q ≠ 92 := by omega
  have a1 := str_pre (z := y) (r := []) (r' := []) q2 hw (by rw [List.append_nil, ← sh_str]; exact e2)
  have a2 := str_pre (z := z) (r := []) (r' := []) q2 hw (by rw [List.append_nil]; exact hz)
  exact congrArg PyData.str (ext_tl (by rw [a1.1, a2.1]))
theorem shown_int_inj {d : PyData} {i : Int} (h : d.shown = (PyData.int i).shown) : d = .int i := by
  have no : ∀ k, k ≠ 45 ∧ (k < 48 ∨ 57 < k) → k ∉ sh d := by
    intro k hk m
    have m' : k ∈ tl d.shown := m
    rw [h] at m'
    exact sh_int_free i hk m'
  have hd : ∀ {k : Nat} {r : List Nat}, sh d = k :: r → k ∈ sh d := by
    intro k r e
    rw [e]
    exact List.mem_cons_self
  cases d with
  | int j => rw [sh_int_inj h]
  | none => exact absurd (hd sh_none) (no 78 (by omega))
  | bool b =>
    cases b
    · exact absurd (hd (sh_bool false)) (no 70 (by omega))
    · exact absurd (hd (sh_bool true)) (no 84 (by omega))
  | str z =>
    have e : sh (.str z) = reprQuote z :: ((tl z).flatMap (rC (reprQuote z)) ++ [reprQuote z]) := by
      rw [sh_str, tl_repr]
      rfl
    rcases quote_two z with c | c
    · rw [c] at e
      exact absurd (hd e) (no 34 (by omega))
    · rw [c] at e
      exact absurd (hd e) (no 39 (by omega))
  | list l =>
    obtain ⟨u, e⟩ := sh_list l
    exact absurd (hd e) (no 91 (by omega))
  | dict l =>
    obtain ⟨u, e⟩ := sh_dict l
    exact absurd (hd e) (no 123 (by omega))
  | tuple l => exact absurd (hd (sh_tup l)) (no 40 (by omega))
theorem shown_tup_kind {d : PyData} {l : List PyData} (h : d.shown = (PyData.tuple l).shown) : ∃ r, d = .tuple r := by
  have e : sh d = 40 :: (jn l ++ if l.length = 1 then [44, 41] else [41]) := by
    rw [← sh_tup]
    exact congrArg tl h
  cases d with
  | tuple r => exact ⟨r, rfl⟩
  | int j =>
    have m : 40 ∈ sh (.int j) := by rw [e]; exact List.mem_cons_self
    exact absurd m (sh_int_free j (by omega))
  | none =>
    rw [sh_none] at e
    simp at e
  | bool b =>
    rw [sh_bool] at e
    cases b <;> simp at e
  | str z =>
    rw [sh_str, tl_repr] at e
    have := congrArg List.head? e
    rcases quote_two z with c | c <;> rw [c] at this <;> simp at this
  | list l =>
    obtain ⟨u, e2⟩ := sh_list l
    rw [e2] at e
    simp at e
  | dict l =>
    obtain ⟨u, e2⟩ := sh_dict l
    rw [e2] at e
    simp at e
/-- a text of plain signs -/
structure Pl (z : Str) (w : List Nat) : Prop where
  at_ : tl (reprText z) = 39 :: (w ++ [39])
  pl : ∀ c ∈ w, c ≠ 39 ∧ c ≠ 92
theorem shown_one_inj {d : PyData} {z : Str} {w : List Nat} (hz : Pl z w) (h : d.shown = (PyData.tuple [.str z]).shown) : d = .tuple [.str z] := by
  obtain ⟨l, rfl⟩ := shown_tup_kind h
  have e : sh (.tuple l) = sh (.tuple [.str z]) := congrArg tl h
  rw [sh_tup, sh_tup, jn_one, sh_str, hz.at_] at e
  have e2 : jn l ++ (if l.length = 1 then [44, 41] else [41]) = 39 :: (w ++ 39 :: [44, 41]) := by
    have := congrArg List.tail e
    simpa using this
  match l, e2 with
  | [], e2 => simp [jn_nil] at e2
  | [d], e2 =>
    rw [jn_one] at e2
    obtain ⟨y, rfl⟩ := quoted (.inr rfl) ⟨_, e2⟩ (sh_ne d)
    rw [sh_str] at e2
    have a1 := str_pre (by decide) hz.pl e2
    have a2 := str_pre (z := z) (r := []) (r' := []) (by decide) hz.pl (by rw [List.append_nil]; exact hz.at_)
    rw [show y = z from ext_tl (by rw [a1.1, a2.1])]
  | d :: d' :: l, e2 =>
    rw [jn_more, List.append_assoc] at e2
    obtain ⟨y, rfl⟩ := quoted (.inr rfl) ⟨_, e2⟩ (sh_ne d)
    rw [sh_str] at e2
    have a1 := (str_pre (by decide) hz.pl e2).2
    simp at a1
theorem shown_two_inj {d x : PyData} {z : Str} {w : List Nat} (hz : Pl z w) (hx : 44 ∉ sh x) (inj : ∀ y : PyData, y.shown = x.shown → y = x) (h : d.shown = (PyData.tuple [.str z, x]).shown) : d = .tuple [.str z, x] := by
  obtain ⟨l, rfl⟩ := shown_tup_kind h
  have e : sh (.tuple l) = sh (.tuple [.str z, x]) := congrArg tl h
  rw [sh_tup, sh_tup, jn_more, jn_one, sh_str, hz.at_] at e
  have e2 : jn l ++ (if l.length = 1 then [44, 41] else [41]) = 39 :: (w ++ 39 :: 44 :: 32 :: (sh x ++ [41])) := by
    have := congrArg List.tail e
    simpa using this
  have a2 := str_pre (z := z) (r := []) (r' := []) (by decide) hz.pl (by rw [List.append_nil]; exact hz.at_)
  match l, e2 with
  | [], e2 => simp [jn_nil] at e2
  | [d], e2 =>
    rw [jn_one] at e2
    obtain ⟨y, rfl⟩ := quoted (.inr rfl) ⟨_, e2⟩ (sh_ne d)
    rw [sh_str] at e2
    have a1 := (str_pre (by decide) hz.pl e2).2
    simp at a1
  | [d, d'], e2 =>
    rw [jn_more, jn_one, List.append_assoc] at e2
    obtain ⟨y, rfl⟩ := quoted (.inr rfl) ⟨_, e2⟩ (sh_ne d)
    rw [sh_str] at e2
    have a1 := str_pre (by decide) hz.pl e2
    have a3 : sh d' = sh x := by
      have := a1.2
      simp at this
      exact congrArg Array.toList this
    have a4 := inj d' (ext_tl a3)
    rw [show y = z from ext_tl (by rw [a1.1, a2.1]), a4]
  | d :: d' :: d2 :: l, e2 =>
    rw [jn_more, jn_more, List.append_assoc] at e2
    obtain ⟨y, rfl⟩ := quoted (.inr rfl) ⟨_, e2⟩ (sh_ne d)
    rw [sh_str] at e2
    have a1 := (str_pre (by decide) hz.pl e2).2
    have m : 44 ∈ sh x ++ [41] := by
      have a3 := congrArg (List.drop 2) a1
      simp at a3
      have : 44 ∈ sh d' ++ 44 :: 32 :: (jn (d2 :: l) ++ [41]) := by simp
      rw [← a3]
      simpa using this
    rcases List.mem_append.mp m with m | m
    · exact absurd m hx
    · exact absurd m (by decide)
end K01
set_option Elab.async false
set_option linter.all false
set_option maxRecDepth 100000
set_option maxHeartbeats 8000000
/-! len(set(t)) of a tuple of some texts -/
namespace K01
open PySem PySem.Spec PyProof.Rows L2 Bs Xg TL
/-- how many unlike ones stand ahead of place i -/
def dct (ys : List Str) : Nat → Nat
  | 0 => 0
  | i + 1 => if (ys.take i).any (· == ys.getD i Str.empty) = true then dct ys i else dct ys i + 1
theorem dct_le (ys : List Str) : ∀ i, dct ys i ≤ i
  | 0 => Nat.le_refl _
  | i + 1 => by
    have := dct_le ys i
    unfold dct
    split <;> omega
theorem any_in (l : List Str) (y : Str) : (l.any (· == y) = true) ↔ y ∈ l := by simp
theorem dct_full (ys : List Str) : ∀ i, i ≤ ys.length → (dct ys i = i ↔ (ys.take i).Nodup)
  | 0, _ => by simp [dct]
  | i + 1, hi => by
    have ih := dct_full ys i (by omega)
    have le := dct_le ys i
    have hg : ys[i]? = some ys[i] := List.getElem?_eq_getElem hi
    have gd : ys.getD i Str.empty = ys[i] := by rw [List.getD_eq_getElem?_getD, hg]; rfl
    have tk : ys.take (i + 1) = ys.take i ++ [ys[i]] := by rw [List.take_succ, hg]; rfl
    rw [tk, List.nodup_append]
    unfold dct
    rw [gd]
    by_cases c : (ys.take i).any (· == ys[i]) = true
    · rw [if_pos c]
      constructor
      · intro e
        omega
      · rintro ⟨_, _, d⟩
        exact absurd rfl (d _ ((any_in _ _).mp c) _ List.mem_cons_self)
    · rw [if_neg c]
      constructor
      · intro e
        refine ⟨ih.mp (by omega), by simp, ?_⟩
        intro a ha b hb
        rw [List.mem_singleton] at hb
        subst hb
        intro z
        subst z
        exact c ((any_in _ _).mpr ha)
      · rintro ⟨n, _, _⟩
        rw [ih.mpr n]
section
variable {prog : Program} {w : World} {A : Around} {R : Result → Shared → Prop} {J : Addr} {fq wq : List Addr} {G : Array GenState → Array GenState → Prop} {m : Nat} {Pv : Nat → Value → Prop} {Sv : Nat → Shared → Prop}
theorem loopMany (U : WalksS prog w A.in1 J fq wq G m Pv Sv) (D : Addr) (nD : D ∉ fq) (ys : List Str) (hm : m + 1 < scanBound) (vals : ∀ i v, Pv i v → ∃ t, v = .str (ys.getD i Str.empty) t) (ly : ys.length = m) :
    ∀ (j i : Nat) (z : Shared), m - i = j → i ≤ m → Sv i z → z.heap.SetOf (PySem.strKind prog w) D (fun y => (ys.take i).any (· == y)) (dct ys i) →
      (∀ z', Moved (D :: wq) G z z' → z'.heap.SetOf (PySem.strKind prog w) D (fun y => (ys.take m).any (· == y)) (dct ys m) → R (.ok (.ret .none)) z') →
      codeAny (model prog w) A (.builtin "set.update.loop" ⟨[.ref D, .ref J], []⟩) R z := by
  have nW : D ∉ wq := fun q => nD (U.sub _ q)
  have up : ∀ b ∈ wq, b ∈ D :: wq := fun b q => List.mem_cons_of_mem _ q
  intro j
  induction j with
  | zero =>
    intro i z ej hi sv so k
    obtain rfl : i = m := by omega
    refine codeAny_builtin PyProof.Rows.F.entry_set_update_loop ?_
    rw [Around.under_plainId PyProof.Rows.F.plain_set_update_loop _]
    show wpAny _ A.in1 (pyNext (.ref J) >>= _) _ _ z
    refine wpAny_bind (U.done z _ _ sv fun z' mv => ?_)
    show wpAny _ A.in1 (ret Value.none) _ _ z'
    refine wpAny_pure (k z' (mv.mono up) ?_)
    obtain ⟨o, es, ep, t, ho, q⟩ := so
    exact ⟨o, es, ep, t, mv.heap D _ nW ho, q⟩
  | succ j ih =>
    intro i z ej hi sv so k
    have il : i < m := by omega
    refine codeAny_builtin PyProof.Rows.F.entry_set_update_loop ?_
    rw [Around.under_plainId PyProof.Rows.F.plain_set_update_loop _]
    show wpAny _ A.in1 (pyNext (.ref J) >>= _) _ _ z
    refine wpAny_bind (U.item i z _ _ il sv fun v z' pv sv' mv => ?_)
    obtain ⟨t, rfl⟩ := vals i v pv
    have so' : z'.heap.SetOf (PySem.strKind prog w) D (fun y => (ys.take i).any (· == y)) (dct ys i) := by
      obtain ⟨o, es, ep, tb, ho, q⟩ := so
      exact ⟨o, es, ep, tb, mv.heap D _ nW ho, q⟩
    show wpAny _ A.in1 (holding [Value.str (ys.getD i Str.empty) t] (setAdd D (.str (ys.getD i Str.empty) t)) >>= _) _ _ z'
    refine wpAny_bind (wpAny_holding ?_)
    unfold setAdd
    refine wpAny_holding ?_
    have le := dct_le ys i
    refine wpAny_bind ((PySem.strKind prog w).pyHash (k := ys.getD i Str.empty) (strKind_is _ _ _ _) ?_)
    refine wpAny_setAddHashed_of (knd := PySem.strKind prog w) (s := { z' with toks := z'.toks + 1 }) (strKind_is _ _ _ _) rfl so' (by omega) fun h2 sb so2 => ?_
    have il' : i < ys.length := by omega
    have hg : ys[i]? = some ys[i] := List.getElem?_eq_getElem il'
    have gd : ys.getD i Str.empty = ys[i] := by rw [List.getD_eq_getElem?_getD, hg]; rfl
    have so3 : h2.SetOf (PySem.strKind prog w) D (fun y => (ys.take (i + 1)).any (· == y)) (dct ys (i + 1)) := by
      refine SetOf_congr so2 (fun y => ?_) rfl
      have tk : ys.take (i + 1) = ys.take i ++ [ys[i]] := by rw [List.take_succ, hg]; rfl
      rw [tk, List.any_append, gd]
      by_cases e : y = ys[i]
      · subst e
        simp
      · have e' : (ys[i] == y) = false := beq_eq_false_iff_ne.mpr fun q => e q.symm
        simp [e, e']
    refine wpAny_pure ⟨plainId_quiet PyProof.Rows.F.plain_set_update_loop _, ih (i + 1) _ (by omega) il (U.frame _ z' _ _ sv' (Nat.le_succ _) fun b hb o e => ?_) so3 fun z2 mv2 so4 => ?_⟩
    · rw [sb.2 b (fun q : b = D => nD (by rw [← q]; exact hb))]
      exact e
    · refine k z2 (Moved.trans U.gtrans ((mv.mono up).then_heap (Nat.le_succ _) fun b o hb e => ?_) mv2) so4
      rw [sb.2 b (fun q : b = D => hb (by rw [q]; exact List.mem_cons_self))]
      exact e
end
def set0 (led : Bool) : Obj := { cls := .type "set", dict := none, data := .set #[] 0 (.fresh 0 0 led) }
section
variable {prog : Program} {w : World} {A : Around} {E : Value → Shared → Prop} {z : Shared}
set_option maxHeartbeats 6400000 in
theorem set_of_texts {p : Addr} {its : Array Value} {ys : List Str} {Q : Value → Shared → Prop} (calm : A.handled = none) (pt : z.heap.IsTuple p its) (sa : StrsAre its.toList ys) (few : ys.length + 1 < scanBound)
    (k : ∀ (h2 : Heap) (tk : Nat), h2.SetOf (PySem.strKind prog w) z.heap.objs.size (fun y => (ys.take its.size).any (· == y)) (dct ys its.size) → (∀ b o, b < z.heap.objs.size → z.heap.get? b = some o → h2.get? b = some o) → Q (.ref z.heap.objs.size) { z with heap := h2, toks := tk }) :
    wpAny (model prog w) A (call (.type "set") [.ref p]) Q E z := by
  obtain ⟨cr, ct, hmro⟩ := PySem.F.called_set.mro
  have hmade := PySem.F.called_set.made
  have hsub := PySem.F.called_set.sub
  refine wpAny_call (codeAny_of_tree ?_)
  show wpAny _ _ (callAny (.type "set") _) _ _ _
  refine wpAny_pure ⟨Code.quiet_builtin _ (by decide +kernel), codeAny_builtin PySem.F.entry_type_call ?_⟩
  rw [Around.under_plain (weight_type_call_type "set" [.ref p] []) rfl]
  have c1 := PySem.F.called_set.notType
  have c2 := PySem.F.called_set.canCreate
  have c3 := PySem.F.typeCall_set_1 (.ref p)
  repeat (any_goals (first | assumption | wp_step))
  refine codeAny_mono (code_set_new_1 (.ref p) (E := E) (Q₁ := fun v z1 => ∃ led : Bool, v = .ref z.heap.objs.size ∧ z1 = { z with heap := z.heap.push (set0 led) }) fun led => ⟨led, rfl, rfl⟩) fun r z1 hr => ?_
  cases r with
  | error e => exact hr
  | ok fl =>
    cases fl with
    | next => exact hr.elim
    | brk => exact hr.elim
    | cont => exact hr.elim
    | ret v =>
      obtain ⟨led, rfl, rfl⟩ := hr
      have born : (z.heap.push (set0 led)).get? z.heap.objs.size = some (set0 led) := Heap.get?_push_size _ rfl
      have ty : Shared.TypeIs { z with heap := z.heap.push (set0 led) } (.ref z.heap.objs.size) "set" := ⟨_, born, rfl⟩
      have i1 := PySem.F.called_set.init.lookup
      have i2 := PySem.F.called_set.init.bind (.ref z.heap.objs.size)
      repeat (any_goals (first | assumption | wp_step))
      refine codeAny_mono (codeAny_call_builtin (R := wants (fun r z2 => r = .none ∧ ∃ h2 tk, z2 = { z with heap := h2, toks := tk } ∧ h2.SetOf (PySem.strKind prog w) z.heap.objs.size (fun y => (ys.take its.size).any (· == y)) (dct ys its.size) ∧
        (∀ b o, b < z.heap.objs.size → z.heap.get? b = some o → h2.get? b = some o)) E) PySem.F.called_set.init.plain PySem.F.entry_set_init (check_set_init_1 ty ?_)) fun r2 z2 hr2 => ?_
      · obtain ⟨ot, hot, hct, nt, hdt⟩ := pt
        obtain ⟨otc, otd, ota, ots⟩ := ot
        simp only at hct hdt
        subst hct
        subst hdt
        have hot2 : (z.heap.push (set0 led)).get? p = some { cls := .type "tuple", dict := otd, data := .seq its nt, slots := ots } := Heap.get?_push_of_some _ hot
        have s1 := PySem.F.sub_tuple_set
        have s2 := PySem.F.sub_tuple_frozenset
        have s3 : (Value.type "tuple" == Value.type "dict") = false := by decide
        have pt1 : (z.heap.push (set0 led)).IsTuple p its := ⟨_, hot2, rfl, nt, rfl⟩
        unfold Builtin.«set.__init__» noKeywords Builtin.Frozenset.updateFrom
        generalize hPI : pyIter = PI
        wp_walk
        subst hPI
        refine wpAny_pyIter_tuple pt1 ?_
        refine wpAny_bind (wpAny_runValue ?_)
        have pl : p < z.heap.objs.size := Heap.lt_size hot
        have calm3 : A.in1.in1.in1.handled = none := by simp [calm]
        have sz1 : (z.heap.push (set0 led)).objs.size = z.heap.objs.size + 1 := Heap.size_push ..
        have ne1 : p ≠ (z.heap.push (set0 led)).objs.size := by
          rw [sz1]
          exact Nat.ne_of_lt (Nat.lt_succ_of_lt pl)
        have ne2 : z.heap.objs.size ∉ [(z.heap.push (set0 led)).objs.size, p] := by
          rw [sz1]
          intro q
          rcases List.mem_cons.mp q with q | q
          · exact absurd q (Nat.ne_of_lt (Nat.lt_succ_self _))
          · exact absurd (List.mem_singleton.mp q) (Nat.ne_of_gt pl)
        have ly : ys.length = its.size := by rw [← StrsAre.len_eq sa, Array.length_toList]
        have vals : ∀ (i : Nat) (v : Value), its[i]? = some v → ∃ t, v = .str (ys.getD i Str.empty) t := fun i v hv => SS.strs_at sa i v (by rw [Array.getElem?_toList]; exact hv)
        refine loopMany ((Walks.tuple calm3 _ p ne1 its).toS) z.heap.objs.size ne2 ys (by rw [← ly]; exact few) vals ly (its.size - 0) 0 _ (by omega) (Nat.zero_le _) ⟨⟨_, Heap.get?_push_size _ rfl, rfl, rfl⟩, (pt1.push _)⟩ ?hA ?hB
        case hA =>
          have at2 : ((z.heap.push (set0 led)).push { cls := .type "tuple_iterator", data := .fields #[.ref p, .int 0 0] }).get? z.heap.objs.size = some (set0 led) := Heap.get?_push_of_some _ born
          exact PyProof.Rows.SetOf_congr ((PyProof.Rows.setObjOf_fresh (knd := PySem.strKind prog w) led).setOf at2 (by unfold scanBound; omega)) (fun _ => rfl) rfl
        case hB =>
          intro z3 mv so
          obtain ⟨h3, g3, d3, tk3, os3⟩ := z3
          have eg : g3 = z.gens := mv.gens
          have ed : d3 = z.drawn := mv.drawn
          have eo : os3 = z.os := mv.os
          subst eg
          subst ed
          subst eo
          show wpAny _ _ _ _ _ _
          refine wpAny_pure ?_
          show wpAny _ _ (ret Value.none) _ _ _
          refine wpAny_pure ⟨rfl, h3, tk3, rfl, so, fun b o hb e => ?_⟩
          have b1 : b ≠ z.heap.objs.size := Nat.ne_of_lt hb
          have b2 : b ≠ (z.heap.push (set0 led)).objs.size := by
            rw [sz1]
            exact Nat.ne_of_lt (Nat.lt_succ_of_lt hb)
          refine mv.heap b o (fun q => ?_) (Heap.get?_push_of_some _ (Heap.get?_push_of_some _ e))
          rcases List.mem_cons.mp q with q | q
          · exact b1 q
          · exact b2 (List.mem_singleton.mp q)
      · cases r2 with
        | error e => exact hr2
        | ok fl2 =>
          cases fl2 with
          | next => exact hr2.elim
          | brk => exact hr2.elim
          | cont => exact hr2.elim
          | ret r =>
            obtain ⟨rfl, h4, tk4, rfl, so, kp⟩ := hr2
            repeat (any_goals (first | assumption | wp_step))
            exact k _ _ so kp
end
section
variable {X : Cx}
/-- how many unlike texts a tuple has -/
def tLenTx (K : PySem.W.Frag) (te : TE) : TE := fun σ H Q => te σ H fun x H1 => ∃ (p : Addr) (ys : List Str), x = .ref p ∧ SqT K H1 p (ys.map V.str) ∧ ys.length ≤ 1000 ∧ Q (.int (dct ys ys.length : Nat)) H1
theorem pe_lenTx {a : Expr} {te : TE} {p p2 q pos : Pos} (hc : X.calm = true) (g1 : Gl X "len") (m1 : X.mg "len" = none) (g2 : Gl X "set") (m2 : X.mg "set" = none) (ha : PE X a te)
    (na : starEach [a] X.env = (false, eval a X.env) :: starEach [] X.env := by rfl) : PE X (.Call (.Name "len" p) [.Call (.Name "set" p2) [a] [] q] [] pos) (tLenTx X.K te) := by
  constructor
  intro pins s σ H Q I h
  refine Call_ (ld_blt I g1 m1 PySem.boot_len ?_)
  refine callWith_builtin1 (args_cons ?_ (by rfl)) (by rfl) rfl
  refine Call_ (ld_blt I g2 m2 boot_set ?_)
  refine callWith_type1 (args_cons ?_ na) na (by rfl)
  apply thn (ha.run pins s σ H _ I h)
  rintro v s1 ⟨x, H1, I1, r1, l, ys, rfl, hq, few, q1⟩
  apply PyProof.Rows.args_nil
  cases r1
  obtain ⟨its, r, pl, hz⟩ := I1.tuple hq
  have ls : its.toArray.size = ys.length := by rw [List.size_toArray, ← r.length, List.length_map]
  refine set_of_texts (I1.ok.hd hc) pl (by simpa using strsAre_of r) (by unfold scanBound; omega) fun h2 tk so kp => ?_
  apply PyProof.Rows.args_nil
  rw [ls] at so
  have le := dct_le ys ys.length
  obtain ⟨o, es, ep, t, ho, hex, hd, _, _, _, hf, hn⟩ := so
  have I2 : Inv X pins σ H1 { s1 with heap := h2, toks := tk } := I1.kept fun b o e => kp b o (Heap.lt_size e) e
  exact call_len_set ho hex hd hf (by rw [hn]; omega) ⟨.int (dct ys ys.length : Nat), H1, I2.tok _, ⟨_, by rw [hn]⟩, q1⟩
end
end K01
set_option Elab.async false
set_option linter.all false
set_option maxRecDepth 100000
set_option maxHeartbeats 4000000
namespace K01
open PySem PySem.Spec PyProof.Rows L2 Bs Xg TL
abbrev sNames : Stmt := top 11
abbrev sUNames : Stmt := top 12
abbrev sUnlike : Stmt := top 13
section
variable {P : Program} {w : World} {K : PySem.W.Frag} {mg : Str → Option Value} {base : Heap}
/-- texts of a tuple are of a fitting length -/
def fitT : PyData → Prop
  | .tuple l => ∀ e ∈ l, fitD e
  | _ => True
def namesD (m n : Nat) : PyData → Bool
  | .tuple l => (decide (m ≤ l.length) && decide (l.length ≤ n)) && l.all nameD
  | _ => false
def spNames (K : PySem.W.Frag) : Sp := fun vs H Q _ => ∃ (x : V) (d : PyData) (m n : Nat), vs = [x, .int (m : Int), .int (n : Int)] ∧ Dq K H x d ∧ fitT d ∧ n ≤ 1000 ∧ ∀ H', Same H H' → Q (.bl (namesD m n d)) H'
abbrev nNs : List Str := ["thing", "least", "most", "name"]
theorem scNs : FnScope nNs ["thing", "least", "most"] (defScope sNames) := ⟨rfl, rfl, rfl, by decide +kernel, rfl, by decide +kernel, by decide +kernel⟩
theorem ok_names {f fN : Addr} {fd dN : FuncData} (F : Fun K "are_names" "are_names" sNames f fd) (T : Isi mg) (len : mg "len" = none) (al : mg "all" = none) (gl : ∃ t, mg "LONGEST" = some (.int 8 t)) (FN : Fun K "is_name" "is_name" sName fN dN) (bN : Binds K dN ["thing"] []) (gN : mg "is_name" = some (.ref fN)) :
    FnOk P w K mg base CX0 2 f fd ["thing", "least", "most"] (spNames K) := by
  have GN : FnOk P w K mg base CX0 1 fN dN ["thing"] (spD nameD K fitD) := ok_name FN T len gl
  refine F.ok scNs (fun vs H Q E h => ?_) (fun cdv A outer s H vs Q E hr h => ?_)
  · obtain ⟨x, d, m, n, rfl, _⟩ := h
    rfl
  · obtain ⟨x, d, m, n, rfl, dq, fit, nb, k⟩ := h
    refine ⟨_, pss_cons (ps_if (PW.pt (pw_or (pt_not (pt_val (pe_callB call_isi (by rfl) T.i (by decide +kernel) (pa_cons (pv 0) (pa_cons (pe_bltn rfl T.tuple (v := V.ty "tuple") (by decide +kernel) rfl) pa_nil)))))
          (pw_or1 (pt_not (pt_chain op_le op_le (pv 1) (pe_callB call_len_seq (by rfl) len PySem.boot_len (pa_cons (pv 0) pa_nil)) (pv 2)))))) (pss_one (ps_ret pe_bl)) pss_nil)
      (pss_one (ps_ret (pe_callB (cr_all rfl) (by rfl) al (by decide +kernel) (pa_cons (pe_lc (own := [("name", 3)]) (g := gName 3) (tt := tYes) rfl scNs.nd (pi_tup (pv 0)) (blkOk_by (N := nNs) (sc := defScope sNames) (by decide +kernel)) (fun _ _ _ _ _ => pg_name (i := 3) scNs.nd rfl (Or.inl rfl)) (fun _ _ _ _ _ => pts_nil)
        (fun _ _ _ _ _ => pe_call GN hr (by rfl) gN FN.kp bN .nil pass0 (pa_cons (pv 3) pa_nil))) pa_nil)))), ?_⟩
    have k' := k H (Same.refl _)
    refine ⟨_, rfl, x, .ty "tuple", _, _, _, rfl, .ty "tuple", ty_of dq, kit_d d "tuple" (.inr (.inr (.inr rfl))), _, rfl, ?_⟩
    cases dq with
    | non => exact iteT (iteT k')
    | bl b => exact iteT (iteT k')
    | int i => exact iteT (iteT k')
    | str z => exact iteT (iteT k')
    | dk y i e => exact iteT (iteT k')
    | d0 e => exact iteT (iteT k')
    | lst ps e p => exact iteT (iteT k')
    | @tup a ps e p =>
      refine iteF ?_
      have kk : Q (.bl ((decide (m ≤ (ps.map (·.2)).length) && decide ((ps.map (·.2)).length ≤ n)) && (ps.map (·.2)).all nameD)) H := k'
      rw [List.length_map] at kk
      refine ⟨_, rfl, _, rfl, a, _, rfl, .inr e, _, _, rfl, rfl, _, rfl, ?_⟩
      rw [List.length_map]
      by_cases c1 : m ≤ ps.length
      · have i1 : (m : Int) ≤ (ps.length : Nat) := by omega
        rw [decide_eq_true i1]
        refine iteT ?_
        refine ⟨_, rfl, _, _, rfl, rfl, ?_⟩
        by_cases c2 : ps.length ≤ n
        · have i2 : ((ps.length : Nat) : Int) ≤ n := by omega
          refine ⟨_, rfl, ?_⟩
          rw [decide_eq_true i2]
          refine iteF ?_
          refine ⟨_, rfl, a, rfl, ⟨_, e⟩, fun D nD => lc_it (walk_tup (K := K) (a := a) (xs := ps.map (fun q : V × PyData => q.1))) (fun i G => Same H G ∧ G D = some (.lst ((((ps.take i).map fun q => nameD q.2)).map V.bl))) ⟨Same.new nD, upd_same⟩ (fun i G _ pv => sameT (K := K) pv.1 e) ?_ ?_⟩
          · rintro i v G G' hi ⟨sG, eD⟩ ⟨rfl, hv⟩
            rw [List.getElem?_map] at hv
            rw [List.length_map] at hi
            obtain ⟨q, hq, rfl⟩ : ∃ q, ps[i]? = some q ∧ v = q.1 := by
              cases hh : ps[i]? with
              | none =>
                rw [hh] at hv
                cases hv
              | some q =>
                rw [hh] at hv
                cases hv
                exact ⟨q, rfl, rfl⟩
            have dqq := (p q (List.mem_of_getElem? hq)).same sG
            have ff : fitD q.2 := fit q.2 (List.mem_map.mpr ⟨q, List.mem_of_getElem? hq, rfl⟩)
            have tk : ps.take (i + 1) = ps.take i ++ [q] := by rw [List.take_succ, hq]; rfl
            refine ⟨rfl, yes ?_⟩
            refine ⟨_, rfl, q.1, q.2, rfl, dqq, ff, fun G2 s2 => ?_⟩
            refine ⟨_, s2 _ _ eD, ?_, fun b o eo => ?_, ?_⟩
            · rw [List.length_map, List.length_map, List.length_take, sizeLine_eq]
              omega
            · rw [upd_ne (ne_of_none eo nD)]
              exact s2 _ _ (sG b o eo)
            · rw [upd_same, tk, List.map_append, List.map_append]
              rfl
          · rintro G ⟨sG, eD⟩
            rw [List.length_map, List.take_length] at eD
            refine ⟨D, _, rfl, SqL.of eD, ?_⟩
            have kG : Q (.bl ((decide (m ≤ (ps.map (·.2)).length) && decide ((ps.map (·.2)).length ≤ n)) && (ps.map (·.2)).all nameD)) G := k G sG
            rw [List.length_map, decide_eq_true c1, decide_eq_true c2, List.all_map] at kG
            rw [List.all_map]
            exact kG
        · have i2 : ¬ ((ps.length : Nat) : Int) ≤ n := by omega
          rw [decide_eq_false c2, Bool.and_false, Bool.false_and] at kk
          refine ⟨_, rfl, ?_⟩
          rw [decide_eq_false i2]
          exact iteT kk
      · have i1 : ¬ (m : Int) ≤ (ps.length : Nat) := by omega
        rw [decide_eq_false i1]
        rw [decide_eq_false c1, Bool.false_and, Bool.false_and] at kk
        exact iteF ⟨_, rfl, iteT kk⟩
/-- unlike texts -/
def spUn (K : PySem.W.Frag) : Sp := fun vs H Q _ => ∃ (a : Addr) (ys : List Str), vs = [.ref a] ∧ SqT K H a (ys.map V.str) ∧ ys.length ≤ 1000 ∧ Q (.bl (decide ys.Nodup)) H
theorem scUn : FnScope ["texts"] ["texts"] (defScope sUnlike) := ⟨rfl, rfl, rfl, by decide +kernel, rfl, by decide +kernel, by decide +kernel⟩
theorem ok_unlike {f : Addr} {fd : FuncData} (F : Fun K "are_unlike" "are_unlike" sUnlike f fd) (len : mg "len" = none) (st : mg "set" = none) : FnOk P w K mg base CX0 1 f fd ["texts"] (spUn K) := by
  refine F.ok scUn (fun vs H Q E h => ?_) (fun cdv A outer s H vs Q E hr h => ?_)
  · obtain ⟨a, ys, rfl, _⟩ := h
    rfl
  · obtain ⟨a, ys, rfl, sq, few, k⟩ := h
    refine ⟨_, pss_one (ps_ret (pe_cmpR op_eq (pe_lenTx rfl (by rfl) len (by rfl) st (pv 0)) (pe_callB call_len_seq (by rfl) len PySem.boot_len (pa_cons (pv 0) pa_nil)) (nomark _))), ?_⟩
    refine ⟨_, rfl, a, ys, rfl, sq, few, _, rfl, a, _, rfl, .inr sq, rfl, ?_⟩
    have e : decide (V.int (dct ys ys.length : Nat) = V.int (((ys.map V.str).length : Nat) : Int)) = decide ys.Nodup := by
      rw [List.length_map]
      have h := dct_full ys ys.length (Nat.le_refl _)
      rw [List.take_length] at h
      by_cases c : ys.Nodup
      · rw [decide_eq_true c, h.mpr c]
        simp
      · rw [decide_eq_false c]
        refine decide_eq_false fun q => c (h.mp ?_)
        have := V.int.inj q
        omega
    rw [e]
    exact k
end
end K01
set_option Elab.async false
set_option linter.all false
set_option maxRecDepth 100000
set_option maxHeartbeats 4000000
namespace K01
open PySem PySem.Spec PyProof.Rows L2 Bs Xg TL
abbrev sShape : Stmt := top 20
def txtD : PyData → Str
  | .str z => z
  | _ => Str.empty
def listT : PyData → List PyData
  | .tuple l => l
  | _ => []
def colsD (m n : Nat) (d : PyData) : Bool := namesD m n d && decide ((listT d).map txtD).Nodup
theorem all_texts {l : List PyData} (h : l.all nameD = true) : l = (l.map txtD).map PyData.str := by
  rw [List.map_map]
  refine (List.map_id l).symm.trans (List.map_congr_left fun e he => ?_)
  have := List.all_eq_true.mp h e he
  cases e with
  | str z => rfl
  | _ => exact nomatch this
theorem tup_texts {K : PySem.W.Frag} {H : Hp} {ps : List (V × PyData)} (p : ∀ q ∈ ps, Dq K H q.1 q.2) (h : (ps.map (·.2)).all nameD = true) : ps.map (·.1) = ((ps.map (·.2)).map txtD).map V.str := by
  rw [List.map_map, List.map_map]
  refine List.map_congr_left fun q hq => ?_
  have hn := List.all_eq_true.mp h q.2 (List.mem_map.mpr ⟨q, hq, rfl⟩)
  have hd := p q hq
  obtain ⟨v, d⟩ := q
  dsimp only at hn hd ⊢
  cases hd with
  | str z => rfl
  | _ => exact nomatch hn
section
variable {P : Program} {w : World} {K : PySem.W.Frag} {mg : Str → Option Value} {base : Heap}
def spCols (K : PySem.W.Frag) : Sp := fun vs H Q _ => ∃ (x : V) (d : PyData) (m n : Nat), vs = [x, .int (m : Int), .int (n : Int)] ∧ Dq K H x d ∧ fitT d ∧ n ≤ 1000 ∧ ∀ H', Same H H' → Q (.bl (colsD m n d)) H'
theorem scUNs : FnScope ["thing", "least", "most"] ["thing", "least", "most"] (defScope sUNames) := ⟨rfl, rfl, rfl, by decide +kernel, rfl, by decide +kernel, by decide +kernel⟩
structure Own (K : PySem.W.Frag) (mg : Str → Option Value) (fN fNs fU fUN fOn fWi fW fSh fWo fFo fRk : Addr) (dN dNs dU dUN dOn dWi dW dSh dWo dFo dRk : FuncData) : Prop where
  N : Fun K "is_name" "is_name" sName fN dN
  bN : Binds K dN ["thing"] []
  gN : mg "is_name" = some (.ref fN)
  Ns : Fun K "are_names" "are_names" sNames fNs dNs
  bNs : Binds K dNs ["thing", "least", "most"] []
  gNs : mg "are_names" = some (.ref fNs)
  U : Fun K "are_unlike" "are_unlike" sUnlike fU dU
  bU : Binds K dU ["texts"] []
  gU : mg "are_unlike" = some (.ref fU)
  UN : Fun K "are_unlike_names" "are_unlike_names" sUNames fUN dUN
  bUN : Binds K dUN ["thing", "least", "most"] []
  gUN : mg "are_unlike_names" = some (.ref fUN)
  On : Fun K "is_one_of" "is_one_of" sOne fOn dOn
  bOn : Binds K dOn ["thing", "signs"] []
  gOn : mg "is_one_of" = some (.ref fOn)
  Wi : Fun K "are_widths" "are_widths" sWid fWi dWi
  bWi : Binds K dWi ["thing", "many"] []
  gWi : mg "are_widths" = some (.ref fWi)
  W : Fun K "is_whole" "is_whole" sWhole fW dW
  bW : Binds K dW ["thing"] []
  gW : mg "is_whole" = some (.ref fW)
  Sh : Fun K "is_shape" "is_shape" sShape fSh dSh
  bSh : Binds K dSh ["thing"] []
  gSh : mg "is_shape" = some (.ref fSh)
  Wo : Fun K "is_worth" "is_worth" sWorth fWo dWo
  bWo : Binds K dWo ["thing"] []
  gWo : mg "is_worth" = some (.ref fWo)
  Fo : Fun K "is_form" "is_form" sForm fFo dFo
  bFo : Binds K dFo ["thing"] []
  gFo : mg "is_form" = some (.ref fFo)
  Rk : Fun K "rank" "rank" sRank fRk dRk
  bRk : Binds K dRk ["worth"] []
  gRk : mg "rank" = some (.ref fRk)
/-- names not told otherwise -/
structure Free (mg : Str → Option Value) : Prop where
  isi : Isi mg
  len : mg "len" = none
  set : mg "set" = none
  all : mg "all" = none
  abs : mg "abs" = none
  range : mg "range" = none
  repr : mg "repr" = none
  max : mg "max" = none
  min : mg "min" = none
  list : mg "list" = none
  sorted : mg "sorted" = none
/-- the constants -/
def signsL : List Str := [Str.ofString ",", Str.ofString ";", Str.ofString "|", Str.ofString ":"]
def quotesL : List Str := [Str.ofString "\"", Str.ofString "'"]
def namedL : List Str := [Str.ofString ",", Str.ofString ";", Str.ofString "|"]
structure Csts (K : PySem.W.Frag) (mg : Str → Option Value) (o cS cQ cN : Addr) : Prop where
  mp : ∃ t, mg "MOST_PLACES" = some (.int 4 t)
  go : mg "ORDERS" = some (.ref o)
  so : ∀ H, SqT K H o (ordersL.map V.str)
  lg : ∃ t, mg "LONGEST" = some (.int 8 t)
  wd : ∃ t, mg "WIDEST" = some (.int 20 t)
  mc : ∃ t, mg "MOST_COLUMNS" = some (.int 6 t)
  gS : mg "SIGNS" = some (.ref cS)
  sS : ∀ H, SqT K H cS (signsL.map V.str)
  gQ : mg "QUOTES" = some (.ref cQ)
  sQ : ∀ H, SqT K H cQ (quotesL.map V.str)
  gN : mg "NAMED_SIGNS" = some (.ref cN)
  sN : ∀ H, SqT K H cN (namedL.map V.str)
variable {fN fNs fU fUN fOn fWi fW fSh fWo fFo fRk o cS cQ cN : Addr} {dN dNs dU dUN dOn dWi dW dSh dWo dFo dRk : FuncData}
theorem ok_unames (O : Own K mg fN fNs fU fUN fOn fWi fW fSh fWo fFo fRk dN dNs dU dUN dOn dWi dW dSh dWo dFo dRk) (T : Free mg) (gl : ∃ t, mg "LONGEST" = some (.int 8 t)) :
    FnOk P w K mg base CX0 3 fUN dUN ["thing", "least", "most"] (spCols K) := by
  have G1 : FnOk P w K mg base CX0 2 fNs dNs ["thing", "least", "most"] (spNames K) := ok_names O.Ns T.isi T.len T.all gl O.N O.bN O.gN
  have G2 : FnOk P w K mg base CX0 1 fU dU ["texts"] (spUn K) := ok_unlike O.U T.len T.set
  refine O.UN.ok scUNs (fun vs H Q E h => ?_) (fun cdv A outer s H vs Q E hr h => ?_)
  · obtain ⟨x, d, m, n, rfl, _⟩ := h
    rfl
  · obtain ⟨x, d, m, n, rfl, dq, fit, nb, k⟩ := h
    have hr1 : Room 1 _ := hr.mono (by decide)
    refine ⟨_, pss_one (ps_ret (pe_and (pe_call G1 hr (by rfl) O.gNs O.Ns.kp O.bNs .nil pass0 (pa_cons (pv 0) (pa_cons (pv 1) (pa_cons (pv 2) pa_nil)))) (pe_one (pe_call G2 hr1 (by rfl) O.gU O.U.kp O.bU .nil pass0 (pa_cons (pv 0) pa_nil))))), ?_⟩
    refine ⟨_, rfl, _, rfl, _, rfl, x, d, m, n, rfl, dq, fit, nb, fun H2 s2 => ⟨_, rfl, ?_⟩⟩
    have k2 := k H2 s2
    unfold colsD at k2
    cases c : namesD m n d with
    | false =>
      rw [c, Bool.false_and] at k2
      exact iteF k2
    | true =>
      rw [c, Bool.true_and] at k2
      refine iteT ?_
      have dq2 := dq.same s2
      cases dq2 with
      | @tup a ps e p =>
        have c' : ((decide (m ≤ (ps.map (·.2)).length) && decide ((ps.map (·.2)).length ≤ n)) && (ps.map (·.2)).all nameD) = true := c
        simp only [Bool.and_eq_true, decide_eq_true_eq] at c'
        refine ⟨_, rfl, a, (ps.map (·.2)).map txtD, rfl, ?_, by rw [List.length_map]; omega, ?_⟩
        · rw [← tup_texts p c'.2]
          exact e
        · exact k2
      | _ => exact nomatch c
/-! ### shapes -/
def restL (z : Str) (l : List PyData) (c : PyData) : Bool :=
  if z = Str.ofString "signs" then decide (l.length = 4) && (oneD signsL (l.getD 1 .none) && oneD quotesL (l.getD 2 .none))
  else decide (l.length = 3) && (if z = Str.ofString "places" then widD (listT c).length (l.getD 1 .none) else decide (z = Str.ofString "named") && oneD namedL (l.getD 1 .none))
def shapeL (l : List PyData) : Bool :=
  match l.head?, l.getLast? with
  | some (.str z), some c => colsD 1 6 c && restL z l c
  | _, _ => false
def shapeD : PyData → Bool
  | .tuple l => shapeL l
  | _ => false
theorem scSh : FnScope ["thing"] ["thing"] (defScope sShape) := ⟨rfl, rfl, rfl, by decide +kernel, rfl, by decide +kernel, by decide +kernel⟩
def fitS : PyData → Prop
  | .tuple l => ∀ e ∈ l, fitT e
  | _ => True
theorem strV (z : Str) (y : String) : decide (V.str z = V.str (Str.ofString y)) = decide (z = Str.ofString y) := by
  by_cases h : z = Str.ofString y
  · rw [h, decide_eq_true rfl, decide_eq_true rfl]
  · rw [decide_eq_false h, decide_eq_false (fun q => h (V.str.inj q))]
theorem get_ps (ps : List (V × PyData)) (i : Nat) (hi : i < ps.length) : ∃ q, ps[i]? = some q ∧ atI (ps.map (·.1)) (i : Int) = some q.1 ∧ (ps.map (·.2)).getD i .none = q.2 ∧ q ∈ ps := by
  refine ⟨ps[i], List.getElem?_eq_getElem hi, atI_nat ?_, ?_, List.getElem_mem hi⟩
  · rw [List.getElem?_map, List.getElem?_eq_getElem hi]
    rfl
  · rw [List.getD_eq_getElem?_getD, List.getElem?_map, List.getElem?_eq_getElem hi]
    rfl
theorem last_ps (ps : List (V × PyData)) (hn : ps ≠ []) : ∃ q, q ∈ ps ∧ atI (ps.map (·.1)) (-1) = some q.1 ∧ (ps.map (·.2)).getLast? = some q.2 ∧ ps[ps.length - 1]? = some q := by
  refine ⟨ps.getLast hn, List.getLast_mem hn, ?_, ?_, ?_⟩
  · have e := List.dropLast_concat_getLast hn
    have q := atI_last (ps.dropLast.map (·.1)) (ps.getLast hn).1
    have e2 : ps.dropLast.map (·.1) ++ [(ps.getLast hn).1] = ps.map (·.1) := by
      conv => rhs; rw [← e]
      rw [List.map_append]
      rfl
    rw [e2] at q
    exact q
  · rw [List.getLast?_map, List.getLast?_eq_some_getLast hn]
    rfl
  · rw [← List.getLast?_eq_getElem?, List.getLast?_eq_some_getLast hn]
theorem len_tup {K : PySem.W.Frag} {H : Hp} {x : V} {d : PyData} (h : Dq K H x d) (c : colsD 1 6 d = true) : ∃ a xs, x = .ref a ∧ SqT K H a xs ∧ xs.length = (listT d).length := by
  cases h with
  | @tup a ps e p => exact ⟨a, _, rfl, e, by simp [listT]⟩
  | _ => exact nomatch c
theorem ok_shape (O : Own K mg fN fNs fU fUN fOn fWi fW fSh fWo fFo fRk dN dNs dU dUN dOn dWi dW dSh dWo dFo dRk) (T : Free mg) (C : Csts K mg o cS cQ cN) :
    FnOk P w K mg base CX0 4 fSh dSh ["thing"] (spD shapeD K fitS) := by
  have G1 : FnOk P w K mg base CX0 3 fUN dUN ["thing", "least", "most"] (spCols K) := ok_unames O T C.lg
  have G2 : FnOk P w K mg base CX0 1 fOn dOn ["thing", "signs"] (spOne K) := ok_one O.On T.isi
  have G3 : FnOk P w K mg base CX0 2 fWi dWi ["thing", "many"] (spWid K) := ok_wid O.Wi T.isi T.len T.all C.wd O.W O.bW O.gW
  obtain ⟨tm, gm⟩ := C.mc
  refine O.Sh.ok scSh (fun vs H Q E h => ?_) (fun cdv A outer s H vs Q E hr h => ?_)
  · obtain ⟨x, d, rfl, _⟩ := h
    rfl
  · obtain ⟨x, d, rfl, dq, fit, k⟩ := h
    have hr1 : Room 1 _ := hr.mono (by decide)
    have hr2 : Room 2 _ := hr.mono (by decide)
    refine ⟨_, pss_cons (ps_if (PW.pt (pw_or (pt_not (pt_val (pe_callB call_isi (by rfl) T.isi.i (by decide +kernel) (pa_cons (pv 0) (pa_cons (pe_bltn rfl T.isi.tuple (v := V.ty "tuple") (by decide +kernel) rfl) pa_nil))))) (pw_or (pt_cmpR op_eq (pe_callB call_len_seq (by rfl) T.len PySem.boot_len (pa_cons (pv 0) pa_nil)) pe_int (nomark _)) (pw_or1 (pt_not (pt_val (pe_callB call_isi (by rfl) T.isi.i (by decide +kernel) (pa_cons (pe_ix ix_tup (pv 0) pe_int (fun _ _ => rfl)) (pa_cons (pe_bltn rfl T.isi.str (v := V.ty "str") (by decide +kernel) rfl) pa_nil))))))))) (pss_one (ps_ret pe_bl)) (pss_nil))
      (pss_cons (ps_if (pt_not (pt_val (pe_call G1 hr (by rfl) O.gUN O.UN.kp O.bUN .nil pass0 (pa_cons (pe_ix ix_tup (pv 0) (pe_un un_neg pe_int) (fun _ _ => rfl)) (pa_cons pe_int (pa_cons (pe_glob (v := V.int 6) rfl gm ⟨_, rfl⟩) pa_nil)))))) (pss_one (ps_ret pe_bl)) (pss_nil))
      (pss_cons (ps_if (pt_cmpR op_eq (pe_ix ix_tup (pv 0) pe_int (fun _ _ => rfl)) pe_str (nomark _)) (pss_one (ps_ret (pe_and (pe_cmpR op_eq (pe_callB call_len_seq (by rfl) T.len PySem.boot_len (pa_cons (pv 0) pa_nil)) pe_int (nomark _)) (pe_and (pe_call G2 hr1 (by rfl) O.gOn O.On.kp O.bOn .nil pass0 (pa_cons (pe_ix ix_tup (pv 0) pe_int (fun _ _ => rfl)) (pa_cons (pe_glob (v := V.ref cS) rfl C.gS rfl) pa_nil))) (pe_one (pe_call G2 hr1 (by rfl) O.gOn O.On.kp O.bOn .nil pass0 (pa_cons (pe_ix ix_tup (pv 0) pe_int (fun _ _ => rfl)) (pa_cons (pe_glob (v := V.ref cQ) rfl C.gQ rfl) pa_nil)))))))) (pss_nil))
      (pss_cons (ps_if (pt_cmpR op_ne (pe_callB call_len_seq (by rfl) T.len PySem.boot_len (pa_cons (pv 0) pa_nil)) pe_int (nomark _)) (pss_one (ps_ret pe_bl)) (pss_nil))
      (pss_cons (ps_if (pt_cmpR op_eq (pe_ix ix_tup (pv 0) pe_int (fun _ _ => rfl)) pe_str (nomark _)) (pss_one (ps_ret (pe_call G3 hr2 (by rfl) O.gWi O.Wi.kp O.bWi .nil pass0 (pa_cons (pe_ix ix_tup (pv 0) pe_int (fun _ _ => rfl)) (pa_cons (pe_callB call_len_seq (by rfl) T.len PySem.boot_len (pa_cons (pe_ix ix_tup (pv 0) pe_int (fun _ _ => rfl)) pa_nil)) pa_nil))))) (pss_nil))
      (pss_one (ps_ret (pe_and (pe_cmpR op_eq (pe_ix ix_tup (pv 0) pe_int (fun _ _ => rfl)) pe_str (nomark _)) (pe_one (pe_call G2 hr1 (by rfl) O.gOn O.On.kp O.bOn .nil pass0 (pa_cons (pe_ix ix_tup (pv 0) pe_int (fun _ _ => rfl)) (pa_cons (pe_glob (v := V.ref cN) rfl C.gN rfl) pa_nil))))))))))), ?_⟩
    have k' := k H (Same.refl _)
    refine ⟨_, rfl, x, .ty "tuple", _, _, _, rfl, .ty "tuple", ty_of dq, kit_d d "tuple" (.inr (.inr (.inr rfl))), _, rfl, ?_⟩
    cases dq with
    | non => exact iteT (iteT k')
    | bl b => exact iteT (iteT k')
    | int i => exact iteT (iteT k')
    | str z => exact iteT (iteT k')
    | dk y i e => exact iteT (iteT k')
    | d0 e => exact iteT (iteT k')
    | lst ps e p => exact iteT (iteT k')
    | @tup a ps e p =>
      refine iteF ?_
      refine ⟨_, rfl, a, _, rfl, .inr e, rfl, _, rfl, ?_⟩
      match ps, e, p, k, fit, k' with
      | [], e, p, k, fit, k' => refine ite2 (fun _ => iteT k') (fun q => absurd (decide_eq_true ((lenI [] 0).mpr rfl)) q)
      | p0 :: r, e, p, k, fit, k' =>
        refine ite2 (fun q => absurd ((lenI (p0 :: r) 0).mp (of_decide_eq_true q)) (by simp)) (fun _ => ?_)
        have at0 : atI ((p0 :: r).map (·.1)) 0 = some p0.1 := atI_nat (j := 0) rfl
        have d0 := p p0 List.mem_cons_self
        refine ⟨_, rfl, a, _, 0, p0.1, rfl, rfl, e, at0, p0.1, .ty "str", _, _, _, rfl, .ty "str", ty_of d0, kit_d p0.2 "str" (.inr (.inr (.inl rfl))), _, rfl, ?_⟩
        obtain ⟨ql, ml, atl, getl, gl2⟩ := last_ps (p0 :: r) (by simp)
        have dl := p ql ml
        have k2 : ∀ H', Same H H' → Q (.bl (shapeL (p0.2 :: r.map (·.2)))) H' := k
        obtain ⟨v0, e0⟩ := p0
        dsimp only at d0 at0 k2 e ⊢
        have no : ∀ dd : PyData, (∀ z, dd ≠ .str z) → shapeL (dd :: r.map (·.2)) = false := by
          intro dd hd
          unfold shapeL
          cases dd with
          | str z => exact absurd rfl (hd z)
          | _ => rfl
        have k0 := k2 H (Same.refl _)
        cases d0 with
        | non => exact iteT (by rw [no _ (fun z q => by cases q)] at k0; exact k0)
        | bl b => exact iteT (by rw [no _ (fun z q => by cases q)] at k0; exact k0)
        | int i => exact iteT (by rw [no _ (fun z q => by cases q)] at k0; exact k0)
        | dk y i e => exact iteT (by rw [no _ (fun z q => by cases q)] at k0; exact k0)
        | d0 e => exact iteT (by rw [no _ (fun z q => by cases q)] at k0; exact k0)
        | lst ps e p => exact iteT (by rw [no _ (fun z q => by cases q)] at k0; exact k0)
        | tup ps e p => exact iteT (by rw [no _ (fun z q => by cases q)] at k0; exact k0)
        | str z =>
          refine iteF ?_
          have ft : fitT ql.2 := fit ql.2 (List.mem_map.mpr ⟨ql, ml, rfl⟩)
          refine ⟨_, rfl, _, rfl, a, _, -1, _, rfl, rfl, e, atl, ql.1, ql.2, 1, 6, rfl, dl, ft, by decide, fun H2 s2 => ⟨_, rfl, ?_⟩⟩
          have e2 := sameT s2 e
          have k3 : Q (.bl (shapeL (PyData.str z :: r.map (·.2)))) H2 := k2 H2 s2
          have sl : shapeL (PyData.str z :: r.map (·.2)) = (colsD 1 6 ql.2 && restL z (PyData.str z :: r.map (·.2)) ql.2) := by
            unfold shapeL
            have g : (PyData.str z :: r.map (·.2)).getLast? = some ql.2 := getl
            rw [g]
            rfl
          rw [sl] at k3
          cases cc : colsD 1 6 ql.2 with
          | false =>
            rw [cc, Bool.false_and] at k3
            exact iteT k3
          | true =>
            rw [cc, Bool.true_and] at k3
            refine iteF ?_
            refine ⟨_, rfl, a, _, 0, _, rfl, rfl, e2, at0, rfl, _, rfl, ?_⟩
            rw [strV]
            unfold restL at k3
            have ln4 : (V.int (((((V.str z, PyData.str z) :: r).map (·.1)).length : Nat) : Int) = V.int 4) ↔ ((V.str z, PyData.str z) :: r).length = 4 := lenI _ 4
            have ln3 : (V.int (((((V.str z, PyData.str z) :: r).map (·.1)).length : Nat) : Int) = V.int 3) ↔ ((V.str z, PyData.str z) :: r).length = 3 := lenI _ 3
            have lm : (PyData.str z :: r.map (·.2)).length = ((V.str z, PyData.str z) :: r).length := by simp
            rw [lm] at k3
            by_cases c0 : z = Str.ofString "signs"
            · rw [if_pos c0] at k3
              rw [decide_eq_true c0]
              refine iteT ?_
              refine ⟨_, rfl, a, _, rfl, .inr e2, rfl, _, rfl, ?_⟩
              by_cases c4 : ((V.str z, PyData.str z) :: r).length = 4
              · rw [decide_eq_true c4, Bool.true_and] at k3
                rw [decide_eq_true (ln4.mpr c4)]
                refine iteT ?_
                obtain ⟨q1, h1, a1, g1, m1⟩ := get_ps ((V.str z, PyData.str z) :: r) 1 (by omega)
                obtain ⟨q2, h2, a2, g2, m2⟩ := get_ps ((V.str z, PyData.str z) :: r) 2 (by omega)
                have g1' : (PyData.str z :: r.map (·.2)).getD 1 .none = q1.2 := g1
                have g2' : (PyData.str z :: r.map (·.2)).getD 2 .none = q2.2 := g2
                rw [g1', g2'] at k3
                refine ⟨_, rfl, a, _, 1, _, rfl, rfl, e2, a1, q1.1, q1.2, cS, signsL, rfl, (p q1 m1).same s2, C.sS H2, _, rfl, ?_⟩
                cases cx : oneD signsL q1.2 with
                | false =>
                  rw [cx, Bool.false_and] at k3
                  exact iteF k3
                | true =>
                  rw [cx, Bool.true_and] at k3
                  refine iteT ?_
                  exact ⟨_, rfl, a, _, 2, _, rfl, rfl, e2, a2, q2.1, q2.2, cQ, quotesL, rfl, (p q2 m2).same s2, C.sQ H2, k3⟩
              · rw [decide_eq_false c4, Bool.false_and] at k3
                rw [decide_eq_false (fun q => c4 (ln4.mp q))]
                exact iteF k3
            · rw [if_neg c0] at k3
              rw [decide_eq_false c0]
              refine iteF ?_
              refine ⟨_, rfl, a, _, rfl, .inr e2, rfl, _, rfl, ?_⟩
              by_cases c3 : ((V.str z, PyData.str z) :: r).length = 3
              · rw [decide_eq_true c3, Bool.true_and] at k3
                rw [decide_eq_true (ln3.mpr c3)]
                refine iteF ?_
                obtain ⟨q1, h1, a1, g1, m1⟩ := get_ps ((V.str z, PyData.str z) :: r) 1 (by omega)
                obtain ⟨q2, h2, a2, g2, m2⟩ := get_ps ((V.str z, PyData.str z) :: r) 2 (by omega)
                have g1' : (PyData.str z :: r.map (·.2)).getD 1 .none = q1.2 := g1
                rw [g1'] at k3
                have eq2 : q2 = ql := by
                  have gl3 : ((V.str z, PyData.str z) :: r)[2]? = some ql := by
                    have := gl2
                    rw [c3] at this
                    exact this
                  exact Option.some.inj (h2.symm.trans gl3)
                refine ⟨_, rfl, a, _, 0, _, rfl, rfl, e2, at0, rfl, _, rfl, ?_⟩
                rw [strV]
                by_cases cp : z = Str.ofString "places"
                · rw [if_pos cp] at k3
                  rw [decide_eq_true cp]
                  refine iteT ?_
                  obtain ⟨b, xs, eb, sb, lb⟩ := len_tup (dl.same s2) cc
                  refine ⟨_, rfl, a, _, 1, _, rfl, rfl, e2, a1, _, rfl, a, _, 2, _, rfl, rfl, e2, a2, b, xs, by rw [eq2]; exact congrArg (fun y => [y]) eb, .inr sb, q1.1, q1.2, (listT ql.2).length, ?_, (p q1 m1).same s2, ?_, fun H3 s3 => ?_⟩
                  · rw [lb]
                    rfl
                  · have c2 := cc
                    unfold colsD namesD at c2
                    cases hh : ql.2 with
                    | tuple l =>
                      rw [hh] at c2
                      simp only [Bool.and_eq_true, decide_eq_true_eq] at c2
                      show l.length ≤ 1000
                      omega
                    | _ => simp [listT]
                  · have k4 := k2 H3 (fun b o q => s3 b o (s2 b o q))
                    have e4 : shapeL (PyData.str z :: r.map (·.2)) = widD (listT ql.2).length q1.2 := by
                      rw [sl, cc, Bool.true_and]
                      unfold restL
                      rw [if_neg c0, if_pos cp, lm, decide_eq_true c3, Bool.true_and, g1']
                    rw [← e4]
                    exact k4
                · rw [if_neg cp] at k3
                  rw [decide_eq_false cp]
                  refine iteF ?_
                  refine ⟨_, rfl, a, _, 0, _, rfl, rfl, e2, at0, rfl, _, rfl, ?_⟩
                  rw [strV]
                  by_cases cn : z = Str.ofString "named"
                  · rw [decide_eq_true cn, Bool.true_and] at k3
                    rw [decide_eq_true cn]
                    refine iteT ?_
                    exact ⟨_, rfl, a, _, 1, _, rfl, rfl, e2, a1, q1.1, q1.2, cN, namedL, rfl, (p q1 m1).same s2, C.sN H2, k3⟩
                  · rw [decide_eq_false cn, Bool.false_and] at k3
                    rw [decide_eq_false cn]
                    exact iteF k3
              · rw [decide_eq_false c3, Bool.false_and] at k3
                rw [decide_eq_false (fun q => c3 (ln3.mp q))]
                exact iteT k3
end
end K01
set_option Elab.async false
set_option linter.all false
set_option maxRecDepth 100000
set_option maxHeartbeats 4000000
namespace K01
open PySem PySem.Spec PyProof.Rows L2 Bs Xg TL
/-! ### a comprehension that makes one value a turn, by a hand or without -/
section
variable {J : It} {n : Nat} {Gd : Hp → Prop} {Y : Nat → Hp → V → Hp → Prop}
theorem lc_map (w : Walk J n Gd Y) {i : Nat} {te : TE} {σ : L2.St} {H : Hp} {D h : Addr} {Q : Hp → Prop} {Z : Nat → V → Prop} (I : Nat → Hp → Prop) (W : Nat → V → Hp → Prop)
    (nD : H D = none) (nh : D ≠ h) (hY : ∀ j G x G', Y j G x G' → G' = G ∧ Z j x) (hG : ∀ G, But h H G → Gd G)
    (st : ∀ j y G G', (∀ b o, b ≠ D → b ≠ h → G b = some o → G' b = some o) → (∃ l, G D = some (.lst l)) → W j y G → W j y G')
    (small : n < 100000) (wp : ∀ x, wipe ((wipe σ [i]).set i (some x)) [i] = wipe σ [i]) (I0 : I 0 H) (ID : ∀ j G l, I j G → I j (upd G D (.lst l)))
    (turn : ∀ j x G (Q' : VK), j < n → Z j x → But h H G → I j G → (∃ l, G D = some (.lst l)) → (∀ y G', But h G G' → I (j + 1) G' → W j y G' → Q' y G') → te ((wipe σ [i]).set i (some x)) G Q')
    (fin : ∀ G ys, But h H G → I n G → G D = some (.lst ys) → ys.length = n → (∀ j y, ys[j]? = some y → W j y G) → Q G) :
    ∃ W' : Nat → Nat → Hp → Prop, (∃ m, W' 0 m (upd H D (.lst []))) ∧ ∀ j m G, W' j m G →
      (J.stop j G ∧ Q G) ∨ (J.go j G ∧ ∃ Nx : Hp → Prop, (∀ G', Nx G' → ∃ m', m' < m ∧ W' (j + 1) m' G') ∧ ∀ x G', J.yld j G x G' → gName i x (wipe σ [i]) G' fun σ2 H2 => wipe σ2 [i] = wipe σ [i] ∧ tYes σ2 H2 fun b H3 =>
        if b = true then te σ2 H3 fun y H4 => ∃ acc, H4 D = some (.lst acc) ∧ acc.length < sizeLine ∧ Nx (upd H4 D (.lst (acc ++ [y]))) else Nx H3) := by
  have oldD : ∀ G l, But h H G → But h H (upd G D (.lst l)) := by
    intro G l b c o nc e
    rw [upd_ne (ne_of_none e nD)]
    exact b c o nc e
  refine lc_it w (fun j G => But h H G ∧ I j G ∧ ∃ ys, G D = some (.lst ys) ∧ ys.length = j ∧ ∀ m y, ys[m]? = some y → W m y G) ⟨oldD _ _ (But.refl h H), ID _ _ _ I0, [], upd_same, rfl, fun m y e => by simp at e⟩ (fun j G _ q => hG G q.1) ?_ ?_
  · rintro j x G G' hj ⟨bt, ij, ys, eD, ly, hw⟩ hy
    obtain ⟨rfl, z⟩ := hY _ _ _ _ hy
    refine ⟨wp x, yes ?_⟩
    refine turn j x G' _ hj z bt ij ⟨_, eD⟩ fun y G2 bt2 ij2 wy => ?_
    have eD2 : G2 D = some (.lst ys) := bt2 D _ nh eD
    have kp : ∀ b o, b ≠ D → G2 b = some o → upd G2 D (.lst (ys ++ [y])) b = some o := fun b o nb e => by rw [upd_ne nb]; exact e
    refine ⟨ys, eD2, ?_, oldD _ _ (bt.trans bt2), ID _ _ _ ij2, ys ++ [y], upd_same, by rw [List.length_append, ly]; rfl, fun m y' e => ?_⟩
    · rw [ly, sizeLine_eq]
      omega
    · by_cases hm : m < ys.length
      · rw [List.getElem?_append_left hm] at e
        exact st _ _ _ _ (fun b o nb nb2 eb => kp b o nb (bt2 b o nb2 eb)) ⟨_, eD⟩ (hw m y' e)
      · have hm' : m = ys.length := by
          have := (List.getElem?_eq_some_iff.mp e).1
          rw [List.length_append] at this
          simp at this
          omega
        subst hm'
        rw [List.getElem?_append_right (Nat.le_refl _)] at e
        simp at e
        subst e
        rw [ly]
        exact st _ _ _ _ (fun b o nb _ eb => kp b o nb eb) ⟨_, eD2⟩ wy
  · rintro G ⟨bt, ij, ys, eD, ly, hw⟩
    exact fin G ys bt ij eD ly hw
end
section
variable {J : It} {n : Nat} {Gd : Hp → Prop} {Y : Nat → Hp → V → Hp → Prop}
/-- a comprehension whose turns change nothing that was there -/
theorem lc_val (w : Walk J n Gd Y) {i : Nat} {te : TE} {σ : L2.St} {H : Hp} {D : Addr} {Q : Hp → Prop} {Z : Nat → V → Prop} (f : Nat → V)
    (nD : H D = none) (hY : ∀ j G x G', Y j G x G' → G' = G ∧ Z j x) (hG : ∀ G, Same H G → Gd G) (small : n < 100000) (wp : ∀ x, wipe ((wipe σ [i]).set i (some x)) [i] = wipe σ [i])
    (turn : ∀ j x G (Q' : VK), j < n → Z j x → Same H G → (∀ G', Same G G' → Q' (f j) G') → te ((wipe σ [i]).set i (some x)) G Q')
    (fin : ∀ G, Same H G → G D = some (.lst ((List.range n).map f)) → Q G) :
    ∃ W' : Nat → Nat → Hp → Prop, (∃ m, W' 0 m (upd H D (.lst []))) ∧ ∀ j m G, W' j m G →
      (J.stop j G ∧ Q G) ∨ (J.go j G ∧ ∃ Nx : Hp → Prop, (∀ G', Nx G' → ∃ m', m' < m ∧ W' (j + 1) m' G') ∧ ∀ x G', J.yld j G x G' → gName i x (wipe σ [i]) G' fun σ2 H2 => wipe σ2 [i] = wipe σ [i] ∧ tYes σ2 H2 fun b H3 =>
        if b = true then te σ2 H3 fun y H4 => ∃ acc, H4 D = some (.lst acc) ∧ acc.length < sizeLine ∧ Nx (upd H4 D (.lst (acc ++ [y]))) else Nx H3) := by
  refine lc_it w (fun j G => Same H G ∧ G D = some (.lst ((List.range j).map f))) ⟨Same.new nD, upd_same⟩ (fun j G _ q => hG G q.1) ?_ ?_
  · rintro j x G G' hj ⟨sG, eD⟩ hy
    obtain ⟨rfl, z⟩ := hY _ _ _ _ hy
    refine ⟨wp x, yes ?_⟩
    refine turn j x G' _ hj z sG fun G2 s2 => ⟨_, s2 _ _ eD, ?_, fun b o eo => ?_, ?_⟩
    · rw [List.length_map, List.length_range, sizeLine_eq]
      omega
    · rw [upd_ne (ne_of_none eo nD)]
      exact s2 _ _ (sG b o eo)
    · rw [upd_same, List.range_succ, List.map_append]
      rfl
  · rintro G ⟨sG, eD⟩
    exact fin G sG eD
end
theorem range_at {α β : Type} (xs : List α) (f : α → β) (g : Nat → β) (h : ∀ j x, xs[j]? = some x → g j = f x) : (List.range xs.length).map g = xs.map f := by
  apply List.ext_getElem
  · simp
  · intro j h1 h2
    rw [List.getElem_map, List.getElem_map, List.getElem_range]
    exact h j _ (List.getElem?_eq_getElem _)
theorem yat {xs : List V} : ∀ j G x G', YAt xs j G x G' → G' = G ∧ xs[j]? = some x := fun _ _ _ _ h => h
theorem But.sub {h : Addr} {H H' : Hp} (b : But h H H') (n : H h = none) : Same H H' := fun c o e => b c o (ne_of_none e n) e
end K01
set_option Elab.async false
set_option linter.all false
set_option maxRecDepth 100000
set_option maxHeartbeats 4000000
namespace K01
open PySem PySem.Spec PyProof.Rows L2 Bs Xg TL
abbrev sWords : Stmt := top 27
theorem tl_cut_len (z : Str) {i : Int} (i0 : 0 ≤ i) (il : i ≤ (z.length : Nat)) : (tl (cutS z none (some i))).length + (tl (cutS z (some i) none)).length = (tl z).length := by
  have a : tl (cutS z none (some i)) = (tl z).take i.toNat := by
    show ((tl z).drop (HT.sIx z.length 0 none)).take (HT.sIx z.length z.length (some i) - HT.sIx z.length 0 none) = _
    have e : HT.sIx z.length z.length (some i) = i.toNat := by
      show (if i < 0 then (i + (z.length : Int)).toNat else min i.toNat z.length) = _
      rw [if_neg (by omega)]
      omega
    rw [HT.sIx_none, e, List.drop_zero, Nat.sub_zero]
  have b : tl (cutS z (some i) none) = (tl z).drop i.toNat := by
    show ((tl z).drop (HT.sIx z.length 0 (some i))).take (HT.sIx z.length z.length none - HT.sIx z.length 0 (some i)) = _
    have e : HT.sIx z.length 0 (some i) = i.toNat := by
      show (if i < 0 then (i + (z.length : Int)).toNat else min i.toNat z.length) = _
      rw [if_neg (by omega)]
      omega
    rw [HT.sIx_none, e, len_tl, List.take_of_length_le (by rw [List.length_drop]; omega)]
  rw [a, b, List.length_take, List.length_drop]
  rw [len_tl] at il
  omega
section
variable {P : Program} {w : World} {K : PySem.W.Frag} {mg : Str → Option Value} {base : Heap}
theorem join_tl : ∀ ys : List Str, Txt.join (Str.ofString "") ys = ⟨((ys.map tl).flatten).toArray⟩ := by
  intro ys
  apply TL.ext_tl
  rw [TL.join_eq, TL.tl_join, TL.tl_mk]
  have e : tl (Str.ofString "") = [] := by decide
  show joinL (tl (Str.ofString "")) (ys.map tl) = (ys.map tl).flatten
  rw [e]
  generalize ys.map tl = l
  induction l with
  | nil => rfl
  | cons a r ih =>
    cases r with
    | nil => simp [joinL]
    | cons b r =>
      have u : joinL [] (a :: b :: r) = a ++ ([] ++ joinL [] (b :: r)) := by simp [joinL]
      rw [u, ih]
      simp
theorem glued : ∀ {zs : List Str}, (∀ z ∈ zs, Good 1 z) → Good zs.length (Txt.join (Str.ofString "") zs) ∧ (zs.map (·.length)).sum ≤ zs.length := by
  intro zs h
  rw [join_tl]
  induction zs with
  | nil => exact ⟨⟨Nat.le_refl _, fun c hc => by simp at hc⟩, Nat.le_refl _⟩
  | cons z r ih =>
    obtain ⟨⟨i1, i2⟩, i3⟩ := ih fun y hy => h y (List.mem_cons_of_mem _ hy)
    have hz := h z List.mem_cons_self
    have i1' : ((r.map tl).flatten).length ≤ r.length := by
      have e : ({ cps := (r.map tl).flatten.toArray } : Str).length = ((r.map tl).flatten).length := by simp [Str.length]
      rw [e] at i1
      exact i1
    refine ⟨⟨?_, fun c hc => ?_⟩, ?_⟩
    · have e : ({ cps := ((z :: r).map tl).flatten.toArray } : Str).length = (tl z).length + ((r.map tl).flatten).length := by simp [Str.length]
      rw [e, ← len_tl, List.length_cons]
      have := hz.1
      omega
    · have hc' : c ∈ tl z ++ (r.map tl).flatten := by simpa using hc
      rcases List.mem_append.mp hc' with q | q
      · exact hz.2 c q
      · exact i2 c (by simpa using q)
    · rw [List.map_cons, List.sum_cons, List.length_cons]
      have := hz.1
      omega
theorem Good.sign {z : Str} {L : Nat} (g : Good L z) {c : Nat} (hc : c ∈ z.cps.toList) : Good 1 ⟨#[c]⟩ := by
  refine ⟨Nat.le_refl 1, fun d hd => ?_⟩
  rw [show d = c from List.mem_singleton.mp hd]
  exact g.2 c hc
theorem Good.dec {L : Nat} {z : Str} (h : (decide (z.length ≤ L) && z.cps.toList.all fun c => decide (32 ≤ c) && decide (c < 127)) = true) : Good L z := by
  simp only [Bool.and_eq_true, decide_eq_true_eq, List.all_eq_true] at h
  exact ⟨h.1, h.2⟩
theorem Good.fits {L : Nat} {z : Str} (h : Good L z) (l : L ≤ 1000) : z.length ≤ sizeLine := Nat.le_trans h.1 (Nat.le_trans l (by decide))
theorem add_fits {a b : Nat} {x y : Str} (h : Good a x) (g : Good b y) (l : a + b ≤ 1000) : x.length + y.length ≤ sizeLine := Nat.le_trans (Nat.add_le_add h.1 g.1) (Nat.le_trans l (by decide))
theorem HandAt.old {H : Hp} {h D : Addr} {n : Nat} {l : List V} (a : HandAt H h n) (ne : h ≠ D) : HandAt (upd H D (.lst l)) h n := by
  obtain ⟨g, t, c, e, q⟩ := a
  exact ⟨g, t, c, by rw [upd_ne ne]; exact e, q⟩
theorem HandAt.fresh {H : Hp} {h D : Addr} {n : Nat} (a : HandAt H h n) (nD : H D = none) : h ≠ D := by
  obtain ⟨g, t, c, e, _⟩ := a
  exact ne_of_none e nD
structure HandF (K : PySem.W.Frag) (mg : Str → Option Value) (fT fP : Addr) (dT dP : FuncData) : Prop where
  T : Fun K "_law_take" "_law_take" sTake fT dT
  bT : Binds K dT ["_law_hand_here", "_law_many"] []
  gT : mg "_law_take" = some (.ref fT)
  P : Fun K "_law_pick" "_law_pick" sPick fP dP
  bP : Binds K dP ["_law_hand_here", "_law_some"] []
  gP : mg "_law_pick" = some (.ref fP)
def letters : Str := Str.ofString "abcdefghijklmnopqrstuvwxyz"
theorem lettersG : Good 26 letters := .dec (by decide +kernel)
def spWords : Sp := fun vs H Q _ => ∃ (h : Addr) (n m : Nat), vs = [.ref h, .int (m : Int)] ∧ HandAt H h n ∧ n + 20 < 1000000 ∧ m ≤ 6 ∧
  ∀ (p : Addr) (H' : Hp) (zs : List Str), zs.length = m → (∀ z ∈ zs, Good 8 z) → HandAt H' h (n + 20) → But h H H' → H' p = some (.lst (zs.map V.str)) → H p = none → Q (.ref p) H'
abbrev nWs : List Str := ["_law_hand_here", "_law_many", "_law_letters", "_law_first", "_law_by", "_law_k", "_law_stem", "_law_at", "_law_found", "_law_spot", "_law_pair"]
theorem scWs : FnScope nWs ["_law_hand_here", "_law_many"] (defScope sWords) := ⟨rfl, rfl, rfl, by decide +kernel, rfl, by decide +kernel, by decide +kernel⟩
variable {fT fP : Addr} {dT dP : FuncData}
theorem ok_words {f : Addr} {fd : FuncData} (F : Fun K "_law_words" "_law_words" sWords f fd) (T : Txt mg) (Z : HandF K mg fT fP dT dP) : FnOk P w K mg base CX0 3 f fd ["_law_hand_here", "_law_many"] spWords := by
  have GT : FnOk P w K mg base CX0 1 fT dT ["_law_hand_here", "_law_many"] spTake := ok_take Z.T
  have GP : FnOk P w K mg base CX0 2 fP dP ["_law_hand_here", "_law_some"] (spPick K) := ok_pick Z.P T Z.T Z.bT Z.gT
  refine F.ok scWs (fun vs H Q E h => ?_) (fun cdv A outer s H vs Q E hr h => ?_)
  · obtain ⟨h, n, m, rfl, _⟩ := h
    rfl
  · obtain ⟨h, n, m, rfl, hd, nb, ml, k⟩ := h
    have hr1 : Room 1 _ := hr.mono (by decide)
    refine ⟨_,pss_cons (ps_set (i := 2) scWs.nd rfl (Or.inr rfl) pe_str)
      (pss_cons (ps_par (i := 3) (j := 4) rfl scWs.nd rfl rfl (by decide) rfl rfl (pa_cons (pe_call GT hr1 (by rfl) Z.gT Z.T.kp Z.bT .nil pass0 (pa_cons (pv 0) (pa_cons pe_int pa_nil))) (pa_cons (pe_call GP hr (by rfl) Z.gP Z.P.kp Z.bP .nil pass0 (pa_cons (pv 0) (pa_cons (pe_lst (pa_cons pe_int (pa_cons pe_int (pa_cons pe_int (pa_cons pe_int (pa_cons pe_int pa_nil)))))) pa_nil))) pa_nil)) (by rfl))
      (pss_cons (ps_set (i := 6) scWs.nd rfl (Or.inl rfl) (pe_join pe_str (pe_lc (own := [("_law_k", 5)]) (g := gName 5) (tt := tYes) rfl scWs.nd (pi_range1 rfl T.range (pa_cons (pe_call GP hr (by rfl) Z.gP Z.P.kp Z.bP .nil pass0 (pa_cons (pv 0) (pa_cons (pe_lst (pa_cons pe_int (pa_cons pe_int (pa_cons pe_int (pa_cons pe_int (pa_cons pe_int pa_nil)))))) pa_nil))) pa_nil)) (blkOk_by (N := nWs) (sc := defScope sWords) (by decide +kernel)) (fun _ _ _ _ _ => pg_name (i := 5) scWs.nd rfl (Or.inl rfl)) (fun _ _ _ _ _ => pts_nil) (fun _ _ _ _ _ => pe_call GP hr (by rfl) Z.gP Z.P.kp Z.bP .nil pass0 (pa_cons (pv 0) (pa_cons (pv 2) pa_nil))))))
      (pss_cons (ps_par (i := 7) (j := 8) rfl scWs.nd rfl rfl (by decide) rfl rfl (pa_cons (pe_call GT hr1 (by rfl) Z.gT Z.T.kp Z.bT .nil pass0 (pa_cons (pv 0) (pa_cons (pe_op op_add (pe_callB call_len_str (by rfl) T.len PySem.boot_len (pa_cons (pv 6) pa_nil)) pe_int) pa_nil))) (pa_cons (pe_lst pa_nil) pa_nil)) (by rfl))
      (pss_cons (ps_for PassesOwn.never rfl (pi_range1 rfl T.range (pa_cons (pv 1) pa_nil)) (pg_name (i := 5) scWs.nd rfl (Or.inl rfl)) (pss_cons (ps_set (i := 9) scWs.nd rfl (Or.inl rfl) (pe_op op_mod (pe_op op_add (pv 3) (pe_op op_mul (pv 4) (pv 5))) pe_int))
      (pss_cons (ps_set (i := 10) scWs.nd rfl (Or.inl rfl) (pe_op op_add_str (pe_ix ix_str (pv 2) (pe_op op_fdiv (pv 9) pe_int) (fun _ _ => rfl)) (pe_ix ix_str (pv 2) (pe_op op_mod (pv 9) pe_int) (fun _ _ => rfl))))
      (pss_one (ps_expr (pe_bm PySem.F.plainAttrs_list PySem.F.slot_list_append PySem.F.type_list_append mt_append (pv 8) (pa_cons (pe_op op_add_str (pe_op op_add_str (pe_slice sl_str (pv 6) po_none (po_some (pv 7))) (pv 10)) (pe_slice sl_str (pv 6) (po_some (pv 7)) po_none)) pa_nil)))))))
      (pss_one (ps_ret (pv 8))))))), ?_⟩
    refine gN ?_
    dsimp only
    refine ⟨_, rfl, h, n, _, rfl, hd, by omega, by decide, by decide, fun first H1 f0 f1 hd1 bt1 => ?_⟩
    refine ⟨_, rfl, (by show 5 ≤ sizeLine; decide), fun l1 hl1 => ?_⟩
    refine ⟨h, n + 1, _, _, rfl, hd1.mono (Same.new hl1) (Nat.le_refl _), by omega, by decide, by decide, .inr ⟨l1, rfl, (hd1.fresh hl1).symm, SqL.of upd_same⟩, fun y H2 hy hd2 bt2 => ?_⟩
    obtain ⟨by_, rfl, hby⟩ : ∃ b : Int, y = .int b ∧ 0 ≤ b ∧ b ≤ 105 := by
      simp only [List.mem_cons, List.not_mem_nil, or_false] at hy
      rcases hy with rfl | rfl | rfl | rfl | rfl <;> exact ⟨_, rfl, by decide, by decide⟩
    refine ⟨_, _, rfl, ?_⟩
    have b02 : But h H H2 := (bt1.trans (But.of (Same.new hl1))).trans bt2
    dsimp only
    refine ⟨⟨_, rfl⟩, _, rfl, (by show 5 ≤ sizeLine; decide), fun l2 hl2 => ?_⟩
    refine ⟨h, n + 2, _, _, rfl, hd2.mono (Same.new hl2) (by omega), by omega, by decide, by decide, .inr ⟨l2, rfl, (hd2.fresh hl2).symm, SqL.of upd_same⟩, fun y H3 hy hd3 bt3 => ?_⟩
    obtain ⟨q, rfl, hq⟩ : ∃ q : Nat, y = .int (q : Int) ∧ q ≤ 6 := by
      simp only [List.mem_cons, List.not_mem_nil, or_false] at hy
      rcases hy with rfl | rfl | rfl | rfl | rfl
      · exact ⟨0, rfl, by decide⟩
      · exact ⟨0, rfl, by decide⟩
      · exact ⟨1, rfl, by decide⟩
      · exact ⟨3, rfl, by decide⟩
      · exact ⟨6, rfl, by decide⟩
    have b03 : But h H H3 := (b02.trans (But.of (Same.new hl2))).trans bt3
    refine ⟨(q : Int), rfl, by omega, by omega, fun D nD => ?_⟩
    have nh : D ≠ h := (hd3.fresh nD).symm
    refine lc_map (walk_range (lo := 0) (n := (q : Int).toNat)) (h := h) (Z := fun j x => True) (fun j G => HandAt G h (n + 3 + j)) (fun _ y _ => ∃ z, y = V.str z ∧ Good 1 z) nD nh (fun j G x G' e => ⟨e.1, trivial⟩) (fun _ _ => trivial) (fun _ _ _ _ _ _ e => e) (by omega) (fun _ => rfl) (hd3.up (by omega)) (fun j G l a => a.old nh.symm) ?_ ?_
    · rintro j x G Q' hj _ btG hdG _ kk
      refine ⟨_, rfl, _, rfl, h, n + 3 + j, _, _, rfl, hdG, by omega, ?_, ?_, .inl ⟨letters, rfl, rfl⟩, fun y G2 hy hd5 bt5 => ?_⟩
      · rw [List.length_map]
        decide +kernel
      · rw [List.length_map]
        decide +kernel
      · obtain ⟨c, hc, rfl⟩ := List.mem_map.mp hy
        exact kk _ _ bt5 hd5 ⟨_, rfl, lettersG.sign hc⟩
    · rintro G ys btG hdG eD ly hw
      obtain ⟨zs, rfl, gz⟩ : ∃ zs : List Str, ys = zs.map V.str ∧ ∀ z ∈ zs, Good 1 z := by
        clear eD ly
        have hw' : ∀ y ∈ ys, ∃ z, y = V.str z ∧ Good 1 z := fun y hy => by
          obtain ⟨j, hj⟩ := List.mem_iff_getElem?.mp hy
          exact hw j y hj
        clear hw
        induction ys with
        | nil => exact ⟨[], rfl, fun z hz => by simp at hz⟩
        | cons y ys ih =>
          obtain ⟨zs, rfl, g⟩ := ih fun y hy => hw' y (List.mem_cons_of_mem _ hy)
          obtain ⟨z, rfl, gz⟩ := hw' y List.mem_cons_self
          refine ⟨z :: zs, rfl, fun z' hz => ?_⟩
          rcases List.mem_cons.mp hz with rfl | hz
          · exact gz
          · exact g z' hz
      rw [List.length_map] at ly
      have gl := glued gz
      have b0G : But h H G := b03.trans btG
      refine ⟨_, D, zs, rfl, rfl, .inl (SqL.of eD), ?_, ?_⟩
      · have z0 : (Str.ofString "").length = 0 := by decide +kernel
        rw [z0]
        omega
      have gs : Good 6 (Txt.join (Str.ofString "") zs) := gl.1.le (by omega)
      generalize Txt.join (Str.ofString "") zs = stem at gs
      have sl : stem.length ≤ 6 := gs.1
      refine gN ?_
      dsimp only
      refine ⟨_, rfl, _, rfl, _, rfl, gs.fits (by decide), _, _, rfl, rfl, h, n + 3 + (q : Int).toNat, _, rfl, hdG, by omega, by omega, by omega, fun at_ G1 a0 a1 hd5 bt5 => ?_⟩
      refine ⟨(by show 0 ≤ sizeLine; decide), fun fo nfo => ?_⟩
      refine ⟨_, _, rfl, ?_⟩
      dsimp only
      have hf : h ≠ fo := hd5.fresh nfo
      have new0 : H fo = none := by
        cases e : H fo with
        | none => rfl
        | some o =>
          have := (b0G.trans bt5) fo o hf.symm e
          rw [nfo] at this
          cases this
      refine ⟨_, rfl, (m : Int), rfl, by omega, by omega, for_range (lo := 0) (n := (m : Int).toNat) (fun j σ G' => ∃ (zs' : List Str) (v5 v9 v10 : Option V), σ = [some (.ref h), some (.int (m : Int)), some (.str letters), some (.int first), some (.int by_), v5, some (.str stem), some (.int at_), some (.ref fo), v9, v10] ∧ zs'.length = j ∧ (∀ z ∈ zs', Good 8 z) ∧ G' fo = some (.lst (zs'.map V.str)) ∧ HandAt G' h (n + 20) ∧ But h H G')
        ⟨[], _, _, _, rfl, rfl, fun z hz => by simp at hz, upd_same, (hd5.old hf).up (by omega), (b0G.trans bt5).trans (But.of (Same.new nfo))⟩ ?_ ?_⟩
      · rintro j σ G' hj ⟨zs', v5, v9, v10, rfl, lz, gz', eF, hdF, btF⟩
        rw [Int.zero_add (j : Int)]
        dsimp only [gName]
        refine ⟨_, rfl, _, rfl, _, rfl, _, _, rfl, rfl, .inl ⟨by omega, by omega⟩, _, _, rfl, rfl, _, _, rfl, rfl, (by decide : (0 : Int) < 676), gN ?_⟩
        dsimp only
        generalize hsp : (first + by_ * (j : Int)) % 676 = spot
        have s0 : 0 ≤ spot := by rw [← hsp]; exact Int.emod_nonneg _ (by decide)
        have s1 : spot < 676 := by rw [← hsp]; exact Int.emod_lt_of_pos _ (by decide)
        have get : ∀ i : Int, 0 ≤ i → i < 26 → ∃ c, atI letters.cps.toList i = some c ∧ c ∈ letters.cps.toList := by
          intro i i0 i1
          have ll : letters.cps.toList.length = 26 := by decide +kernel
          have li : i.toNat < letters.cps.toList.length := by omega
          refine ⟨letters.cps.toList[i.toNat], ?_, List.getElem_mem li⟩
          have e := atI_nat (xs := letters.cps.toList) (j := i.toNat) (List.getElem?_eq_getElem li)
          rw [Int.toNat_of_nonneg i0] at e
          exact e
        obtain ⟨c1, ec1, mc1⟩ := get (spot / 26) (by omega) (by omega)
        obtain ⟨c2, ec2, mc2⟩ := get (spot % 26) (by omega) (by omega)
        refine ⟨_, rfl, _, rfl, _, _, rfl, rfl, ⟨by decide, by decide⟩, letters, _, _, rfl, rfl, lettersG.fits (by decide), ec1, ?_⟩
        refine ⟨_, rfl, _, rfl, _, _, rfl, rfl, (by decide : (0 : Int) < 26), letters, _, _, rfl, rfl, lettersG.fits (by decide), ec2, ?_⟩
        have g1 := lettersG.sign mc1
        have g2 := lettersG.sign mc2
        refine ⟨_, _, rfl, rfl, add_fits g1 g2 (by decide), gN ?_⟩
        dsimp only
        have g12 := g1.app g2
        refine ⟨_, rfl, .inl ⟨rfl, _, SqL.of eF⟩, ?_⟩
        refine ⟨_, rfl, _, rfl, _, rfl, stem, rfl, gs.fits (by decide), ?_⟩
        refine ⟨_, rfl, _, _, rfl, rfl, add_fits (gs.cut none (some at_)) g12 (by decide), ?_⟩
        refine ⟨_, rfl, _, rfl, _, rfl, stem, rfl, gs.fits (by decide), ?_⟩
        have gL : Good 8 (cutS stem none (some at_) ++ (⟨#[c1]⟩ ++ ⟨#[c2]⟩) ++ cutS stem (some at_) none) := by
          have glen : (cutS stem none (some at_) ++ (⟨#[c1]⟩ ++ ⟨#[c2]⟩) ++ cutS stem (some at_) none).length ≤ 8 := by
            have e1 := tl_cut_len stem a0 (by omega)
            rw [len_tl, tl_append, tl_append, List.length_append, List.length_append, tl_append]
            rw [len_tl] at sl
            show (tl _).length + 2 + _ ≤ 8
            omega
          exact ⟨glen, (((gs.cut none (some at_)).app g12).app (gs.cut (some at_) none)).2⟩
        refine ⟨_, _, rfl, rfl, add_fits ((gs.cut none (some at_)).app g12) (gs.cut (some at_) none) (by decide), ?_⟩
        refine ⟨fo, _, _, rfl, rfl, eF, ?_, ?_⟩
        · rw [List.length_map, sizeLine_eq]
          omega
        · refine ⟨zs' ++ [cutS stem none (some at_) ++ (⟨#[c1]⟩ ++ ⟨#[c2]⟩) ++ cutS stem (some at_) none], _, _, _, rfl, by rw [List.length_append, lz]; rfl, fun z hz => ?_, ?_, hdF.old hf, ?_⟩
          · rcases List.mem_append.mp hz with hz | hz
            · exact gz' z hz
            · rw [List.mem_singleton.mp hz]
              exact gL
          · rw [upd_same, List.map_append]
            rfl
          · intro b o nb' e
            rw [upd_ne (ne_of_none e new0)]
            exact btF b o nb' e
      · rintro σ G' ⟨zs', v5, v9, v10, rfl, lz, gz', eF, hdF, btF⟩
        exact ⟨_, rfl, k fo G' zs' (by omega) gz' hdF btF eF new0⟩
end
end K01
set_option Elab.async false
set_option linter.all false
set_option maxRecDepth 100000
set_option maxHeartbeats 4000000
namespace K01
open PySem PySem.Spec PyProof.Rows L2 Bs Xg TL
/-! ### tuples that are known with their object: no dict of their own -/
def SqN (H : Hp) (a : Addr) (xs : List V) : Prop := ∃ o, H a = some (.frz o (.tup xs)) ∧ o.dict = none
theorem SqN.of {H : Hp} {a : Addr} {o : Obj} {xs : List V} (e : H a = some (.frz o (.tup xs))) (d : o.dict = none) : SqN H a xs := ⟨o, e, d⟩
theorem SqN.t {K : PySem.W.Frag} {H : Hp} {a : Addr} {xs : List V} (q : SqN H a xs) : SqT K H a xs := by
  obtain ⟨o, e, _⟩ := q
  exact .inl (.inr ⟨o, e⟩)
theorem sameN {H H' : Hp} {a : Addr} {xs : List V} (s : Same H H') (q : SqN H a xs) : SqN H' a xs := by
  obtain ⟨o, e, d⟩ := q
  exact ⟨o, s _ _ e, d⟩
theorem But.seqN {H H' : Hp} {h a : Addr} {xs : List V} (b : But h H H') (n : a ≠ h) (q : SqN H a xs) : SqN H' a xs := by
  obtain ⟨o, e, d⟩ := q
  exact ⟨o, b _ _ n e, d⟩
theorem But.seqT {K : PySem.W.Frag} {H H' : Hp} {h a : Addr} {xs : List V} (e : But h H H') (n : a ≠ h) (q : SqT K H a xs) : SqT K H' a xs := by
  rcases q with (q | ⟨o, q⟩) | q
  · exact .inl (.inl (e _ _ n q))
  · exact .inl (.inr ⟨o, e _ _ n q⟩)
  · exact .inr q
/-- what a new tuple leads to -/
def NewT (xs : List V) (H : Hp) (Q : VK) : Prop := ∀ p o, H p = none → o.dict = none → Q (.ref p) (upd H p (.frz o (.tup xs)))
section
variable {X : Cx} {pins : List (Addr × Obj)} {σ : L2.St} {H : Hp} {s : Shared} {xs : List V} {its : List Value} {Q : VK}
theorem newT_at (I : Inv X pins σ H s) (r : Vals xs its) (z : xs.length ≤ sizeLine) (q : NewT xs H Q) : EP X pins σ Q (.ref s.heap.objs.size) { s with heap := s.heap.push { cls := .type "tuple", data := .seq its.toArray } } := by
  have hf : H s.heap.objs.size = none := I.hok.fresh (Nat.le_refl _)
  refine ⟨.ref s.heap.objs.size, upd H s.heap.objs.size (.frz { cls := .type "tuple", data := .seq its.toArray } (.tup xs)), I.laid (t' := s.toks) (fun b u e => Heap.get?_push_of_some _ e) (Nat.le_refl _) ?_, rfl, q _ _ hf rfl⟩
  exact ⟨Heap.get?_push_size _ rfl, z, its, r, IsTup.new _ _⟩
end
section
variable {X : Cx} {es : List Expr} {t : TA} {pos : Pos}
def tTupN (t : TA) : TE := fun σ H Q => t σ H fun xs H1 => xs.length ≤ sizeLine ∧ NewT xs H1 Q
theorem pe_tupN {x1} (h : PA X es t) : PE X (.Tuple es x1 pos) (tTupN t) := by
  refine ⟨fun pins s σ H Q I hq => ?_⟩
  refine wpAny_Tuple_spliced (thn (h.run pos pins s σ H _ I hq) fun us s1 ⟨xs, H1, I1, r, z, q⟩ => ⟨by rw [← r.length]; exact z, ?_⟩)
  exact newT_at I1 r z q
/-- t + u -/
def rCatN : R2 := fun x y H Q => ∃ a b xs ys, x = .ref a ∧ y = .ref b ∧ SqN H a xs ∧ SqN H b ys ∧ xs.length + ys.length ≤ sizeLine ∧
  (xs = [] → Q (.ref b) H) ∧ (xs ≠ [] → ys = [] → Q (.ref a) H) ∧ (xs ≠ [] → ys ≠ [] → NewT (xs ++ ys) H Q)
theorem op_catN : OpR X (binaryOp .Add) rCatN := by
  intro pins s σ H x y v u Q I rx ry h
  obtain ⟨a, b, xs, ys, rfl, rfl, ha, hb, hz, q0, q1, q2⟩ := h
  cases rx
  cases ry
  obtain ⟨its, r1, p1, _⟩ := I.tuple ha.t
  obtain ⟨its2, r2, p2, _⟩ := I.tuple hb.t
  by_cases hx : xs = []
  · subst hx
    cases r1
    exact cat_tup0 p1 p2 ⟨.ref b, H, I, rfl, q0 rfl⟩
  · refine HT.cat_tup p1 p2 (fun z => hx (r1.nil_iff.mp z)) (fun z => ⟨.ref a, H, I, rfl, q1 hx (r2.nil_iff.mp z)⟩) (fun z => ?_) (by rw [← r1.length, ← r2.length]; exact hz)
    exact newT_at I (r1.append r2) (by rw [List.length_append]; exact hz) (q2 hx fun w => z (r2.nil_iff.mpr w))
/-- t[lo:hi]: the whole of it is t itself -/
def rSlN : V → Option Int → Option Int → Hp → VK → Prop := fun x lo hi H Q => ∃ a xs, x = .ref a ∧ SqN H a xs ∧
  (HT.sIx xs.length 0 lo = 0 ∧ HT.sIx xs.length xs.length hi = xs.length → Q (.ref a) H) ∧ (¬ (HT.sIx xs.length 0 lo = 0 ∧ HT.sIx xs.length xs.length hi = xs.length) → NewT (cutV xs lo hi) H Q)
theorem sl_tupN : SlR X rSlN := by
  intro pins s σ H x v vl vu lo hi sl Q I rx hs pl pu h
  obtain ⟨a, xs, rfl, hx, q1, q2⟩ := h
  cases rx
  obtain ⟨its, r, ht, hz⟩ := I.tuple hx.t
  have hlen : its.toArray.size = xs.length := by rw [List.size_toArray]; exact r.length.symm
  refine ⟨"tuple", _, PyProof.Rows.slot_tuple_getitem.lookup, ht.typeIs, ?_⟩
  by_cases hw : HT.sIx xs.length 0 lo = 0 ∧ HT.sIx xs.length xs.length hi = xs.length
  · exact getItem_tuple_whole ht hs pl pu (by rw [hlen]; exact hw) ⟨.ref a, H, I, rfl, q1 hw⟩
  · refine HT.getItem_tuple_cut ht hs pl pu (by rw [hlen]; exact hw) ?_ (by rw [hlen]; exact hz)
    rw [hlen]
    exact newT_at I ((r.drop (HT.sIx xs.length 0 lo)).take (HT.sIx xs.length xs.length hi - HT.sIx xs.length 0 lo)) (Nat.le_trans (cutV_length xs lo hi) hz) (q2 hw)
/-- tuple(l) of a list -/
theorem call_tupleN : CallR X (.type "tuple") (fun xs H Q => ∃ p ys, xs = [.ref p] ∧ SqL X.K H p ys ∧ NewT ys H Q) := by
  intro pins s σ H xs us Q I r h
  obtain ⟨p, ys, rfl, hq, q⟩ := h
  obtain ⟨u, rfl, rx⟩ := vals1 r
  cases rx
  obtain ⟨its, r', pl, hz⟩ := I.list hq
  have hlen := r'.length
  refine call_tuple_list pl.isList (fun h' kp => ?_) (by simp only [List.size_toArray] <;> omega)
  have I1 : Inv X pins σ H { s with heap := h' } := I.kept (t' := s.toks) kp
  exact newT_at I1 r' hz q
end
/-! ### lists that are never written, known with their object -/
def SqF (H : Hp) (a : Addr) (xs : List V) : Prop := ∃ o, H a = some (.frz o (.lst xs))
theorem SqF.of {H : Hp} {a : Addr} {o : Obj} {xs : List V} (e : H a = some (.frz o (.lst xs))) : SqF H a xs := ⟨o, e⟩
theorem SqF.l {K : PySem.W.Frag} {H : Hp} {a : Addr} {xs : List V} (q : SqF H a xs) : SqL K H a xs := .inl (.inr q)
theorem But.seqF {H H' : Hp} {h a : Addr} {xs : List V} (b : But h H H') (n : a ≠ h) (q : SqF H a xs) : SqF H' a xs := by
  obtain ⟨o, e⟩ := q
  exact ⟨o, b _ _ n e⟩
def NewL (xs : List V) (H : Hp) (Q : VK) : Prop := ∀ p o, H p = none → Q (.ref p) (upd H p (.frz o (.lst xs)))
section
variable {X : Cx} {es : List Expr} {t : TA} {pos : Pos}
def tLstN (t : TA) : TE := fun σ H Q => t σ H fun xs H1 => xs.length ≤ sizeLine ∧ NewL xs H1 Q
theorem pe_lstN (h : PA X es t) : PE X (.List es pos) (tLstN t) := by
  refine ⟨fun pins s σ H Q I hq => ?_⟩
  refine wpAny_List_spliced (thn (h.run pos pins s σ H _ I hq) fun us s1 ⟨xs, H1, I1, r, z, q⟩ => ⟨by rw [← r.length]; exact z, ?_⟩)
  have hf : H1 s1.heap.objs.size = none := I1.hok.fresh (Nat.le_refl _)
  refine ⟨.ref s1.heap.objs.size, upd H1 s1.heap.objs.size (.frz { cls := .type "list", data := .seq us.toArray } (.lst xs)), I1.laid (t' := s1.toks) (fun b u e => Heap.get?_push_of_some _ e) (Nat.le_refl _) ?_, rfl, q _ _ hf⟩
  exact ⟨Heap.get?_push_size _ rfl, z, us, 0, r, Heap.get?_push_size _ rfl⟩
/-- list(t) of a tuple -/
theorem call_listN : CallR X (.type "list") (fun xs H Q => ∃ p ys, xs = [.ref p] ∧ SqT X.K H p ys ∧ NewL ys H Q) := by
  intro pins s σ H xs us Q I r h
  obtain ⟨p, ys, rfl, hq, q⟩ := h
  obtain ⟨u, rfl, rx⟩ := vals1 r
  cases rx
  obtain ⟨its, r', pl, hz⟩ := I.tuple hq
  have hlen := r'.length
  obtain ⟨o, ho, hc, n, hd⟩ := pl
  refine call_list_seq p (.inr rfl) ho hc hd (fun h' c' kp e => ?_) (by simp only [List.size_toArray] <;> omega)
  refine ⟨.ref s.heap.objs.size, upd H s.heap.objs.size (.frz { cls := .type "list", dict := none, data := .seq its.toArray c', slots := #[] } (.lst ys)), I.laid (t' := s.toks) kp (Nat.le_refl _) ?_, rfl, q _ _ (I.hok.fresh (Nat.le_refl _))⟩
  exact ⟨e, hz, its, c', r', e⟩
end
/-! ### pieces of a tuple, put together -/
section
variable {K : PySem.W.Frag} {H : Hp} {h a b : Addr} {xs ys : List V} {Q : VK}
theorem newN (nh : ∃ o, H h = some o) (q : ∀ t H', SqN H' t xs → t ≠ h → Same H H' → Q (.ref t) H') : NewT xs H Q := fun p o np d => by
  obtain ⟨_, eh⟩ := nh
  exact q p _ (SqN.of upd_same d) (ne_of_none eh np).symm (Same.new np)
theorem sl_use {lo hi : Option Int} (sa : SqN H a xs) (na : a ≠ h) (nh : ∃ o, H h = some o) (q : ∀ t H', SqN H' t (cutV xs lo hi) → t ≠ h → Same H H' → Q (.ref t) H') : rSlN (.ref a) lo hi H Q := by
  refine ⟨a, xs, rfl, sa, fun e => ?_, fun _ => newN nh q⟩
  refine q a H ?_ na (Same.refl H)
  unfold cutV
  rw [e.1, e.2, List.drop_zero, Nat.sub_zero, List.take_length]
  exact sa
theorem cat_use (sa : SqN H a xs) (sb : SqN H b ys) (na : a ≠ h) (nb : b ≠ h) (nh : ∃ o, H h = some o) (l : xs.length + ys.length ≤ 100000) (q : ∀ t H', SqN H' t (xs ++ ys) → t ≠ h → Same H H' → Q (.ref t) H') : rCatN (.ref a) (.ref b) H Q := by
  refine ⟨a, b, xs, ys, rfl, rfl, sa, sb, Nat.le_trans l (by decide), fun e => ?_, fun _ e => ?_, fun _ _ => newN nh q⟩
  · subst e
    exact q b H sb nb (Same.refl H)
  · subst e
    refine q a H ?_ na (Same.refl H)
    rw [List.append_nil]
    exact sa
end
/-! ### t.count(x), of texts -/
section
variable {X : Cx} {a e : Expr} {es : List Expr} {to : TE} {t : TA}
def tBN (r : V → List V → Hp → VK → Prop) (to : TE) (t : TA) : TE := fun σ H Q => to σ H fun x H1 => (∃ p ys, x = .ref p ∧ SqN H1 p ys) ∧ t σ H1 fun xs H2 => r x xs H2 Q
theorem pe_bmN {o : Expr} {name : Str} {apos cpos : Pos} {id : String} {r : V → List V → Hp → VK → Prop} (pa : PlainAttrs "tuple") (slot : Slot "tuple" name id) (hty : typeOf (.builtin id) = pure (.type "method_descriptor")) (hm : MtR X id r) (ho : PE X o to) (ha : PA X (e :: es) t)
    (hbase : attributeBase o name X.env (eval o X.env) = eval o X.env := by rfl)
    (hfew : ((backTo cpos (starEach (e :: es) X.env)).all (fun x => !x.1) && (backToKw cpos (keywordEach [] X.env)).all (fun x => x.1.isSome)
      && decide ((e :: es).length + ([] : List Keyword).length + (if ([] : List Keyword).isEmpty then 0 else 1) < 30)) = true := by rfl)
    (hline : (apos.endLine == cpos.line) = true := by rfl) (hs : starEach (e :: es) X.env = (false, eval e X.env) :: starEach es X.env := by rfl) (hplain : (backTo cpos (starEach es X.env)).any (·.1) = false := by rfl) :
    PE X (.Call (.Attribute o name apos) (e :: es) [] cpos) (tBN r to t) := by
  refine ⟨fun pins s σ H Q I h => ?_⟩
  refine wpAny_Call_method_late hbase hfew hline rfl (thn (ho.run pins s σ H _ I h) fun v s1 ⟨x, H1, I1, r1, ty, q1⟩ => ?_)
  have z : s1.TypeIs v "tuple" ∧ ∀ a, v = .ref a → ∃ ob, s1.heap.get? a = some ob ∧ ob.dict = none := by
    obtain ⟨p, ys, rfl, o, e, d⟩ := ty
    cases r1
    obtain ⟨g, zz, its, r, it⟩ := (show ObjOk X.prog X.w H1 s1.heap p (.frz o (.tup ys)) from I1.hok p _ e)
    refine ⟨it.typeIs, fun a e2 => ?_⟩
    cases e2
    exact ⟨o, g, d⟩
  obtain ⟨h1, h2⟩ := z
  refine ⟨_, id, pa, slot, hty, h1, h2, ?_⟩
  have hA := ha.run cpos pins s1 σ H1 _ I1 q1
  rw [hs] at hA ⊢
  refine Calls.callWith_builtin (by show (false || (backTo cpos (starEach es X.env)).any (·.1)) = false; rw [hplain] <;> rfl) (Calls.evalArgs_plain ?_)
  exact thn hA fun us s2 ⟨vs, H2, I2, r2, q2⟩ => hm pins s2 σ H2 x vs v us Q I2 r1 r2 q2
theorem hold_strs {h : Heap} : ∀ {zs : List Str} {us : List Value}, Vals (zs.map V.str) us → PySem.W.HoldAll h us zs
  | [], _, .nil => PySem.W.HoldAll.nil
  | _ :: _, _, .cons ⟨_, e⟩ r => PySem.W.HoldAll.cons (by rw [e]; exact PySem.W.holds_str _ _) (hold_strs r)
def rTcount : V → List V → Hp → VK → Prop := fun x vs H Q => ∃ (a : Addr) (zs : List Str) (z : Str), x = .ref a ∧ vs = [.str z] ∧ SqN H a (zs.map V.str) ∧ Q (.int ((zs.countP fun y => decide (y = z) : Nat) : Int)) H
theorem mt_tcount (hu : X.A.units + 64 < cLine) : MtR X "tuple.count" rTcount := by
  intro pins s σ H x xs v us Q I rx rv h
  obtain ⟨a, zs, z, rfl, rfl, sa, q⟩ := h
  cases rx
  obtain ⟨u, rfl, ru⟩ := rv.one
  obtain ⟨its, r, it, _⟩ := I.tuple sa.t
  obtain ⟨t, rfl⟩ := ru
  refine PySem.W.count_tuple_datum (α := Str) (xs := zs) (x := z) it ?_ ?_ ?_ ⟨.int _, H, I.tok _, ⟨_, rfl⟩, q⟩
  · exact hold_strs r
  · exact PySem.W.holds_str _ _
  · show X.A.units + 1 + 0 < cLine
    omega
end
end K01
set_option Elab.async false
set_option linter.all false
set_option maxRecDepth 100000
set_option maxHeartbeats 4000000
namespace K01
open PySem PySem.Spec PyProof.Rows L2 Bs Xg TL
abbrev sLWord : Stmt := top 30
section
variable {P : Program} {w : World} {K : PySem.W.Frag} {mg : Str → Option Value} {base : Heap}
abbrev nQw : List Str := ["_law_what", "_law_one"]
theorem scQw : FnScope nQw ["_law_what"] (defScope sLWord) := ⟨rfl, rfl, rfl, by decide +kernel, rfl, by decide +kernel, by decide +kernel⟩
theorem low_sign (c : Nat) : (!decide ((#[c] : Array Nat).toList < (Str.ofString "a").cps.toList) && !decide ((Str.ofString "z").cps.toList < (#[c] : Array Nat).toList)) = lowc c := by
  have ea : (Str.ofString "a").cps.toList = [97] := by decide
  have ez : (Str.ofString "z").cps.toList = [122] := by decide
  rw [ea, ez]
  have h1 : (([c] : List Nat) < [97]) ↔ c < 97 := by rw [List.cons_lt_cons_iff]; simp
  have h2 : (([122] : List Nat) < [c]) ↔ 122 < c := by rw [List.cons_lt_cons_iff]; simp
  show (!decide (([c] : List Nat) < [97]) && !decide (([122] : List Nat) < [c])) = _
  unfold lowc
  rw [decide_eq_decide.mpr h1, decide_eq_decide.mpr h2, ← decide_not, ← decide_not]
  congr 1 <;> exact decide_eq_decide.mpr (by omega)
theorem ok_lword {f : Addr} {fd : FuncData} (F : Fun K "_law_is_word" "_law_is_word" sLWord f fd) (T : Free mg) : FnOk P w K mg base CX0 1 f fd ["_law_what"] (spD nameD K fitD) := by
  refine F.ok scQw (fun vs H Q E h => ?_) (fun cdv A outer s H vs Q E hr h => ?_)
  · obtain ⟨x, d, rfl, _⟩ := h
    rfl
  · obtain ⟨x, d, rfl, dq, fit, k⟩ := h
    refine ⟨_, pss_one (ps_ret (pe_and (pe_callB call_isi (by rfl) T.isi.i (by decide +kernel) (pa_cons (pv 0) (pa_cons (pe_bltn rfl T.isi.str (v := V.ty "str") (by decide +kernel) rfl) pa_nil))) (pe_and (pe_chain op_lt op_lt pe_int (pe_callB call_len_str (by rfl) T.len PySem.boot_len (pa_cons (pv 0) pa_nil)) pe_int) (pe_one (pe_callB (cr_all rfl) (by rfl) T.all (by decide +kernel) (pa_cons (pe_lc (own := [("_law_one", 1)]) (g := gName 1) (tt := tYes) rfl scQw.nd (pi_str (pv 0)) (blkOk_by (N := nQw) (sc := defScope sLWord) (by decide +kernel)) (fun _ _ _ _ _ => pg_name (i := 1) scQw.nd rfl (Or.inl rfl)) (fun _ _ _ _ _ => pts_nil) (fun _ _ _ _ _ => (pe_chain op_le_str op_le_str pe_str (pv 1) pe_str))) pa_nil)))))), ?_⟩
    have k' := k H (Same.refl _)
    refine ⟨_, rfl, x, .ty "str", _, _, _, rfl, .ty "str", ty_of dq, kit_d d "str" (.inr (.inr (.inl rfl))), _, rfl, ?_⟩
    cases dq with
    | str z =>
      refine iteT ?_
      have kk : Q (.bl (decide (z.length ≤ 8) && (decide (0 < z.length) && z.cps.toList.all lowc))) H := k'
      have ft : z.length ≤ 100000 := fit
      refine ⟨_, rfl, z, rfl, (by rw [sizeLine_eq]; omega), _, _, rfl, rfl, _, rfl, ?_⟩
      by_cases c1 : 0 < z.length
      · rw [decide_eq_true (show (0 : Int) < (z.length : Nat) by omega)]
        refine iteT ⟨_, _, rfl, rfl, _, rfl, ?_⟩
        by_cases c2 : z.length ≤ 8
        · rw [decide_eq_true (show ((z.length : Nat) : Int) < 9 by omega)]
          refine iteT ?_
          rw [decide_eq_true c1, decide_eq_true c2, Bool.true_and, Bool.true_and] at kk
          have zs : z.cps.size = z.length := rfl
          refine ⟨_, rfl, z, rfl, fun D nD => lc_val (walk_str (z := z)) (Z := fun j x => ∃ c, z.cps[j]? = some c ∧ x = .str ⟨#[c]⟩) (fun j => .bl (lowc (z.cps.toList.getD j 0))) nD (fun _ _ _ _ e => e) (fun _ _ => trivial) (by omega) (fun _ => rfl) ?_ ?_⟩
          · rintro j x G Q' hj ⟨c, hc, rfl⟩ _ kG
            have kG := kG G (Same.refl _)
            have ec : z.cps.toList.getD j 0 = c := by
              rw [List.getD_eq_getElem?_getD, Array.getElem?_toList, hc]
              rfl
            rw [ec, ← low_sign] at kG
            refine ⟨_, rfl, _, _, rfl, rfl, _, rfl, ?_⟩
            cases e1 : (!decide ((#[c] : Array Nat).toList < (Str.ofString "a").cps.toList)) with
            | true =>
              rw [e1, Bool.true_and] at kG
              exact iteT ⟨_, _, rfl, rfl, kG⟩
            | false =>
              rw [e1, Bool.false_and] at kG
              exact iteF kG
          · intro G sG eD
            refine ⟨D, (List.range z.cps.size).map (fun j => lowc (z.cps.toList.getD j 0)), rfl, SqL.of ?_, ?_⟩
            · rw [eD, List.map_map]
              rfl
            · have e : ((List.range z.cps.size).map fun j => lowc (z.cps.toList.getD j 0)).all id = z.cps.toList.all lowc := by
                have e2 := range_at z.cps.toList lowc (fun j => lowc (z.cps.toList.getD j 0)) (fun j x hx => by rw [List.getD_eq_getElem?_getD, hx]; rfl)
                rw [Array.length_toList] at e2
                rw [e2, List.all_map]
                rfl
              rw [e]
              exact k G sG |> fun q => by
                have q2 : Q (.bl (decide (z.length ≤ 8) && (decide (0 < z.length) && z.cps.toList.all lowc))) G := q
                rw [decide_eq_true c1, decide_eq_true c2, Bool.true_and, Bool.true_and] at q2
                exact q2
        · rw [decide_eq_false (show ¬ ((z.length : Nat) : Int) < 9 by omega)]
          rw [decide_eq_false c2, Bool.false_and] at kk
          exact iteF kk
      · rw [decide_eq_false (show ¬ (0 : Int) < (z.length : Nat) by omega)]
        rw [decide_eq_false c1, Bool.false_and, Bool.and_false] at kk
        exact iteF ⟨_, rfl, iteF kk⟩
    | non => exact iteF k'
    | bl b => exact iteF k'
    | int i => exact iteF k'
    | dk y i e => exact iteF k'
    | d0 e => exact iteF k'
    | lst ps e p => exact iteF k'
    | tup ps e p => exact iteF k'
end
end K01
set_option Elab.async false
set_option linter.all false
set_option maxRecDepth 100000
set_option maxHeartbeats 4000000
namespace K01
open PySem PySem.Spec PyProof.Rows L2 Bs Xg TL
abbrev sOdd : Stmt := top 28
/-! ### data that stay whatever the hand does -/
inductive Dk (K : PySem.W.Frag) (H : Hp) (h : Addr) : V → PyData → Prop
  | non : Dk K H h .non .none
  | bl (b : Bool) : Dk K H h (.bl b) (.bool b)
  | int (i : Int) : Dk K H h (.int i) (.int i)
  | str (z : Str) : Dk K H h (.str z) (.str z)
  | d0 {a : Addr} : a ≠ h → H a = some (.dK []) → Dk K H h (.ref a) (.dict [])
  | lst {a : Addr} (ps : List (V × PyData)) : a ≠ h → SqF H a (ps.map (·.1)) → (∀ p ∈ ps, Dk K H h p.1 p.2) → Dk K H h (.ref a) (.list (ps.map (·.2)))
  | tup {a : Addr} (ps : List (V × PyData)) : a ≠ h → SqN H a (ps.map (·.1)) → (∀ p ∈ ps, Dk K H h p.1 p.2) → Dk K H h (.ref a) (.tuple (ps.map (·.2)))
section
variable {K : PySem.W.Frag} {H H' : Hp} {h a : Addr} {x : V} {d : PyData}
theorem Dk.but (q : Dk K H h x d) (b : But h H H') : Dk K H' h x d := by
  induction q with
  | non => exact .non
  | bl b => exact .bl b
  | int i => exact .int i
  | str z => exact .str z
  | d0 n e => exact .d0 n (b _ _ n e)
  | lst ps n e _ ih => exact .lst ps n (b.seqF n e) ih
  | tup ps n e _ ih => exact .tup ps n (b.seqN n e) ih
theorem Dk.now (q : Dk K H h x d) : Dq K H x d := by
  induction q with
  | non => exact .non
  | bl b => exact .bl b
  | int i => exact .int i
  | str z => exact .str z
  | d0 n e => exact .d0 e
  | lst ps n e _ ih => exact .lst ps e.l ih
  | tup ps n e _ ih => exact .tup ps e.t ih
end
/-! ### how deep, how great -/
def gd : Nat → PyData → Bool
  | _, .none => true
  | _, .bool _ => true
  | _, .int i => decide (i.natAbs < 10 ^ 12)
  | _, .str z => decide (z.length ≤ 1000)
  | _, .dict l => l.isEmpty
  | 0, .list l => l.isEmpty
  | 0, .tuple l => l.isEmpty
  | n + 1, .list l => l.all (gd n)
  | n + 1, .tuple l => l.all (gd n)
section
variable {X : Cx}
theorem op_mulS : OpR X (binaryOp .Mult) (fun x y H Q => ∃ (a : Str) (i : Int), x = .str a ∧ y = .int i ∧ MulOk a i ∧ Q (.str (Txt.mul a i)) H) := by
  intro pins s σ H x y v u Q I rx ry h
  obtain ⟨a, i, rfl, rfl, ok, q⟩ := h
  obtain ⟨t, rfl⟩ := rx
  obtain ⟨t', rfl⟩ := ry
  apply SB.mul ok
  intro t2 k
  exact ⟨.str _, H, I.tok k, ⟨t2, rfl⟩, q⟩
end
section
variable {P : Program} {w : World} {K : PySem.W.Frag} {mg : Str → Option Value} {base : Heap} {fT fP : Addr} {dT dP : FuncData}
theorem mul_x : MulOk (Str.ofString "x") 200 := ⟨by decide, fun _ _ => by decide +kernel, fun _ _ => by decide +kernel⟩
def spOdd (K : PySem.W.Frag) : Sp := fun vs H Q _ => ∃ (h : Addr) (n : Nat), vs = [.ref h] ∧ HandAt H h n ∧ n + 1 < 1000000 ∧
  ∀ (y : V) (d : PyData) (H' : Hp), Dk K H' h y d → gd 2 d = true → (sh d).length ≤ 1000 → HandAt H' h (n + 1) → But h H H' → Q y H'
theorem scOd : FnScope ["_law_hand_here", "_law_some"] ["_law_hand_here"] (defScope sOdd) := ⟨rfl, rfl, rfl, by decide +kernel, rfl, by decide +kernel, by decide +kernel⟩
theorem ok_odd {f : Addr} {fd : FuncData} (F : Fun K "_law_odd_one" "_law_odd_one" sOdd f fd) (T : Txt mg) (Z : HandF K mg fT fP dT dP) : FnOk P w K mg base CX0 3 f fd ["_law_hand_here"] (spOdd K) := by
  have GP : FnOk P w K mg base CX0 2 fP dP ["_law_hand_here", "_law_some"] (spPick K) := ok_pick Z.P T Z.T Z.bT Z.gT
  refine F.ok scOd (fun vs H Q E h => ?_) (fun cdv A outer s H vs Q E hr h => ?_)
  · obtain ⟨h, n, rfl, _⟩ := h
    rfl
  · obtain ⟨h, n, rfl, hd, nb, k⟩ := h
    refine ⟨_, pss_cons (ps_set (i := 1) scOd.nd rfl (Or.inl rfl) (pe_lst (pa_cons pe_non (pa_cons pe_bl (pa_cons pe_bl (pa_cons pe_int (pa_cons pe_int (pa_cons pe_int (pa_cons pe_int (pa_cons pe_int (pa_cons pe_int (pa_cons (pe_un un_neg pe_int) (pa_cons pe_int (pa_cons pe_str (pa_cons pe_str (pa_cons pe_str (pa_cons pe_str (pa_cons pe_str (pa_cons pe_str (pa_cons pe_str (pa_cons pe_str (pa_cons pe_str pa_nil))))))))))))))))))))))
      (pss_cons (ps_set (i := 1) scOd.nd rfl (Or.inl rfl) (pe_op op_cat (pv 1) (pe_lst (pa_cons pe_str (pa_cons pe_str (pa_cons pe_str (pa_cons pe_str (pa_cons pe_str (pa_cons pe_str (pa_cons pe_str (pa_cons pe_str (pa_cons pe_str (pa_cons pe_str (pa_cons pe_str (pa_cons pe_str (pa_cons pe_str pa_nil))))))))))))))))
      (pss_cons (ps_set (i := 1) scOd.nd rfl (Or.inl rfl) (pe_op op_cat (pv 1) (pe_lst (pa_cons pe_str (pa_cons pe_str pa_nil)))))
      (pss_cons (ps_set (i := 1) scOd.nd rfl (Or.inl rfl) (pe_op op_cat (pv 1) (pe_lst (pa_cons pe_str (pa_cons (pe_op op_mulS pe_str pe_int) (pa_cons (pe_tupN pa_nil) (pa_cons (pe_lstN pa_nil) (pa_cons pe_dnewK (pa_cons (pe_tupN (pa_cons pe_str pa_nil)) (pa_cons (pe_lstN (pa_cons pe_str pa_nil)) (pa_cons (pe_tupN (pa_cons pe_str (pa_cons pe_int pa_nil))) (pa_cons (pe_tupN (pa_cons pe_str pa_nil)) (pa_cons (pe_tupN (pa_cons pe_str (pa_cons pe_str pa_nil))) (pa_cons (pe_tupN (pa_cons pe_int pa_nil)) (pa_cons (pe_tupN (pa_cons (pe_tupN pa_nil) pa_nil)) pa_nil)))))))))))))))
      (pss_one (ps_ret (pe_call GP hr (by rfl) Z.gP Z.P.kp Z.bP .nil pass0 (pa_cons (pv 0) (pa_cons (pv 1) pa_nil)))))))), ?_⟩
    refine ⟨_, rfl, (by show 20 ≤ sizeLine; decide), fun l1 nl1 => ?_⟩
    have sH1 := Same.new (o := .lst ([.non, .bl true, .bl false, .int 0, .int 1, .int 4, .int 5, .int 20, .int 21, .int (-1), .int 999999999, .str (Str.ofString ""), .str (Str.ofString " "), .str (Str.ofString "a"), .str (Str.ofString " a"), .str (Str.ofString "a "), .str (Str.ofString "a b"), .str (Str.ofString "\n"), .str (Str.ofString "a\n"), .str (Str.ofString "\na")])) nl1
    have el1 : upd H l1 (.lst ([.non, .bl true, .bl false, .int 0, .int 1, .int 4, .int 5, .int 20, .int 21, .int (-1), .int 999999999, .str (Str.ofString ""), .str (Str.ofString " "), .str (Str.ofString "a"), .str (Str.ofString " a"), .str (Str.ofString "a "), .str (Str.ofString "a b"), .str (Str.ofString "\n"), .str (Str.ofString "a\n"), .str (Str.ofString "\na")])) l1 = some (.lst ([.non, .bl true, .bl false, .int 0, .int 1, .int 4, .int 5, .int 20, .int 21, .int (-1), .int 999999999, .str (Str.ofString ""), .str (Str.ofString " "), .str (Str.ofString "a"), .str (Str.ofString " a"), .str (Str.ofString "a "), .str (Str.ofString "a b"), .str (Str.ofString "\n"), .str (Str.ofString "a\n"), .str (Str.ofString "\na")])) := upd_same
    generalize upd H l1 (.lst ([.non, .bl true, .bl false, .int 0, .int 1, .int 4, .int 5, .int 20, .int 21, .int (-1), .int 999999999, .str (Str.ofString ""), .str (Str.ofString " "), .str (Str.ofString "a"), .str (Str.ofString " a"), .str (Str.ofString "a "), .str (Str.ofString "a b"), .str (Str.ofString "\n"), .str (Str.ofString "a\n"), .str (Str.ofString "\na")])) = H1 at sH1 el1 ⊢
    refine gN ?_
    dsimp only
    refine ⟨_, rfl, (by show 13 ≤ sizeLine; decide), fun l2 nl2 => ?_⟩
    have sH2 := Same.new (o := .lst ([.str (Str.ofString "ymd"), .str (Str.ofString "myd"), .str (Str.ofString "whole"), .str (Str.ofString "amount"), .str (Str.ofString "signs"), .str (Str.ofString "A"), .str (Str.ofString "abcdefgh"), .str (Str.ofString "abcdefghi"), .str (Str.ofString "a1"), .str (Str.ofString ","), .str (Str.ofString ";"), .str (Str.ofString ":"), .str (Str.ofString ".")])) nl2
    have el2 : upd H1 l2 (.lst ([.str (Str.ofString "ymd"), .str (Str.ofString "myd"), .str (Str.ofString "whole"), .str (Str.ofString "amount"), .str (Str.ofString "signs"), .str (Str.ofString "A"), .str (Str.ofString "abcdefgh"), .str (Str.ofString "abcdefghi"), .str (Str.ofString "a1"), .str (Str.ofString ","), .str (Str.ofString ";"), .str (Str.ofString ":"), .str (Str.ofString ".")])) l2 = some (.lst ([.str (Str.ofString "ymd"), .str (Str.ofString "myd"), .str (Str.ofString "whole"), .str (Str.ofString "amount"), .str (Str.ofString "signs"), .str (Str.ofString "A"), .str (Str.ofString "abcdefgh"), .str (Str.ofString "abcdefghi"), .str (Str.ofString "a1"), .str (Str.ofString ","), .str (Str.ofString ";"), .str (Str.ofString ":"), .str (Str.ofString ".")])) := upd_same
    generalize upd H1 l2 (.lst ([.str (Str.ofString "ymd"), .str (Str.ofString "myd"), .str (Str.ofString "whole"), .str (Str.ofString "amount"), .str (Str.ofString "signs"), .str (Str.ofString "A"), .str (Str.ofString "abcdefgh"), .str (Str.ofString "abcdefghi"), .str (Str.ofString "a1"), .str (Str.ofString ","), .str (Str.ofString ";"), .str (Str.ofString ":"), .str (Str.ofString ".")])) = H2 at sH2 el2 ⊢
    refine ⟨l1, l2, _, _, rfl, rfl, sH2 _ _ el1, el2, (by show 33 ≤ sizeLine; decide), fun l3 nl3 => ?_⟩
    rw [show ([.non, .bl true, .bl false, .int 0, .int 1, .int 4, .int 5, .int 20, .int 21, .int (-1), .int 999999999, .str (Str.ofString ""), .str (Str.ofString " "), .str (Str.ofString "a"), .str (Str.ofString " a"), .str (Str.ofString "a "), .str (Str.ofString "a b"), .str (Str.ofString "\n"), .str (Str.ofString "a\n"), .str (Str.ofString "\na")] ++ [.str (Str.ofString "ymd"), .str (Str.ofString "myd"), .str (Str.ofString "whole"), .str (Str.ofString "amount"), .str (Str.ofString "signs"), .str (Str.ofString "A"), .str (Str.ofString "abcdefgh"), .str (Str.ofString "abcdefghi"), .str (Str.ofString "a1"), .str (Str.ofString ","), .str (Str.ofString ";"), .str (Str.ofString ":"), .str (Str.ofString ".")] : List V) = ([.non, .bl true, .bl false, .int 0, .int 1, .int 4, .int 5, .int 20, .int 21, .int (-1), .int 999999999, .str (Str.ofString ""), .str (Str.ofString " "), .str (Str.ofString "a"), .str (Str.ofString " a"), .str (Str.ofString "a "), .str (Str.ofString "a b"), .str (Str.ofString "\n"), .str (Str.ofString "a\n"), .str (Str.ofString "\na"), .str (Str.ofString "ymd"), .str (Str.ofString "myd"), .str (Str.ofString "whole"), .str (Str.ofString "amount"), .str (Str.ofString "signs"), .str (Str.ofString "A"), .str (Str.ofString "abcdefgh"), .str (Str.ofString "abcdefghi"), .str (Str.ofString "a1"), .str (Str.ofString ","), .str (Str.ofString ";"), .str (Str.ofString ":"), .str (Str.ofString ".")] : List V) from rfl]
    have sH3 := Same.new (o := .lst ([.non, .bl true, .bl false, .int 0, .int 1, .int 4, .int 5, .int 20, .int 21, .int (-1), .int 999999999, .str (Str.ofString ""), .str (Str.ofString " "), .str (Str.ofString "a"), .str (Str.ofString " a"), .str (Str.ofString "a "), .str (Str.ofString "a b"), .str (Str.ofString "\n"), .str (Str.ofString "a\n"), .str (Str.ofString "\na"), .str (Str.ofString "ymd"), .str (Str.ofString "myd"), .str (Str.ofString "whole"), .str (Str.ofString "amount"), .str (Str.ofString "signs"), .str (Str.ofString "A"), .str (Str.ofString "abcdefgh"), .str (Str.ofString "abcdefghi"), .str (Str.ofString "a1"), .str (Str.ofString ","), .str (Str.ofString ";"), .str (Str.ofString ":"), .str (Str.ofString ".")])) nl3
    have el3 : upd H2 l3 (.lst ([.non, .bl true, .bl false, .int 0, .int 1, .int 4, .int 5, .int 20, .int 21, .int (-1), .int 999999999, .str (Str.ofString ""), .str (Str.ofString " "), .str (Str.ofString "a"), .str (Str.ofString " a"), .str (Str.ofString "a "), .str (Str.ofString "a b"), .str (Str.ofString "\n"), .str (Str.ofString "a\n"), .str (Str.ofString "\na"), .str (Str.ofString "ymd"), .str (Str.ofString "myd"), .str (Str.ofString "whole"), .str (Str.ofString "amount"), .str (Str.ofString "signs"), .str (Str.ofString "A"), .str (Str.ofString "abcdefgh"), .str (Str.ofString "abcdefghi"), .str (Str.ofString "a1"), .str (Str.ofString ","), .str (Str.ofString ";"), .str (Str.ofString ":"), .str (Str.ofString ".")])) l3 = some (.lst ([.non, .bl true, .bl false, .int 0, .int 1, .int 4, .int 5, .int 20, .int 21, .int (-1), .int 999999999, .str (Str.ofString ""), .str (Str.ofString " "), .str (Str.ofString "a"), .str (Str.ofString " a"), .str (Str.ofString "a "), .str (Str.ofString "a b"), .str (Str.ofString "\n"), .str (Str.ofString "a\n"), .str (Str.ofString "\na"), .str (Str.ofString "ymd"), .str (Str.ofString "myd"), .str (Str.ofString "whole"), .str (Str.ofString "amount"), .str (Str.ofString "signs"), .str (Str.ofString "A"), .str (Str.ofString "abcdefgh"), .str (Str.ofString "abcdefghi"), .str (Str.ofString "a1"), .str (Str.ofString ","), .str (Str.ofString ";"), .str (Str.ofString ":"), .str (Str.ofString ".")])) := upd_same
    generalize upd H2 l3 (.lst ([.non, .bl true, .bl false, .int 0, .int 1, .int 4, .int 5, .int 20, .int 21, .int (-1), .int 999999999, .str (Str.ofString ""), .str (Str.ofString " "), .str (Str.ofString "a"), .str (Str.ofString " a"), .str (Str.ofString "a "), .str (Str.ofString "a b"), .str (Str.ofString "\n"), .str (Str.ofString "a\n"), .str (Str.ofString "\na"), .str (Str.ofString "ymd"), .str (Str.ofString "myd"), .str (Str.ofString "whole"), .str (Str.ofString "amount"), .str (Str.ofString "signs"), .str (Str.ofString "A"), .str (Str.ofString "abcdefgh"), .str (Str.ofString "abcdefghi"), .str (Str.ofString "a1"), .str (Str.ofString ","), .str (Str.ofString ";"), .str (Str.ofString ":"), .str (Str.ofString ".")])) = H3 at sH3 el3 ⊢
    refine gN ?_
    dsimp only
    refine ⟨_, rfl, (by show 2 ≤ sizeLine; decide), fun l4 nl4 => ?_⟩
    have sH4 := Same.new (o := .lst ([.str (Str.ofString "~"), .str (Str.ofString "\"")])) nl4
    have el4 : upd H3 l4 (.lst ([.str (Str.ofString "~"), .str (Str.ofString "\"")])) l4 = some (.lst ([.str (Str.ofString "~"), .str (Str.ofString "\"")])) := upd_same
    generalize upd H3 l4 (.lst ([.str (Str.ofString "~"), .str (Str.ofString "\"")])) = H4 at sH4 el4 ⊢
    refine ⟨l3, l4, _, _, rfl, rfl, sH4 _ _ el3, el4, (by show 35 ≤ sizeLine; decide), fun l5 nl5 => ?_⟩
    rw [show ([.non, .bl true, .bl false, .int 0, .int 1, .int 4, .int 5, .int 20, .int 21, .int (-1), .int 999999999, .str (Str.ofString ""), .str (Str.ofString " "), .str (Str.ofString "a"), .str (Str.ofString " a"), .str (Str.ofString "a "), .str (Str.ofString "a b"), .str (Str.ofString "\n"), .str (Str.ofString "a\n"), .str (Str.ofString "\na"), .str (Str.ofString "ymd"), .str (Str.ofString "myd"), .str (Str.ofString "whole"), .str (Str.ofString "amount"), .str (Str.ofString "signs"), .str (Str.ofString "A"), .str (Str.ofString "abcdefgh"), .str (Str.ofString "abcdefghi"), .str (Str.ofString "a1"), .str (Str.ofString ","), .str (Str.ofString ";"), .str (Str.ofString ":"), .str (Str.ofString ".")] ++ [.str (Str.ofString "~"), .str (Str.ofString "\"")] : List V) = ([.non, .bl true, .bl false, .int 0, .int 1, .int 4, .int 5, .int 20, .int 21, .int (-1), .int 999999999, .str (Str.ofString ""), .str (Str.ofString " "), .str (Str.ofString "a"), .str (Str.ofString " a"), .str (Str.ofString "a "), .str (Str.ofString "a b"), .str (Str.ofString "\n"), .str (Str.ofString "a\n"), .str (Str.ofString "\na"), .str (Str.ofString "ymd"), .str (Str.ofString "myd"), .str (Str.ofString "whole"), .str (Str.ofString "amount"), .str (Str.ofString "signs"), .str (Str.ofString "A"), .str (Str.ofString "abcdefgh"), .str (Str.ofString "abcdefghi"), .str (Str.ofString "a1"), .str (Str.ofString ","), .str (Str.ofString ";"), .str (Str.ofString ":"), .str (Str.ofString "."), .str (Str.ofString "~"), .str (Str.ofString "\"")] : List V) from rfl]
    have sH5 := Same.new (o := .lst ([.non, .bl true, .bl false, .int 0, .int 1, .int 4, .int 5, .int 20, .int 21, .int (-1), .int 999999999, .str (Str.ofString ""), .str (Str.ofString " "), .str (Str.ofString "a"), .str (Str.ofString " a"), .str (Str.ofString "a "), .str (Str.ofString "a b"), .str (Str.ofString "\n"), .str (Str.ofString "a\n"), .str (Str.ofString "\na"), .str (Str.ofString "ymd"), .str (Str.ofString "myd"), .str (Str.ofString "whole"), .str (Str.ofString "amount"), .str (Str.ofString "signs"), .str (Str.ofString "A"), .str (Str.ofString "abcdefgh"), .str (Str.ofString "abcdefghi"), .str (Str.ofString "a1"), .str (Str.ofString ","), .str (Str.ofString ";"), .str (Str.ofString ":"), .str (Str.ofString "."), .str (Str.ofString "~"), .str (Str.ofString "\"")])) nl5
    have el5 : upd H4 l5 (.lst ([.non, .bl true, .bl false, .int 0, .int 1, .int 4, .int 5, .int 20, .int 21, .int (-1), .int 999999999, .str (Str.ofString ""), .str (Str.ofString " "), .str (Str.ofString "a"), .str (Str.ofString " a"), .str (Str.ofString "a "), .str (Str.ofString "a b"), .str (Str.ofString "\n"), .str (Str.ofString "a\n"), .str (Str.ofString "\na"), .str (Str.ofString "ymd"), .str (Str.ofString "myd"), .str (Str.ofString "whole"), .str (Str.ofString "amount"), .str (Str.ofString "signs"), .str (Str.ofString "A"), .str (Str.ofString "abcdefgh"), .str (Str.ofString "abcdefghi"), .str (Str.ofString "a1"), .str (Str.ofString ","), .str (Str.ofString ";"), .str (Str.ofString ":"), .str (Str.ofString "."), .str (Str.ofString "~"), .str (Str.ofString "\"")])) l5 = some (.lst ([.non, .bl true, .bl false, .int 0, .int 1, .int 4, .int 5, .int 20, .int 21, .int (-1), .int 999999999, .str (Str.ofString ""), .str (Str.ofString " "), .str (Str.ofString "a"), .str (Str.ofString " a"), .str (Str.ofString "a "), .str (Str.ofString "a b"), .str (Str.ofString "\n"), .str (Str.ofString "a\n"), .str (Str.ofString "\na"), .str (Str.ofString "ymd"), .str (Str.ofString "myd"), .str (Str.ofString "whole"), .str (Str.ofString "amount"), .str (Str.ofString "signs"), .str (Str.ofString "A"), .str (Str.ofString "abcdefgh"), .str (Str.ofString "abcdefghi"), .str (Str.ofString "a1"), .str (Str.ofString ","), .str (Str.ofString ";"), .str (Str.ofString ":"), .str (Str.ofString "."), .str (Str.ofString "~"), .str (Str.ofString "\"")])) := upd_same
    generalize upd H4 l5 (.lst ([.non, .bl true, .bl false, .int 0, .int 1, .int 4, .int 5, .int 20, .int 21, .int (-1), .int 999999999, .str (Str.ofString ""), .str (Str.ofString " "), .str (Str.ofString "a"), .str (Str.ofString " a"), .str (Str.ofString "a "), .str (Str.ofString "a b"), .str (Str.ofString "\n"), .str (Str.ofString "a\n"), .str (Str.ofString "\na"), .str (Str.ofString "ymd"), .str (Str.ofString "myd"), .str (Str.ofString "whole"), .str (Str.ofString "amount"), .str (Str.ofString "signs"), .str (Str.ofString "A"), .str (Str.ofString "abcdefgh"), .str (Str.ofString "abcdefghi"), .str (Str.ofString "a1"), .str (Str.ofString ","), .str (Str.ofString ";"), .str (Str.ofString ":"), .str (Str.ofString "."), .str (Str.ofString "~"), .str (Str.ofString "\"")])) = H5 at sH5 el5 ⊢
    refine gN ?_
    dsimp only
    refine ⟨_, rfl, _, _, rfl, rfl, mul_x, ?_⟩
    generalize hxx : Txt.mul (Str.ofString "x") 200 = xx
    refine ⟨(by show 0 ≤ sizeLine; decide), fun t0 ot0 nt0 dt0 => ?_⟩
    have sH6 := Same.new (o := .frz ot0 (.tup [])) nt0
    have et0 : upd H5 t0 (.frz ot0 (.tup [])) t0 = some (.frz ot0 (.tup [])) := upd_same
    generalize upd H5 t0 (.frz ot0 (.tup [])) = H6 at sH6 et0 ⊢
    refine ⟨(by show 0 ≤ sizeLine; decide), fun m0 om0 nm0 => ?_⟩
    have sH7 := Same.new (o := .frz om0 (.lst [])) nm0
    have em0 : upd H6 m0 (.frz om0 (.lst [])) m0 = some (.frz om0 (.lst [])) := upd_same
    generalize upd H6 m0 (.frz om0 (.lst [])) = H7 at sH7 em0 ⊢
    intro d0 nd0
    have sH8 := Same.new (o := .dK []) nd0
    have ed0 : upd H7 d0 (.dK []) d0 = some (.dK []) := upd_same
    generalize upd H7 d0 (.dK []) = H8 at sH8 ed0 ⊢
    refine ⟨(by show 1 ≤ sizeLine; decide), fun t1 ot1 nt1 dt1 => ?_⟩
    have sH9 := Same.new (o := .frz ot1 (.tup [.str (Str.ofString "whole")])) nt1
    have et1 : upd H8 t1 (.frz ot1 (.tup [.str (Str.ofString "whole")])) t1 = some (.frz ot1 (.tup [.str (Str.ofString "whole")])) := upd_same
    generalize upd H8 t1 (.frz ot1 (.tup [.str (Str.ofString "whole")])) = H9 at sH9 et1 ⊢
    refine ⟨(by show 1 ≤ sizeLine; decide), fun m1 om1 nm1 => ?_⟩
    have sH10 := Same.new (o := .frz om1 (.lst [.str (Str.ofString "whole")])) nm1
    have em1 : upd H9 m1 (.frz om1 (.lst [.str (Str.ofString "whole")])) m1 = some (.frz om1 (.lst [.str (Str.ofString "whole")])) := upd_same
    generalize upd H9 m1 (.frz om1 (.lst [.str (Str.ofString "whole")])) = H10 at sH10 em1 ⊢
    refine ⟨(by show 2 ≤ sizeLine; decide), fun t2 ot2 nt2 dt2 => ?_⟩
    have sH11 := Same.new (o := .frz ot2 (.tup [.str (Str.ofString "amount"), .int 2])) nt2
    have et2 : upd H10 t2 (.frz ot2 (.tup [.str (Str.ofString "amount"), .int 2])) t2 = some (.frz ot2 (.tup [.str (Str.ofString "amount"), .int 2])) := upd_same
    generalize upd H10 t2 (.frz ot2 (.tup [.str (Str.ofString "amount"), .int 2])) = H11 at sH11 et2 ⊢
    refine ⟨(by show 1 ≤ sizeLine; decide), fun t3 ot3 nt3 dt3 => ?_⟩
    have sH12 := Same.new (o := .frz ot3 (.tup [.str (Str.ofString "a")])) nt3
    have et3 : upd H11 t3 (.frz ot3 (.tup [.str (Str.ofString "a")])) t3 = some (.frz ot3 (.tup [.str (Str.ofString "a")])) := upd_same
    generalize upd H11 t3 (.frz ot3 (.tup [.str (Str.ofString "a")])) = H12 at sH12 et3 ⊢
    refine ⟨(by show 2 ≤ sizeLine; decide), fun t4 ot4 nt4 dt4 => ?_⟩
    have sH13 := Same.new (o := .frz ot4 (.tup [.str (Str.ofString "a"), .str (Str.ofString "a")])) nt4
    have et4 : upd H12 t4 (.frz ot4 (.tup [.str (Str.ofString "a"), .str (Str.ofString "a")])) t4 = some (.frz ot4 (.tup [.str (Str.ofString "a"), .str (Str.ofString "a")])) := upd_same
    generalize upd H12 t4 (.frz ot4 (.tup [.str (Str.ofString "a"), .str (Str.ofString "a")])) = H13 at sH13 et4 ⊢
    refine ⟨(by show 1 ≤ sizeLine; decide), fun t5 ot5 nt5 dt5 => ?_⟩
    have sH14 := Same.new (o := .frz ot5 (.tup [.int 1])) nt5
    have et5 : upd H13 t5 (.frz ot5 (.tup [.int 1])) t5 = some (.frz ot5 (.tup [.int 1])) := upd_same
    generalize upd H13 t5 (.frz ot5 (.tup [.int 1])) = H14 at sH14 et5 ⊢
    refine ⟨(by show 0 ≤ sizeLine; decide), fun t6 ot6 nt6 dt6 => ?_⟩
    have sH15 := Same.new (o := .frz ot6 (.tup [])) nt6
    have et6 : upd H14 t6 (.frz ot6 (.tup [])) t6 = some (.frz ot6 (.tup [])) := upd_same
    generalize upd H14 t6 (.frz ot6 (.tup [])) = H15 at sH15 et6 ⊢
    refine ⟨(by show 1 ≤ sizeLine; decide), fun t7 ot7 nt7 dt7 => ?_⟩
    have sH16 := Same.new (o := .frz ot7 (.tup [.ref t6])) nt7
    have et7 : upd H15 t7 (.frz ot7 (.tup [.ref t6])) t7 = some (.frz ot7 (.tup [.ref t6])) := upd_same
    generalize upd H15 t7 (.frz ot7 (.tup [.ref t6])) = H16 at sH16 et7 ⊢
    refine ⟨(by show 12 ≤ sizeLine; decide), fun l6 nl6 => ?_⟩
    have sH17 := Same.new (o := .lst ([.str (Str.ofString "'"), .str xx, .ref t0, .ref m0, .ref d0, .ref t1, .ref m1, .ref t2, .ref t3, .ref t4, .ref t5, .ref t7])) nl6
    have el6 : upd H16 l6 (.lst ([.str (Str.ofString "'"), .str xx, .ref t0, .ref m0, .ref d0, .ref t1, .ref m1, .ref t2, .ref t3, .ref t4, .ref t5, .ref t7])) l6 = some (.lst ([.str (Str.ofString "'"), .str xx, .ref t0, .ref m0, .ref d0, .ref t1, .ref m1, .ref t2, .ref t3, .ref t4, .ref t5, .ref t7])) := upd_same
    generalize upd H16 l6 (.lst ([.str (Str.ofString "'"), .str xx, .ref t0, .ref m0, .ref d0, .ref t1, .ref m1, .ref t2, .ref t3, .ref t4, .ref t5, .ref t7])) = H17 at sH17 el6 ⊢
    refine ⟨l5, l6, _, _, rfl, rfl, (sH17 _ _ (sH16 _ _ (sH15 _ _ (sH14 _ _ (sH13 _ _ (sH12 _ _ (sH11 _ _ (sH10 _ _ (sH9 _ _ (sH8 _ _ (sH7 _ _ (sH6 _ _ el5)))))))))))), el6, (by show 47 ≤ sizeLine; decide), fun l7 nl7 => ?_⟩
    rw [show ([.non, .bl true, .bl false, .int 0, .int 1, .int 4, .int 5, .int 20, .int 21, .int (-1), .int 999999999, .str (Str.ofString ""), .str (Str.ofString " "), .str (Str.ofString "a"), .str (Str.ofString " a"), .str (Str.ofString "a "), .str (Str.ofString "a b"), .str (Str.ofString "\n"), .str (Str.ofString "a\n"), .str (Str.ofString "\na"), .str (Str.ofString "ymd"), .str (Str.ofString "myd"), .str (Str.ofString "whole"), .str (Str.ofString "amount"), .str (Str.ofString "signs"), .str (Str.ofString "A"), .str (Str.ofString "abcdefgh"), .str (Str.ofString "abcdefghi"), .str (Str.ofString "a1"), .str (Str.ofString ","), .str (Str.ofString ";"), .str (Str.ofString ":"), .str (Str.ofString "."), .str (Str.ofString "~"), .str (Str.ofString "\"")] ++ [.str (Str.ofString "'"), .str xx, .ref t0, .ref m0, .ref d0, .ref t1, .ref m1, .ref t2, .ref t3, .ref t4, .ref t5, .ref t7] : List V) = ([.non, .bl true, .bl false, .int 0, .int 1, .int 4, .int 5, .int 20, .int 21, .int (-1), .int 999999999, .str (Str.ofString ""), .str (Str.ofString " "), .str (Str.ofString "a"), .str (Str.ofString " a"), .str (Str.ofString "a "), .str (Str.ofString "a b"), .str (Str.ofString "\n"), .str (Str.ofString "a\n"), .str (Str.ofString "\na"), .str (Str.ofString "ymd"), .str (Str.ofString "myd"), .str (Str.ofString "whole"), .str (Str.ofString "amount"), .str (Str.ofString "signs"), .str (Str.ofString "A"), .str (Str.ofString "abcdefgh"), .str (Str.ofString "abcdefghi"), .str (Str.ofString "a1"), .str (Str.ofString ","), .str (Str.ofString ";"), .str (Str.ofString ":"), .str (Str.ofString "."), .str (Str.ofString "~"), .str (Str.ofString "\""), .str (Str.ofString "'"), .str xx, .ref t0, .ref m0, .ref d0, .ref t1, .ref m1, .ref t2, .ref t3, .ref t4, .ref t5, .ref t7] : List V) from rfl]
    have sH18 := Same.new (o := .lst ([.non, .bl true, .bl false, .int 0, .int 1, .int 4, .int 5, .int 20, .int 21, .int (-1), .int 999999999, .str (Str.ofString ""), .str (Str.ofString " "), .str (Str.ofString "a"), .str (Str.ofString " a"), .str (Str.ofString "a "), .str (Str.ofString "a b"), .str (Str.ofString "\n"), .str (Str.ofString "a\n"), .str (Str.ofString "\na"), .str (Str.ofString "ymd"), .str (Str.ofString "myd"), .str (Str.ofString "whole"), .str (Str.ofString "amount"), .str (Str.ofString "signs"), .str (Str.ofString "A"), .str (Str.ofString "abcdefgh"), .str (Str.ofString "abcdefghi"), .str (Str.ofString "a1"), .str (Str.ofString ","), .str (Str.ofString ";"), .str (Str.ofString ":"), .str (Str.ofString "."), .str (Str.ofString "~"), .str (Str.ofString "\""), .str (Str.ofString "'"), .str xx, .ref t0, .ref m0, .ref d0, .ref t1, .ref m1, .ref t2, .ref t3, .ref t4, .ref t5, .ref t7])) nl7
    have el7 : upd H17 l7 (.lst ([.non, .bl true, .bl false, .int 0, .int 1, .int 4, .int 5, .int 20, .int 21, .int (-1), .int 999999999, .str (Str.ofString ""), .str (Str.ofString " "), .str (Str.ofString "a"), .str (Str.ofString " a"), .str (Str.ofString "a "), .str (Str.ofString "a b"), .str (Str.ofString "\n"), .str (Str.ofString "a\n"), .str (Str.ofString "\na"), .str (Str.ofString "ymd"), .str (Str.ofString "myd"), .str (Str.ofString "whole"), .str (Str.ofString "amount"), .str (Str.ofString "signs"), .str (Str.ofString "A"), .str (Str.ofString "abcdefgh"), .str (Str.ofString "abcdefghi"), .str (Str.ofString "a1"), .str (Str.ofString ","), .str (Str.ofString ";"), .str (Str.ofString ":"), .str (Str.ofString "."), .str (Str.ofString "~"), .str (Str.ofString "\""), .str (Str.ofString "'"), .str xx, .ref t0, .ref m0, .ref d0, .ref t1, .ref m1, .ref t2, .ref t3, .ref t4, .ref t5, .ref t7])) l7 = some (.lst ([.non, .bl true, .bl false, .int 0, .int 1, .int 4, .int 5, .int 20, .int 21, .int (-1), .int 999999999, .str (Str.ofString ""), .str (Str.ofString " "), .str (Str.ofString "a"), .str (Str.ofString " a"), .str (Str.ofString "a "), .str (Str.ofString "a b"), .str (Str.ofString "\n"), .str (Str.ofString "a\n"), .str (Str.ofString "\na"), .str (Str.ofString "ymd"), .str (Str.ofString "myd"), .str (Str.ofString "whole"), .str (Str.ofString "amount"), .str (Str.ofString "signs"), .str (Str.ofString "A"), .str (Str.ofString "abcdefgh"), .str (Str.ofString "abcdefghi"), .str (Str.ofString "a1"), .str (Str.ofString ","), .str (Str.ofString ";"), .str (Str.ofString ":"), .str (Str.ofString "."), .str (Str.ofString "~"), .str (Str.ofString "\""), .str (Str.ofString "'"), .str xx, .ref t0, .ref m0, .ref d0, .ref t1, .ref m1, .ref t2, .ref t3, .ref t4, .ref t5, .ref t7])) := upd_same
    generalize upd H17 l7 (.lst ([.non, .bl true, .bl false, .int 0, .int 1, .int 4, .int 5, .int 20, .int 21, .int (-1), .int 999999999, .str (Str.ofString ""), .str (Str.ofString " "), .str (Str.ofString "a"), .str (Str.ofString " a"), .str (Str.ofString "a "), .str (Str.ofString "a b"), .str (Str.ofString "\n"), .str (Str.ofString "a\n"), .str (Str.ofString "\na"), .str (Str.ofString "ymd"), .str (Str.ofString "myd"), .str (Str.ofString "whole"), .str (Str.ofString "amount"), .str (Str.ofString "signs"), .str (Str.ofString "A"), .str (Str.ofString "abcdefgh"), .str (Str.ofString "abcdefghi"), .str (Str.ofString "a1"), .str (Str.ofString ","), .str (Str.ofString ";"), .str (Str.ofString ":"), .str (Str.ofString "."), .str (Str.ofString "~"), .str (Str.ofString "\""), .str (Str.ofString "'"), .str xx, .ref t0, .ref m0, .ref d0, .ref t1, .ref m1, .ref t2, .ref t3, .ref t4, .ref t5, .ref t7])) = H18 at sH18 el7 ⊢
    refine gN ?_
    dsimp only
    have sA : Same H H18 := fun _ _ e => (sH18 _ _ (sH17 _ _ (sH16 _ _ (sH15 _ _ (sH14 _ _ (sH13 _ _ (sH12 _ _ (sH11 _ _ (sH10 _ _ (sH9 _ _ (sH8 _ _ (sH7 _ _ (sH6 _ _ (sH5 _ _ (sH4 _ _ (sH3 _ _ (sH2 _ _ (sH1 _ _ e))))))))))))))))))
    refine ⟨_, rfl, _, rfl, h, n, _, _, rfl, hd.mono sA (Nat.le_refl _), by omega, by show 0 < 47; decide, by show 47 ≤ 1000; decide, .inr ⟨l7, rfl, ?_, SqL.of el7⟩, fun y H' hy hd' bt' => ?_⟩
    · intro z
      rw [z] at nl7
      obtain ⟨g, t, c, e, _⟩ := hd
      have := (sH17 _ _ (sH16 _ _ (sH15 _ _ (sH14 _ _ (sH13 _ _ (sH12 _ _ (sH11 _ _ (sH10 _ _ (sH9 _ _ (sH8 _ _ (sH7 _ _ (sH6 _ _ (sH5 _ _ (sH4 _ _ (sH3 _ _ (sH2 _ _ (sH1 _ _ e)))))))))))))))))
      rw [nl7] at this
      cases this
    have bA : But h H H' := (But.of sA).trans bt'
    have fin : ∀ d : PyData, Dk K H18 h y d → gd 2 d = true → (sh d).length ≤ 1000 → Q y H' := fun d q g l => k y d H' (q.but bt') g l hd' bA
    have ne : ∀ {b : Addr} {o : HO} {G : Hp}, G b = none → Same H G → b ≠ h := by
      rintro b o G e s rfl
      obtain ⟨g, t, c, e2, _⟩ := hd
      have := s _ _ e2
      rw [e] at this
      cases this
    have ht0 : t0 ≠ h := ne (o := .lst []) nt0 (fun _ _ e => (sH5 _ _ (sH4 _ _ (sH3 _ _ (sH2 _ _ (sH1 _ _ e))))))
    have hm0 : m0 ≠ h := ne (o := .lst []) nm0 (fun _ _ e => (sH6 _ _ (sH5 _ _ (sH4 _ _ (sH3 _ _ (sH2 _ _ (sH1 _ _ e)))))))
    have hd0 : d0 ≠ h := ne (o := .lst []) nd0 (fun _ _ e => (sH7 _ _ (sH6 _ _ (sH5 _ _ (sH4 _ _ (sH3 _ _ (sH2 _ _ (sH1 _ _ e))))))))
    have ht1 : t1 ≠ h := ne (o := .lst []) nt1 (fun _ _ e => (sH8 _ _ (sH7 _ _ (sH6 _ _ (sH5 _ _ (sH4 _ _ (sH3 _ _ (sH2 _ _ (sH1 _ _ e)))))))))
    have hm1 : m1 ≠ h := ne (o := .lst []) nm1 (fun _ _ e => (sH9 _ _ (sH8 _ _ (sH7 _ _ (sH6 _ _ (sH5 _ _ (sH4 _ _ (sH3 _ _ (sH2 _ _ (sH1 _ _ e))))))))))
    have ht2 : t2 ≠ h := ne (o := .lst []) nt2 (fun _ _ e => (sH10 _ _ (sH9 _ _ (sH8 _ _ (sH7 _ _ (sH6 _ _ (sH5 _ _ (sH4 _ _ (sH3 _ _ (sH2 _ _ (sH1 _ _ e)))))))))))
    have ht3 : t3 ≠ h := ne (o := .lst []) nt3 (fun _ _ e => (sH11 _ _ (sH10 _ _ (sH9 _ _ (sH8 _ _ (sH7 _ _ (sH6 _ _ (sH5 _ _ (sH4 _ _ (sH3 _ _ (sH2 _ _ (sH1 _ _ e))))))))))))
    have ht4 : t4 ≠ h := ne (o := .lst []) nt4 (fun _ _ e => (sH12 _ _ (sH11 _ _ (sH10 _ _ (sH9 _ _ (sH8 _ _ (sH7 _ _ (sH6 _ _ (sH5 _ _ (sH4 _ _ (sH3 _ _ (sH2 _ _ (sH1 _ _ e)))))))))))))
    have ht5 : t5 ≠ h := ne (o := .lst []) nt5 (fun _ _ e => (sH13 _ _ (sH12 _ _ (sH11 _ _ (sH10 _ _ (sH9 _ _ (sH8 _ _ (sH7 _ _ (sH6 _ _ (sH5 _ _ (sH4 _ _ (sH3 _ _ (sH2 _ _ (sH1 _ _ e))))))))))))))
    have ht6 : t6 ≠ h := ne (o := .lst []) nt6 (fun _ _ e => (sH14 _ _ (sH13 _ _ (sH12 _ _ (sH11 _ _ (sH10 _ _ (sH9 _ _ (sH8 _ _ (sH7 _ _ (sH6 _ _ (sH5 _ _ (sH4 _ _ (sH3 _ _ (sH2 _ _ (sH1 _ _ e)))))))))))))))
    have ht7 : t7 ≠ h := ne (o := .lst []) nt7 (fun _ _ e => (sH15 _ _ (sH14 _ _ (sH13 _ _ (sH12 _ _ (sH11 _ _ (sH10 _ _ (sH9 _ _ (sH8 _ _ (sH7 _ _ (sH6 _ _ (sH5 _ _ (sH4 _ _ (sH3 _ _ (sH2 _ _ (sH1 _ _ e))))))))))))))))
    simp only [List.mem_cons, List.not_mem_nil, or_false] at hy
    rcases hy with rfl | rfl | rfl | rfl | rfl | rfl | rfl | rfl | rfl | rfl | rfl | rfl | rfl | rfl | rfl | rfl | rfl | rfl | rfl | rfl | rfl | rfl | rfl | rfl | rfl | rfl | rfl | rfl | rfl | rfl | rfl | rfl | rfl | rfl | rfl | rfl | rfl | rfl | rfl | rfl | rfl | rfl | rfl | rfl | rfl | rfl | rfl
    · exact fin _ (Dk.non) (by decide +kernel) (by decide +kernel)
    · exact fin _ (Dk.bl _) (by decide +kernel) (by decide +kernel)
    · exact fin _ (Dk.bl _) (by decide +kernel) (by decide +kernel)
    · exact fin _ (Dk.int _) (by decide +kernel) (by decide +kernel)
    · exact fin _ (Dk.int _) (by decide +kernel) (by decide +kernel)
    · exact fin _ (Dk.int _) (by decide +kernel) (by decide +kernel)
    · exact fin _ (Dk.int _) (by decide +kernel) (by decide +kernel)
    · exact fin _ (Dk.int _) (by decide +kernel) (by decide +kernel)
    · exact fin _ (Dk.int _) (by decide +kernel) (by decide +kernel)
    · exact fin _ (Dk.int _) (by decide +kernel) (by decide +kernel)
    · exact fin _ (Dk.int _) (by decide +kernel) (by decide +kernel)
    · exact fin _ (Dk.str _) (by decide +kernel) (by decide +kernel)
    · exact fin _ (Dk.str _) (by decide +kernel) (by decide +kernel)
    · exact fin _ (Dk.str _) (by decide +kernel) (by decide +kernel)
    · exact fin _ (Dk.str _) (by decide +kernel) (by decide +kernel)
    · exact fin _ (Dk.str _) (by decide +kernel) (by decide +kernel)
    · exact fin _ (Dk.str _) (by decide +kernel) (by decide +kernel)
    · exact fin _ (Dk.str _) (by decide +kernel) (by decide +kernel)
    · exact fin _ (Dk.str _) (by decide +kernel) (by decide +kernel)
    · exact fin _ (Dk.str _) (by decide +kernel) (by decide +kernel)
    · exact fin _ (Dk.str _) (by decide +kernel) (by decide +kernel)
    · exact fin _ (Dk.str _) (by decide +kernel) (by decide +kernel)
    · exact fin _ (Dk.str _) (by decide +kernel) (by decide +kernel)
    · exact fin _ (Dk.str _) (by decide +kernel) (by decide +kernel)
    · exact fin _ (Dk.str _) (by decide +kernel) (by decide +kernel)
    · exact fin _ (Dk.str _) (by decide +kernel) (by decide +kernel)
    · exact fin _ (Dk.str _) (by decide +kernel) (by decide +kernel)
    · exact fin _ (Dk.str _) (by decide +kernel) (by decide +kernel)
    · exact fin _ (Dk.str _) (by decide +kernel) (by decide +kernel)
    · exact fin _ (Dk.str _) (by decide +kernel) (by decide +kernel)
    · exact fin _ (Dk.str _) (by decide +kernel) (by decide +kernel)
    · exact fin _ (Dk.str _) (by decide +kernel) (by decide +kernel)
    · exact fin _ (Dk.str _) (by decide +kernel) (by decide +kernel)
    · exact fin _ (Dk.str _) (by decide +kernel) (by decide +kernel)
    · exact fin _ (Dk.str _) (by decide +kernel) (by decide +kernel)
    · exact fin _ (Dk.str _) (by decide +kernel) (by decide +kernel)
    · refine fin _ (Dk.str _) ?_ ?_
      · rw [← hxx]
        decide +kernel
      · rw [← hxx]
        decide +kernel
    · exact fin _ (Dk.tup [] ht0 (SqN.of (sH18 _ _ (sH17 _ _ (sH16 _ _ (sH15 _ _ (sH14 _ _ (sH13 _ _ (sH12 _ _ (sH11 _ _ (sH10 _ _ (sH9 _ _ (sH8 _ _ (sH7 _ _ et0)))))))))))) dt0) (fun p hp => nomatch hp)) (by decide +kernel) (by decide +kernel)
    · exact fin _ (Dk.lst [] hm0 (SqF.of (sH18 _ _ (sH17 _ _ (sH16 _ _ (sH15 _ _ (sH14 _ _ (sH13 _ _ (sH12 _ _ (sH11 _ _ (sH10 _ _ (sH9 _ _ (sH8 _ _ em0)))))))))))) (fun p hp => nomatch hp)) (by decide +kernel) (by decide +kernel)
    · exact fin _ (Dk.d0 hd0 (sH18 _ _ (sH17 _ _ (sH16 _ _ (sH15 _ _ (sH14 _ _ (sH13 _ _ (sH12 _ _ (sH11 _ _ (sH10 _ _ (sH9 _ _ ed0))))))))))) (by decide +kernel) (by decide +kernel)
    · exact fin _ (Dk.tup [(.str (Str.ofString "whole"), .str (Str.ofString "whole"))] ht1 (SqN.of (sH18 _ _ (sH17 _ _ (sH16 _ _ (sH15 _ _ (sH14 _ _ (sH13 _ _ (sH12 _ _ (sH11 _ _ (sH10 _ _ et1))))))))) dt1) (fun p hp => by rw [List.mem_singleton.mp hp]; exact Dk.str _)) (by decide +kernel) (by decide +kernel)
    · exact fin _ (Dk.lst [(.str (Str.ofString "whole"), .str (Str.ofString "whole"))] hm1 (SqF.of (sH18 _ _ (sH17 _ _ (sH16 _ _ (sH15 _ _ (sH14 _ _ (sH13 _ _ (sH12 _ _ (sH11 _ _ em1))))))))) (fun p hp => by rw [List.mem_singleton.mp hp]; exact Dk.str _)) (by decide +kernel) (by decide +kernel)
    · exact fin _ (Dk.tup [(.str (Str.ofString "amount"), .str (Str.ofString "amount")), (.int 2, .int 2)] ht2 (SqN.of (sH18 _ _ (sH17 _ _ (sH16 _ _ (sH15 _ _ (sH14 _ _ (sH13 _ _ (sH12 _ _ et2))))))) dt2) (fun p hp => by simp only [List.mem_cons, List.not_mem_nil, or_false] at hp; rcases hp with rfl | rfl; exact Dk.str _; exact Dk.int _)) (by decide +kernel) (by decide +kernel)
    · exact fin _ (Dk.tup [(.str (Str.ofString "a"), .str (Str.ofString "a"))] ht3 (SqN.of (sH18 _ _ (sH17 _ _ (sH16 _ _ (sH15 _ _ (sH14 _ _ (sH13 _ _ et3)))))) dt3) (fun p hp => by rw [List.mem_singleton.mp hp]; exact Dk.str _)) (by decide +kernel) (by decide +kernel)
    · exact fin _ (Dk.tup [(.str (Str.ofString "a"), .str (Str.ofString "a")), (.str (Str.ofString "a"), .str (Str.ofString "a"))] ht4 (SqN.of (sH18 _ _ (sH17 _ _ (sH16 _ _ (sH15 _ _ (sH14 _ _ et4))))) dt4) (fun p hp => by simp only [List.mem_cons, List.not_mem_nil, or_false] at hp; rcases hp with rfl | rfl; exact Dk.str _; exact Dk.str _)) (by decide +kernel) (by decide +kernel)
    · exact fin _ (Dk.tup [(.int 1, .int 1)] ht5 (SqN.of (sH18 _ _ (sH17 _ _ (sH16 _ _ (sH15 _ _ et5)))) dt5) (fun p hp => by rw [List.mem_singleton.mp hp]; exact Dk.int _)) (by decide +kernel) (by decide +kernel)
    · exact fin _ (Dk.tup [(.ref t6, .tuple [])] ht7 (SqN.of (sH18 _ _ (sH17 _ _ et7)) dt7) (fun p hp => by rw [List.mem_singleton.mp hp]; exact Dk.tup [] ht6 (SqN.of (sH18 _ _ (sH17 _ _ (sH16 _ _ et6))) dt6) (fun p hp => nomatch hp))) (by show gd 2 (.tuple [.tuple []]) = true; decide +kernel) (by show (sh (.tuple [.tuple []])).length ≤ 1000; decide +kernel)
end
end K01
set_option Elab.async false
set_option linter.all false
set_option maxRecDepth 100000
set_option maxHeartbeats 8000000
namespace K01
open PySem PySem.Spec PyProof.Rows L2 Bs Xg TL
abbrev sBent : Stmt := top 29
/-! ### a tuple against the empty one -/
section
variable {X : Cx}
theorem op_neT0 (hu : X.A.units < cLine) : OpR X (compareOp .NotEq) (fun x y H Q => ∃ (a b : Addr) (xs : List V), x = .ref a ∧ y = .ref b ∧ SqT X.K H a xs ∧ SqT X.K H b [] ∧ Q (.bl (!decide (xs = []))) H) := by
  intro pins s σ H x y v u Q I rx ry h
  obtain ⟨a, b, xs, rfl, rfl, sa, sb, q⟩ := h
  obtain rfl : v = .ref a := rx
  obtain rfl : u = .ref b := ry
  obtain ⟨its, rv, hT, _⟩ := I.tuple sa
  obtain ⟨its2, rv2, hT2, _⟩ := I.tuple sb
  cases rv2
  have z := SeqAt.RcNeAt.tuples (A := X.A) (s := s) (e := fun _ => true) hT hT2 hu (fun j h1 h2 => absurd h2 (by simp))
  have e : (!((List.range (min its.toArray.size ([] : List Value).toArray.size)).all (fun _ => true) && its.toArray.size == ([] : List Value).toArray.size)) = !decide (xs = []) := by
    have l := rv.length
    cases xs with
    | nil =>
      have : its = [] := List.eq_nil_of_length_eq_zero l.symm
      subst this
      simp
    | cons x r =>
      have : its.length = r.length + 1 := l.symm
      simp [this]
  rw [e] at z
  exact z X.prog X.w X.xe _ ⟨.bl _, H, I, rfl, q⟩
theorem op_eqT0 (hu : X.A.units < cLine) : OpR X (compareOp .Eq) (fun x y H Q => ∃ (a b : Addr) (xs : List V), x = .ref a ∧ y = .ref b ∧ SqT X.K H a xs ∧ SqT X.K H b [] ∧ Q (.bl (decide (xs = []))) H) := by
  intro pins s σ H x y v u Q I rx ry h
  obtain ⟨a, b, xs, rfl, rfl, sa, sb, q⟩ := h
  obtain rfl : v = .ref a := rx
  obtain rfl : u = .ref b := ry
  obtain ⟨its, rv, hT, _⟩ := I.tuple sa
  obtain ⟨its2, rv2, hT2, _⟩ := I.tuple sb
  cases rv2
  have z := SeqAt.RcAt.tuples (A := X.A) (s := s) (e := fun _ => true) hT hT2 hu (fun j h1 h2 => absurd h2 (by simp))
  have e : ((List.range (min its.toArray.size ([] : List Value).toArray.size)).all (fun _ => true) && its.toArray.size == ([] : List Value).toArray.size) = decide (xs = []) := by
    have l := rv.length
    cases xs with
    | nil =>
      have : its = [] := List.eq_nil_of_length_eq_zero l.symm
      subst this
      simp
    | cons x r =>
      have : its.length = r.length + 1 := l.symm
      simp [this]
  rw [e] at z
  exact z X.prog X.w X.xe _ ⟨.bl _, H, I, rfl, q⟩
end
/-! ### cuts -/
section
variable {H : Hp} {h a b : Addr} {xs ys : List V} {Q : VK}
theorem cut_to (xs : List V) (i : Nat) : cutV xs none (some (i : Int)) = xs.take i := by
  unfold cutV
  rw [HT.sIx_none, HT.sIx_nat, List.drop_zero, Nat.sub_zero]
  by_cases h : i ≤ xs.length
  · rw [Nat.min_eq_left h]
  · rw [Nat.min_eq_right (by omega), List.take_length, List.take_of_length_le (by omega)]
theorem cut_from (xs : List V) (i : Nat) : cutV xs (some (i : Int)) none = xs.drop i := by
  unfold cutV
  rw [HT.sIx_none, HT.sIx_nat]
  by_cases h : i ≤ xs.length
  · rw [Nat.min_eq_left h, List.take_of_length_le (by rw [List.length_drop]; omega)]
  · rw [Nat.min_eq_right (by omega), List.drop_length, List.drop_of_length_le (by omega), List.take_nil]
end
/-! ### how long the repr -/
def wt (l : List PyData) : Nat := (l.map fun d => (sh d).length + 2).sum
theorem wt_app (l m : List PyData) : wt (l ++ m) = wt l + wt m := by
  unfold wt
  rw [List.map_append, List.sum_append]
theorem wt_cons (d : PyData) (l : List PyData) : wt (d :: l) = (sh d).length + 2 + wt l := by
  unfold wt
  rw [List.map_cons, List.sum_cons]
theorem wt_split (l : List PyData) (i : Nat) : wt (l.take i) + wt (l.drop i) = wt l := by
  rw [← wt_app, List.take_append_drop]
theorem len_wt : ∀ l : List PyData, 2 * l.length ≤ wt l
  | [] => by simp
  | d :: l => by
    have := len_wt l
    rw [wt_cons, List.length_cons]
    omega
theorem jn_wt : ∀ l : List PyData, l ≠ [] → (jn l).length + 2 = wt l
  | [], h => absurd rfl h
  | [d], _ => by
    rw [jn_one]
    simp [wt]
  | d :: e :: l, _ => by
    have ih := jn_wt (e :: l) (by simp)
    rw [jn_more, List.length_append, List.length_cons, List.length_cons, wt_cons]
    omega
theorem sh_wt (l : List PyData) : wt l ≤ (sh (.tuple l)).length ∧ (sh (.tuple l)).length ≤ wt l + 3 := by
  rw [sh_tup]
  match l with
  | [] => simp [wt, jn_nil]
  | [d] =>
    rw [jn_one]
    simp [wt]
  | d :: e :: l =>
    have := jn_wt (d :: e :: l) (by simp)
    simp only [List.length_cons, List.length_append]
    rw [if_neg (by simp)]
    simp only [List.length_cons, List.length_nil]
    omega
theorem sh_wtL (l : List PyData) : (sh (.list l)).length ≤ wt l + 3 := by
  have e : sh (.list l) = 91 :: (jn l ++ [93]) := by
    unfold sh
    rw [PyData.shown_list, tl_append, tl_append]
    have e1 : tl (Str.ofString "[") = [91] := by decide
    have e2 : tl (Str.ofString "]") = [93] := by decide
    show tl (Str.ofString "[") ++ _ ++ tl (Str.ofString "]") = _
    rw [e1, e2]
    simp
  rw [e]
  match l with
  | [] => simp [wt, jn_nil]
  | d :: l =>
    have := jn_wt (d :: l) (by simp)
    simp only [List.length_cons, List.length_append, List.length_nil]
    omega
theorem gd_up : ∀ (n : Nat) (d : PyData), gd n d = true → gd (n + 1) d = true
  | _, .none, _ => rfl
  | _, .bool _, _ => rfl
  | 0, .int _, h => h
  | _ + 1, .int _, h => h
  | 0, .str _, h => h
  | _ + 1, .str _, h => h
  | 0, .dict _, h => h
  | _ + 1, .dict _, h => h
  | 0, .list l, h => by
    have : l = [] := List.isEmpty_iff.mp h
    subst this
    rfl
  | 0, .tuple l, h => by
    have : l = [] := List.isEmpty_iff.mp h
    subst this
    rfl
  | n + 1, .list l, h => List.all_eq_true.mpr fun e he => gd_up n e (List.all_eq_true.mp h e he)
  | n + 1, .tuple l, h => List.all_eq_true.mpr fun e he => gd_up n e (List.all_eq_true.mp h e he)
theorem gd_le {m n : Nat} (l : m ≤ n) {d : PyData} (h : gd m d = true) : gd n d = true := by
  induction l with
  | refl => exact h
  | step _ ih => exact gd_up _ _ ih
theorem gd_tup (n : Nat) (l : List PyData) : gd (n + 1) (.tuple l) = true ↔ ∀ e ∈ l, gd n e = true := List.all_eq_true
theorem gd_lst (n : Nat) (l : List PyData) : gd (n + 1) (.list l) = true ↔ ∀ e ∈ l, gd n e = true := List.all_eq_true
/-- an item: a tuple of data -/
structure ItemT (K : PySem.W.Frag) (H : Hp) (h a : Addr) (N : Nat) (ps : List (V × PyData)) : Prop where
  sq : SqN H a (ps.map (·.1))
  ne : a ≠ h
  dk : ∀ p ∈ ps, Dk K H h p.1 p.2
  gd : ∀ p ∈ ps, gd N p.2 = true
  few : wt (ps.map (·.2)) ≤ 30000
theorem ItemT.but {K : PySem.W.Frag} {H H' : Hp} {h a : Addr} {N : Nat} {ps : List (V × PyData)} (i : ItemT K H h a N ps) (b : But h H H') : ItemT K H' h a N ps := ⟨b.seqN i.ne i.sq, i.ne, fun p hp => (i.dk p hp).but b, i.gd, i.few⟩
section
variable {P : Program} {w : World} {K : PySem.W.Frag} {mg : Str → Option Value} {base : Heap} {fT fP fO : Addr} {dT dP dO : FuncData}
def spBent (K : PySem.W.Frag) (N m : Nat) : Sp := fun vs H Q _ => ∃ (h a : Addr) (n : Nat) (ps : List (V × PyData)), vs = [.ref h, .ref a, .int (m : Int)] ∧ HandAt H h n ∧ n + 5 * (m + 1) < 1000000 ∧ ItemT K H h a N ps ∧
  ∀ (y : V) (d : PyData) (H' : Hp), Dk K H' h y d → gd (N + 1) d = true → (sh d).length ≤ 2 * wt (ps.map (·.2)) + 1100 + 10 * (m + 1) → (∃ l, d = .tuple l ∨ d = .list l) → HandAt H' h (n + 5 * (m + 1)) → But h H H' → Q y H'
abbrev nBe : List Str := ["_law_hand_here", "_law_item", "_law_deep", "_law_way", "_law_at", "_law_odd"]
theorem scBe : FnScope nBe ["_law_hand_here", "_law_item", "_law_deep"] (defScope sBent) := ⟨rfl, rfl, rfl, by decide +kernel, rfl, by decide +kernel, by decide +kernel⟩
/-- pieces of an item with one thing between -/
theorem made {H : Hp} {h t : Addr} {N : Nat} {qs : List (V × PyData)} (sq : SqN H t (qs.map (·.1))) (ne : t ≠ h) (dk : ∀ p ∈ qs, Dk K H h p.1 p.2) (g : ∀ p ∈ qs, gd N p.2 = true) : Dk K H h (.ref t) (.tuple (qs.map (·.2))) ∧ gd (N + 1) (.tuple (qs.map (·.2))) = true :=
  ⟨Dk.tup qs ne sq dk, (gd_tup _ _).mpr fun e he => by obtain ⟨p, hp, rfl⟩ := List.mem_map.mp he; exact g p hp⟩
theorem step_bent {N m k : Nat} {sp' : Sp} {f : Addr} {fd : FuncData} (F : Fun K "_law_bent" "_law_bent" sBent f fd) (bF : Binds K fd ["_law_hand_here", "_law_item", "_law_deep"] []) (gF : mg "_law_bent" = some (.ref f)) (T : Free mg) (T' : Txt mg) (Z : HandF K mg fT fP dT dP)
    (FO : Fun K "_law_odd_one" "_law_odd_one" sOdd fO dO) (bO : Binds K dO ["_law_hand_here"] []) (gO : mg "_law_odd_one" = some (.ref fO)) (G : FnOk P w K mg base CX0 k f fd ["_law_hand_here", "_law_item", "_law_deep"] sp') (hk : 3 ≤ k) (hN : m + 2 ≤ N)
    (hs : ∀ m', m = m' + 1 → sp' = spBent K (N - 1) m') : FnOk P w K mg base CX0 (k + 1) f fd ["_law_hand_here", "_law_item", "_law_deep"] (spBent K N m) := by
  have GT : FnOk P w K mg base CX0 1 fT dT ["_law_hand_here", "_law_many"] spTake := ok_take Z.T
  have GO : FnOk P w K mg base CX0 3 fO dO ["_law_hand_here"] (spOdd K) := ok_odd FO T' Z
  refine F.ok scBe (fun vs H Q E h => ?_) (fun cdv A outer s H vs Q E hr h => ?_)
  · obtain ⟨h, a, n, ps, rfl, _⟩ := h
    rfl
  · obtain ⟨h, a, n, ps, rfl, hd, nb, it, q⟩ := h
    have hr1 : Room 1 _ := hr.mono (by omega)
    have hr3 : Room 3 _ := hr.mono hk
    refine ⟨_, pss_cons (ps_par (i := 3) (j := 4) rfl scBe.nd rfl rfl (by decide) rfl rfl (pa_cons (pe_call GT hr1 (by rfl) Z.gT Z.T.kp Z.bT .nil pass0 (pa_cons (pv 0) (pa_cons pe_int pa_nil))) (pa_cons (pe_call GT hr1 (by rfl) Z.gT Z.T.kp Z.bT .nil pass0 (pa_cons (pv 0) (pa_cons (pe_callB (call_max2 rfl) (by rfl) T.max (by decide +kernel) (pa_cons pe_int (pa_cons (pe_callB call_len_seq (by rfl) T.len PySem.boot_len (pa_cons (pv 1) pa_nil)) pa_nil))) pa_nil))) pa_nil)) (by rfl))
      (pss_cons (ps_set (i := 5) scBe.nd rfl (Or.inl rfl) (pe_call GO hr3 (by rfl) gO FO.kp bO .nil pass0 (pa_cons (pv 0) pa_nil)))
      (pss_cons (ps_if (PW.pt (pw_and (pt_cmpR op_lt (pv 3) pe_int (nomark _)) (pw_and (pt_cmpR op_gt (pv 2) pe_int (nomark _)) (pw_and (pt_cmpR (op_neT0 hr.units0) (pv 1) (pe_tupN pa_nil) (nomark _)) (pw_and1 (pt_val (pe_callB call_isi (by rfl) T.isi.i (by decide +kernel) (pa_cons (pe_ix ix_tup (pv 1) (pv 4) (fun _ _ => rfl)) (pa_cons (pe_bltn rfl T.isi.tuple (v := V.ty "tuple") (by decide +kernel) rfl) pa_nil))))))))) (pss_one (ps_ret (pe_op op_catN (pe_op op_catN (pe_slice sl_tupN (pv 1) po_none (po_some (pv 4))) (pe_tupN (pa_cons (pe_call G hr (by rfl) gF F.kp bF .nil pass0 (pa_cons (pv 0) (pa_cons (pe_ix ix_tup (pv 1) (pv 4) (fun _ _ => rfl)) (pa_cons (pe_op op_sub (pv 2) pe_int) pa_nil)))) pa_nil))) (pe_slice sl_tupN (pv 1) (po_some (pe_op op_add (pv 4) pe_int)) po_none)))) (pss_nil))
      (pss_cons (ps_if (PW.pt (pw_or (pt_cmpR op_lt (pv 3) pe_int (nomark _)) (pw_or1 (pt_cmpR (op_eqT0 hr.units0) (pv 1) (pe_tupN pa_nil) (nomark _))))) (pss_one (ps_ret (pe_op op_catN (pe_op op_catN (pe_slice sl_tupN (pv 1) po_none (po_some (pv 4))) (pe_tupN (pa_cons (pv 5) pa_nil))) (pe_slice sl_tupN (pv 1) (po_some (pe_op op_add (pv 4) pe_int)) po_none)))) (pss_nil))
      (pss_cons (ps_if (pt_cmpR op_eq (pv 3) pe_int (nomark _)) (pss_one (ps_ret (pe_ix ix_list (pe_lst (pa_cons (pe_callTy call_listN (by rfl) T.list (by decide +kernel) (pa_cons (pv 1) pa_nil)) (pa_cons (pe_op op_catN (pe_op op_catN (pe_slice sl_tupN (pv 1) po_none (po_some (pv 4))) (pe_tupN (pa_cons (pv 5) pa_nil))) (pe_slice sl_tupN (pv 1) (po_some (pv 4)) po_none)) pa_nil))) (pe_call GT hr1 (by rfl) Z.gT Z.T.kp Z.bT .nil pass0 (pa_cons (pv 0) (pa_cons pe_int pa_nil))) (fun _ _ => rfl)))) (pss_nil))
      (pss_one (ps_ret (pe_ix ix_list (pe_lst (pa_cons (pe_op op_catN (pe_slice sl_tupN (pv 1) po_none (po_some (pv 4))) (pe_slice sl_tupN (pv 1) (po_some (pe_op op_add (pv 4) pe_int)) po_none)) (pa_cons (pe_op op_catN (pe_slice sl_tupN (pv 1) po_none (po_some (pe_op op_add (pv 4) pe_int))) (pe_slice sl_tupN (pv 1) (po_some (pv 4)) po_none)) pa_nil))) (pe_op op_sub (pv 3) pe_int) (fun _ _ => rfl)))))))), ?_⟩
    have lm : (ps.map (·.1)).length = ps.length := List.length_map ..
    have fw := it.few
    have few : ps.length ≤ 15000 := by
      have := len_wt (ps.map (·.2))
      rw [List.length_map] at this
      omega
    refine ⟨_, rfl, h, n, _, rfl, hd, by omega, by decide, by decide, fun way H1 w0 w1 hd1 bt1 => ?_⟩
    have it1 := it.but bt1
    refine ⟨_, rfl, _, rfl, a, _, rfl, .inr it1.sq.t, _, _, rfl, h, n + 1, _, rfl, hd1, by omega, ?_, ?_, fun at_ H2 a0 a1 hd2 bt2 => ?_⟩
    · split <;> omega
    · rw [lm]
      split <;> omega
    refine ⟨_, _, rfl, ?_⟩
    dsimp only
    refine ⟨_, rfl, h, n + 2, rfl, hd2, by omega, fun od dod H3 dk3 g3 l3 hd3 bt3 => gN ?_⟩
    dsimp only
    have it3 := (it1.but bt2).but bt3
    have b03 : But h H H3 := (bt1.trans bt2).trans bt3
    obtain ⟨i, rfl⟩ : ∃ i : Nat, at_ = (i : Int) := ⟨at_.toNat, by omega⟩
    have ir : ps ≠ [] → i < ps.length := by
      intro hp
      have : 0 < ps.length := List.length_pos_iff.mpr hp
      rw [lm] at a1
      revert a1
      split <;> omega
    have nh : ∀ {G : Hp}, Same H3 G → ∃ o, G h = some o := by
      intro G s
      obtain ⟨g, t, c, e, _⟩ := hd3
      exact ⟨_, s _ _ e⟩
    have itG : ∀ {G : Hp}, Same H3 G → ItemT K G h a N ps := fun s => it3.but (But.of s)
    have mt : ∀ j, (ps.map (·.1)).take j = (ps.take j).map (·.1) := fun j => List.map_take.symm
    have md : ∀ j, (ps.map (·.1)).drop j = (ps.drop j).map (·.1) := fun j => List.map_drop.symm
    have lt_ : ∀ j, (ps.take j).length ≤ 15000 := fun j => by rw [List.length_take]; omega
    have ld_ : ∀ j, (ps.drop j).length ≤ 15000 := fun j => by rw [List.length_drop]; omega
    have wsp : ∀ j, wt ((ps.take j).map (·.2)) + wt ((ps.drop j).map (·.2)) = wt (ps.map (·.2)) := fun j => by rw [List.map_take, List.map_drop, wt_split]
    have inT : ∀ {j} {p : V × PyData}, p ∈ ps.take j → p ∈ ps := fun h => List.mem_of_mem_take h
    have inD : ∀ {j} {p : V × PyData}, p ∈ ps.drop j → p ∈ ps := fun h => List.mem_of_mem_drop h
    -- what is told at the end: some pieces, each of the item, or one thing more
    have fin : ∀ (G : Hp) (s : Same H3 G) (n' : Nat) (t : Addr) (qs : List (V × PyData)), HandAt G h n' → n' ≤ n + 5 * (m + 1) → SqN G t (qs.map (·.1)) → t ≠ h → (∀ p ∈ qs, p ∈ ps ∨ (Dk K G h p.1 p.2 ∧ gd N p.2 = true)) →
        wt (qs.map (·.2)) + 3 ≤ 2 * wt (ps.map (·.2)) + 1100 + 10 * (m + 1) → Q (.ref t) G := by
      intro G s n' t qs hdG nn sq ne hq hw
      have mk := made (N := N) sq ne (fun p hp => (hq p hp).elim (fun z => (itG s).dk p z) (·.1)) (fun p hp => (hq p hp).elim (fun z => it.gd p z) (·.2))
      exact q _ _ G mk.1 mk.2 (Nat.le_trans (sh_wt _).2 hw) ⟨_, .inl rfl⟩ (hdG.up nn) (b03.trans (But.of s))
    have finB : ∀ (G : Hp) (b : But h H3 G) (n' : Nat) (t : Addr) (qs : List (V × PyData)), HandAt G h n' → n' ≤ n + 5 * (m + 1) → SqN G t (qs.map (·.1)) → t ≠ h → (∀ p ∈ qs, p ∈ ps ∨ (Dk K G h p.1 p.2 ∧ gd N p.2 = true)) →
        wt (qs.map (·.2)) + 3 ≤ 2 * wt (ps.map (·.2)) + 1100 + 10 * (m + 1) → Q (.ref t) G := by
      intro G b n' t qs hdG nn sq ne hq hw
      have mk := made (N := N) sq ne (fun p hp => (hq p hp).elim (fun z => (it3.but b).dk p z) (·.1)) (fun p hp => (hq p hp).elim (fun z => it.gd p z) (·.2))
      exact q _ _ G mk.1 mk.2 (Nat.le_trans (sh_wt _).2 hw) ⟨_, .inl rfl⟩ (hdG.up nn) (b03.trans b)
    have gN3 : gd N dod = true := gd_le (by omega) g3
    refine cutT (fun σ' G => σ' = [some (.ref h), some (.ref a), some (.int (m : Int)), some (.int way), some (.int (i : Int)), some od] ∧ Same H3 G) (fun Nx nx => ?_) ?_
    · refine ⟨_, rfl, _, _, rfl, rfl, _, rfl, ?_⟩
      refine ite2 (fun _ => ?_) (fun _ => nx _ _ ⟨rfl, Same.refl _⟩)
      refine ⟨_, rfl, _, _, rfl, rfl, _, rfl, ?_⟩
      refine ite2 (fun c2 => ?_) (fun _ => nx _ _ ⟨rfl, Same.refl _⟩)
      have mpos : (0 : Int) < m := of_decide_eq_true c2
      refine ⟨_, rfl, (by show 0 ≤ sizeLine; decide), fun t0 o0 n0 d0 => ?_⟩
      have s0 := Same.new (o := .frz o0 (.tup [])) n0
      have e0 : upd H3 t0 (.frz o0 (.tup [])) t0 = some (.frz o0 (.tup [])) := upd_same
      generalize upd H3 t0 (.frz o0 (.tup [])) = G0 at s0 e0 ⊢
      refine ⟨a, t0, _, rfl, rfl, (itG s0).sq.t, (SqN.of e0 d0).t, _, rfl, ?_⟩
      refine ite2 (fun c3 => ?_) (fun _ => nx _ _ ⟨rfl, s0⟩)
      have pn : ps ≠ [] := by
        rintro rfl
        simp at c3
      have il := ir pn
      obtain ⟨p1, hp1, ap1, _, mp1⟩ := get_ps ps i il
      have dp1 := ((itG s0).dk p1 mp1).now
      refine ⟨_, rfl, _, rfl, a, _, (i : Int), p1.1, rfl, rfl, (itG s0).sq.t, ap1, p1.1, .ty "tuple", _, _, _, rfl, .ty "tuple", ty_of dp1, kit_d p1.2 "tuple" (.inr (.inr (.inr rfl))), _, rfl, ?_⟩
      refine ite2 (fun c4 => ?_) (fun _ => nx _ _ ⟨rfl, s0⟩)
      obtain ⟨m', rfl⟩ : ∃ m', m = m' + 1 := ⟨m - 1, by omega⟩
      have spe := hs m' rfl
      subst spe
      obtain ⟨N', rfl⟩ : ∃ N', N = N' + 1 := ⟨N - 1, by omega⟩
      obtain ⟨v1, d1⟩ := p1
      dsimp only at dp1 c4 ap1 hp1
      -- the part is a tuple itself
      obtain ⟨a1', ps1, rfl, rfl, it1'⟩ : ∃ a1' ps1, v1 = .ref a1' ∧ d1 = .tuple (ps1.map (·.2)) ∧ ItemT K G0 h a1' N' ps1 := by
        have g1 : gd (N' + 1) d1 = true := it.gd _ mp1
        have k1 : Dk K G0 h v1 d1 := (itG s0).dk _ mp1
        have l1 : (sh d1).length ≤ wt (ps.map (·.2)) := by
          have e := wsp i
          have hd2 : ps.drop i = (v1, d1) :: ps.drop (i + 1) := by
            rw [List.drop_eq_getElem_cons il]
            have := List.getElem?_eq_getElem il
            rw [hp1] at this
            rw [← Option.some.inj this]
          rw [hd2, List.map_cons, wt_cons] at e
          dsimp only at e
          omega
        cases k1 with
        | @tup a1' ps1 n1 sq1 k1 =>
          refine ⟨a1', ps1, rfl, rfl, sq1, n1, k1, fun p hp => (gd_tup _ _).mp g1 _ (List.mem_map.mpr ⟨p, hp, rfl⟩), ?_⟩
          have := (sh_wt (ps1.map (·.2))).1
          omega
        | non => exact nomatch c4
        | bl b => cases b <;> exact nomatch c4
        | int i => exact nomatch c4
        | str z => exact nomatch c4
        | d0 _ _ => exact nomatch c4
        | lst _ _ _ _ => exact nomatch c4
      refine ⟨_, rfl, _, rfl, _, rfl, sl_use (h := h) (itG s0).sq (itG s0).ne (nh s0) fun t1 G1 sq1 ne1 s1 => ?_⟩
      rw [cut_to, mt] at sq1
      have s01 : Same H3 G1 := fun _ _ e => s1 _ _ (s0 _ _ e)
      have sub1 : (sh (.tuple (ps1.map (·.2)))).length + 2 + (wt ((ps.take i).map (·.2)) + wt ((ps.drop (i + 1)).map (·.2))) = wt (ps.map (·.2)) := by
        have e := wsp i
        have hd2 : ps.drop i = (V.ref a1', PyData.tuple (ps1.map (·.2))) :: ps.drop (i + 1) := by
          rw [List.drop_eq_getElem_cons il]
          have := List.getElem?_eq_getElem il
          rw [hp1] at this
          rw [← Option.some.inj this]
        rw [hd2, List.map_cons, wt_cons] at e
        dsimp only at e
        omega
      have sw := (sh_wt (ps1.map (·.2))).1
      refine ⟨_, rfl, _, rfl, _, rfl, a, _, (i : Int), _, rfl, rfl, (itG s01).sq.t, ap1, _, rfl, _, _, rfl, rfl, h, a1', n + 3, ps1, ?_, hd3.mono s01 (Nat.le_refl _), by omega, it1'.but (But.of s1), fun y d G2 dk gg ll kind hdG2 bG2 => ?_⟩
      · show [V.ref h, V.ref a1', V.int (((m' + 1 : Nat) : Int) - 1)] = _
        rw [show (((m' + 1 : Nat) : Int) - 1) = (m' : Int) by omega]
      have b3 : But h H3 G2 := (But.of s01).trans bG2
      refine ⟨(by show 1 ≤ sizeLine; decide), fun t2 o2 n2 d2 => ?_⟩
      have s2 := Same.new (o := .frz o2 (.tup [y])) n2
      have e2 : upd G2 t2 (.frz o2 (.tup [y])) t2 = some (.frz o2 (.tup [y])) := upd_same
      generalize upd G2 t2 (.frz o2 (.tup [y])) = G3 at s2 e2 ⊢
      obtain ⟨ho, eh⟩ : ∃ o, G2 h = some o := by
        obtain ⟨g, t, c, e, _⟩ := hdG2
        exact ⟨_, e⟩
      have ne2 : t2 ≠ h := (ne_of_none eh n2).symm
      refine cat_use (h := h) (sameN s2 (bG2.seqN ne1 sq1)) (SqN.of e2 d2) ne1 ne2 ⟨_, s2 _ _ eh⟩ ?_ fun t3 G4 sq3 ne3 s3 => ?_
      · rw [List.length_map]
        have := lt_ i
        show _ + 1 ≤ _
        omega
      have s34 : Same G2 G4 := fun _ _ e => s3 _ _ (s2 _ _ e)
      have b4 : But h H3 G4 := b3.trans (But.of s34)
      have it4 := it3.but b4
      refine ⟨_, rfl, _, rfl, _, _, rfl, rfl, _, rfl, ?_⟩
      dsimp only [tNoPart]
      refine sl_use (h := h) it4.sq it4.ne ⟨_, s34 _ _ eh⟩ fun t4 G5 sq4 ne4 s4 => ?_
      rw [show ((i : Int) + 1) = ((i + 1 : Nat) : Int) by omega, cut_from, md] at sq4
      refine cat_use (h := h) (sameN s4 sq3) sq4 ne3 ne4 ⟨_, s4 _ _ (s34 _ _ eh)⟩ ?_ fun t5 G6 sq5 ne5 s5 => ?_
      · rw [List.length_append, List.length_map, List.length_map]
        have := lt_ i
        have := ld_ (i + 1)
        show _ + 1 + _ ≤ _
        omega
      have b6 : But h H3 G6 := b4.trans (But.of fun _ _ e => s5 _ _ (s4 _ _ e))
      have sb6 : Same G2 G6 := fun _ _ e => s5 _ _ (s4 _ _ (s34 _ _ e))
      refine finB G6 b6 (n + 3 + 5 * (m' + 1)) t5 (ps.take i ++ [(y, d)] ++ ps.drop (i + 1)) (hdG2.mono sb6 (Nat.le_refl _)) (by omega) ?_ ne5 (fun p hp => ?_) ?_
      · rw [List.map_append, List.map_append]
        exact sq5
      · rcases List.mem_append.mp hp with hp | hp
        · rcases List.mem_append.mp hp with hp | hp
          · exact .inl (inT hp)
          · rw [List.mem_singleton.mp hp]
            exact .inr ⟨dk.but (But.of sb6), gg⟩
        · exact .inl (inD hp)
      · rw [List.map_append, List.map_append, wt_app, wt_app]
        have e1 : wt ([(y, d)].map (·.2)) = (sh d).length + 2 := by simp [wt]
        rw [e1]
        omega
    · rintro σ' G ⟨rfl, sG⟩
      have wdrop : ∀ j, wt ((ps.drop (j + 1)).map (·.2)) ≤ wt ((ps.drop j).map (·.2)) := by
        intro j
        by_cases c : j < ps.length
        · rw [List.drop_eq_getElem_cons c, List.map_cons, wt_cons]
          omega
        · rw [List.drop_of_length_le (by omega)]
          simp [wt]
      have wtake : ∀ j, wt ((ps.take (j + 1)).map (·.2)) ≤ wt (ps.map (·.2)) := by
        intro j
        have := wsp (j + 1)
        omega
      refine cutT (fun σ' G' => σ' = [some (.ref h), some (.ref a), some (.int (m : Int)), some (.int way), some (.int (i : Int)), some od] ∧ Same H3 G' ∧ 4 ≤ way) (fun Nx nx => ?_) ?_
      · refine ⟨_, rfl, _, _, rfl, rfl, _, rfl, ?_⟩
        refine ite2 (fun _ => iteT ?_) (fun c1 => ?_)
        · -- way < 4
          refine ⟨_, rfl, _, rfl, _, rfl, sl_use (h := h) (itG sG).sq (itG sG).ne (nh sG) fun t1 G1 sq1 ne1 s1 => ?_⟩
          rw [cut_to, mt] at sq1
          have z1 : Same H3 G1 := fun _ _ e => s1 _ _ (sG _ _ e)
          refine ⟨_, rfl, (by show 1 ≤ sizeLine; decide), fun t2 o2 n2 d2 => ?_⟩
          have s2 := Same.new (o := .frz o2 (.tup [od])) n2
          have e2 : upd G1 t2 (.frz o2 (.tup [od])) t2 = some (.frz o2 (.tup [od])) := upd_same
          generalize upd G1 t2 (.frz o2 (.tup [od])) = G2 at s2 e2 ⊢
          have z2 : Same H3 G2 := fun _ _ e => s2 _ _ (z1 _ _ e)
          have ne2 : t2 ≠ h := by
            obtain ⟨o, eo⟩ := nh z1
            exact (ne_of_none eo n2).symm
          refine cat_use (h := h) (sameN s2 sq1) (SqN.of e2 d2) ne1 ne2 (nh z2) ?_ fun t3 G3 sq3 ne3 s3 => ?_
          · rw [List.length_map]
            have := lt_ i
            show _ + 1 ≤ _
            omega
          have z3 : Same H3 G3 := fun _ _ e => s3 _ _ (z2 _ _ e)
          refine ⟨_, rfl, _, rfl, _, _, rfl, rfl, _, rfl, ?_⟩
          dsimp only [tNoPart]
          refine sl_use (h := h) (itG z3).sq (itG z3).ne (nh z3) fun t4 G4 sq4 ne4 s4 => ?_
          rw [show ((i : Int) + 1) = ((i + 1 : Nat) : Int) by omega, cut_from, md] at sq4
          have z4 : Same H3 G4 := fun _ _ e => s4 _ _ (z3 _ _ e)
          refine cat_use (h := h) (sameN s4 sq3) sq4 ne3 ne4 (nh z4) ?_ fun t5 G5 sq5 ne5 s5 => ?_
          · rw [List.length_append, List.length_map, List.length_map]
            have := lt_ i
            have := ld_ (i + 1)
            show _ + 1 + _ ≤ _
            omega
          have z5 : Same H3 G5 := fun _ _ e => s5 _ _ (z4 _ _ e)
          refine fin G5 z5 (n + 3) t5 (ps.take i ++ [(od, dod)] ++ ps.drop (i + 1)) (hd3.mono z5 (Nat.le_refl _)) (by omega) ?_ ne5 (fun p hp => ?_) ?_
          · rw [List.map_append, List.map_append]
            exact sq5
          · rcases List.mem_append.mp hp with hp | hp
            · rcases List.mem_append.mp hp with hp | hp
              · exact .inl (inT hp)
              · rw [List.mem_singleton.mp hp]
                exact .inr ⟨dk3.but ((But.of z5)), gN3⟩
            · exact .inl (inD hp)
          · rw [List.map_append, List.map_append, wt_app, wt_app]
            have e1 : wt ([(od, dod)].map (·.2)) = (sh dod).length + 2 := by simp [wt]
            rw [e1]
            have w1 := wsp i
            have w2 := wdrop i
            omega
        · have w4 : 4 ≤ way := by
            have : ¬ way < 4 := fun q => c1 (decide_eq_true q)
            omega
          refine ⟨_, rfl, (by show 0 ≤ sizeLine; decide), fun t0 o0 n0 d0 => ?_⟩
          have s0 := Same.new (o := .frz o0 (.tup [])) n0
          have e0 : upd G t0 (.frz o0 (.tup [])) t0 = some (.frz o0 (.tup [])) := upd_same
          generalize upd G t0 (.frz o0 (.tup [])) = G0 at s0 e0 ⊢
          have sG0 : Same H3 G0 := fun _ _ e => s0 _ _ (sG _ _ e)
          refine ⟨a, t0, _, rfl, rfl, (itG sG0).sq.t, (SqN.of e0 d0).t, _, rfl, ?_⟩
          refine ite2 (fun _ => ?_) (fun _ => nx _ _ ⟨rfl, sG0, w4⟩)
          refine ⟨_, rfl, _, rfl, _, rfl, sl_use (h := h) (itG sG0).sq (itG sG0).ne (nh sG0) fun t1 G1 sq1 ne1 s1 => ?_⟩
          rw [cut_to, mt] at sq1
          have z1 : Same H3 G1 := fun _ _ e => s1 _ _ (sG0 _ _ e)
          refine ⟨_, rfl, (by show 1 ≤ sizeLine; decide), fun t2 o2 n2 d2 => ?_⟩
          have s2 := Same.new (o := .frz o2 (.tup [od])) n2
          have e2 : upd G1 t2 (.frz o2 (.tup [od])) t2 = some (.frz o2 (.tup [od])) := upd_same
          generalize upd G1 t2 (.frz o2 (.tup [od])) = G2 at s2 e2 ⊢
          have z2 : Same H3 G2 := fun _ _ e => s2 _ _ (z1 _ _ e)
          have ne2 : t2 ≠ h := by
            obtain ⟨o, eo⟩ := nh z1
            exact (ne_of_none eo n2).symm
          refine cat_use (h := h) (sameN s2 sq1) (SqN.of e2 d2) ne1 ne2 (nh z2) ?_ fun t3 G3 sq3 ne3 s3 => ?_
          · rw [List.length_map]
            have := lt_ i
            show _ + 1 ≤ _
            omega
          have z3 : Same H3 G3 := fun _ _ e => s3 _ _ (z2 _ _ e)
          refine ⟨_, rfl, _, rfl, _, _, rfl, rfl, _, rfl, ?_⟩
          dsimp only [tNoPart]
          refine sl_use (h := h) (itG z3).sq (itG z3).ne (nh z3) fun t4 G4 sq4 ne4 s4 => ?_
          rw [show ((i : Int) + 1) = ((i + 1 : Nat) : Int) by omega, cut_from, md] at sq4
          have z4 : Same H3 G4 := fun _ _ e => s4 _ _ (z3 _ _ e)
          refine cat_use (h := h) (sameN s4 sq3) sq4 ne3 ne4 (nh z4) ?_ fun t5 G5 sq5 ne5 s5 => ?_
          · rw [List.length_append, List.length_map, List.length_map]
            have := lt_ i
            have := ld_ (i + 1)
            show _ + 1 + _ ≤ _
            omega
          have z5 : Same H3 G5 := fun _ _ e => s5 _ _ (z4 _ _ e)
          refine fin G5 z5 (n + 3) t5 (ps.take i ++ [(od, dod)] ++ ps.drop (i + 1)) (hd3.mono z5 (Nat.le_refl _)) (by omega) ?_ ne5 (fun p hp => ?_) ?_
          · rw [List.map_append, List.map_append]
            exact sq5
          · rcases List.mem_append.mp hp with hp | hp
            · rcases List.mem_append.mp hp with hp | hp
              · exact .inl (inT hp)
              · rw [List.mem_singleton.mp hp]
                exact .inr ⟨dk3.but ((But.of z5)), gN3⟩
            · exact .inl (inD hp)
          · rw [List.map_append, List.map_append, wt_app, wt_app]
            have e1 : wt ([(od, dod)].map (·.2)) = (sh dod).length + 2 := by simp [wt]
            rw [e1]
            have w1 := wsp i
            have w2 := wdrop i
            omega
      · rintro σ' G ⟨rfl, sG, w4⟩
        refine cutT (fun σ' G' => σ' = [some (.ref h), some (.ref a), some (.int (m : Int)), some (.int way), some (.int (i : Int)), some od] ∧ G' = G ∧ way ≠ 4) (fun Nx nx => ?_) ?_
        · refine ⟨_, rfl, rfl, _, rfl, ?_⟩
          refine ite2 (fun _ => ?_) (fun c => nx _ _ ⟨rfl, rfl, fun q => c (decide_eq_true (by rw [q]))⟩)
          refine ⟨_, rfl, a, _, rfl, (itG sG).sq.t, fun l ol nl => ?_⟩
          have s1 := Same.new (o := .frz ol (.lst (ps.map (·.1)))) nl
          have e1 : upd G l (.frz ol (.lst (ps.map (·.1)))) l = some (.frz ol (.lst (ps.map (·.1)))) := upd_same
          have nel : l ≠ h := by
            obtain ⟨o, eo⟩ := nh sG
            exact (ne_of_none eo nl).symm
          generalize upd G l (.frz ol (.lst (ps.map (·.1)))) = G1 at s1 e1 ⊢
          have z1 : Same H3 G1 := fun _ _ e => s1 _ _ (sG _ _ e)
          refine ⟨_, rfl, _, rfl, _, rfl, sl_use (h := h) (itG z1).sq (itG z1).ne (nh z1) fun t1 G2 sq1 ne1 s2 => ?_⟩
          rw [cut_to, mt] at sq1
          have z2 : Same H3 G2 := fun _ _ e => s2 _ _ (z1 _ _ e)
          refine ⟨_, rfl, (by show 1 ≤ sizeLine; decide), fun t2 o2 n2 d2 => ?_⟩
          have s3 := Same.new (o := .frz o2 (.tup [od])) n2
          have e2 : upd G2 t2 (.frz o2 (.tup [od])) t2 = some (.frz o2 (.tup [od])) := upd_same
          generalize upd G2 t2 (.frz o2 (.tup [od])) = G3 at s3 e2 ⊢
          have z3 : Same H3 G3 := fun _ _ e => s3 _ _ (z2 _ _ e)
          have ne2 : t2 ≠ h := by
            obtain ⟨o, eo⟩ := nh z2
            exact (ne_of_none eo n2).symm
          refine cat_use (h := h) (sameN s3 sq1) (SqN.of e2 d2) ne1 ne2 (nh z3) ?_ fun t3 G4 sq3 ne3 s4 => ?_
          · rw [List.length_map]
            have := lt_ i
            show _ + 1 ≤ _
            omega
          have z4 : Same H3 G4 := fun _ _ e => s4 _ _ (z3 _ _ e)
          refine ⟨_, rfl, _, rfl, _, rfl, ?_⟩
          dsimp only [tNoPart]
          refine sl_use (h := h) (itG z4).sq (itG z4).ne (nh z4) fun t4 G5 sq4 ne4 s5 => ?_
          rw [cut_from, md] at sq4
          have z5 : Same H3 G5 := fun _ _ e => s5 _ _ (z4 _ _ e)
          refine cat_use (h := h) (sameN s5 sq3) sq4 ne3 ne4 (nh z5) ?_ fun t5 G6 sq5 ne5 s6 => ?_
          · rw [List.length_append, List.length_map, List.length_map]
            have := lt_ i
            have := ld_ i
            show _ + 1 + _ ≤ _
            omega
          have z6 : Same H3 G6 := fun _ _ e => s6 _ _ (z5 _ _ e)
          refine ⟨(by show 2 ≤ sizeLine; decide), fun L nL => ?_⟩
          have s7 := Same.new (o := .lst [.ref l, .ref t5]) nL
          have e7 : upd G6 L (.lst [.ref l, .ref t5]) L = some (.lst [.ref l, .ref t5]) := upd_same
          have neL : L ≠ h := by
            obtain ⟨o, eo⟩ := nh z6
            exact (ne_of_none eo nL).symm
          generalize upd G6 L (.lst [.ref l, .ref t5]) = G7 at s7 e7 ⊢
          have z7 : Same H3 G7 := fun _ _ e => s7 _ _ (z6 _ _ e)
          refine ⟨_, rfl, h, n + 3, _, rfl, hd3.mono z7 (Nat.le_refl _), by omega, by decide, by decide, fun r G8 r0 r1 hd8 b8 => ?_⟩
          have b38 : But h H3 G8 := (But.of z7).trans b8
          have eL : G8 L = some (.lst [.ref l, .ref t5]) := b8 _ _ neL e7
          have el : G8 l = some (.frz ol (.lst (ps.map (·.1)))) := b8 _ _ nel (s7 _ _ (s6 _ _ (s5 _ _ (s4 _ _ (s3 _ _ (s2 _ _ e1))))))
          by_cases c0 : r = 0
          · subst c0
            refine ⟨L, _, 0, .ref l, rfl, rfl, SqL.of eL, atI_nat (j := 0) rfl, ?_⟩
            refine q _ (.list (ps.map (·.2))) G8 (Dk.lst ps nel (SqF.of el) fun p hp => (it3.but b38).dk p hp) ((gd_lst _ _).mpr fun e he => ?_) (Nat.le_trans (sh_wtL _) (by omega)) ⟨_, .inr rfl⟩ (hd8.up (by omega)) (b03.trans b38)
            obtain ⟨p, hp, rfl⟩ := List.mem_map.mp he
            exact it.gd p hp
          · have r1' : r = 1 := by omega
            subst r1'
            refine ⟨L, _, 1, .ref t5, rfl, rfl, SqL.of eL, atI_nat (j := 1) rfl, ?_⟩
            refine finB G8 b38 (n + 4) t5 (ps.take i ++ [(od, dod)] ++ ps.drop i) hd8 (by omega) ?_ ne5 (fun p hp => ?_) ?_
            · rw [List.map_append, List.map_append]
              exact b8.seqN ne5 (sameN s7 sq5)
            · rcases List.mem_append.mp hp with hp | hp
              · rcases List.mem_append.mp hp with hp | hp
                · exact .inl (inT hp)
                · rw [List.mem_singleton.mp hp]
                  exact .inr ⟨dk3.but b38, gN3⟩
              · exact .inl (inD hp)
            · rw [List.map_append, List.map_append, wt_app, wt_app]
              have e1 : wt ([(od, dod)].map (·.2)) = (sh dod).length + 2 := by simp [wt]
              rw [e1]
              have w1 := wsp i
              omega
        · rintro σ' G' ⟨rfl, rfl, w5⟩
          refine ⟨_, rfl, _, rfl, _, rfl, sl_use (h := h) (itG sG).sq (itG sG).ne (nh sG) fun t1 G1 sq1 ne1 s1 => ?_⟩
          rw [cut_to, mt] at sq1
          have z1 : Same H3 G1 := fun _ _ e => s1 _ _ (sG _ _ e)
          refine ⟨_, rfl, _, rfl, _, _, rfl, rfl, _, rfl, ?_⟩
          dsimp only [tNoPart]
          refine sl_use (h := h) (itG z1).sq (itG z1).ne (nh z1) fun t2 G2 sq2 ne2 s2 => ?_
          rw [show ((i : Int) + 1) = ((i + 1 : Nat) : Int) by omega, cut_from, md] at sq2
          have z2 : Same H3 G2 := fun _ _ e => s2 _ _ (z1 _ _ e)
          refine cat_use (h := h) (sameN s2 sq1) sq2 ne1 ne2 (nh z2) ?_ fun t3 G3 sq3 ne3 s3 => ?_
          · rw [List.length_map, List.length_map]
            have := lt_ i
            have := ld_ (i + 1)
            omega
          have z3 : Same H3 G3 := fun _ _ e => s3 _ _ (z2 _ _ e)
          refine ⟨_, rfl, _, rfl, _, _, rfl, rfl, _, rfl, sl_use (h := h) (itG z3).sq (itG z3).ne (nh z3) fun t4 G4 sq4 ne4 s4 => ?_⟩
          rw [show ((i : Int) + 1) = ((i + 1 : Nat) : Int) by omega, cut_to, mt] at sq4
          have z4 : Same H3 G4 := fun _ _ e => s4 _ _ (z3 _ _ e)
          refine ⟨_, rfl, _, rfl, _, rfl, ?_⟩
          dsimp only [tNoPart]
          refine sl_use (h := h) (itG z4).sq (itG z4).ne (nh z4) fun t5 G5 sq5 ne5 s5 => ?_
          rw [cut_from, md] at sq5
          have z5 : Same H3 G5 := fun _ _ e => s5 _ _ (z4 _ _ e)
          refine cat_use (h := h) (sameN s5 sq4) sq5 ne4 ne5 (nh z5) ?_ fun t6 G6 sq6 ne6 s6 => ?_
          · rw [List.length_map, List.length_map]
            have := lt_ (i + 1)
            have := ld_ i
            omega
          have z6 : Same H3 G6 := fun _ _ e => s6 _ _ (z5 _ _ e)
          refine ⟨(by show 2 ≤ sizeLine; decide), fun L nL => ?_⟩
          have s7 := Same.new (o := .lst [.ref t3, .ref t6]) nL
          have e7 : upd G6 L (.lst [.ref t3, .ref t6]) L = some (.lst [.ref t3, .ref t6]) := upd_same
          generalize upd G6 L (.lst [.ref t3, .ref t6]) = G7 at s7 e7 ⊢
          have z7 : Same H3 G7 := fun _ _ e => s7 _ _ (z6 _ _ e)
          have s37 : Same G3 G7 := fun _ _ e => s7 _ _ (s6 _ _ (s5 _ _ (s4 _ _ e)))
          refine ⟨_, rfl, _, _, rfl, rfl, ?_⟩
          by_cases c5 : way = 5
          · subst c5
            refine ⟨L, _, 0, .ref t3, rfl, rfl, SqL.of e7, atI_nat (j := 0) rfl, ?_⟩
            refine fin G7 z7 (n + 3) t3 (ps.take i ++ ps.drop (i + 1)) (hd3.mono z7 (Nat.le_refl _)) (by omega) ?_ ne3 (fun p hp => ?_) ?_
            · rw [List.map_append]
              exact sameN s37 sq3
            · rcases List.mem_append.mp hp with hp | hp
              · exact .inl (inT hp)
              · exact .inl (inD hp)
            · rw [List.map_append, wt_app]
              have w1 := wsp i
              have w2 := wdrop i
              omega
          · have c6 : way = 6 := by omega
            subst c6
            refine ⟨L, _, 1, .ref t6, rfl, rfl, SqL.of e7, atI_nat (j := 1) rfl, ?_⟩
            refine fin G7 z7 (n + 3) t6 (ps.take (i + 1) ++ ps.drop i) (hd3.mono z7 (Nat.le_refl _)) (by omega) ?_ ne6 (fun p hp => ?_) ?_
            · rw [List.map_append]
              exact sameN s7 sq6
            · rcases List.mem_append.mp hp with hp | hp
              · exact .inl (inT hp)
              · exact .inl (inD hp)
            · rw [List.map_append, wt_app]
              have w1 := wsp i
              have w2 := wtake i
              omega
end
theorem no_fn {P : Program} {w : World} {K : PySem.W.Frag} {mg : Str → Option Value} {base : Heap} {f : Addr} {fd : FuncData} {xs : List Str} {k : Nat} : FnOk P w K mg base CX0 k f fd xs (fun _ _ _ _ => False) := ⟨fun _ _ _ _ h => h.elim, fun _ _ _ _ _ _ _ _ _ _ _ _ _ h => h.elim⟩
section
variable {P : Program} {w : World} {K : PySem.W.Frag} {mg : Str → Option Value} {base : Heap} {fT fP fO : Addr} {dT dP dO : FuncData}
theorem ok_bent {f : Addr} {fd : FuncData} (F : Fun K "_law_bent" "_law_bent" sBent f fd) (bF : Binds K fd ["_law_hand_here", "_law_item", "_law_deep"] []) (gF : mg "_law_bent" = some (.ref f)) (T : Free mg) (T' : Txt mg) (Z : HandF K mg fT fP dT dP)
    (FO : Fun K "_law_odd_one" "_law_odd_one" sOdd fO dO) (bO : Binds K dO ["_law_hand_here"] []) (gO : mg "_law_odd_one" = some (.ref fO)) : FnOk P w K mg base CX0 6 f fd ["_law_hand_here", "_law_item", "_law_deep"] (spBent K 5 2) := by
  have b0 : FnOk P w K mg base CX0 4 f fd ["_law_hand_here", "_law_item", "_law_deep"] (spBent K 3 0) := step_bent F bF gF T T' Z FO bO gO (no_fn (k := 3)) (by decide) (by decide) (fun m' e => nomatch e)
  have b1 : FnOk P w K mg base CX0 5 f fd ["_law_hand_here", "_law_item", "_law_deep"] (spBent K 4 1) := step_bent F bF gF T T' Z FO bO gO b0 (by decide) (by decide) (fun m' e => by rw [show m' = 0 by omega])
  exact step_bent F bF gF T T' Z FO bO gO b1 (by decide) (by decide) (fun m' e => by rw [show m' = 1 by omega])
end
end K01
set_option Elab.async false
set_option linter.all false
set_option maxRecDepth 100000
set_option maxHeartbeats 4000000
namespace K01
open PySem PySem.Spec PyProof.Rows L2 Bs Xg TL
abbrev sCols : Stmt := top 32
section
variable {P : Program} {w : World} {K : PySem.W.Frag} {mg : Str → Option Value} {base : Heap}
/-- a look at data whose tuples are known with their objects -/
def spK (f : PyData → Bool) (K : PySem.W.Frag) (ok : PyData → Prop) : Sp := fun vs H Q _ => ∃ (h : Addr) (x : V) (d : PyData), vs = [x] ∧ Dk K H h x d ∧ ok d ∧ ∀ H', Same H H' → Q (.bl (f d)) H'
abbrev nCl : List Str := ["_law_what", "_law_one"]
theorem scCl : FnScope nCl ["_law_what"] (defScope sCols) := ⟨rfl, rfl, rfl, by decide +kernel, rfl, by decide +kernel, by decide +kernel⟩
theorem nodup_one : ∀ l : List Str, l.Nodup ↔ ∀ z ∈ l, (l.countP fun y => decide (y = z)) = 1
  | [] => by simp
  | a :: r => by
    have ih := nodup_one r
    have zero : a ∉ r ↔ (r.countP fun y => decide (y = a)) = 0 := by
      rw [List.countP_eq_zero]
      constructor
      · intro h y hy e
        have e := of_decide_eq_true e
        exact h (e ▸ hy)
      · intro h ha
        exact h a ha (decide_eq_true rfl)
    rw [List.nodup_cons, ih, zero]
    constructor
    · rintro ⟨h0, h1⟩ z hz
      rw [List.countP_cons]
      by_cases e : a = z
      · subst e
        rw [h0, if_pos (decide_eq_true rfl)]
      · rw [if_neg (by simpa using e)]
        rcases List.mem_cons.mp hz with q | q
        · exact absurd q.symm e
        · rw [h1 z q]
    · intro h
      have ha := h a List.mem_cons_self
      rw [List.countP_cons, if_pos (decide_eq_true rfl)] at ha
      have h0 : (r.countP fun y => decide (y = a)) = 0 := by omega
      refine ⟨h0, fun z hz => ?_⟩
      have hz' := h z (List.mem_cons_of_mem _ hz)
      have na := zero.mpr h0
      rw [List.countP_cons, if_neg (by
        intro e
        have e := of_decide_eq_true e
        exact na (e ▸ hz))] at hz'
      exact hz'
theorem nodup_count (l : List Str) : (l.map fun z => decide ((l.countP fun y => decide (y = z)) = 1)).all id = decide l.Nodup := by
  rw [List.all_map]
  by_cases h : l.Nodup
  · rw [decide_eq_true h, List.all_eq_true]
    exact fun z hz => decide_eq_true ((nodup_one l).mp h z hz)
  · rw [decide_eq_false h]
    cases e : l.all (id ∘ fun z => decide ((l.countP fun y => decide (y = z)) = 1)) with
    | false => rfl
    | true => exact absurd ((nodup_one l).mpr fun z hz => of_decide_eq_true (List.all_eq_true.mp e z hz)) h
theorem ok_lcols {f fW : Addr} {fd dW : FuncData} (F : Fun K "_law_are_cols" "_law_are_cols" sCols f fd) (T : Free mg) (FW : Fun K "_law_is_word" "_law_is_word" sLWord fW dW) (bW : Binds K dW ["_law_what"] []) (gW : mg "_law_is_word" = some (.ref fW)) :
    FnOk P w K mg base CX0 2 f fd ["_law_what"] (spK (colsD 1 6) K fitT) := by
  have GW : FnOk P w K mg base CX0 1 fW dW ["_law_what"] (spD nameD K fitD) := ok_lword FW T
  refine F.ok scCl (fun vs H Q E h => ?_) (fun cdv A outer s H vs Q E hr h => ?_)
  · obtain ⟨h, x, d, rfl, _⟩ := h
    rfl
  · obtain ⟨h, x, d, rfl, dk, fit, k⟩ := h
    refine ⟨_, pss_cons (ps_if (PW.pt (pw_or (pt_not (pt_val (pe_callB call_isi (by rfl) T.isi.i (by decide +kernel) (pa_cons (pv 0) (pa_cons (pe_bltn rfl T.isi.tuple (v := V.ty "tuple") (by decide +kernel) rfl) pa_nil))))) (pw_or (pt_not (pt_chain op_lt op_lt pe_int (pe_callB call_len_seq (by rfl) T.len PySem.boot_len (pa_cons (pv 0) pa_nil)) pe_int)) (pw_or1 (pt_not (pt_val (pe_callB (cr_all rfl) (by rfl) T.all (by decide +kernel) (pa_cons (pe_lc (own := [("_law_one", 1)]) (g := gName 1) (tt := tYes) rfl scCl.nd (pi_tup (pv 0)) (blkOk_by (N := nCl) (sc := defScope sCols) (by decide +kernel)) (fun _ _ _ _ _ => pg_name (i := 1) scCl.nd rfl (Or.inl rfl)) (fun _ _ _ _ _ => pts_nil) (fun _ _ _ _ _ => (pe_call GW hr (by rfl) gW FW.kp bW .nil pass0 (pa_cons (pv 1) pa_nil)))) pa_nil)))))))) (pss_one (ps_ret pe_bl)) (pss_nil))
      (pss_one (ps_ret (pe_callB (cr_all rfl) (by rfl) T.all (by decide +kernel) (pa_cons (pe_lc (own := [("_law_one", 1)]) (g := gName 1) (tt := tYes) rfl scCl.nd (pi_tup (pv 0)) (blkOk_by (N := nCl) (sc := defScope sCols) (by decide +kernel)) (fun _ _ _ _ _ => pg_name (i := 1) scCl.nd rfl (Or.inl rfl)) (fun _ _ _ _ _ => pts_nil) (fun _ _ _ _ _ => (pe_cmpR op_eq (pe_bmN PySem.F.plainAttrs_tuple PySem.F.slot_tuple_count PySem.F.type_tuple_count (mt_tcount hr.units) (pv 0) (pa_cons (pv 1) pa_nil)) pe_int (nomark _)))) pa_nil)))), ?_⟩
    have k' := k H (Same.refl _)
    refine ⟨_, rfl, x, .ty "tuple", _, _, _, rfl, .ty "tuple", ty_of dk.now, kit_d d "tuple" (.inr (.inr (.inr rfl))), _, rfl, ?_⟩
    cases dk with
    | non => exact iteT (iteT k')
    | bl b => exact iteT (iteT k')
    | int i => exact iteT (iteT k')
    | str z => exact iteT (iteT k')
    | d0 n e => exact iteT (iteT k')
    | lst ps n e p => exact iteT (iteT k')
    | @tup a ps n e p =>
      refine iteF ?_
      have kk : Q (.bl (((decide (1 ≤ (ps.map (·.2)).length) && decide ((ps.map (·.2)).length ≤ 6)) && (ps.map (·.2)).all nameD) && decide (((ps.map (·.2)).map txtD).Nodup))) H := k'
      rw [List.length_map] at kk
      refine ⟨_, rfl, a, _, rfl, .inr e.t, _, _, rfl, rfl, _, rfl, ?_⟩
      rw [List.length_map]
      by_cases c1 : 1 ≤ ps.length
      · rw [decide_eq_true (show (0 : Int) < (ps.length : Nat) by omega)]
        refine iteT ⟨_, _, rfl, rfl, ?_⟩
        by_cases c2 : ps.length ≤ 6
        · refine ⟨_, rfl, ?_⟩
          rw [decide_eq_true (show ((ps.length : Nat) : Int) < 7 by omega)]
          refine iteF ?_
          rw [decide_eq_true c1, decide_eq_true c2, Bool.true_and, Bool.true_and] at kk
          refine ⟨_, rfl, a, rfl, ⟨_, e.t⟩, fun D nD => lc_val (walk_tup (K := K) (a := a) (xs := ps.map (fun q : V × PyData => q.1))) (Z := fun j x => (ps.map (fun q : V × PyData => q.1))[j]? = some x) (fun j => .bl (nameD ((ps.map (·.2)).getD j .none))) nD (fun _ _ _ _ e => e) (fun _ s => (sameN s e).t) (by rw [List.length_map]; omega) (fun _ => rfl) ?_ ?_⟩
          · rintro j x G Q' hj hx sG kG
            rw [List.length_map] at hj
            obtain ⟨p1, hp1, ap1, gp1, mp1⟩ := get_ps ps j hj
            rw [List.getElem?_map, hp1] at hx
            cases hx
            refine ⟨_, rfl, p1.1, p1.2, rfl, ((p p1 mp1).but (But.of sG)).now, fit p1.2 (List.mem_map.mpr ⟨p1, mp1, rfl⟩), fun G2 s2 => ?_⟩
            rw [← gp1]
            exact kG G2 s2
          · intro G sG eD
            have e1 := range_at (ps.map (·.2)) nameD (fun j => nameD ((ps.map (·.2)).getD j .none)) (fun j x hx => by rw [List.getD_eq_getElem?_getD, hx]; rfl)
            refine ⟨D, (List.range ps.length).map fun j => nameD ((ps.map (·.2)).getD j .none), rfl, SqL.of ?_, ?_⟩
            · rw [eD, List.length_map, List.map_map]
              rfl
            · rw [List.length_map] at e1
              rw [e1, List.all_map]
              have ev : colsD 1 6 (.tuple (ps.map (·.2))) = (((decide (1 ≤ (ps.map (·.2)).length) && decide ((ps.map (·.2)).length ≤ 6)) && (ps.map (·.2)).all nameD) && decide (((ps.map (·.2)).map txtD).Nodup)) := rfl
              rw [List.length_map, decide_eq_true c1, decide_eq_true c2, Bool.true_and, Bool.true_and] at ev
              refine ⟨_, rfl, ?_⟩
              cases hb : (ps.map (·.2)).all (id ∘ nameD) with
              | false =>
                have hb' : (ps.map (·.2)).all nameD = false := hb
                rw [hb', Bool.false_and] at ev
                refine iteT ?_
                have q := k G sG
                rw [ev] at q
                exact q
              | true =>
                have hb' : (ps.map (·.2)).all nameD = true := hb
                rw [hb', Bool.true_and] at ev
                refine iteF ?_
                have tx := tup_texts (K := K) (H := G) (ps := ps) (fun q hq => ((p q hq).but (But.of sG)).now) hb'
                have eG := sameN sG e
                have lt : ((ps.map (·.2)).map txtD).length = ps.length := by rw [List.length_map, List.length_map]
                generalize ((ps.map (·.2)).map txtD) = zs at tx ev lt
                rw [tx] at eG
                refine ⟨_, rfl, a, rfl, ⟨_, eG.t⟩, fun D2 nD2 => lc_val (walk_tup (K := K) (a := a) (xs := zs.map V.str)) (Z := fun j x => (zs.map V.str)[j]? = some x) (fun j => .bl (decide ((zs.countP fun y => decide (y = zs.getD j ⟨#[]⟩)) = 1))) nD2 (fun _ _ _ _ e => e) (fun _ s => (sameN s eG).t) (by rw [List.length_map]; omega) (fun _ => rfl) ?_ ?_⟩
                · rintro j x G2 Q' hj hx sG2 kG2
                  rw [List.length_map] at hj
                  rw [List.getElem?_map, List.getElem?_eq_getElem hj] at hx
                  cases hx
                  refine ⟨_, rfl, ⟨a, _, rfl, sameN sG2 eG⟩, _, rfl, a, zs, zs[j], rfl, rfl, sameN sG2 eG, rfl, ?_⟩
                  have q := kG2 G2 (Same.refl _)
                  rw [List.getD_eq_getElem?_getD, List.getElem?_eq_getElem hj] at q
                  have e : decide (V.int (((zs.countP fun y => decide (y = zs[j])) : Nat) : Int) = V.int 1) = decide ((zs.countP fun y => decide (y = zs[j])) = 1) := by
                    refine decide_eq_decide.mpr ⟨fun h => ?_, fun h => by rw [h]; rfl⟩
                    have := V.int.inj h
                    omega
                  rw [e]
                  exact q
                · intro G2 sG2 eD2
                  refine ⟨D2, (List.range zs.length).map fun j => decide ((zs.countP fun y => decide (y = zs.getD j ⟨#[]⟩)) = 1), rfl, SqL.of ?_, ?_⟩
                  · rw [eD2, List.length_map, List.map_map]
                    rfl
                  · rw [range_at zs (fun z => decide ((zs.countP fun y => decide (y = z)) = 1)) (fun j => decide ((zs.countP fun y => decide (y = zs.getD j ⟨#[]⟩)) = 1)) (fun j x hx => by rw [List.getD_eq_getElem?_getD, hx]; rfl), nodup_count]
                    have q := k G2 (fun _ _ e => sG2 _ _ (sG _ _ e))
                    rw [ev] at q
                    exact q
        · refine ⟨_, rfl, ?_⟩
          rw [decide_eq_false (show ¬ ((ps.length : Nat) : Int) < 7 by omega)]
          rw [decide_eq_false c2, Bool.and_false, Bool.false_and, Bool.false_and] at kk
          exact iteT (iteT kk)
      · rw [decide_eq_false (show ¬ (0 : Int) < (ps.length : Nat) by omega)]
        rw [decide_eq_false c1, Bool.false_and, Bool.false_and, Bool.false_and] at kk
        exact iteF ⟨_, rfl, iteT (iteT kk)⟩
end
end K01
set_option Elab.async false
set_option linter.all false
set_option maxRecDepth 100000
set_option maxHeartbeats 4000000
namespace K01
open PySem PySem.Spec PyProof.Rows L2 Bs Xg TL
/-! ### reprs compared: as the things themselves -/
/-- a text whose repr tells it apart -/
def Apart (z : Str) : Prop := ∃ q w, (q = 34 ∨ q = 39) ∧ tl (reprText z) = q :: (w ++ [q]) ∧ ∀ c ∈ w, c ≠ q ∧ c ≠ 92
theorem Apart.inj {z : Str} (a : Apart z) {d : PyData} (h : d.shown = (PyData.str z).shown) : d = .str z := by
  obtain ⟨q, w, hq, hz, hw⟩ := a
  exact shown_str_inj hq hz hw h
theorem Pl.apart {z : Str} {w : List Nat} (p : Pl z w) : Apart z := ⟨39, w, .inr rfl, p.at_, p.pl⟩
def pl? (z : Str) (w : List Nat) : Bool := decide (tl (reprText z) = 39 :: (w ++ [39])) && w.all fun c => decide (c ≠ 39) && decide (c ≠ 92)
theorem Pl.dec {z : Str} {w : List Nat} (h : pl? z w = true) : Pl z w := by
  simp only [pl?, Bool.and_eq_true, decide_eq_true_eq, List.all_eq_true] at h
  exact ⟨h.1, h.2⟩
theorem apart_squote : Apart (Str.ofString "'") := ⟨34, [39], .inl rfl, by decide +kernel, by decide⟩
theorem apart_signs : ∀ z ∈ signsL, Apart z := by
  intro z hz
  simp only [signsL, List.mem_cons, List.not_mem_nil, or_false] at hz
  rcases hz with rfl | rfl | rfl | rfl
  · exact (Pl.dec (w := [44]) (by decide +kernel)).apart
  · exact (Pl.dec (w := [59]) (by decide +kernel)).apart
  · exact (Pl.dec (w := [124]) (by decide +kernel)).apart
  · exact (Pl.dec (w := [58]) (by decide +kernel)).apart
theorem apart_named : ∀ z ∈ namedL, Apart z := fun z hz => apart_signs z (by
  simp only [namedL, signsL, List.mem_cons, List.not_mem_nil, or_false] at hz ⊢
  rcases hz with h | h | h
  · exact .inl h
  · exact .inr (.inl h)
  · exact .inr (.inr (.inl h)))
def quotesL' : List Str := [Str.ofString "'", Str.ofString "\""]
theorem apart_quotes : ∀ z ∈ quotesL', Apart z := by
  intro z hz
  simp only [quotesL', List.mem_cons, List.not_mem_nil, or_false] at hz
  rcases hz with rfl | rfl
  · exact apart_squote
  · exact (Pl.dec (w := [34]) (by decide +kernel)).apart
theorem one_quotes (d : PyData) : oneD quotesL' d = oneD quotesL d := by
  cases d with
  | str z =>
    show decide (z ∈ quotesL') = decide (z ∈ quotesL)
    refine decide_eq_decide.mpr ?_
    simp only [quotesL', quotesL, List.mem_cons, List.not_mem_nil, or_false]
    exact Or.comm
  | _ => rfl
/-- repr(x) in [repr(z), ..] -/
theorem in_reprs {l : List Str} (ha : ∀ z ∈ l, Apart z) (d : PyData) : inV (.str d.shown) ((l.map fun z => (PyData.str z).shown).map V.str) = oneD l d := by
  rw [in_strs]
  by_cases h : d.shown ∈ l.map fun z => (PyData.str z).shown
  · rw [decide_eq_true h]
    obtain ⟨z, hz, e⟩ := List.mem_map.mp h
    have := (ha z hz).inj e.symm
    subst this
    exact (decide_eq_true hz).symm
  · rw [decide_eq_false h]
    cases d with
    | str z => exact (decide_eq_false fun hz => h (List.mem_map.mpr ⟨z, hz, rfl⟩)).symm
    | _ => rfl
def isS (y : String) : PyData → Bool
  | .str z => decide (z = Str.ofString y)
  | _ => false
theorem isS_eq {y : String} {d : PyData} (h : isS y d = true) : d = .str (Str.ofString y) := by
  cases d with
  | str z => rw [of_decide_eq_true (show decide (z = Str.ofString y) = true from h)]
  | _ => exact nomatch h
theorem eq_repr {y : String} (a : Apart (Str.ofString y)) (d : PyData) : decide (d.shown = (PyData.str (Str.ofString y)).shown) = isS y d := by
  by_cases h : d.shown = (PyData.str (Str.ofString y)).shown
  · rw [decide_eq_true h, a.inj h]
    exact (decide_eq_true rfl).symm
  · rw [decide_eq_false h]
    cases e : isS y d with
    | false => rfl
    | true => exact absurd (by rw [isS_eq e]) h
/-- the widths -/
def widthsR : List Str := (List.range 20).map fun j => (PyData.int (1 + (j : Nat))).shown
theorem in_widths (d : PyData) : inV (.str d.shown) (widthsR.map V.str) = widOne d := by
  rw [in_strs]
  by_cases h : d.shown ∈ widthsR
  · rw [decide_eq_true h]
    obtain ⟨j, hj, e⟩ := List.mem_map.mp h
    have hj := List.mem_range.mp hj
    have := shown_int_inj e.symm
    subst this
    show true = (decide _ && decide _)
    rw [decide_eq_true (by omega), decide_eq_true (by omega)]
    rfl
  · rw [decide_eq_false h]
    cases d with
    | int i =>
      symm
      show (decide (1 ≤ i) && decide (i ≤ 20)) = false
      cases hc : decide (1 ≤ i) && decide (i ≤ 20) with
      | false => rfl
      | true =>
        exfalso
        rw [Bool.and_eq_true, decide_eq_true_eq, decide_eq_true_eq] at hc
        refine h (List.mem_map.mpr ⟨(i - 1).toNat, List.mem_range.mpr (by omega), ?_⟩)
        rw [show (1 + ((i - 1).toNat : Int)) = i by omega]
    | _ => rfl
/-- the forms -/
def amt (i : Int) : PyData := .tuple [.str (Str.ofString "amount"), .int i]
def dayF (y : String) : PyData := .tuple [.str (Str.ofString "day"), .str (Str.ofString y)]
def formsL : List PyData := [.tuple [.str (Str.ofString "whole")], amt 1, amt 2, amt 3, amt 4, dayF "ymd", dayF "dmy", dayF "mdy"]
theorem pl_whole : Pl (Str.ofString "whole") [119, 104, 111, 108, 101] := .dec (by decide +kernel)
theorem pl_amount : Pl (Str.ofString "amount") [97, 109, 111, 117, 110, 116] := .dec (by decide +kernel)
theorem pl_day : Pl (Str.ofString "day") [100, 97, 121] := .dec (by decide +kernel)
theorem amt_inj {i : Int} {d : PyData} (h : d.shown = (amt i).shown) : d = amt i :=
  shown_two_inj pl_amount (sh_int_free i (by decide)) (fun y hy => shown_int_inj hy) h
theorem day_inj {y : String} {w : List Nat} (p : Pl (Str.ofString y) w) (n : 44 ∉ w) {d : PyData} (h : d.shown = (dayF y).shown) : d = dayF y := by
  refine shown_two_inj pl_day ?_ (fun e he => p.apart.inj he) h
  rw [sh_str, p.at_]
  simp [n]
theorem form_of : ∀ d ∈ formsL, formD d = true := by decide +kernel
theorem in_forms (d : PyData) : inV (.str d.shown) ((formsL.map (·.shown)).map V.str) = formD d := by
  rw [in_strs]
  by_cases h : d.shown ∈ formsL.map (·.shown)
  · rw [decide_eq_true h]
    obtain ⟨e, he, hs⟩ := List.mem_map.mp h
    have z : d = e := by
      have hs := hs.symm
      simp only [formsL, List.mem_cons, List.not_mem_nil, or_false] at he
      rcases he with rfl | rfl | rfl | rfl | rfl | rfl | rfl | rfl
      · exact shown_one_inj pl_whole hs
      · exact amt_inj hs
      · exact amt_inj hs
      · exact amt_inj hs
      · exact amt_inj hs
      · exact day_inj (w := [121, 109, 100]) (.dec (by decide +kernel)) (by decide) hs
      · exact day_inj (w := [100, 109, 121]) (.dec (by decide +kernel)) (by decide) hs
      · exact day_inj (w := [109, 100, 121]) (.dec (by decide +kernel)) (by decide) hs
    rw [z]
    exact (form_of e he).symm
  · rw [decide_eq_false h]
    cases hf : formD d with
    | false => rfl
    | true =>
      exfalso
      refine h (List.mem_map.mpr ⟨d, ?_, rfl⟩)
      cases d with
      | tuple l =>
        have hl : formL l = true := hf
        match l, hl with
        | [.str a], hl =>
          have : a = Str.ofString "whole" := of_decide_eq_true hl
          subst this
          exact List.mem_cons_self
        | [.str a, .int i], hl =>
          have hl : (decide (a = Str.ofString "amount") && (decide (1 ≤ i) && decide (i ≤ 4))) = true := hl
          simp only [Bool.and_eq_true, decide_eq_true_eq] at hl
          obtain ⟨rfl, h1, h4⟩ := hl
          have : i = 1 ∨ i = 2 ∨ i = 3 ∨ i = 4 := by omega
          rcases this with rfl | rfl | rfl | rfl <;> simp [formsL, amt]
        | [.str a, .str b], hl =>
          have hl : (decide (a = Str.ofString "day") && decide (b ∈ ordersL)) = true := hl
          simp only [Bool.and_eq_true, decide_eq_true_eq] at hl
          obtain ⟨rfl, hb⟩ := hl
          simp only [ordersL, List.mem_cons, List.not_mem_nil, or_false] at hb
          rcases hb with rfl | rfl | rfl <;> simp [formsL, dayF, amt]
      | _ => exact nomatch hf
/-! ### the law's own look at shapes is the document's -/
theorem shape_own (l : List PyData) (c : PyData) (hc : l.getLast? = some c) (l0 : 2 < l.length) (l1 : l.length < 5) (cc : colsD 1 6 c = true) :
    shapeL l = (if isS "signs" (l.getD 0 .none) = true then decide (l.length = 4) && (oneD signsL (l.getD 1 .none) && oneD quotesL (l.getD 2 .none))
      else if isS "named" (l.getD 0 .none) = true then decide (l.length = 3) && oneD namedL (l.getD 1 .none)
      else isS "places" (l.getD 0 .none) && (decide (l.length = 3) && widD (listT c).length (l.getD 1 .none))) := by
  match l, l0 with
  | a :: r, l0 =>
    show (match (a :: r).head?, (a :: r).getLast? with
      | some (.str z), some c => colsD 1 6 c && restL z (a :: r) c
      | _, _ => false) = _
    rw [hc]
    show (match some a, some c with
      | some (.str z), some c => colsD 1 6 c && restL z (a :: r) c
      | _, _ => false) = _
    rw [show (a :: r).getD 0 PyData.none = a from rfl]
    generalize hl : a :: r = l
    cases a with
    | str z =>
      show (colsD 1 6 c && restL z l c) = (if decide (z = Str.ofString "signs") = true then _ else if decide (z = Str.ofString "named") = true then _ else decide (z = Str.ofString "places") && _)
      rw [cc, Bool.true_and]
      unfold restL
      by_cases h1 : z = Str.ofString "signs"
      · rw [if_pos h1, if_pos (decide_eq_true h1)]
      · rw [if_neg h1, if_neg (fun e => h1 (of_decide_eq_true e))]
        by_cases h2 : z = Str.ofString "named"
        · rw [if_pos (decide_eq_true h2), h2, if_neg (by decide +kernel), decide_eq_true rfl, Bool.true_and]
        · rw [if_neg (fun e => h2 (of_decide_eq_true e)), decide_eq_false h2, Bool.false_and]
          by_cases h3 : z = Str.ofString "places"
          · rw [if_pos h3, decide_eq_true h3, Bool.true_and]
          · rw [if_neg h3, decide_eq_false h3, Bool.and_false, Bool.false_and]
    | _ => rfl
theorem shape_not (l : List PyData) (h : ¬ (2 < l.length ∧ l.length < 5) ∨ ∀ c, l.getLast? = some c → colsD 1 6 c = false) : shapeL l = false := by
  unfold shapeL
  split
  · rename_i z c h1 h2
    rcases h with h | h
    · unfold restL
      by_cases c1 : z = Str.ofString "signs"
      · rw [if_pos c1, decide_eq_false (by omega), Bool.false_and, Bool.and_false]
      · rw [if_neg c1, decide_eq_false (by omega), Bool.false_and, Bool.and_false]
    · rw [h c h2, Bool.false_and]
  · rfl
end K01
set_option Elab.async false
set_option linter.all false
set_option maxRecDepth 100000
set_option maxHeartbeats 8000000
namespace K01
open PySem PySem.Spec PyProof.Rows L2 Bs Xg TL
abbrev sLShape : Stmt := top 33
/-! ### what fits -/
theorem show_all : ∀ l : List PyData, (∀ e ∈ l, e.showable = true) → PyData.showableAll l = true
  | [], _ => rfl
  | d :: l, h => by
    show (d.showable && PyData.showableAll l) = true
    rw [h d List.mem_cons_self, show_all l fun e he => h e (List.mem_cons_of_mem _ he)]
    rfl
theorem depth_all : ∀ (l : List PyData) (n : Nat), (∀ e ∈ l, e.depth ≤ n) → PyData.depthAll l ≤ n
  | [], _, _ => Nat.zero_le _
  | d :: l, n, h => by
    show max d.depth (PyData.depthAll l) ≤ n
    exact Nat.max_le.mpr ⟨h d List.mem_cons_self, depth_all l n fun e he => h e (List.mem_cons_of_mem _ he)⟩
theorem log_small {i : Int} (h : i.natAbs < 10 ^ 12) : i.natAbs.log2 < 1920 := by
  by_cases z : i.natAbs = 0
  · rw [z]
    decide
  · exact (Nat.log2_lt z).mpr (Nat.lt_of_lt_of_le h (by decide +kernel))
theorem gd_ok : ∀ (n : Nat) (d : PyData), gd n d = true → d.showable = true ∧ d.depth ≤ n + 1
  | n, .none, _ => ⟨rfl, Nat.zero_le _⟩
  | n, .bool _, _ => ⟨rfl, Nat.zero_le _⟩
  | n, .str _, _ => ⟨rfl, Nat.zero_le _⟩
  | 0, .int i, h => ⟨decide_eq_true (log_small (of_decide_eq_true h)), Nat.zero_le _⟩
  | n + 1, .int i, h => ⟨decide_eq_true (log_small (of_decide_eq_true h)), Nat.zero_le _⟩
  | 0, .dict l, h => by
    have : l = [] := List.isEmpty_iff.mp h
    subst this
    exact ⟨rfl, by decide⟩
  | n + 1, .dict l, h => by
    have : l = [] := List.isEmpty_iff.mp h
    subst this
    exact ⟨rfl, by show 0 + 1 ≤ _; omega⟩
  | 0, .list l, h => by
    have : l = [] := List.isEmpty_iff.mp h
    subst this
    exact ⟨rfl, by decide⟩
  | 0, .tuple l, h => by
    have : l = [] := List.isEmpty_iff.mp h
    subst this
    exact ⟨rfl, by decide⟩
  | n + 1, .list l, h => ⟨show_all l fun e he => (gd_ok n e (List.all_eq_true.mp h e he)).1, Nat.succ_le_succ (depth_all l _ fun e he => (gd_ok n e (List.all_eq_true.mp h e he)).2)⟩
  | n + 1, .tuple l, h => ⟨show_all l fun e he => (gd_ok n e (List.all_eq_true.mp h e he)).1, Nat.succ_le_succ (depth_all l _ fun e he => (gd_ok n e (List.all_eq_true.mp h e he)).2)⟩
def fitR (d : PyData) : Prop := gd 6 d = true ∧ (sh d).length ≤ 90000
theorem fitR.rp {d : PyData} (f : fitR d) : d.showable = true ∧ d.depth < 60 ∧ d.shown.length ≤ sizeLine := by
  have g := gd_ok 6 d f.1
  refine ⟨g.1, by omega, ?_⟩
  have : (tl d.shown).length ≤ 90000 := f.2
  rw [len_tl, sizeLine_eq]
  omega
theorem mem_wt : ∀ {l : List PyData} {e : PyData}, e ∈ l → (sh e).length + 2 ≤ wt l
  | d :: l, e, h => by
    rw [wt_cons]
    rcases List.mem_cons.mp h with rfl | h
    · omega
    · have := mem_wt h
      omega
theorem fitR.part {l : List PyData} (f : fitR (.tuple l)) {e : PyData} (h : e ∈ l) : fitR e := by
  refine ⟨gd_up 5 e ((gd_tup 5 l).mp f.1 e h), ?_⟩
  have := mem_wt h
  have := (sh_wt l).1
  have := f.2
  omega
theorem fitR.d {d : PyData} (f : fitR d) : fitD d := by
  cases d with
  | str z =>
    have h : z.length ≤ 1000 := of_decide_eq_true f.1
    show z.length ≤ 100000
    omega
  | _ => trivial
theorem fitR.t {d : PyData} (f : fitR d) : fitT d := by
  cases d with
  | tuple l => exact fun e he => (f.part he).d
  | _ => trivial
theorem fitR.s {d : PyData} (f : fitR d) : fitS d := by
  cases d with
  | tuple l => exact fun e he => (f.part he).t
  | _ => trivial
theorem op_inK {X : Cx} {K : PySem.W.Frag} (hK : X.K = K) : OpR X (compareOp .In) (rIn K false) := by
  subst hK
  exact op_in_seq
theorem rp_use {K : PySem.W.Frag} {H : Hp} {h : Addr} {x : V} {d : PyData} {Q : VK} (dk : Dk K H h x d) (f : fitR d) (q : Q (.str d.shown) H) : rRp K [x] H Q := ⟨x, d, rfl, dk.now, f.rp.1, f.rp.2.1, f.rp.2.2, q⟩
theorem strR {y t : String} (e : Str.ofString t = (PyData.str (Str.ofString y)).shown) (a : Apart (Str.ofString y)) (d : PyData) : decide (V.str d.shown = V.str (Str.ofString t)) = isS y d := by
  rw [← eq_repr a d]
  exact decide_eq_decide.mpr ⟨fun h => by rw [← e]; exact V.str.inj h, fun h => by rw [h, e]⟩
theorem rS (d : PyData) : decide (V.str d.shown = V.str (Str.ofString "'signs'")) = isS "signs" d := strR (by rw [PyData.shown_str]; decide +kernel) (Pl.dec (w := [115, 105, 103, 110, 115]) (by decide +kernel)).apart d
theorem rN (d : PyData) : decide (V.str d.shown = V.str (Str.ofString "'named'")) = isS "named" d := strR (by rw [PyData.shown_str]; decide +kernel) (Pl.dec (w := [110, 97, 109, 101, 100]) (by decide +kernel)).apart d
theorem rPl (d : PyData) : decide (V.str d.shown = V.str (Str.ofString "'places'")) = isS "places" d := strR (by rw [PyData.shown_str]; decide +kernel) (Pl.dec (w := [112, 108, 97, 99, 101, 115]) (by decide +kernel)).apart d
/-- [repr(x) for x in TEXTS] -/
def rpl (zs : List Str) : List V := zs.map fun z => V.str (PyData.str z).shown
theorem rpl_eq (zs : List Str) : rpl zs = (zs.map fun z => (PyData.str z).shown).map V.str := by
  unfold rpl
  rw [List.map_map]
  rfl
theorem rp_lc {K : PySem.W.Frag} {i l D : Addr} {σ : L2.St} {H : Hp} {Q : Hp → Prop} {zs : List Str} (el : H l = some (.lst (zs.map V.str))) (nD : H D = none) (few : zs.length < 1000) (sm : ∀ z ∈ zs, (PyData.str z).shown.length ≤ sizeLine)
    (wp : ∀ x, wipe ((wipe σ [i]).set i (some x)) [i] = wipe σ [i]) (gt : ∀ x, ((wipe σ [i]).set i (some x))[i]? = some (some x)) (fin : ∀ G, Same H G → G D = some (.lst (rpl zs)) → Q G) :
    ∃ W' : Nat → Nat → Hp → Prop, (∃ m, W' 0 m (upd H D (.lst []))) ∧ ∀ j m G, W' j m G →
      ((Itl K l).stop j G ∧ Q G) ∨ ((Itl K l).go j G ∧ ∃ Nx : Hp → Prop, (∀ G', Nx G' → ∃ m', m' < m ∧ W' (j + 1) m' G') ∧ ∀ x G', (Itl K l).yld j G x G' → gName i x (wipe σ [i]) G' fun σ2 H2 => wipe σ2 [i] = wipe σ [i] ∧ tYes σ2 H2 fun b H3 =>
        if b = true then tCB (rRp K) (tCons (tVar i) tNil) σ2 H3 fun y H4 => ∃ acc, H4 D = some (.lst acc) ∧ acc.length < sizeLine ∧ Nx (upd H4 D (.lst (acc ++ [y]))) else Nx H3) := by
  refine lc_val (walk_list (K := K) (a := l) (xs := zs.map V.str)) (Z := fun j x => (zs.map V.str)[j]? = some x) (fun j => V.str (PyData.str (zs.getD j ⟨#[]⟩)).shown) nD (fun _ _ _ _ e => e) (fun _ s => SqL.of (s _ _ el)) (by rw [List.length_map]; omega) wp ?_ ?_
  · rintro j x G Q' hj hx sG kG
    rw [List.length_map] at hj
    rw [List.getElem?_map, List.getElem?_eq_getElem hj] at hx
    cases hx
    have kG := kG G (Same.refl _)
    rw [List.getD_eq_getElem?_getD, List.getElem?_eq_getElem hj] at kG
    exact ⟨_, gt _, _, .str zs[j], rfl, .str _, rfl, by show 0 < 60; decide, sm _ (List.getElem_mem hj), kG⟩
  · intro G sG eG
    refine fin G sG ?_
    rw [eG, List.length_map]
    exact congrArg (fun z => some (HO.lst z)) (range_at zs (fun z => V.str (PyData.str z).shown) _ fun j x hx => by rw [List.getD_eq_getElem?_getD, hx]; rfl)
theorem wid_len : ∀ j : Nat, j < 20 → (PyData.int (1 + (j : Nat))).shown.length ≤ sizeLine := by decide +kernel
theorem in_use {K : PySem.W.Frag} {H : Hp} {p : Addr} {zs : List Str} {d : PyData} {Q : VK} (ha : ∀ z ∈ zs, Apart z) (e : H p = some (.lst (rpl zs))) (q : Q (.bl (oneD zs d)) H) : rIn K false (.str d.shown) (.ref p) H Q := by
  refine ⟨p, rpl zs, rfl, .inl (SqL.of e), rfl, by rw [rpl_eq]; exact flat_strs _, ?_⟩
  rw [rpl_eq, in_reprs ha]
  exact q
section
variable {P : Program} {w : World} {K : PySem.W.Frag} {mg : Str → Option Value} {base : Heap}
abbrev nLs : List Str := ["_law_what", "_law_marks", "_law_good", "_law_one", "_law_wide"]
theorem scLs : FnScope nLs ["_law_what"] (defScope sLShape) := ⟨rfl, rfl, rfl, by decide +kernel, rfl, by decide +kernel, by decide +kernel⟩
theorem ok_lshape {f fC fW : Addr} {fd dC dW : FuncData} (F : Fun K "_law_is_shape" "_law_is_shape" sLShape f fd) (T : Free mg) (sm : ∃ mm, base.Ns sysModules mm) (FC : Fun K "_law_are_cols" "_law_are_cols" sCols fC dC) (bC : Binds K dC ["_law_what"] []) (gC : mg "_law_are_cols" = some (.ref fC))
    (FW : Fun K "_law_is_word" "_law_is_word" sLWord fW dW) (bW : Binds K dW ["_law_what"] []) (gW : mg "_law_is_word" = some (.ref fW)) :
    FG P w K mg base 3 f fd ["_law_what"] (spK shapeD K fitR) := by
  have GC : FnOk P w K mg base CX0 2 fC dC ["_law_what"] (spK (colsD 1 6) K fitT) := ok_lcols FC T FW bW gW
  refine okG F scLs (fun vs H Q E h => ?_) (fun cdv A outer s H vs Q E ng hr h => ?_)
  · obtain ⟨h, x, d, rfl, _⟩ := h
    rfl
  · obtain ⟨h, x, d, rfl, dk, fit, k⟩ := h
    have hr2 := hr
    refine ⟨_, pss_cons (ps_if (PW.pt (pw_or (pt_not (pt_val (pe_callB call_isi (by rfl) T.isi.i (by decide +kernel) (pa_cons (pv 0) (pa_cons (pe_bltn rfl T.isi.tuple (v := V.ty "tuple") (by decide +kernel) rfl) pa_nil))))) (pw_or (pt_not (pt_chain op_lt op_lt pe_int (pe_callB call_len_seq (by rfl) T.len PySem.boot_len (pa_cons (pv 0) pa_nil)) pe_int)) (pw_or1 (pt_not (pt_val (pe_call GC hr2 (by rfl) gC FC.kp bC .nil pass0 (pa_cons (pe_ix ix_tup (pv 0) (pe_un un_neg pe_int) (fun _ _ => rfl)) pa_nil)))))))) (pss_one (ps_ret pe_bl)) (pss_nil))
      (pss_cons (ps_if (pt_cmpR op_eq (pe_callB (call_reprK (K := K) rfl ng hr.units sm) (by rfl) T.repr (by decide +kernel) (pa_cons (pe_ix ix_tup (pv 0) pe_int (fun _ _ => rfl)) pa_nil)) pe_str (nomark _)) (pss_cons (ps_setLc (i := 1) (own := [("_law_one", 3)]) (g := gName 3) (tt := tYes) rfl scLs.nd rfl rfl (sw_true rfl rfl rfl rfl) (pi_list (pe_lst (pa_cons pe_str (pa_cons pe_str (pa_cons pe_str (pa_cons pe_str pa_nil)))))) (blkOk_by (N := nLs) (sc := defScope sLShape) (by decide +kernel)) (fun _ _ _ _ _ => pg_name (i := 3) scLs.nd rfl (Or.inl rfl)) (fun _ _ _ _ _ => pts_nil) (fun _ _ _ _ _ => (pe_callB (call_reprK (K := K) rfl ng hr.units sm) (by rfl) T.repr (by decide +kernel) (pa_cons (pv 3) pa_nil))))
      (pss_one (ps_ret (pe_and (pe_cmpR op_eq (pe_callB call_len_seq (by rfl) T.len PySem.boot_len (pa_cons (pv 0) pa_nil)) pe_int (nomark _)) (pe_and (pe_cmpR (op_inK (K := K) rfl) (pe_callB (call_reprK (K := K) rfl ng hr.units sm) (by rfl) T.repr (by decide +kernel) (pa_cons (pe_ix ix_tup (pv 0) pe_int (fun _ _ => rfl)) pa_nil)) (pv 1) rfl) (pe_one (pe_cmpR (op_inK (K := K) rfl) (pe_callB (call_reprK (K := K) rfl ng hr.units sm) (by rfl) T.repr (by decide +kernel) (pa_cons (pe_ix ix_tup (pv 0) pe_int (fun _ _ => rfl)) pa_nil)) (pe_lst (pa_cons (pe_callB (call_reprK (K := K) rfl ng hr.units sm) (by rfl) T.repr (by decide +kernel) (pa_cons pe_str pa_nil)) (pa_cons (pe_callB (call_reprK (K := K) rfl ng hr.units sm) (by rfl) T.repr (by decide +kernel) (pa_cons pe_str pa_nil)) pa_nil))) rfl))))))) (pss_nil))
      (pss_cons (ps_if (pt_cmpR op_eq (pe_callB (call_reprK (K := K) rfl ng hr.units sm) (by rfl) T.repr (by decide +kernel) (pa_cons (pe_ix ix_tup (pv 0) pe_int (fun _ _ => rfl)) pa_nil)) pe_str (nomark _)) (pss_one (ps_ret (pe_and (pe_cmpR op_eq (pe_callB call_len_seq (by rfl) T.len PySem.boot_len (pa_cons (pv 0) pa_nil)) pe_int (nomark _)) (pe_one (pe_cmpR (op_inK (K := K) rfl) (pe_callB (call_reprK (K := K) rfl ng hr.units sm) (by rfl) T.repr (by decide +kernel) (pa_cons (pe_ix ix_tup (pv 0) pe_int (fun _ _ => rfl)) pa_nil)) (pe_lc (own := [("_law_one", 3)]) (g := gName 3) (tt := tYes) rfl scLs.nd (pi_list (pe_lst (pa_cons pe_str (pa_cons pe_str (pa_cons pe_str pa_nil))))) (blkOk_by (N := nLs) (sc := defScope sLShape) (by decide +kernel)) (fun _ _ _ _ _ => pg_name (i := 3) scLs.nd rfl (Or.inl rfl)) (fun _ _ _ _ _ => pts_nil) (fun _ _ _ _ _ => (pe_callB (call_reprK (K := K) rfl ng hr.units sm) (by rfl) T.repr (by decide +kernel) (pa_cons (pv 3) pa_nil)))) rfl))))) (pss_nil))
      (pss_cons (ps_if (PW.pt (pw_or (pt_cmpR op_ne (pe_callB (call_reprK (K := K) rfl ng hr.units sm) (by rfl) T.repr (by decide +kernel) (pa_cons (pe_ix ix_tup (pv 0) pe_int (fun _ _ => rfl)) pa_nil)) pe_str (nomark _)) (pw_or (pt_cmpR op_ne (pe_callB call_len_seq (by rfl) T.len PySem.boot_len (pa_cons (pv 0) pa_nil)) pe_int (nomark _)) (pw_or1 (pt_not (pt_val (pe_callB call_isi (by rfl) T.isi.i (by decide +kernel) (pa_cons (pe_ix ix_tup (pv 0) pe_int (fun _ _ => rfl)) (pa_cons (pe_bltn rfl T.isi.tuple (v := V.ty "tuple") (by decide +kernel) rfl) pa_nil))))))))) (pss_one (ps_ret pe_bl)) (pss_nil))
      (pss_cons (ps_set (i := 2) scLs.nd rfl (Or.inr rfl) (pe_lc (own := [("_law_wide", 4)]) (g := gName 4) (tt := tYes) rfl scLs.nd (pi_range2 (by rfl) T.range (pa_cons pe_int (pa_cons pe_int pa_nil))) (blkOk_by (N := nLs) (sc := defScope sLShape) (by decide +kernel)) (fun _ _ _ _ _ => pg_name (i := 4) scLs.nd rfl (Or.inl rfl)) (fun _ _ _ _ _ => pts_nil) (fun _ _ _ _ _ => (pe_callB (call_reprK (K := K) rfl ng hr.units sm) (by rfl) T.repr (by decide +kernel) (pa_cons (pv 4) pa_nil)))))
      (pss_one (ps_ret (pe_and (pe_cmpR op_eq (pe_callB call_len_seq (by rfl) T.len PySem.boot_len (pa_cons (pe_ix ix_tup (pv 0) pe_int (fun _ _ => rfl)) pa_nil)) (pe_callB call_len_seq (by rfl) T.len PySem.boot_len (pa_cons (pe_ix ix_tup (pv 0) pe_int (fun _ _ => rfl)) pa_nil)) (nomark _)) (pe_one (pe_callB (cr_all rfl) (by rfl) T.all (by decide +kernel) (pa_cons (pe_lc (own := [("_law_wide", 4)]) (g := gName 4) (tt := tYes) rfl scLs.nd (pi_tup (pe_ix ix_tup (pv 0) pe_int (fun _ _ => rfl))) (blkOk_by (N := nLs) (sc := defScope sLShape) (by decide +kernel)) (fun _ _ _ _ _ => pg_name (i := 4) scLs.nd rfl (Or.inl rfl)) (fun _ _ _ _ _ => pts_nil) (fun _ _ _ _ _ => (pe_cmpR (op_inK (K := K) rfl) (pe_callB (call_reprK (K := K) rfl ng hr.units sm) (by rfl) T.repr (by decide +kernel) (pa_cons (pv 4) pa_nil)) (pv 2) rfl))) pa_nil)))))))))), ?_⟩
    have k' := k H (Same.refl _)
    refine ⟨_, rfl, x, .ty "tuple", _, _, _, rfl, .ty "tuple", ty_of dk.now, kit_d d "tuple" (.inr (.inr (.inr rfl))), _, rfl, ?_⟩
    cases dk with
    | non => exact iteT (iteT k')
    | bl b => exact iteT (iteT k')
    | int i => exact iteT (iteT k')
    | str z => exact iteT (iteT k')
    | d0 n e => exact iteT (iteT k')
    | lst ps n e p => exact iteT (iteT k')
    | @tup a ps n e p =>
      refine iteF ?_
      have kS : ∀ H', Same H H' → Q (.bl (shapeL (ps.map (·.2)))) H' := k
      refine ⟨_, rfl, a, _, rfl, .inr e.t, _, _, rfl, rfl, _, rfl, ?_⟩
      rw [List.length_map]
      by_cases c1 : 2 < ps.length
      · rw [decide_eq_true (show (2 : Int) < (ps.length : Nat) by omega)]
        refine iteT ⟨_, _, rfl, rfl, ?_⟩
        refine ⟨_, rfl, ?_⟩
        by_cases c2 : ps.length < 5
        · rw [decide_eq_true (show ((ps.length : Nat) : Int) < 5 by omega)]
          refine iteF ?_
          obtain ⟨ql, ml, atl, getl, gl2⟩ := last_ps ps (by rintro rfl; simp at c1)
          refine ⟨_, rfl, _, rfl, a, _, -1, _, rfl, rfl, e.t, atl, h, ql.1, ql.2, rfl, p ql ml, (fit.part (List.mem_map.mpr ⟨ql, ml, rfl⟩)).t, fun H2 s2 => ⟨_, rfl, ?_⟩⟩
          have e2 := sameN s2 e
          have p2 : ∀ q ∈ ps, Dk K H2 h q.1 q.2 := fun q hq => (p q hq).but (But.of s2)
          have ff : ∀ q ∈ ps, fitR q.2 := fun q hq => fit.part (List.mem_map.mpr ⟨q, hq, rfl⟩)
          cases cc : colsD 1 6 ql.2 with
          | false =>
            refine iteT ?_
            have q := kS H2 s2
            rw [shape_not _ (.inr fun c hc => by rw [getl] at hc; cases hc; exact cc)] at q
            exact q
          | true =>
            refine iteF ?_
            have own := shape_own (ps.map (·.2)) ql.2 getl (by rw [List.length_map]; exact c1) (by rw [List.length_map]; exact c2) cc
            have ln4 : (V.int (((ps.map (·.1)).length : Nat) : Int) = V.int 4) ↔ ps.length = 4 := lenI ps 4
            have ln3 : (V.int (((ps.map (·.1)).length : Nat) : Int) = V.int 3) ↔ ps.length = 3 := lenI ps 3
            obtain ⟨q0, h0, a0, g0, m0⟩ := get_ps ps 0 (by omega)
            obtain ⟨q1, h1, a1, g1, m1⟩ := get_ps ps 1 (by omega)
            obtain ⟨q2, h2, a2, g2, m2⟩ := get_ps ps 2 (by omega)
            rw [g0, g1, g2, List.length_map] at own
            have kk : ∀ H', Same H2 H' → ∀ b, shapeL (ps.map (·.2)) = b → Q (.bl b) H' := fun H' s b eb => eb ▸ kS H' (fun _ _ e => s _ _ (s2 _ _ e))
            clear kS k k'
            refine ⟨_, rfl, a, _, 0, q0.1, rfl, rfl, e2.t, a0, q0.1, q0.2, rfl, (p2 q0 m0).now, (ff q0 m0).rp.1, (ff q0 m0).rp.2.1, (ff q0 m0).rp.2.2, rfl, _, rfl, ?_⟩
            rw [rS]
            cases cS : isS "signs" q0.2 with
            | true =>
              rw [if_pos cS] at own
              refine iteT ?_
              refine ⟨(by show 4 ≤ sizeLine; decide), fun l nl => ?_⟩
              have s3 := Same.new (o := .lst (signsL.map V.str)) nl
              have e3 : upd H2 l (.lst (signsL.map V.str)) l = some (.lst (signsL.map V.str)) := upd_same
              refine ⟨l, rfl, ⟨_, SqL.of e3⟩, fun D nD => rp_lc (K := K) e3 nD (by decide) (by decide +kernel) (fun _ => rfl) (fun _ => rfl) fun G sG eG => ?_⟩
              refine gN ?_
              dsimp only
              have s4 : Same H2 G := fun _ _ e => sG _ _ (s3 _ _ e)
              have e4 := sameN s4 e2
              refine ⟨_, rfl, a, _, rfl, .inr e4.t, rfl, _, rfl, ?_⟩
              by_cases c4 : ps.length = 4
              · rw [decide_eq_true (ln4.mpr c4)]
                rw [decide_eq_true c4, Bool.true_and] at own
                refine iteT ?_
                refine ⟨_, rfl, a, _, 1, _, rfl, rfl, e4.t, a1, q1.1, q1.2, rfl, ((p2 q1 m1).but (But.of s4)).now, (ff q1 m1).rp.1, (ff q1 m1).rp.2.1, (ff q1 m1).rp.2.2, _, rfl, ?_⟩
                refine in_use apart_signs eG ⟨_, rfl, ?_⟩
                cases cx : oneD signsL q1.2 with
                | false =>
                  rw [cx, Bool.false_and] at own
                  exact iteF (kk G s4 _ own)
                | true =>
                  rw [cx, Bool.true_and] at own
                  refine iteT ?_
                  refine ⟨_, rfl, a, _, 2, _, rfl, rfl, e4.t, a2, q2.1, q2.2, rfl, ((p2 q2 m2).but (But.of s4)).now, (ff q2 m2).rp.1, (ff q2 m2).rp.2.1, (ff q2 m2).rp.2.2, ?_⟩
                  refine ⟨_, .str (Str.ofString "'"), rfl, .str _, rfl, by show 0 < 60; decide, by decide +kernel, _, .str (Str.ofString "\""), rfl, .str _, rfl, by show 0 < 60; decide, by decide +kernel, (by show 2 ≤ sizeLine; decide), fun l2 nl2 => ?_⟩
                  refine in_use (zs := quotesL') apart_quotes upd_same ?_
                  rw [one_quotes]
                  exact kk _ (fun _ _ e => Same.new nl2 _ _ (s4 _ _ e)) _ own
              · rw [decide_eq_false (fun q => c4 (ln4.mp q))]
                rw [decide_eq_false c4, Bool.false_and] at own
                exact iteF (kk G s4 _ own)
            | false =>
              rw [if_neg (by rw [cS]; decide)] at own
              refine iteF ?_
              refine ⟨_, rfl, a, _, 0, q0.1, rfl, rfl, e2.t, a0, q0.1, q0.2, rfl, (p2 q0 m0).now, (ff q0 m0).rp.1, (ff q0 m0).rp.2.1, (ff q0 m0).rp.2.2, rfl, _, rfl, ?_⟩
              rw [rN]
              cases cN : isS "named" q0.2 with
              | true =>
                rw [if_pos cN] at own
                refine iteT ?_
                refine ⟨_, rfl, a, _, rfl, .inr e2.t, rfl, _, rfl, ?_⟩
                by_cases c3 : ps.length = 3
                · rw [decide_eq_true (ln3.mpr c3)]
                  rw [decide_eq_true c3, Bool.true_and] at own
                  refine iteT ?_
                  refine ⟨_, rfl, a, _, 1, _, rfl, rfl, e2.t, a1, q1.1, q1.2, rfl, (p2 q1 m1).now, (ff q1 m1).rp.1, (ff q1 m1).rp.2.1, (ff q1 m1).rp.2.2, (by show 3 ≤ sizeLine; decide), fun l nl => ?_⟩
                  have s3 := Same.new (o := .lst (namedL.map V.str)) nl
                  have e3 : upd H2 l (.lst (namedL.map V.str)) l = some (.lst (namedL.map V.str)) := upd_same
                  refine ⟨l, rfl, ⟨_, SqL.of e3⟩, fun D nD => rp_lc (K := K) e3 nD (by decide) (by decide +kernel) (fun _ => rfl) (fun _ => rfl) fun G sG eG => ?_⟩
                  exact in_use apart_named eG (kk G (fun _ _ e => sG _ _ (s3 _ _ e)) _ own)
                · rw [decide_eq_false (fun q => c3 (ln3.mp q))]
                  rw [decide_eq_false c3, Bool.false_and] at own
                  exact iteF (kk H2 (Same.refl _) _ own)
              | false =>
                rw [if_neg (by rw [cN]; decide)] at own
                refine iteF ?_
                refine ⟨_, rfl, a, _, 0, q0.1, rfl, rfl, e2.t, a0, q0.1, q0.2, rfl, (p2 q0 m0).now, (ff q0 m0).rp.1, (ff q0 m0).rp.2.1, (ff q0 m0).rp.2.2, rfl, _, rfl, ?_⟩
                rw [rPl]
                cases cP : isS "places" q0.2 with
                | false =>
                  rw [cP, Bool.false_and] at own
                  exact iteT (iteT (kk H2 (Same.refl _) _ own))
                | true =>
                  rw [cP, Bool.true_and] at own
                  refine iteF ?_
                  refine ⟨_, rfl, a, _, rfl, .inr e2.t, rfl, _, rfl, ?_⟩
                  by_cases c3 : ps.length = 3
                  · rw [decide_eq_true (ln3.mpr c3)]
                    rw [decide_eq_true c3, Bool.true_and] at own
                    refine iteF ?_
                    obtain ⟨x1, d1⟩ := q1
                    dsimp only at own a1 ⊢
                    have dk1 : Dk K H2 h x1 d1 := p2 _ m1
                    have ff1 : fitR d1 := ff _ m1
                    refine ⟨_, rfl, a, _, 1, _, rfl, rfl, e2.t, a1, x1, .ty "tuple", _, _, _, rfl, .ty "tuple", ty_of dk1.now, kit_d d1 "tuple" (.inr (.inr (.inr rfl))), _, rfl, ?_⟩
                    cases dk1 with
                    | non => exact iteT (kk H2 (Same.refl _) _ own)
                    | bl b => exact iteT (kk H2 (Same.refl _) _ own)
                    | int i => exact iteT (kk H2 (Same.refl _) _ own)
                    | str z => exact iteT (kk H2 (Same.refl _) _ own)
                    | d0 n e => exact iteT (kk H2 (Same.refl _) _ own)
                    | lst ps n e p => exact iteT (kk H2 (Same.refl _) _ own)
                    | @tup a1' ps1 n1 e1 p1 =>
                      refine iteF ?_
                      refine ⟨1, 21, rfl, ?_, fun D nD => ?_⟩
                      · decide
                      · refine lc_val (walk_range (lo := 1) (n := 20)) (Z := fun j x => x = .int (1 + (j : Nat))) (fun j => V.str (PyData.int (1 + (j : Nat))).shown) nD (fun _ _ _ _ e => e) (fun _ _ => trivial) (by decide) (fun _ => rfl) ?_ ?_
                        · rintro j x G Q' hj rfl sG kG
                          refine ⟨_, rfl, _, .int _, rfl, .int _, ?_, by show 0 < 60; decide, ?_, kG G (Same.refl _)⟩
                          · exact decide_eq_true (log_small (i := 1 + (j : Int)) (by omega))
                          · exact wid_len j hj
                        · intro G sG eG
                          refine gN ?_
                          dsimp only
                          have eG' : G D = some (.lst (widthsR.map V.str)) := by
                            rw [eG]
                            unfold widthsR
                            rw [List.map_map]
                            rfl
                          have e4 := sameN sG e2
                          have c3' : ps[2]? = some ql := by
                            rw [c3] at gl2
                            exact gl2
                          rw [h2] at c3'
                          obtain rfl := Option.some.inj c3'
                          obtain ⟨a2', xs2, r2, sq2, l2⟩ := len_tup (p2 q2 m2).now cc
                          refine ⟨_, rfl, a, _, 1, _, rfl, rfl, e4.t, a1, a1', _, rfl, .inr (((p2 _ m1).but (But.of sG)).now |> fun _ => (sameN sG e1).t), _, rfl, a, _, 2, _, rfl, rfl, e4.t, a2, a2', xs2, by rw [r2], .inr (sameT sG sq2), rfl, _, rfl, ?_⟩
                          have ln : (V.int (((ps1.map (·.1)).length : Nat) : Int) = V.int ((xs2.length : Nat) : Int)) ↔ ps1.length = (listT q2.2).length := by
                            rw [List.length_map, ← l2]
                            exact ⟨fun h => by have := V.int.inj h; omega, fun h => by rw [h]⟩
                          have own2 : shapeL (ps.map (·.2)) = (decide ((ps1.map (·.2)).length = (listT q2.2).length) && (ps1.map (·.2)).all widOne) := own
                          rw [List.length_map] at own2
                          by_cases cl : ps1.length = (listT q2.2).length
                          · rw [decide_eq_true (ln.mpr cl)]
                            rw [decide_eq_true cl, Bool.true_and] at own2
                            refine iteT ?_
                            have p3 : ∀ q ∈ ps1, Dk K G h q.1 q.2 := fun q hq => (p1 q hq).but (But.of sG)
                            have f3 : ∀ q ∈ ps1, fitR q.2 := fun q hq => ff1.part (List.mem_map.mpr ⟨q, hq, rfl⟩)
                            have few1 : ps1.length < 50000 := by
                              have h1 := len_wt (ps1.map (·.2))
                              have h2 := (sh_wt (ps1.map (·.2))).1
                              have h3 := ff1.2
                              rw [List.length_map] at h1
                              omega
                            have e5 := sameN sG e1
                            refine ⟨_, rfl, a, _, 1, _, rfl, rfl, e4.t, a1, a1', rfl, ⟨_, e5.t⟩, fun D2 nD2 => ?_⟩
                            refine lc_val (walk_tup (K := K) (a := a1') (xs := ps1.map (fun q : V × PyData => q.1))) (Z := fun j x => (ps1.map (fun q : V × PyData => q.1))[j]? = some x) (fun j => .bl (widOne ((ps1.map (·.2)).getD j .none))) nD2 (fun _ _ _ _ e => e) (fun _ s => (sameN s e5).t) (by rw [List.length_map]; omega) (fun _ => rfl) ?_ ?_
                            · rintro j x G2 Q' hj hx sG2 kG2
                              rw [List.length_map] at hj
                              obtain ⟨y1, hy1, ay1, gy1, my1⟩ := get_ps ps1 j hj
                              rw [List.getElem?_map, hy1] at hx
                              cases hx
                              refine ⟨_, rfl, y1.1, y1.2, rfl, ((p3 y1 my1).but (But.of sG2)).now, (f3 y1 my1).rp.1, (f3 y1 my1).rp.2.1, (f3 y1 my1).rp.2.2, _, rfl, D, widthsR.map V.str, rfl, .inl (SqL.of (sG2 _ _ eG')), rfl, flat_strs _, ?_⟩
                              rw [in_widths]
                              have q := kG2 G2 (Same.refl _)
                              rw [gy1] at q
                              exact q
                            · intro G2 sG2 eG2
                              refine ⟨D2, (List.range ps1.length).map fun j => widOne ((ps1.map (·.2)).getD j .none), rfl, SqL.of ?_, ?_⟩
                              · rw [eG2, List.length_map, List.map_map]
                                rfl
                              · have e6 := range_at (ps1.map (·.2)) widOne (fun j => widOne ((ps1.map (·.2)).getD j .none)) (fun j x hx => by rw [List.getD_eq_getElem?_getD, hx]; rfl)
                                rw [List.length_map] at e6
                                rw [e6, List.all_map]
                                exact kk G2 (fun _ _ e => sG2 _ _ (sG _ _ e)) _ own2
                          · rw [decide_eq_false (fun q => cl (ln.mp q))]
                            rw [decide_eq_false cl, Bool.false_and] at own2
                            exact iteF (kk G sG _ own2)
                  · rw [decide_eq_false (fun q => c3 (ln3.mp q))]
                    rw [decide_eq_false c3, Bool.false_and] at own
                    refine iteT ?_
                    first | exact kk H2 (Same.refl _) _ own | exact iteT (kk H2 (Same.refl _) _ own)
        · rw [decide_eq_false (show ¬ ((ps.length : Nat) : Int) < 5 by omega)]
          refine iteT (iteT ?_)
          have q := kS H (Same.refl _)
          rw [shape_not _ (.inl (by rw [List.length_map]; omega))] at q
          exact q
      · rw [decide_eq_false (show ¬ (2 : Int) < (ps.length : Nat) by omega)]
        refine iteF ⟨_, rfl, iteT (iteT ?_)⟩
        have q := kS H (Same.refl _)
        rw [shape_not _ (.inl (by rw [List.length_map]; omega))] at q
        exact q
end
end K01
set_option Elab.async false
set_option linter.all false
set_option maxRecDepth 100000
set_option maxHeartbeats 8000000
namespace K01
open PySem PySem.Spec PyProof.Rows L2 Bs Xg TL
abbrev sLForm : Stmt := top 34
theorem form_rp : ∀ j : Nat, j < 8 → (formsL.getD j .none).showable = true ∧ (formsL.getD j .none).depth < 60 ∧ (formsL.getD j .none).shown.length ≤ sizeLine := by decide +kernel
section
variable {P : Program} {w : World} {K : PySem.W.Frag} {mg : Str → Option Value} {base : Heap}
abbrev nLf : List Str := ["_law_what", "_law_good", "_law_one"]
theorem scLf : FnScope nLf ["_law_what"] (defScope sLForm) := ⟨rfl, rfl, rfl, by decide +kernel, rfl, by decide +kernel, by decide +kernel⟩
theorem ok_lform {f : Addr} {fd : FuncData} (F : Fun K "_law_is_form" "_law_is_form" sLForm f fd) (T : Free mg) (sm : ∃ mm, base.Ns sysModules mm) :
    FG P w K mg base 1 f fd ["_law_what"] (spK formD K fitR) := by
  refine okG F scLf (fun vs H Q E h => ?_) (fun cdv A outer s H vs Q E ng hr h => ?_)
  · obtain ⟨h, x, d, rfl, _⟩ := h
    rfl
  · obtain ⟨h, x, d, rfl, dk, fit, k⟩ := h
    refine ⟨_, pss_cons (ps_set (i := 1) scLf.nd rfl (Or.inl rfl) (pe_lst (pa_cons (pe_tup (pa_cons pe_str pa_nil)) (pa_cons (pe_tup (pa_cons pe_str (pa_cons pe_int pa_nil))) (pa_cons (pe_tup (pa_cons pe_str (pa_cons pe_int pa_nil))) (pa_cons (pe_tup (pa_cons pe_str (pa_cons pe_int pa_nil))) (pa_cons (pe_tup (pa_cons pe_str (pa_cons pe_int pa_nil))) pa_nil)))))))
      (pss_cons (ps_set (i := 1) scLf.nd rfl (Or.inl rfl) (pe_op op_cat (pv 1) (pe_lst (pa_cons (pe_tup (pa_cons pe_str (pa_cons pe_str pa_nil))) (pa_cons (pe_tup (pa_cons pe_str (pa_cons pe_str pa_nil))) (pa_cons (pe_tup (pa_cons pe_str (pa_cons pe_str pa_nil))) pa_nil))))))
      (pss_one (ps_ret (pe_cmpR (op_inK (K := K) rfl) (pe_callB (call_reprK (K := K) rfl ng hr.units sm) (by rfl) T.repr (by decide +kernel) (pa_cons (pv 0) pa_nil)) (pe_lc (own := [("_law_one", 2)]) (g := gName 2) (tt := tYes) rfl scLf.nd (pi_list (pv 1)) (blkOk_by (N := nLf) (sc := defScope sLForm) (by decide +kernel)) (fun _ _ _ _ _ => pg_name (i := 2) scLf.nd rfl (Or.inl rfl)) (fun _ _ _ _ _ => pts_nil) (fun _ _ _ _ _ => (pe_callB (call_reprK (K := K) rfl ng hr.units sm) (by rfl) T.repr (by decide +kernel) (pa_cons (pv 2) pa_nil)))) rfl)))), ?_⟩
    refine ⟨(by show 1 ≤ sizeLine; decide), fun t1 nt1 => ?_⟩
    have sH1 := Same.new (o := .tup [.str (Str.ofString "whole")]) nt1
    have et1 : upd H t1 (.tup [.str (Str.ofString "whole")]) t1 = some (.tup [.str (Str.ofString "whole")]) := upd_same
    generalize upd H t1 (.tup [.str (Str.ofString "whole")]) = H1 at sH1 et1 ⊢
    refine ⟨(by show 2 ≤ sizeLine; decide), fun t2 nt2 => ?_⟩
    have sH2 := Same.new (o := .tup [.str (Str.ofString "amount"), .int 1]) nt2
    have et2 : upd H1 t2 (.tup [.str (Str.ofString "amount"), .int 1]) t2 = some (.tup [.str (Str.ofString "amount"), .int 1]) := upd_same
    generalize upd H1 t2 (.tup [.str (Str.ofString "amount"), .int 1]) = H2 at sH2 et2 ⊢
    refine ⟨(by show 2 ≤ sizeLine; decide), fun t3 nt3 => ?_⟩
    have sH3 := Same.new (o := .tup [.str (Str.ofString "amount"), .int 2]) nt3
    have et3 : upd H2 t3 (.tup [.str (Str.ofString "amount"), .int 2]) t3 = some (.tup [.str (Str.ofString "amount"), .int 2]) := upd_same
    generalize upd H2 t3 (.tup [.str (Str.ofString "amount"), .int 2]) = H3 at sH3 et3 ⊢
    refine ⟨(by show 2 ≤ sizeLine; decide), fun t4 nt4 => ?_⟩
    have sH4 := Same.new (o := .tup [.str (Str.ofString "amount"), .int 3]) nt4
    have et4 : upd H3 t4 (.tup [.str (Str.ofString "amount"), .int 3]) t4 = some (.tup [.str (Str.ofString "amount"), .int 3]) := upd_same
    generalize upd H3 t4 (.tup [.str (Str.ofString "amount"), .int 3]) = H4 at sH4 et4 ⊢
    refine ⟨(by show 2 ≤ sizeLine; decide), fun t5 nt5 => ?_⟩
    have sH5 := Same.new (o := .tup [.str (Str.ofString "amount"), .int 4]) nt5
    have et5 : upd H4 t5 (.tup [.str (Str.ofString "amount"), .int 4]) t5 = some (.tup [.str (Str.ofString "amount"), .int 4]) := upd_same
    generalize upd H4 t5 (.tup [.str (Str.ofString "amount"), .int 4]) = H5 at sH5 et5 ⊢
    refine ⟨(by show 5 ≤ sizeLine; decide), fun l1 nl1 => ?_⟩
    have sH6 := Same.new (o := .lst [.ref t1, .ref t2, .ref t3, .ref t4, .ref t5]) nl1
    have el1 : upd H5 l1 (.lst [.ref t1, .ref t2, .ref t3, .ref t4, .ref t5]) l1 = some (.lst [.ref t1, .ref t2, .ref t3, .ref t4, .ref t5]) := upd_same
    generalize upd H5 l1 (.lst [.ref t1, .ref t2, .ref t3, .ref t4, .ref t5]) = H6 at sH6 el1 ⊢
    refine gN ?_
    dsimp only
    refine ⟨_, rfl, (by show 2 ≤ sizeLine; decide), fun t6 nt6 => ?_⟩
    have sH7 := Same.new (o := .tup [.str (Str.ofString "day"), .str (Str.ofString "ymd")]) nt6
    have et6 : upd H6 t6 (.tup [.str (Str.ofString "day"), .str (Str.ofString "ymd")]) t6 = some (.tup [.str (Str.ofString "day"), .str (Str.ofString "ymd")]) := upd_same
    generalize upd H6 t6 (.tup [.str (Str.ofString "day"), .str (Str.ofString "ymd")]) = H7 at sH7 et6 ⊢
    refine ⟨(by show 2 ≤ sizeLine; decide), fun t7 nt7 => ?_⟩
    have sH8 := Same.new (o := .tup [.str (Str.ofString "day"), .str (Str.ofString "dmy")]) nt7
    have et7 : upd H7 t7 (.tup [.str (Str.ofString "day"), .str (Str.ofString "dmy")]) t7 = some (.tup [.str (Str.ofString "day"), .str (Str.ofString "dmy")]) := upd_same
    generalize upd H7 t7 (.tup [.str (Str.ofString "day"), .str (Str.ofString "dmy")]) = H8 at sH8 et7 ⊢
    refine ⟨(by show 2 ≤ sizeLine; decide), fun t8 nt8 => ?_⟩
    have sH9 := Same.new (o := .tup [.str (Str.ofString "day"), .str (Str.ofString "mdy")]) nt8
    have et8 : upd H8 t8 (.tup [.str (Str.ofString "day"), .str (Str.ofString "mdy")]) t8 = some (.tup [.str (Str.ofString "day"), .str (Str.ofString "mdy")]) := upd_same
    generalize upd H8 t8 (.tup [.str (Str.ofString "day"), .str (Str.ofString "mdy")]) = H9 at sH9 et8 ⊢
    refine ⟨(by show 3 ≤ sizeLine; decide), fun l2 nl2 => ?_⟩
    have sH10 := Same.new (o := .lst [.ref t6, .ref t7, .ref t8]) nl2
    have el2 : upd H9 l2 (.lst [.ref t6, .ref t7, .ref t8]) l2 = some (.lst [.ref t6, .ref t7, .ref t8]) := upd_same
    generalize upd H9 l2 (.lst [.ref t6, .ref t7, .ref t8]) = H10 at sH10 el2 ⊢
    refine ⟨l1, l2, _, _, rfl, rfl, (sH10 _ _ (sH9 _ _ (sH8 _ _ (sH7 _ _ el1)))), el2, (by show 8 ≤ sizeLine; decide), fun l3 nl3 => ?_⟩
    rw [show ([.ref t1, .ref t2, .ref t3, .ref t4, .ref t5] ++ [.ref t6, .ref t7, .ref t8] : List V) = ([.ref t1, .ref t2, .ref t3, .ref t4, .ref t5, .ref t6, .ref t7, .ref t8] : List V) from rfl]
    have sH11 := Same.new (o := .lst [.ref t1, .ref t2, .ref t3, .ref t4, .ref t5, .ref t6, .ref t7, .ref t8]) nl3
    have el3 : upd H10 l3 (.lst [.ref t1, .ref t2, .ref t3, .ref t4, .ref t5, .ref t6, .ref t7, .ref t8]) l3 = some (.lst [.ref t1, .ref t2, .ref t3, .ref t4, .ref t5, .ref t6, .ref t7, .ref t8]) := upd_same
    generalize upd H10 l3 (.lst [.ref t1, .ref t2, .ref t3, .ref t4, .ref t5, .ref t6, .ref t7, .ref t8]) = H11 at sH11 el3 ⊢
    refine gN ?_
    dsimp only
    have sA : Same H H11 := fun _ _ e => (sH11 _ _ (sH10 _ _ (sH9 _ _ (sH8 _ _ (sH7 _ _ (sH6 _ _ (sH5 _ _ (sH4 _ _ (sH3 _ _ (sH2 _ _ (sH1 _ _ e)))))))))))
    have dqs : ∀ j x, ([.ref t1, .ref t2, .ref t3, .ref t4, .ref t5, .ref t6, .ref t7, .ref t8] : List V)[j]? = some x → Dq K H11 x (formsL.getD j .none) := by
      intro j x hx
      match j, hx with
      | 0, hx =>
        cases hx
        exact Dq.tup [(.str (Str.ofString "whole"), .str (Str.ofString "whole"))] (SqT.of (sH11 _ _ (sH10 _ _ (sH9 _ _ (sH8 _ _ (sH7 _ _ (sH6 _ _ (sH5 _ _ (sH4 _ _ (sH3 _ _ (sH2 _ _ et1))))))))))) (fun p hp => by rw [List.mem_singleton.mp hp]; exact Dq.str _)
      | 1, hx =>
        cases hx
        exact Dq.tup [(.str (Str.ofString "amount"), .str (Str.ofString "amount")), (.int 1, .int 1)] (SqT.of (sH11 _ _ (sH10 _ _ (sH9 _ _ (sH8 _ _ (sH7 _ _ (sH6 _ _ (sH5 _ _ (sH4 _ _ (sH3 _ _ et2)))))))))) (fun p hp => by simp only [List.mem_cons, List.not_mem_nil, or_false] at hp; rcases hp with rfl | rfl; exact Dq.str _; exact Dq.int _)
      | 2, hx =>
        cases hx
        exact Dq.tup [(.str (Str.ofString "amount"), .str (Str.ofString "amount")), (.int 2, .int 2)] (SqT.of (sH11 _ _ (sH10 _ _ (sH9 _ _ (sH8 _ _ (sH7 _ _ (sH6 _ _ (sH5 _ _ (sH4 _ _ et3))))))))) (fun p hp => by simp only [List.mem_cons, List.not_mem_nil, or_false] at hp; rcases hp with rfl | rfl; exact Dq.str _; exact Dq.int _)
      | 3, hx =>
        cases hx
        exact Dq.tup [(.str (Str.ofString "amount"), .str (Str.ofString "amount")), (.int 3, .int 3)] (SqT.of (sH11 _ _ (sH10 _ _ (sH9 _ _ (sH8 _ _ (sH7 _ _ (sH6 _ _ (sH5 _ _ et4)))))))) (fun p hp => by simp only [List.mem_cons, List.not_mem_nil, or_false] at hp; rcases hp with rfl | rfl; exact Dq.str _; exact Dq.int _)
      | 4, hx =>
        cases hx
        exact Dq.tup [(.str (Str.ofString "amount"), .str (Str.ofString "amount")), (.int 4, .int 4)] (SqT.of (sH11 _ _ (sH10 _ _ (sH9 _ _ (sH8 _ _ (sH7 _ _ (sH6 _ _ et5))))))) (fun p hp => by simp only [List.mem_cons, List.not_mem_nil, or_false] at hp; rcases hp with rfl | rfl; exact Dq.str _; exact Dq.int _)
      | 5, hx =>
        cases hx
        exact Dq.tup [(.str (Str.ofString "day"), .str (Str.ofString "day")), (.str (Str.ofString "ymd"), .str (Str.ofString "ymd"))] (SqT.of (sH11 _ _ (sH10 _ _ (sH9 _ _ (sH8 _ _ et6))))) (fun p hp => by simp only [List.mem_cons, List.not_mem_nil, or_false] at hp; rcases hp with rfl | rfl; exact Dq.str _; exact Dq.str _)
      | 6, hx =>
        cases hx
        exact Dq.tup [(.str (Str.ofString "day"), .str (Str.ofString "day")), (.str (Str.ofString "dmy"), .str (Str.ofString "dmy"))] (SqT.of (sH11 _ _ (sH10 _ _ (sH9 _ _ et7)))) (fun p hp => by simp only [List.mem_cons, List.not_mem_nil, or_false] at hp; rcases hp with rfl | rfl; exact Dq.str _; exact Dq.str _)
      | 7, hx =>
        cases hx
        exact Dq.tup [(.str (Str.ofString "day"), .str (Str.ofString "day")), (.str (Str.ofString "mdy"), .str (Str.ofString "mdy"))] (SqT.of (sH11 _ _ (sH10 _ _ et8))) (fun p hp => by simp only [List.mem_cons, List.not_mem_nil, or_false] at hp; rcases hp with rfl | rfl; exact Dq.str _; exact Dq.str _)
      | j + 8, hx => simp at hx
    have dx : Dq K H11 x d := (dk.but (But.of sA)).now
    refine ⟨_, rfl, x, d, rfl, dx, fit.rp.1, fit.rp.2.1, fit.rp.2.2, _, rfl, l3, rfl, ⟨_, SqL.of el3⟩, fun D nD => ?_⟩
    refine lc_val (walk_list (K := K) (a := l3) (xs := [.ref t1, .ref t2, .ref t3, .ref t4, .ref t5, .ref t6, .ref t7, .ref t8])) (Z := fun j x => ([.ref t1, .ref t2, .ref t3, .ref t4, .ref t5, .ref t6, .ref t7, .ref t8] : List V)[j]? = some x) (fun j => V.str (formsL.getD j .none).shown) nD (fun _ _ _ _ e => e) (fun _ s => SqL.of (s _ _ el3)) (by show 8 < 100000; decide) (fun _ => rfl) ?_ ?_
    · rintro j y G Q' hj hy sG kG
      have fj := form_rp j hj
      exact ⟨_, rfl, _, _, rfl, (dqs j y hy).same sG, fj.1, fj.2.1, fj.2.2, kG G (Same.refl _)⟩
    · intro G sG eG
      refine ⟨D, (formsL.map (·.shown)).map V.str, rfl, .inl (SqL.of ?_), rfl, flat_strs _, ?_⟩
      · rw [eG]
        rfl
      · rw [in_forms]
        exact k G (fun _ _ e => sG _ _ (sA _ _ e))
end
end K01
set_option Elab.async false
set_option linter.all false
set_option maxRecDepth 100000
set_option maxHeartbeats 8000000
namespace K01
open PySem PySem.Spec PyProof.Rows L2 Bs Xg TL
abbrev sTold : Stmt := top 35
/-! ### one parameter, told by its name -/
def one {α : Type} : List α → List α → List α
  | [], [a] => [a]
  | _, _ => []
theorem kb_one {K : PySem.W.Frag} {x qual : Str} {st : Stmt} {f : Addr} {fd : FuncData} {p : Str} (F : Fun K x qual st f fd)
    (h : ∀ (kV doc pm : Value) (an : Option Addr) (cdv ct : Value) (a : Value), bindArgs (PySem.W.fnOf x qual (defArgs st) (defBody st) (defScope st) .none kV doc pm an cdv ct) ⟨[], [(p, a)]⟩ = pure [(p, a)]) :
    KBinds K fd [p] [p] one one := by
  obtain ⟨oc, od, kV, doc, pm, an, cdv, ct, osl, rfl, lk, hcd⟩ := F.ex
  constructor
  · intro s us ws _ hl
    match us, ws, hl with
    | [], [a], _ => exact .of_eq (h kV doc pm an cdv ct a)
    | [], [], hl => exact absurd hl (by simp [one])
    | [], _ :: _ :: _, hl => exact absurd hl (by simp [one])
    | _ :: _, _, hl => exact absurd hl (by simp [one])
  · intro vs us zs ws h1 h2
    cases h1 with
    | nil =>
      cases h2 with
      | nil => exact .nil
      | cons a h2 =>
        cases h2 with
        | nil => exact .cons a .nil
        | cons b h2 => exact .nil
    | cons a h1 =>
      cases h2 with
      | nil => exact .nil
      | cons b h2 => exact .nil
/-- the law's own looks -/
structure Look (K : PySem.W.Frag) (mg : Str → Option Value) (fLW fLF fLS fLC fLw : Addr) (dLW dLF dLS dLC dLw : FuncData) : Prop where
  LW : Fun K "_law_is_worth" "_law_is_worth" sLWorth fLW dLW
  bLW : Binds K dLW ["_law_what"] []
  gLW : mg "_law_is_worth" = some (.ref fLW)
  LF : Fun K "_law_is_form" "_law_is_form" sLForm fLF dLF
  bLF : Binds K dLF ["_law_what"] []
  gLF : mg "_law_is_form" = some (.ref fLF)
  LS : Fun K "_law_is_shape" "_law_is_shape" sLShape fLS dLS
  bLS : Binds K dLS ["_law_what"] []
  gLS : mg "_law_is_shape" = some (.ref fLS)
  LC : Fun K "_law_are_cols" "_law_are_cols" sCols fLC dLC
  bLC : Binds K dLC ["_law_what"] []
  gLC : mg "_law_are_cols" = some (.ref fLC)
  Lw : Fun K "_law_is_word" "_law_is_word" sLWord fLw dLw
  bLw : Binds K dLw ["_law_what"] []
  gLw : mg "_law_is_word" = some (.ref fLw)
section
variable {P : Program} {w : World} {K : PySem.W.Frag} {mg : Str → Option Value} {base : Heap}
variable {fN fNs fU fUN fOn fWi fW fSh fWo fFo fRk o cS cQ cN : Addr} {dN dNs dU dUN dOn dWi dW dSh dWo dFo dRk : FuncData}
variable {fLW fLF fLS fLC fLw : Addr} {dLW dLF dLS dLC dLw : FuncData}
def spTold (K : PySem.W.Frag) : Sp := fun vs H Q _ => ∃ (h : Addr) (x : V) (d : PyData), vs = [x] ∧ Dk K H h x d ∧ fitR d ∧ ∀ H', Same H H' → Q (.bl true) H'
theorem scTr : FnScope ["_law_item", "_law_kept", "_law_told", "_law_due"] ["_law_item"] (defScope sTold) := ⟨rfl, rfl, rfl, by decide +kernel, rfl, by decide +kernel, by decide +kernel⟩
def six (a b c : Bool) : List Bool := [a, a, b, b, c, c]
theorem six_rp : ∀ a b c : Bool, (PyData.list ((six a b c).map .bool)).showable = true ∧ (PyData.list ((six a b c).map .bool)).depth < 60 ∧ (PyData.list ((six a b c).map .bool)).shown.length ≤ sizeLine := by decide +kernel
theorem six_dq {H : Hp} {l : Addr} {bs : List Bool} (e : H l = some (.lst (bs.map V.bl))) : Dq K H (.ref l) (.list (bs.map .bool)) := by
  have q := Dq.lst (K := K) (H := H) (a := l) (bs.map fun b => (V.bl b, PyData.bool b)) (by rw [List.map_map]; exact SqL.of e) (fun p hp => by
    obtain ⟨b, _, rfl⟩ := List.mem_map.mp hp
    exact .bl b)
  rw [List.map_map] at q
  exact q
theorem ok_told (O : Own K mg fN fNs fU fUN fOn fWi fW fSh fWo fFo fRk dN dNs dU dUN dOn dWi dW dSh dWo dFo dRk) (T : Free mg) (C : Csts K mg o cS cQ cN) (L : Look K mg fLW fLF fLS fLC fLw dLW dLF dLS dLC dLw) (sm : ∃ mm, base.Ns sysModules mm)
    (kWo : KBinds K dWo ["thing"] ["thing"] one one) (kFo : KBinds K dFo ["thing"] ["thing"] one one) (kSh : KBinds K dSh ["thing"] ["thing"] one one)
    {f : Addr} {fd : FuncData} (F : Fun K "_law_told_right" "_law_told_right" sTold f fd) : FG P w K mg base 5 f fd ["_law_item"] (spTold K) := by
  have GWo : FnOk P w K mg base CX0 2 fWo dWo ["thing"] (spD worthD K fitD) := ok_worth O.Wo T.isi O.W O.bW O.gW
  have GFo : FnOk P w K mg base CX0 2 fFo dFo ["thing"] (spD formD K fun _ => True) := ok_form O.Fo T.isi ⟨T.len, C.mp, C.go, C.so⟩ O.W O.bW O.gW
  have GSh : FnOk P w K mg base CX0 4 fSh dSh ["thing"] (spD shapeD K fitS) := ok_shape O T C
  have GLW : FnOk P w K mg base CX0 1 fLW dLW ["_law_what"] (spD worthD K fitD) := ok_lworth L.LW T.isi
  have GLF : FG P w K mg base 1 fLF dLF ["_law_what"] (spK formD K fitR) := ok_lform L.LF T sm
  have GLS : FG P w K mg base 3 fLS dLS ["_law_what"] (spK shapeD K fitR) := ok_lshape L.LS T sm L.LC L.bLC L.gLC L.Lw L.bLw L.gLw
  have LW := L.LW
  have LF := L.LF
  have LS := L.LS
  have bLW := L.bLW
  have bLF := L.bLF
  have bLS := L.bLS
  have gLW := L.gLW
  have gLF := L.gLF
  have gLS := L.gLS
  refine okG F scTr (fun vs H Q E h => ?_) (fun cdv A outer s H vs Q E ng hr h => ?_)
  · obtain ⟨h, x, d, rfl, _⟩ := h
    rfl
  · obtain ⟨h, x, d, rfl, dk, fit, k⟩ := h
    have hr1 : Room 1 _ := hr.mono (by decide)
    have hr2 : Room 2 _ := hr.mono (by decide)
    have hr3 : Room 3 _ := hr.mono (by decide)
    refine ⟨_, pss_cons (ps_set (i := 1) scTr.nd rfl (Or.inl rfl) (pe_callB (call_reprK (K := K) rfl ng hr.units sm) (by rfl) T.repr (by decide +kernel) (pa_cons (pv 0) pa_nil)))
      (pss_cons (ps_set (i := 2) scTr.nd rfl (Or.inl rfl) (pe_lst (pa_cons (pe_call GWo hr2 (by rfl) O.gWo O.Wo.kp O.bWo .nil pass0 (pa_cons (pv 0) pa_nil)) (pa_cons (callK0 GWo hr2 (by rfl) O.gWo O.Wo.kp kWo pass0 (pk_cons (pv 0) pk_nil)) (pa_cons (pe_call GFo hr2 (by rfl) O.gFo O.Fo.kp O.bFo .nil pass0 (pa_cons (pv 0) pa_nil)) (pa_cons (callK0 GFo hr2 (by rfl) O.gFo O.Fo.kp kFo pass0 (pk_cons (pv 0) pk_nil)) pa_nil))))))
      (pss_cons (ps_set (i := 2) scTr.nd rfl (Or.inl rfl) (pe_op op_cat (pv 2) (pe_lst (pa_cons (pe_call GSh hr (by rfl) O.gSh O.Sh.kp O.bSh .nil pass0 (pa_cons (pv 0) pa_nil)) (pa_cons (callK0 GSh hr (by rfl) O.gSh O.Sh.kp kSh pass0 (pk_cons (pv 0) pk_nil)) pa_nil)))))
      (pss_cons (ps_set (i := 3) scTr.nd rfl (Or.inl rfl) (pe_op op_cat (pe_op op_cat (pe_op op_rep (pe_lst (pa_cons (pe_call GLW hr1 (by rfl) gLW LW.kp bLW .nil pass0 (pa_cons (pv 0) pa_nil)) pa_nil)) pe_int) (pe_op op_rep (pe_lst (pa_cons (callG GLF ng hr1 (by rfl) gLF LF.kp bLF .nil (pa_cons (pv 0) pa_nil)) pa_nil)) pe_int)) (pe_op op_rep (pe_lst (pa_cons (callG GLS ng hr3 (by rfl) gLS LS.kp bLS .nil (pa_cons (pv 0) pa_nil)) pa_nil)) pe_int)))
      (pss_one (ps_ret (pe_and (pe_cmpR op_eq (pe_callB (call_reprK (K := K) rfl ng hr.units sm) (by rfl) T.repr (by decide +kernel) (pa_cons (pv 2) pa_nil)) (pe_callB (call_reprK (K := K) rfl ng hr.units sm) (by rfl) T.repr (by decide +kernel) (pa_cons (pv 3) pa_nil)) (nomark _)) (pe_one (pe_cmpR op_eq (pe_callB (call_reprK (K := K) rfl ng hr.units sm) (by rfl) T.repr (by decide +kernel) (pa_cons (pv 0) pa_nil)) (pv 1) (nomark _))))))))), ?_⟩
    have dkS : ∀ {G}, Same H G → Dk K G h x d := fun s => dk.but (But.of s)
    refine ⟨_, rfl, x, d, rfl, dk.now, fit.rp.1, fit.rp.2.1, fit.rp.2.2, gN ?_⟩
    dsimp only
    refine ⟨_, rfl, x, d, rfl, dk.now, fit.d, fun H1 s1 => ?_⟩
    refine ⟨_, rfl, x, d, rfl, (dkS s1).now, fit.d, fun H2 s2 => ?_⟩
    have z2 : Same H H2 := fun _ _ e => s2 _ _ (s1 _ _ e)
    refine ⟨_, rfl, x, d, rfl, (dkS z2).now, trivial, fun H3 s3 => ?_⟩
    have z3 : Same H H3 := fun _ _ e => s3 _ _ (z2 _ _ e)
    refine ⟨_, rfl, x, d, rfl, (dkS z3).now, trivial, fun H4 s4 => ?_⟩
    have z4 : Same H H4 := fun _ _ e => s4 _ _ (z3 _ _ e)
    generalize hw : worthD d = bw
    generalize hf : formD d = bf
    generalize hsh : shapeD d = bs
    refine ⟨(by show 4 ≤ sizeLine; decide), fun l1 n1 => ?_⟩
    have s5 := Same.new (o := .lst [.bl bw, .bl bw, .bl bf, .bl bf]) n1
    have e5 : upd H4 l1 (.lst [.bl bw, .bl bw, .bl bf, .bl bf]) l1 = some (.lst [.bl bw, .bl bw, .bl bf, .bl bf]) := upd_same
    generalize upd H4 l1 (.lst [.bl bw, .bl bw, .bl bf, .bl bf]) = H5 at s5 e5 ⊢
    have z5 : Same H H5 := fun _ _ e => s5 _ _ (z4 _ _ e)
    refine gN ?_
    dsimp only
    refine ⟨_, rfl, _, rfl, x, d, rfl, (dkS z5).now, fit.s, fun H6 s6 => ?_⟩
    have z6 : Same H H6 := fun _ _ e => s6 _ _ (z5 _ _ e)
    refine ⟨_, rfl, x, d, rfl, (dkS z6).now, fit.s, fun H7 s7 => ?_⟩
    have z7 : Same H H7 := fun _ _ e => s7 _ _ (z6 _ _ e)
    rw [hsh]
    refine ⟨(by show 2 ≤ sizeLine; decide), fun l2 n2 => ?_⟩
    have s8 := Same.new (o := .lst [.bl bs, .bl bs]) n2
    have e8 : upd H7 l2 (.lst [.bl bs, .bl bs]) l2 = some (.lst [.bl bs, .bl bs]) := upd_same
    generalize upd H7 l2 (.lst [.bl bs, .bl bs]) = H8 at s8 e8 ⊢
    have z8 : Same H H8 := fun _ _ e => s8 _ _ (z7 _ _ e)
    refine ⟨l1, l2, _, _, rfl, rfl, s8 _ _ (s7 _ _ (s6 _ _ e5)), e8, (by show 6 ≤ sizeLine; decide), fun l3 n3 => ?_⟩
    have s9 := Same.new (o := .lst ((six bw bf bs).map V.bl)) n3
    have e9 : upd H8 l3 (.lst ((six bw bf bs).map V.bl)) l3 = some (.lst ((six bw bf bs).map V.bl)) := upd_same
    rw [show ([.bl bw, .bl bw, .bl bf, .bl bf] ++ [.bl bs, .bl bs] : List V) = (six bw bf bs).map V.bl from rfl]
    generalize upd H8 l3 (.lst ((six bw bf bs).map V.bl)) = H9 at s9 e9 ⊢
    have z9 : Same H H9 := fun _ _ e => s9 _ _ (z8 _ _ e)
    refine gN ?_
    dsimp only
    refine ⟨_, rfl, x, d, rfl, (dkS z9).now, fit.d, fun G1 t1 => ?_⟩
    rw [hw]
    have w1 : Same H G1 := fun _ _ e => t1 _ _ (z9 _ _ e)
    have q1 : Same H9 G1 := t1
    refine ⟨(by show 1 ≤ sizeLine; decide), fun aw naw => ?_⟩
    have t2 := Same.new (o := .lst [.bl bw]) naw
    have eaw : upd G1 aw (.lst [.bl bw]) aw = some (.lst [.bl bw]) := upd_same
    generalize upd G1 aw (.lst [.bl bw]) = G2 at t2 eaw ⊢
    have w2 : Same H G2 := fun _ _ e => t2 _ _ (w1 _ _ e)
    have q2 : Same H9 G2 := fun _ _ e => t2 _ _ (q1 _ _ e)
    refine ⟨aw, 2, _, rfl, rfl, eaw, by decide, by decide, (by show 2 ≤ sizeLine; decide), fun rw nrw => ?_⟩
    rw [show (List.replicate (2 : Int).toNat ([.bl bw] : List V)).flatten = [.bl bw, .bl bw] from rfl]
    have t3 := Same.new (o := .lst [.bl bw, .bl bw]) nrw
    have erw : upd G2 rw (.lst [.bl bw, .bl bw]) rw = some (.lst [.bl bw, .bl bw]) := upd_same
    generalize upd G2 rw (.lst [.bl bw, .bl bw]) = G3 at t3 erw ⊢
    have w3 : Same H G3 := fun _ _ e => t3 _ _ (w2 _ _ e)
    have q3 : Same H9 G3 := fun _ _ e => t3 _ _ (q2 _ _ e)
    refine ⟨_, rfl, h, x, d, rfl, dkS w3, fit, fun G4 t4 => ?_⟩
    rw [hf]
    have w4 : Same H G4 := fun _ _ e => t4 _ _ (w3 _ _ e)
    have q4 : Same H9 G4 := fun _ _ e => t4 _ _ (q3 _ _ e)
    refine ⟨(by show 1 ≤ sizeLine; decide), fun af naf => ?_⟩
    have t5 := Same.new (o := .lst [.bl bf]) naf
    have eaf : upd G4 af (.lst [.bl bf]) af = some (.lst [.bl bf]) := upd_same
    generalize upd G4 af (.lst [.bl bf]) = G5 at t5 eaf ⊢
    have w5 : Same H G5 := fun _ _ e => t5 _ _ (w4 _ _ e)
    have q5 : Same H9 G5 := fun _ _ e => t5 _ _ (q4 _ _ e)
    refine ⟨af, 2, _, rfl, rfl, eaf, by decide, by decide, (by show 2 ≤ sizeLine; decide), fun rf nrf => ?_⟩
    rw [show (List.replicate (2 : Int).toNat ([.bl bf] : List V)).flatten = [.bl bf, .bl bf] from rfl]
    have t6 := Same.new (o := .lst [.bl bf, .bl bf]) nrf
    have erf : upd G5 rf (.lst [.bl bf, .bl bf]) rf = some (.lst [.bl bf, .bl bf]) := upd_same
    generalize upd G5 rf (.lst [.bl bf, .bl bf]) = G6 at t6 erf ⊢
    have w6 : Same H G6 := fun _ _ e => t6 _ _ (w5 _ _ e)
    have q6 : Same H9 G6 := fun _ _ e => t6 _ _ (q5 _ _ e)
    refine ⟨_, _, _, _, rfl, rfl, (t6 _ _ (t5 _ _ (t4 _ _ erw))), erf, (by show 4 ≤ sizeLine; decide), fun c1 nc1 => ?_⟩
    rw [show ([.bl bw, .bl bw] ++ [.bl bf, .bl bf] : List V) = [.bl bw, .bl bw, .bl bf, .bl bf] from rfl]
    have t7 := Same.new (o := .lst [.bl bw, .bl bw, .bl bf, .bl bf]) nc1
    have ec1 : upd G6 c1 (.lst [.bl bw, .bl bw, .bl bf, .bl bf]) c1 = some (.lst [.bl bw, .bl bw, .bl bf, .bl bf]) := upd_same
    generalize upd G6 c1 (.lst [.bl bw, .bl bw, .bl bf, .bl bf]) = G7 at t7 ec1 ⊢
    have w7 : Same H G7 := fun _ _ e => t7 _ _ (w6 _ _ e)
    have q7 : Same H9 G7 := fun _ _ e => t7 _ _ (q6 _ _ e)
    refine ⟨_, rfl, h, x, d, rfl, dkS w7, fit, fun G8 t8 => ?_⟩
    rw [hsh]
    have w8 : Same H G8 := fun _ _ e => t8 _ _ (w7 _ _ e)
    have q8 : Same H9 G8 := fun _ _ e => t8 _ _ (q7 _ _ e)
    refine ⟨(by show 1 ≤ sizeLine; decide), fun as nas => ?_⟩
    have t9 := Same.new (o := .lst [.bl bs]) nas
    have eas : upd G8 as (.lst [.bl bs]) as = some (.lst [.bl bs]) := upd_same
    generalize upd G8 as (.lst [.bl bs]) = G9 at t9 eas ⊢
    have w9 : Same H G9 := fun _ _ e => t9 _ _ (w8 _ _ e)
    have q9 : Same H9 G9 := fun _ _ e => t9 _ _ (q8 _ _ e)
    refine ⟨as, 2, _, rfl, rfl, eas, by decide, by decide, (by show 2 ≤ sizeLine; decide), fun rs nrs => ?_⟩
    rw [show (List.replicate (2 : Int).toNat ([.bl bs] : List V)).flatten = [.bl bs, .bl bs] from rfl]
    have t10 := Same.new (o := .lst [.bl bs, .bl bs]) nrs
    have ers : upd G9 rs (.lst [.bl bs, .bl bs]) rs = some (.lst [.bl bs, .bl bs]) := upd_same
    generalize upd G9 rs (.lst [.bl bs, .bl bs]) = G10 at t10 ers ⊢
    have w10 : Same H G10 := fun _ _ e => t10 _ _ (w9 _ _ e)
    have q10 : Same H9 G10 := fun _ _ e => t10 _ _ (q9 _ _ e)
    refine ⟨_, _, _, _, rfl, rfl, (t10 _ _ (t9 _ _ (t8 _ _ ec1))), ers, (by show 6 ≤ sizeLine; decide), fun c2 nc2 => ?_⟩
    rw [show ([.bl bw, .bl bw, .bl bf, .bl bf] ++ [.bl bs, .bl bs] : List V) = (six bw bf bs).map V.bl from rfl]
    have t11 := Same.new (o := .lst ((six bw bf bs).map V.bl)) nc2
    have ec2 : upd G10 c2 (.lst ((six bw bf bs).map V.bl)) c2 = some (.lst ((six bw bf bs).map V.bl)) := upd_same
    generalize upd G10 c2 (.lst ((six bw bf bs).map V.bl)) = G11 at t11 ec2 ⊢
    have w11 : Same H G11 := fun _ _ e => t11 _ _ (w10 _ _ e)
    have q11 : Same H9 G11 := fun _ _ e => t11 _ _ (q10 _ _ e)
    refine gN ?_
    dsimp only
    have rr := six_rp bw bf bs
    have d1 : Dq K G11 (.ref l3) (.list ((six bw bf bs).map .bool)) := six_dq (q11 _ _ e9)
    have d2 : Dq K G11 (.ref c2) (.list ((six bw bf bs).map .bool)) := six_dq ec2
    refine ⟨_, rfl, _, _, rfl, d1, rr.1, rr.2.1, rr.2.2, _, rfl, _, _, rfl, d2, rr.1, rr.2.1, rr.2.2, rfl, _, rfl, ?_⟩
    rw [decide_eq_true rfl]
    refine iteT ?_
    refine ⟨_, rfl, x, d, rfl, (dkS w11).now, fit.rp.1, fit.rp.2.1, fit.rp.2.2, _, rfl, rfl, ?_⟩
    rw [decide_eq_true rfl]
    exact k _ w11
end
end K01
set_option Elab.async false
set_option linter.all false
set_option maxRecDepth 100000
set_option maxHeartbeats 8000000
/-! sorted(xs, key=rank), xs some worths of one column -/
namespace K01
open PySem PySem.Spec PyProof.Rows L2 Bs Xg TL SrtO
/-! ### the order -/
def lexI : List Int → List Int → Bool
  | [], [] => false
  | [], _ :: _ => true
  | _ :: _, [] => false
  | a :: l, b :: m => if a = b then lexI l m else decide (a < b)
theorem lexI_asym : ∀ l m, lexI l m = true → lexI m l = false
  | [], [], h => nomatch h
  | [], _ :: _, _ => rfl
  | _ :: _, [], h => nomatch h
  | a :: l, b :: m, h => by
    unfold lexI at h ⊢
    by_cases e : a = b
    · rw [if_pos e] at h
      rw [if_pos e.symm]
      exact lexI_asym l m h
    · rw [if_neg e] at h
      rw [if_neg (fun q => e q.symm)]
      have := of_decide_eq_true h
      exact decide_eq_false (by omega)
theorem lexI_tr : ∀ x y z, lexI y x = false → lexI z y = false → lexI z x = false
  | [], [], [], _, _ => rfl
  | [], [], _ :: _, _, _ => rfl
  | [], _ :: _, [], _, h => nomatch h
  | [], _ :: _, _ :: _, _, _ => rfl
  | _ :: _, [], _, h, _ => nomatch h
  | _ :: _, _ :: _, [], _, h => nomatch h
  | a :: x, b :: y, c :: z, h1, h2 => by
    unfold lexI at h1 h2 ⊢
    by_cases e1 : b = a
    · rw [if_pos e1] at h1
      by_cases e2 : c = b
      · rw [if_pos e2] at h2
        rw [if_pos (e2.trans e1)]
        exact lexI_tr x y z h1 h2
      · rw [if_neg e2] at h2
        rw [if_neg (by omega)]
        have := of_decide_eq_false h2
        exact decide_eq_false (by omega)
    · rw [if_neg e1] at h1
      have q1 := of_decide_eq_false h1
      by_cases e2 : c = b
      · rw [if_neg (by omega)]
        exact decide_eq_false (by omega)
      · rw [if_neg e2] at h2
        have q2 := of_decide_eq_false h2
        rw [if_neg (by omega)]
        exact decide_eq_false (by omega)
theorem lexI_nat : ∀ l m : List Nat, lexI (l.map Int.ofNat) (m.map Int.ofNat) = decide (l < m)
  | [], [] => by simp [lexI]
  | [], _ :: _ => by simp [lexI]
  | _ :: _, [] => by simp [lexI]
  | a :: l, b :: m => by
    rw [List.map_cons, List.map_cons]
    unfold lexI
    rw [lexI_nat l m]
    by_cases e : a = b
    · subst e
      simp
    · have e' : ¬ Int.ofNat a = Int.ofNat b := fun q => e (Int.ofNat.inj q)
      rw [if_neg e']
      simp [List.cons_lt_cons_iff, e]
def kv : Value → List Int
  | .int i _ => [1, i]
  | .str z _ => 1 :: z.cps.toList.map Int.ofNat
  | _ => [0]
def ltK (p q : Keyed) : Bool := lexI (kv p.2) (kv q.2)
theorem swoK : Swo ltK := ⟨fun x y => lexI_asym _ _, fun x y z => lexI_tr _ _ _⟩
/-- worths of one column -/
def Wv (c : Bool) (x : V) : Prop := x = .non ∨ if c = true then ∃ i, x = .int i else ∃ z, x = .str z
/-- a key and its worth -/
def PK (c : Bool) (h : Heap) (p : Keyed) : Prop := ∃ (x : V) (t : Addr) (o : Obj) (n : Nat) (q1 q2 : Value), p.1 = .ref t ∧ h.get? t = some o ∧ o.cls = .type "tuple" ∧ o.data = .seq #[q1, q2] n ∧ Vals (rankL x) [q1, q2] ∧ RelV x p.2 ∧ Wv c x
inductive KeyOf (c : Bool) : Value → Value → Value → Prop
  | non (t u : Tok) : KeyOf c .none (.int 0 t) (.int 0 u)
  | int (i : Int) (t u v : Tok) : c = true → KeyOf c (.int i t) (.int 1 u) (.int i v)
  | str (z : Str) (t u v : Tok) : c = false → KeyOf c (.str z t) (.int 1 u) (.str z v)
theorem keyOf {c : Bool} {x : V} {v q1 q2 : Value} (r : Vals (rankL x) [q1, q2]) (rv : RelV x v) (wv : Wv c x) : KeyOf c v q1 q2 := by
  unfold rankL at r
  rcases wv with rfl | wv
  · rw [if_pos rfl] at r
    cases r with
    | cons r1 r2 =>
      cases r2 with
      | cons r3 r4 =>
        obtain ⟨t, rfl⟩ := r1
        obtain ⟨u, rfl⟩ := r3
        cases rv
        exact .non t u
  · cases c with
    | true =>
      rw [if_pos rfl] at wv
      obtain ⟨i, rfl⟩ := wv
      rw [if_neg (by simp)] at r
      cases r with
      | cons r1 r2 =>
        cases r2 with
        | cons r3 r4 =>
          obtain ⟨t, rfl⟩ := r1
          obtain ⟨u, rfl⟩ := r3
          obtain ⟨y, rfl⟩ := rv
          exact .int i y t u rfl
    | false =>
      rw [if_neg (by decide)] at wv
      obtain ⟨z, rfl⟩ := wv
      rw [if_neg (by simp)] at r
      cases r with
      | cons r1 r2 =>
        cases r2 with
        | cons r3 r4 =>
          obtain ⟨t, rfl⟩ := r1
          obtain ⟨u, rfl⟩ := r3
          obtain ⟨y, rfl⟩ := rv
          exact .str z y t u rfl
section
variable {prog : Program} {w : World} {A : Around} {s : Shared}
theorem key_cmp {c : Bool} : Cmp prog w A s (tuples' true) (PK c s.heap) ltK := by
  rintro ⟨k1, v1⟩ ⟨k2, v2⟩ ⟨x, t, o, n, q1, q2, e, ho, _, hd, r, rv, wv⟩ ⟨x', t', o', n', q1', q2', e', ho', _, hd', r', rv', wv'⟩
  dsimp only at e e' rv rv'
  subst e
  subst e'
  have a := keyOf r rv wv
  have b := keyOf r' rv' wv'
  show wpAny (model prog w) A (keyLt' (tuples' true) (.ref t) (.ref t')) (fun r z => z = s ∧ r = lexI (kv v1) (kv v2)) (fun _ _ => False) s
  refine PySem.W.kat_lt ho hd ho' hd' ?_
  show PySem.W.KatLex prog w A true (decide (2 < 2)) _ [(q1, q1'), (q2, q2')] 0 s
  clear r r' hd hd' rv rv'
  cases a with
  | non t u =>
    cases b with
    | non t' u' =>
      refine PySem.W.kat_cons (SeqAt.EqAt.int_int 0 t 0 t' prog w _ _ ?_)
      refine PySem.W.kat_go (fun _ => ?_) (fun e1 => by simp at e1)
      refine PySem.W.kat_yes (PySem.W.kat_cons (SeqAt.EqAt.int_int 0 u 0 u' prog w _ _ ?_))
      exact PySem.W.kat_go (fun _ => PySem.W.kat_yes (PySem.W.kat_nil ⟨rfl, rfl⟩)) (fun e1 => by simp at e1)
    | int i t' u' v' hc =>
      refine PySem.W.kat_cons (SeqAt.EqAt.int_int 0 t 1 u' prog w _ _ ?_)
      exact PySem.W.kat_go (fun e1 => by simp at e1) (fun _ => PySem.W.kat_no (oneLt_int ⟨rfl, rfl⟩))
    | str z t' u' v' hc =>
      refine PySem.W.kat_cons (SeqAt.EqAt.int_int 0 t 1 u' prog w _ _ ?_)
      exact PySem.W.kat_go (fun e1 => by simp at e1) (fun _ => PySem.W.kat_no (oneLt_int ⟨rfl, rfl⟩))
  | int i t u v hc =>
    cases b with
    | non t' u' =>
      refine PySem.W.kat_cons (SeqAt.EqAt.int_int 1 u 0 t' prog w _ _ ?_)
      exact PySem.W.kat_go (fun e1 => by simp at e1) (fun _ => PySem.W.kat_no (oneLt_int ⟨rfl, rfl⟩))
    | str z t' u' v' hc' => exact nomatch hc.symm.trans hc'
    | int j t' u' v' hc' =>
      refine PySem.W.kat_cons (SeqAt.EqAt.int_int 1 u 1 u' prog w _ _ ?_)
      refine PySem.W.kat_go (fun _ => ?_) (fun e1 => by simp at e1)
      refine PySem.W.kat_yes (PySem.W.kat_cons (SeqAt.EqAt.int_int i v j v' prog w _ _ ?_))
      refine PySem.W.kat_go (fun e2 => ?_) (fun e2 => ?_)
      · have ey : i = j := by simpa using e2
        subst ey
        exact PySem.W.kat_yes (PySem.W.kat_nil ⟨rfl, by simp [kv, lexI]⟩)
      · have ey : ¬ i = j := by simpa using e2
        refine PySem.W.kat_no (PySem.W.kat_one _ _ (PyProof.Rows.lt_int ?_))
        exact (show s = s ∧ decide (i < j) = lexI [1, i] [1, j] from ⟨rfl, by simp [lexI, ey]⟩)
  | str y t u v hc =>
    cases b with
    | non t' u' =>
      refine PySem.W.kat_cons (SeqAt.EqAt.int_int 1 u 0 t' prog w _ _ ?_)
      exact PySem.W.kat_go (fun e1 => by simp at e1) (fun _ => PySem.W.kat_no (oneLt_int ⟨rfl, rfl⟩))
    | int j t' u' v' hc' => exact nomatch hc.symm.trans hc'
    | str z t' u' v' hc' =>
      refine PySem.W.kat_cons (SeqAt.EqAt.int_int 1 u 1 u' prog w _ _ ?_)
      refine PySem.W.kat_go (fun _ => ?_) (fun e1 => by simp at e1)
      refine PySem.W.kat_yes (PySem.W.kat_cons (SeqAt.EqAt.str_str y v z v' prog w _ _ ?_))
      have fin : ∀ b : Bool, b = decide (y.cps.toList < z.cps.toList) → b = lexI (1 :: y.cps.toList.map Int.ofNat) (1 :: z.cps.toList.map Int.ofNat) := by
        intro b hb
        unfold lexI
        rw [if_pos rfl, lexI_nat]
        exact hb
      refine PySem.W.kat_go (fun e2 => ?_) (fun e2 => ?_)
      · have ey : y = z := by simpa using e2
        subst ey
        exact PySem.W.kat_yes (PySem.W.kat_nil ⟨rfl, fin _ (by simp)⟩)
      · refine PySem.W.kat_no (PySem.W.kat_one _ _ (PyProof.Rows.lt_str ?_))
        exact (show s = s ∧ decide (y.cps.toList < z.cps.toList) = lexI _ _ from ⟨rfl, fin _ rfl⟩)
theorem firsts {c : Bool} {h : Heap} : ∀ {ks : List Value}, (∀ k ∈ ks, ∃ v, PK c h (k, v)) → ∃ fs : List Value, PySem.W.KatTups h ks fs ∧ fs.length = ks.length ∧ ∀ f ∈ fs, ∃ x t, f = Value.int x t
  | [], _ => ⟨[], PySem.W.KatTups.nil, rfl, fun _ m => by simp at m⟩
  | k :: ks, hp => by
    obtain ⟨fs, h1, h2, h3⟩ := firsts (ks := ks) fun v m => hp v (List.mem_cons_of_mem _ m)
    obtain ⟨v, x, t, o, n, q1, q2, e, ho, hc, hd, r, rv, wv⟩ := hp k List.mem_cons_self
    dsimp only at e rv
    subst e
    have kk := keyOf r rv wv
    have fi : ∃ i u, q1 = Value.int i u := by
      cases kk with
      | non t u => exact ⟨_, _, rfl⟩
      | int i t u v _ => exact ⟨_, _, rfl⟩
      | str z t u v _ => exact ⟨_, _, rfl⟩
    obtain ⟨i, u, rfl⟩ := fi
    refine ⟨.int i u :: fs, PySem.W.KatTups.cons ho hc hd rfl h1, by rw [List.length_cons, List.length_cons, h2], fun f m => ?_⟩
    rcases List.mem_cons.mp m with rfl | m
    · exact ⟨i, u, rfl⟩
    · exact h3 f m
end
end K01
set_option Elab.async false
set_option linter.all false
set_option maxRecDepth 100000
set_option maxHeartbeats 8000000
namespace K01
open PySem PySem.Spec PyProof.Rows L2 Bs Xg TL SrtO
section
variable {X : Cx} {pins : List (Addr × Obj)} {σ : L2.St} {s : Shared} {fK : Addr} {dK : FuncData} {k : Nat}
theorem vals_at : ∀ {xs : List V} {vs : List Value}, Vals xs vs → ∀ (j : Nat) (v : Value), vs[j]? = some v → ∃ x, xs[j]? = some x ∧ RelV x v
  | _, _, .nil, j, v, h => by simp at h
  | _, _, .cons r t, 0, v, h => by
    simp at h
    subst h
    exact ⟨_, rfl, r⟩
  | _, _, .cons r t, j + 1, v, h => by
    simp only [List.getElem?_cons_succ] at h ⊢
    exact vals_at t j v h
theorem vals_snoc : ∀ {xs : List V} {vs : List Value} {x : V} {v : Value}, Vals xs vs → RelV x v → Vals (xs ++ [x]) (vs ++ [v])
  | _, _, _, _, .nil, r => .cons r .nil
  | _, _, _, _, .cons r t, r' => .cons r (vals_snoc t r')
theorem perm_vals : ∀ {us vs : List Value}, us.Perm vs → ∀ {xs : List V}, Vals xs vs → ∃ ys, Vals ys us ∧ ys.Perm xs := by
  intro us vs h
  induction h with
  | nil =>
    intro xs r
    cases r
    exact ⟨[], .nil, List.Perm.refl _⟩
  | cons v _ ih =>
    intro xs r
    cases r with
    | cons r1 r2 =>
      obtain ⟨ys, a, b⟩ := ih r2
      exact ⟨_ :: ys, .cons r1 a, b.cons _⟩
  | swap v u l =>
    intro xs r
    cases r with
    | cons r1 r2 =>
      cases r2 with
      | cons r3 r4 => exact ⟨_, .cons r3 (.cons r1 r4), List.Perm.swap _ _ _⟩
  | trans _ _ ih1 ih2 =>
    intro xs r
    obtain ⟨ys, a, b⟩ := ih2 r
    obtain ⟨zs, c, d⟩ := ih1 a
    exact ⟨zs, c, d.trans b⟩
/-- list.sort of a by rank -/
theorem sort_rank {H1 : Hp} {a : Addr} {xs : List V} {vs : List Value} {n : Nat} {c : Bool} {E : Value → Shared → Prop} {R : PySem.Fin → Shared → Prop} (FK : FnOk X.prog X.w X.K X.mg X.base CX0 k fK dK ["worth"] spRank) (bK : Binds X.K dK ["worth"] []) (hr : Room (k + 2) X.A)
    (J : Inv X pins σ H1 s) (ha : H1 a = some (.lst xs)) (raw : s.heap.get? a = some (seqObj "list" vs.toArray n)) (rv : Vals xs vs) (wv : ∀ x ∈ xs, Wv c x) (l2 : 2 ≤ xs.length) (l1 : xs.length ≤ 1000)
    (fin : ∀ (s' : Shared) (H' : Hp) (ys : List V) (us : List Value), Inv X pins σ H' s' → (∀ b o, b ≠ a → H1 b = some o → H' b = some o) → H' a = some (.lst ys) → Vals ys us → ys.Perm xs → us.Perm vs → us.Pairwise (fun u v => lexI (kv v) (kv u) = false) → R (.done (.ret .none)) s') :
    wpAny (model X.prog X.w) X.A.in1.in1 (ksk_tree a (.ref fK) false) R E s := by
  have lv : vs.length = xs.length := rv.length.symm
  have big : 1000 ≤ sizeLine := by decide
  unfold ksk_tree
  refine wpAny_bind (listItems_at raw rfl ?_)
  refine wpAny_bind (listUpdate_at raw rfl ?_ (by rw [List.size_toArray]; omega) (Nat.zero_le _))
  obtain ⟨e1, raw2⟩ : ∃ e1, (s.heap.update a (Obj.mapSeq fun _ => #[])).get? a = some (seqObj "list" #[] e1) := ⟨_, get?_update_seq raw (fun _ => #[])⟩
  have J2 : Inv X pins σ (upd H1 a (.lst [])) { s with heap := s.heap.update a (Obj.mapSeq fun _ => #[]) } :=
    J.write (x := a) (e := a) (t' := s.toks) (by rw [ha]; trivial) (.inl rfl) (fun b u hb e => (Heap.get?_update_ne _ _ _ _ hb).trans e) ⟨_, raw2⟩ ⟨Nat.zero_le _, [], e1, .nil, raw2⟩
  refine wpAny_bind (seqEpoch_at raw2 rfl ?_)
  refine wpAny_bind (wpAny_newTuple ?_ (by show vs.length ≤ _; omega))
  have J3 := J2.kept (t' := s.toks) (h' := (s.heap.update a (Obj.mapSeq fun _ => #[])).push { cls := .type "tuple", data := .seq vs.toArray.toList.toArray }) (fun b u e => Heap.get?_push_of_some _ e)
  have raw3 : ((s.heap.update a (Obj.mapSeq fun _ => #[])).push { cls := .type "tuple", data := .seq vs.toArray.toList.toArray }).get? a = some (seqObj "list" #[] e1) := Heap.get?_push_of_some _ raw2
  generalize (s.heap.update a (Obj.mapSeq fun _ => #[])).push { cls := .type "tuple", data := .seq vs.toArray.toList.toArray } = h3 at J3 raw3 ⊢
  refine wpAny_bind (wpAny_newList ?_ (Nat.zero_le _))
  have kS0 : upd H1 a (.lst []) h3.objs.size = none := J3.hok.fresh (Nat.le_refl _)
  have J4 : Inv X pins σ (upd (upd H1 a (.lst [])) h3.objs.size (.lst [])) { s with heap := h3.push { cls := .type "list", data := .seq ([] : List Value).toArray } } :=
    J3.laid (t' := s.toks) (fun b u e => Heap.get?_push_of_some _ e) (Nat.le_refl _) ⟨Nat.zero_le _, [], 0, .nil, Heap.get?_push_size _ rfl⟩
  have raw4 : (h3.push { cls := .type "list", data := .seq ([] : List Value).toArray }).get? a = some (seqObj "list" #[] e1) := Heap.get?_push_of_some _ raw3
  have neS : a ≠ h3.objs.size := Nat.ne_of_lt (Heap.lt_size raw3)
  have hk1 : H1 h3.objs.size = none := by
    rw [upd_ne neS.symm] at kS0
    exact kS0
  generalize hkS : h3.objs.size = kS at *
  generalize h3.push { cls := .type "list", data := .seq ([] : List Value).toArray } = h4 at J4 raw4 ⊢
  have old4 : ∀ b o, b ≠ a → H1 b = some o → upd (upd H1 a (.lst [])) kS (.lst []) b = some o := by
    intro b o nb e
    have e2 : upd H1 a (.lst []) b = some o := by rw [upd_ne nb]; exact e
    rw [upd_ne (ne_of_none e2 kS0)]
    exact e2
  have a4 : upd (upd H1 a (.lst [])) kS (.lst []) a = some (.lst []) := by rw [upd_ne neS, upd_same]
  have k4 : upd (upd H1 a (.lst [])) kS (.lst []) kS = some (.lst []) := upd_same
  generalize upd (upd H1 a (.lst [])) kS (.lst []) = H4 at J4 old4 a4 k4
  have nf := J4.nofrz a4 trivial
  obtain ⟨od, J5⟩ := J4.lock a4 trivial
  have eo : od = seqObj "list" #[] e1 := by
    have q := (J5.hok a _ upd_same).1
    have q' : h4.get? a = some od := q
    rw [raw4] at q'
    exact (Option.some.inj q').symm
  subst eo
  refine wpAny_holding ?_
  unfold ksk_rest
  refine wpAny_bind (wpAny_rule ?_)
  rw [List.forIn_toArray]
  refine wpAny_bind (ksk_fold (fun i s' => ∃ (H' : Hp) (ks : List V), Inv X pins σ H' s' ∧ H' a = some (.frz (seqObj "list" #[] e1) (.lst [])) ∧ H' kS = some (.lst ks) ∧ ks.length = i ∧ (∀ b o, b ≠ a → b ≠ kS → H4 b = some o → H' b = some o) ∧
      (∀ (j : Nat) (y : V), ks[j]? = some y → ∃ (t : Addr) (x : V), y = .ref t ∧ xs[j]? = some x ∧ H' t = some (.tup (rankL x)))) vs 0 { s with heap := h4 } ?start ?step ?done)
  case start =>
    refine ⟨_, [], J5, upd_same, ?_, rfl, fun b o nb _ e => ?_, fun j y e => by simp at e⟩
    · rw [upd_ne neS.symm]
      exact k4
    · rw [upd_ne nb]
      exact e
  case step =>
    rintro j v s' hv ⟨H', ks, I, fa, fk, lk, old, rel⟩
    obtain ⟨x, hx, rx⟩ := vals_at rv j v hv
    have lj : j < vs.length := (List.getElem?_eq_some_iff.mp hv).1
    have hrA : Room k X.A.in1.in1 := (hr.in1).in1
    have e0 : Env0 X.prog X.w X.K X.mg X.base X.A.in1.in1 X.stack s' H' := I.env0.in1.in1
    refine wpAny_bind (wpAny_attempt (wpAny_mono (Q := EP X pins σ (fun y H2 => ∃ t, y = .ref t ∧ H' t = none ∧ H2 = upd H' t (.tup (rankL x)))) (E := fun _ _ => False) ?call ?after (fun _ _ z => z.elim)))
    case call =>
      apply wpAny_call
      apply codeAny_mono (FK.run X.A.in1.in1 X.stack s' H' ⟨[v], []⟩ [v] [x] (fun y H2 => ∃ t, y = .ref t ∧ H' t = none ∧ H2 = upd H' t (.tup (rankL x))) E0 hrA e0 (bK s' [v] I.kIn rfl) (.cons rx .nil) (show spRank [x] H' _ _ from ⟨x, rfl, fun p hp => ⟨p, rfl, hp, rfl⟩⟩))
      intro res s2 z
      match res, z with
      | .error _, z => exact z.elim
      | .ok .next, z => exact z.elim
      | .ok .brk, z => exact z.elim
      | .ok .cont, z => exact z.elim
      | .ok (.ret u), z => exact I.after z
    case after =>
      rintro u s2 ⟨y, H2, I2, ru, t, rfl, ht, rfl⟩
      obtain rfl : u = .ref t := ru
      dsimp only
      have nkt : kS ≠ t := ne_of_none fk ht
      have nat : a ≠ t := ne_of_none fa ht
      have fk2 : upd H' t (.tup (rankL x)) kS = some (.lst ks) := by rw [upd_ne nkt]; exact fk
      obtain ⟨lz, its, m, rk, rawk⟩ := (show ObjOk X.prog X.w _ s2.heap kS (.lst ks) from I2.hok kS _ fk2)
      have li : its.length = j := by rw [← rk.length, lk]; omega
      refine wpAny_bind (listUpdate_at rawk rfl ?_ (by rw [List.size_toArray]; omega) (by rw [Array.size_push, List.size_toArray]; omega))
      obtain ⟨m2, rawk2⟩ : ∃ m2, (s2.heap.update kS (Obj.mapSeq (·.push (Value.ref t)))).get? kS = some (seqObj "list" (its.toArray.push (Value.ref t)) m2) := ⟨_, get?_update_seq rawk (·.push (Value.ref t))⟩
      have I3 : Inv X pins σ (upd (upd H' t (.tup (rankL x))) kS (.lst (ks ++ [.ref t]))) { s2 with heap := s2.heap.update kS (Obj.mapSeq (·.push (Value.ref t))) } :=
        I2.write (x := kS) (e := kS) (t' := s2.toks) (by rw [fk2]; trivial) (.inl rfl) (fun b u hb e => (Heap.get?_update_ne _ _ _ _ hb).trans e) ⟨_, rawk2⟩
          ⟨by rw [List.length_append, lk]; show 0 + j + 1 ≤ _; omega, its ++ [.ref t], m2, vals_snoc rk (show RelV (.ref t) (.ref t) from rfl), by rw [rawk2]; simp [seqObj]⟩
      refine wpAny_pure ⟨rfl, _, ks ++ [.ref t], I3, ?_, upd_same, by rw [List.length_append, lk]; rfl, fun b o n1 n2 e => ?_, fun j' y e => ?_⟩
      · rw [upd_ne neS, upd_ne nat]
        exact fa
      · rw [upd_ne n2, upd_ne (ne_of_none (old b o n1 n2 e) ht)]
        exact old b o n1 n2 e
      · by_cases hj : j' < ks.length
        · rw [List.getElem?_append_left hj] at e
          obtain ⟨t', x', e1, e2, e3⟩ := rel j' y e
          refine ⟨t', x', e1, e2, ?_⟩
          have n1 : t' ≠ kS := by
            intro z
            rw [z, fk] at e3
            cases e3
          rw [upd_ne n1, upd_ne (ne_of_none e3 ht)]
          exact e3
        · have hj' : j' = ks.length := by
            have := (List.getElem?_eq_some_iff.mp e).1
            rw [List.length_append] at this
            simp at this
            omega
          subst hj'
          rw [List.getElem?_append_right (Nat.le_refl _)] at e
          simp at e
          subst e
          refine ⟨t, x, rfl, ?_, ?_⟩
          · rw [lk, Nat.zero_add]
            exact hx
          · rw [upd_ne nkt.symm, upd_same]
  case done =>
    rintro s' ⟨H', ks, I, fa, fk, lk, old, rel⟩
    rw [Nat.zero_add] at lk
    have rawa : s'.heap.get? a = some (seqObj "list" #[] e1) := (I.hok a _ fa).1
    obtain ⟨lz, its, m, rk, rawk⟩ := (show ObjOk X.prog X.w H' s'.heap kS (.lst ks) from I.hok kS _ fk)
    have li : its.length = vs.length := by rw [← rk.length, lk]
    have Iu := I.unlock fa nf
    have pk : ∀ (j : Nat) (kk v : Value), its[j]? = some kk → vs[j]? = some v → PK c s'.heap (kk, v) := by
      intro j kk v hk hv
      obtain ⟨y, hy, ry⟩ := vals_at rk j kk hk
      obtain ⟨t, x, rfl, hx, ht⟩ := rel j y hy
      obtain rfl : kk = .ref t := ry
      obtain ⟨x', hx', rx'⟩ := vals_at rv j v hv
      rw [hx] at hx'
      cases hx'
      obtain ⟨_, its2, rv2, o, ho, hc, m2, hd⟩ := (show ObjOk X.prog X.w H' s'.heap t (.tup (rankL x)) from I.hok t _ ht)
      have l2' : its2.length = 2 := by
        rw [← rv2.length]
        unfold rankL
        split <;> rfl
      match its2, l2', rv2, hd with
      | [q1, q2], _, rv2, hd => exact ⟨x, t, o, m2, q1, q2, rfl, ho, hc, hd, rv2, rx', wv x (List.mem_of_getElem? hx)⟩
    refine wpAny_bind (listItems_at rawk rfl ?_)
    unfold ksk_end
    dsimp only
    rw [if_neg Bool.false_ne_true]
    have szv : vs.toArray.size = vs.length := List.size_toArray ..
    have n2 : ¬ vs.toArray.size < 2 := by omega
    rw [if_neg n2, if_neg n2]
    have fsx : ∀ kk ∈ its, ∃ v, PK c s'.heap (kk, v) := by
      intro kk hk
      obtain ⟨j, hj⟩ := List.mem_iff_getElem?.mp hk
      have lj : j < vs.length := by
        have := (List.getElem?_eq_some_iff.mp hj).1
        omega
      exact ⟨vs[j], pk j kk _ hj (List.getElem?_eq_getElem lj)⟩
    obtain ⟨fs, g1, g2, g3⟩ := firsts fsx
    refine wpAny_bind (PySem.W.kat_kind (T := .type "int") g1 (by omega) (fun f hm => ?_) (by rfl) ?_)
    · obtain ⟨i, u, rfl⟩ := g3 f hm
      exact PySem.W.Looks.now
    have et : (Value.type "int" != Value.type "tuple") = true := by decide +kernel
    rw [et]
    have zl : (its.toArray.zip vs.toArray).toList = its.zip vs := by simp
    have hall : AllL (PK c s'.heap) (its.toArray.zip vs.toArray).toList := by
      intro p hp
      rw [zl] at hp
      obtain ⟨j, hj⟩ := List.mem_iff_getElem?.mp hp
      obtain ⟨h1, h2⟩ := List.getElem?_zip_eq_some.mp hj
      exact pk j p.1 p.2 h1 h2
    refine wpAny_bind (wpAny_mono (wpS_sortO (st0 := SortSt.mk' (tuples' true) (its.toArray.zip vs.toArray) #[] 7 none)
      (Q := fun _ st' => Srtd ltK (arrOf st').toList ∧ Stb ltK (arrOf st').toList (its.toArray.zip vs.toArray).toList ∧ failedOf st' = none) swoK key_cmp rfl hall rfl rfl fun st' a1 a2 a3 => ⟨a1, a2, a3⟩) ?_ fun _ _ e => e)
    rintro ⟨⟨⟩, st'⟩ z ⟨rfl, hp1, hp2, hf⟩
    have pm : ((arrOf st').map (·.2)).toList.Perm vs := by
      rw [Array.toList_map]
      have q := hp2.perm.map Prod.snd
      rw [zl, List.map_snd_zip (by omega)] at q
      exact q
    have so : ((arrOf st').map (·.2)).toList.Pairwise (fun u v => lexI (kv v) (kv u) = false) := by
      rw [Array.toList_map, List.pairwise_map]
      exact hp1
    obtain ⟨ys, ry, py⟩ := perm_vals pm rv
    have ly : ys.length = vs.length := by rw [py.length_eq, lv]
    unfold ksk_tail
    dsimp only
    refine wpAny_bind (listUpdate_at rawk rfl ?_ (by rw [List.size_toArray]; omega) (Nat.zero_le _))
    have rawa2 : (z.heap.update kS (Obj.mapSeq fun _ => #[])).get? a = some (seqObj "list" #[] e1) := (Heap.get?_update_ne _ _ _ _ neS).trans rawa
    obtain ⟨m3, rawk3⟩ : ∃ m3, (z.heap.update kS (Obj.mapSeq fun _ => #[])).get? kS = some (seqObj "list" #[] m3) := ⟨_, get?_update_seq rawk (fun _ => #[])⟩
    have fk' : upd H' a (.lst []) kS = some (.lst ks) := by rw [upd_ne neS.symm]; exact fk
    have Iw := Iu.write (x := kS) (e := kS) (o := .lst []) (t' := z.toks) (h' := z.heap.update kS (Obj.mapSeq fun _ => #[])) (by rw [fk']; trivial) (.inl rfl) (fun b u hb e => (Heap.get?_update_ne _ _ _ _ hb).trans e) ⟨_, rawk3⟩ ⟨Nat.zero_le _, [], m3, .nil, rawk3⟩
    refine wpAny_bind (wpAny_letGo ?_)
    refine wpAny_bind (seqEpoch_at rawa2 rfl ?_)
    have szo : ((arrOf st').map (·.2)).size = vs.length := by
      have := pm.length_eq
      rw [Array.length_toList] at this
      exact this
    generalize hout : (arrOf st').map (·.2) = out at *
    simp only [Bool.false_eq_true, if_false]
    refine wpAny_bind (listUpdate_at rawa2 rfl ?_ (Nat.zero_le _) (by omega))
    rw [hf]
    simp only [bne_self_eq_false, Bool.false_eq_true, if_false]
    obtain ⟨m4, rawa4⟩ : ∃ m4, ((z.heap.update kS (Obj.mapSeq fun _ => #[])).update a (Obj.mapSeq fun _ => out)).get? a = some (seqObj "list" out m4) := ⟨_, get?_update_seq rawa2 (fun _ => out)⟩
    have fa' : upd (upd H' a (.lst [])) kS (.lst []) a = some (.lst []) := by rw [upd_ne neS, upd_same]
    have Iz := Iw.write (x := a) (e := a) (o := .lst ys) (t' := z.toks) (h' := (z.heap.update kS (Obj.mapSeq fun _ => #[])).update a (Obj.mapSeq fun _ => out)) (by rw [fa']; trivial) (.inl rfl) (fun b u hb e => (Heap.get?_update_ne _ _ _ _ hb).trans e) ⟨_, rawa4⟩
      ⟨by omega, out.toList, m4, ry, by rw [rawa4]⟩
    refine wpAny_pure (fin _ _ ys out.toList Iz (fun b o nb e => ?_) upd_same ry py pm so)
    have nk : b ≠ kS := by
      intro q
      have q2 := hk1
      rw [← q] at q2
      rw [e] at q2
      cases q2
    rw [upd_ne nb, upd_ne nk, upd_ne nb]
    exact old b o nb nk (old4 b o nb e)

/-- sorted(xs, key=rank) -/
def rSortRk (K : PySem.W.Frag) (fK : Addr) : List V → List V → Hp → VK → Prop := fun vs zs H Q => ∃ (l : Addr) (xs : List V) (c : Bool), vs = [.ref l] ∧ zs = [.ref fK] ∧ SqL K H l xs ∧ (∀ x ∈ xs, Wv c x) ∧ 2 ≤ xs.length ∧ xs.length ≤ 1000 ∧
  ∀ (ys : List V) (us : List Value) (p : Addr) (H' : Hp), Vals ys us → ys.Perm xs → us.Pairwise (fun u v => lexI (kv v) (kv u) = false) → H p = none → Same H H' → H' p = some (.lst ys) → Q (.ref p) H'
theorem cr_sortRk (FK : FnOk X.prog X.w X.K X.mg X.base CX0 k fK dK ["worth"] spRank) (bK : Binds X.K dK ["worth"] []) (hr : Room (k + 2) X.A) : CallRK X (.builtin "sorted") [Str.ofString "key"] (rSortRk X.K fK) := by
  intro pins s σ H vs zs us ws Q I r rz h
  obtain ⟨l, xs, c, rfl, rfl, hs, wv, l2, l1, q⟩ := h
  obtain rfl := Vals.ref1 r
  obtain ⟨w1, rfl, e1⟩ := vals1 rz
  obtain rfl : w1 = Value.ref fK := e1
  obtain ⟨its, rv, hl, hz⟩ := I.list hs
  have lv : its.length = xs.length := rv.length.symm
  refine call_function_entry_kw kind_sorted plain_sorted entry_sorted (PyProof.Rows.ksk_s1 _ _) ?_
  unfold Builtin.«sorted»
  refine wpAny_bind (m := checkCount "sorted" 1 1 _) (wpAny_pure ?_)
  refine wpAny_bind (collect_list hl.isList ?_ (by omega))
  refine wpAny_bind (wpAny_newList ?_ (by omega))
  have sz1 : ((s.heap.push (seqObj "list" #[] 0)).update s.heap.objs.size (Obj.mapSeq (· ++ its.toArray))).objs.size = s.heap.objs.size + 1 := by rw [Heap.size_update, size_push']
  have at1 : (((s.heap.push (seqObj "list" #[] 0)).update s.heap.objs.size (Obj.mapSeq (· ++ its.toArray))).push (seqObj "list" its.toArray 0)).get? (s.heap.objs.size + 1) = some (seqObj "list" its.toArray 0) := by
    rw [← sz1]
    exact Heap.get?_push_size _ rfl
  have old1 : ∀ b o, s.heap.get? b = some o → (((s.heap.push (seqObj "list" #[] 0)).update s.heap.objs.size (Obj.mapSeq (· ++ its.toArray))).push (seqObj "list" its.toArray 0)).get? b = some o := by
    intro b o e
    have lt := Heap.lt_size e
    apply Heap.get?_push_of_some
    rw [Heap.get?_update_ne _ _ _ _ (Nat.ne_of_lt lt)]
    exact Heap.get?_push_of_some _ e
  show wpAny _ _ _ _ _ { s with heap := ((s.heap.push (seqObj "list" #[] 0)).update s.heap.objs.size (Obj.mapSeq (· ++ its.toArray))).push (seqObj "list" its.toArray 0) }
  rw [sz1]
  generalize ((s.heap.push (seqObj "list" #[] 0)).update s.heap.objs.size (Obj.mapSeq (· ++ its.toArray))).push (seqObj "list" its.toArray 0) = h1 at at1 old1 ⊢
  have new : H (s.heap.objs.size + 1) = none := I.hok.fresh (Nat.le_succ _)
  have J : Inv X pins σ (upd H (s.heap.objs.size + 1) (.lst xs)) { s with heap := h1 } := I.laid (t' := s.toks) old1 (Nat.le_succ _) ⟨hz, its, 0, rv, at1⟩
  refine wpAny_bind (wpAny_holding (wpAny_call_entry_kw slot_list_sort ⟨_, at1, rfl⟩ entry_list_sort ?_ (PyProof.Rows.ksk_l1 _ _)))
  show wpAny _ _ (Builtin.«list.sort» ⟨[.ref (s.heap.objs.size + 1)], [(Str.ofString "key", .ref fK)]⟩) _ _ _
  rw [ksk_t1]
  refine sort_rank FK bK hr J upd_same at1 rv wv l2 l1 fun s' H' ys us I' old e ry py _ so => ?_
  refine ⟨_, rfl, ?_⟩
  refine wpAny_pure ⟨_, rfl, .ref (s.heap.objs.size + 1), H', I', rfl, q ys us _ H' ry py so new (fun b o eb => ?_) e⟩
  have nb := ne_of_none eb new
  exact old b o nb (by rw [upd_ne nb]; exact eb)
end
end K01
set_option Elab.async false
set_option linter.all false
set_option maxRecDepth 100000
set_option maxHeartbeats 4000000
namespace K01
open PySem PySem.Spec PyProof.Rows L2 Bs Xg TL
/-! ### the order of worths -/
def kvV : V → List Int
  | .int i => [1, i]
  | .str z => 1 :: z.cps.toList.map Int.ofNat
  | _ => [0]
theorem kv_of {c : Bool} {x : V} {u : Value} (r : RelV x u) (wv : Wv c x) : kv u = kvV x := by
  rcases wv with rfl | wv
  · cases r
    rfl
  · cases c with
    | true =>
      obtain ⟨i, rfl⟩ := wv
      obtain ⟨t, rfl⟩ := r
      rfl
    | false =>
      obtain ⟨z, rfl⟩ := wv
      obtain ⟨t, rfl⟩ := r
      rfl
def leV (x y : V) : Prop := lexI (kvV y) (kvV x) = false
theorem vals_leV {c : Bool} : ∀ {ys : List V} {us : List Value}, Vals ys us → us.Pairwise (fun u v => lexI (kv v) (kv u) = false) → (∀ x ∈ ys, Wv c x) → ys.Pairwise leV
  | [], _, .nil, _, _ => .nil
  | x :: ys, u :: us, .cons r t, p, w => by
    cases p with
    | cons p0 p1 =>
      refine .cons (fun y hy => ?_) (vals_leV t p1 fun z hz => w z (List.mem_cons_of_mem _ hz))
      obtain ⟨j, hj, rfl⟩ := List.mem_iff_getElem.mp hy
      have hl := t.length
      have hv := p0 us[j] (List.getElem_mem (by omega))
      obtain ⟨x', e, rx⟩ := vals_at t j us[j] (List.getElem?_eq_getElem (by omega))
      rw [List.getElem?_eq_getElem hj] at e
      cases e
      rw [kv_of r (w x List.mem_cons_self), kv_of rx (w _ (List.mem_cons_of_mem _ (List.getElem_mem hj)))] at hv
      exact hv
theorem lexI_anti : ∀ a b : List Int, lexI a b = false → lexI b a = false → a = b
  | [], [], _, _ => rfl
  | [], _ :: _, h, _ => nomatch h
  | _ :: _, [], _, h => nomatch h
  | a :: l, b :: m, h, g => by
    unfold lexI at h g
    by_cases e : a = b
    · subst e
      rw [if_pos rfl] at h g
      rw [lexI_anti l m h g]
    · rw [if_neg e] at h
      rw [if_neg (fun q => e q.symm)] at g
      have := of_decide_eq_false h
      have := of_decide_eq_false g
      exact absurd (by omega) e
theorem ofNat_inj : ∀ l m : List Nat, l.map Int.ofNat = m.map Int.ofNat → l = m
  | [], [], _ => rfl
  | [], _ :: _, h => nomatch h
  | _ :: _, [], h => nomatch h
  | a :: l, b :: m, h => by
    rw [List.map_cons, List.map_cons] at h
    injection h with h1 h2
    rw [Int.ofNat.inj h1, ofNat_inj l m h2]
theorem kvV_inj {c : Bool} {x y : V} (wx : Wv c x) (wy : Wv c y) (h : kvV x = kvV y) : x = y := by
  rcases wx with rfl | wx
  · rcases wy with rfl | wy
    · rfl
    · cases c with
      | true =>
        obtain ⟨i, rfl⟩ := wy
        exact absurd h (by simp [kvV])
      | false =>
        obtain ⟨z, rfl⟩ := wy
        exact absurd h (by simp [kvV])
  · cases c with
    | true =>
      obtain ⟨i, rfl⟩ := wx
      rcases wy with rfl | ⟨j, rfl⟩
      · exact absurd h (by simp [kvV])
      · simp [kvV] at h
        rw [h]
    | false =>
      obtain ⟨z, rfl⟩ := wx
      rcases wy with rfl | ⟨y, rfl⟩
      · exact absurd h (by simp [kvV])
      · unfold kvV at h
        injection h with _ h2
        rw [show z = y from ext_tl (ofNat_inj _ _ h2)]
theorem one_order {c : Bool} {ys zs : List V} (p : ys.Perm zs) (wy : ∀ x ∈ ys, Wv c x) (h1 : ys.Pairwise leV) (h2 : zs.Pairwise leV) : ys = zs :=
  List.Perm.eq_of_pairwise (le := leV) (fun a b ha hb h g => kvV_inj (wy a ha) (wy b (p.mem_iff.mpr hb)) (lexI_anti _ _ g h)) h1 h2 p
/-- None ahead, then the others as they rise -/
theorem due_leV {c : Bool} {ks : List V} (w : ∀ x ∈ ks, x ≠ .non ∧ Wv c x) (h : ks.Pairwise leV) : (V.non :: ks).Pairwise leV := by
  refine .cons (fun y hy => ?_) h
  obtain ⟨nn, wv⟩ := w y hy
  rcases wv with rfl | wv
  · exact absurd rfl nn
  · cases c with
    | true =>
      obtain ⟨i, rfl⟩ := wv
      rfl
    | false =>
      obtain ⟨z, rfl⟩ := wv
      rfl
theorem ints_leV {ns : List Int} (h : ns.Pairwise (· ≤ ·)) : (ns.map V.int).Pairwise leV := by
  rw [List.pairwise_map]
  refine h.imp fun {a b} l => ?_
  show lexI [1, b] [1, a] = false
  simp only [lexI]
  rw [if_pos trivial]
  by_cases e : b = a
  · rw [if_pos e]
  · rw [if_neg e]
    exact decide_eq_false (by omega)
theorem le_str (p x : Str) (h : ltCps x.cps.toList p.cps.toList = false) : leV (.str p) (.str x) := by
  show lexI (1 :: x.cps.toList.map Int.ofNat) (1 :: p.cps.toList.map Int.ofNat) = false
  simp only [lexI]
  rw [if_pos trivial, lexI_nat, ← ltCps_eq]
  exact h
theorem leV_tr {x y z : V} (h : leV x y) (g : leV y z) : leV x z := lexI_tr _ _ _ h g
theorem rise_leV : ∀ (p : Str) (l : List Str), risingS p l = true → ((p :: l).map V.str).Pairwise leV
  | p, [], _ => .cons (fun y hy => nomatch hy) .nil
  | p, x :: r, h => by
    have h' : (!ltCps x.cps.toList p.cps.toList && risingS x r) = true := h
    rw [Bool.and_eq_true, Bool.not_eq_true'] at h'
    have ih := rise_leV x r h'.2
    refine .cons (fun y hy => ?_) ih
    have l0 := le_str p x h'.1
    rcases List.mem_cons.mp hy with rfl | hy
    · exact l0
    · exact leV_tr l0 (List.rel_of_pairwise_cons ih hy)
theorem strs_leV : ∀ (l : List Str), sortedS l = true → (l.map V.str).Pairwise leV
  | [], _ => .nil
  | x :: r, h => rise_leV x r h
/-! ### worths and ranks as data -/
def wD : V → PyData
  | .int i => .int i
  | .str z => .str z
  | _ => .none
def rkD (x : V) : PyData := .tuple ((rankL x).map wD)
/-- a worth of a column whose texts are plain -/
def Wg (c : Bool) (x : V) : Prop := Wv c x ∧ ∀ z, x = .str z → PyData.strOk z = true
section
variable {K : PySem.W.Frag} {H : Hp} {c : Bool}
theorem dpW {x : V} (w : Wv c x) : Dp K H x (wD x) := by
  rcases w with rfl | w
  · exact .non
  · cases c with
    | true =>
      obtain ⟨i, rfl⟩ := w
      exact .int i
    | false =>
      obtain ⟨z, rfl⟩ := w
      exact .str z
theorem dpWs : ∀ {xs : List V}, (∀ x ∈ xs, Wv c x) → DpAll K H xs (xs.map wD)
  | [], _ => .nil
  | _ :: _, w => .cons (dpW (w _ List.mem_cons_self)) (dpWs fun z hz => w z (List.mem_cons_of_mem _ hz))
theorem dp_list {a : Addr} {xs : List V} (e : SqL K H a xs) (w : ∀ x ∈ xs, Wv c x) : Dp K H (.ref a) (.list (xs.map wD)) := .lst e (dpWs w)
theorem lay_w {x : V} (w : Wg c x) : (wD x).canLay0 = true ∧ (wD x).depth = 0 := by
  obtain ⟨w, ok⟩ := w
  rcases w with rfl | w
  · exact ⟨rfl, rfl⟩
  · cases c with
    | true =>
      obtain ⟨i, rfl⟩ := w
      exact ⟨rfl, rfl⟩
    | false =>
      obtain ⟨z, rfl⟩ := w
      exact ⟨ok z rfl, rfl⟩
theorem lay_all {n : Nat} : ∀ {ds : List PyData}, (∀ d ∈ ds, d.canLay0 = true ∧ d.depth ≤ n) → PyData.canLayAll0 ds = true ∧ PyData.depthAll ds ≤ n
  | [], _ => ⟨by simp [PyData.canLayAll0], by simp [PyData.depthAll]⟩
  | d :: ds, h => by
    have q := lay_all fun e he => h e (List.mem_cons_of_mem _ he)
    have q0 := h d List.mem_cons_self
    simp only [PyData.canLayAll0, PyData.depthAll]
    exact ⟨by rw [q0.1, q.1]; rfl, Nat.max_le.mpr ⟨q0.2, q.2⟩⟩
theorem shaped_of {ds : List PyData} (h : ∀ d ∈ ds, d.canLay0 = true ∧ d.depth ≤ 10) : SeqAt.shaped (.list ds) = true := by
  have q := lay_all h
  have e1 : (PyData.list ds).canLay0 = PyData.canLayAll0 ds := by simp only [PyData.canLay0]
  have e2 : (PyData.list ds).depth = PyData.depthAll ds + 1 := by simp only [PyData.depth]
  unfold SeqAt.shaped
  rw [e1, e2, q.1, Bool.true_and]
  exact decide_eq_true (by omega)
theorem shaped_w {xs : List V} (w : ∀ x ∈ xs, Wg c x) : SeqAt.shaped (.list (xs.map wD)) = true := shaped_of fun d hd => by
  obtain ⟨x, hx, rfl⟩ := List.mem_map.mp hd
  have q := lay_w (w x hx)
  exact ⟨q.1, by omega⟩
theorem lay_rk {x : V} (w : Wg c x) : (rkD x).canLay0 = true ∧ (rkD x).depth ≤ 10 := by
  have q := lay_w w
  have l : PyData.canLayAll0 ((rankL x).map wD) = true ∧ PyData.depthAll ((rankL x).map wD) ≤ 0 := by
    refine lay_all fun d hd => ?_
    obtain ⟨y, hy, rfl⟩ := List.mem_map.mp hd
    unfold rankL at hy
    by_cases e : x = .non
    · rw [if_pos e] at hy
      simp only [List.mem_cons, List.not_mem_nil, or_false] at hy
      rcases hy with rfl | rfl <;> exact ⟨rfl, Nat.le_refl _⟩
    · rw [if_neg e] at hy
      simp only [List.mem_cons, List.not_mem_nil, or_false] at hy
      rcases hy with rfl | rfl
      · exact ⟨rfl, Nat.le_refl _⟩
      · exact ⟨q.1, by omega⟩
  unfold rkD
  simp only [PyData.canLay0, PyData.depth]
  exact ⟨l.1, by omega⟩
theorem shaped_rk {xs : List V} (w : ∀ x ∈ xs, Wg c x) : SeqAt.shaped (.list (xs.map rkD)) = true := shaped_of fun d hd => by
  obtain ⟨x, hx, rfl⟩ := List.mem_map.mp hd
  exact lay_rk (w x hx)
theorem dp_rk {p : Addr} {x : V} (w : Wv c x) (e : SqT K H p (rankL x)) : Dp K H (.ref p) (rkD x) := by
  refine .tup e ?_
  unfold rankL
  by_cases q : x = .non
  · rw [if_pos q]
    exact .cons (.int 0) (.cons (.int 0) .nil)
  · rw [if_neg q]
    exact .cons (.int 1) (.cons (dpW w) .nil)
/-- a list of ranks -/
theorem dp_all {f : V → PyData} : ∀ {ys xs : List V}, ys.length = xs.length → (∀ (j : Nat) (y x : V), ys[j]? = some y → xs[j]? = some x → Dp K H y (f x)) → DpAll K H ys (xs.map f)
  | [], [], _, _ => .nil
  | [], _ :: _, h, _ => nomatch h
  | _ :: _, [], h, _ => nomatch h
  | y :: ys, x :: xs, h, g => .cons (g 0 y x rfl rfl) (dp_all (Nat.succ.inj h) fun j a b ha hb => g (j + 1) a b ha hb)
theorem ne_same {d : PyData} (h : SeqAt.shaped d = true) : (!PyData.eqv d d) = false := by rw [SeqAt.eqv_refl d (SeqAt.canLay_of_shaped h)]; rfl
end
/-! ### a comprehension that makes new things -/
section
variable {J : It} {n : Nat} {Gd : Hp → Prop} {Y : Nat → Hp → V → Hp → Prop}
theorem lc_new (w : Walk J n Gd Y) {i : Nat} {te : TE} {σ : L2.St} {H : Hp} {D : Addr} {Q : Hp → Prop} {Z : Nat → V → Prop} (W : Nat → V → Hp → Prop)
    (nD : H D = none) (hY : ∀ j G x G', Y j G x G' → G' = G ∧ Z j x) (hG : ∀ G, Same H G → Gd G)
    (st : ∀ j y G G', (∀ b o, b ≠ D → G b = some o → G' b = some o) → (∃ l, G D = some (.lst l)) → W j y G → W j y G')
    (small : n < 100000) (wp : ∀ x, wipe ((wipe σ [i]).set i (some x)) [i] = wipe σ [i])
    (turn : ∀ j x G (Q' : VK), j < n → Z j x → Same H G → (∀ y G', Same G G' → W j y G' → Q' y G') → te ((wipe σ [i]).set i (some x)) G Q')
    (fin : ∀ G ys, Same H G → G D = some (.lst ys) → ys.length = n → (∀ j y, ys[j]? = some y → W j y G) → Q G) :
    ∃ W' : Nat → Nat → Hp → Prop, (∃ m, W' 0 m (upd H D (.lst []))) ∧ ∀ j m G, W' j m G →
      (J.stop j G ∧ Q G) ∨ (J.go j G ∧ ∃ Nx : Hp → Prop, (∀ G', Nx G' → ∃ m', m' < m ∧ W' (j + 1) m' G') ∧ ∀ x G', J.yld j G x G' → gName i x (wipe σ [i]) G' fun σ2 H2 => wipe σ2 [i] = wipe σ [i] ∧ tYes σ2 H2 fun b H3 =>
        if b = true then te σ2 H3 fun y H4 => ∃ acc, H4 D = some (.lst acc) ∧ acc.length < sizeLine ∧ Nx (upd H4 D (.lst (acc ++ [y]))) else Nx H3) := by
  refine lc_it w (fun j G => Same H G ∧ ∃ ys, G D = some (.lst ys) ∧ ys.length = j ∧ ∀ m y, ys[m]? = some y → W m y G) ⟨Same.new nD, [], upd_same, rfl, fun m y e => by simp at e⟩ (fun j G _ q => hG G q.1) ?_ ?_
  · rintro j x G G' hj ⟨sG, ys, eD, ly, hw⟩ hy
    obtain ⟨rfl, z⟩ := hY _ _ _ _ hy
    refine ⟨wp x, yes ?_⟩
    refine turn j x G' _ hj z sG fun y G2 s2 wy => ?_
    have eD2 : G2 D = some (.lst ys) := s2 _ _ eD
    have kp : ∀ b o, b ≠ D → G2 b = some o → upd G2 D (.lst (ys ++ [y])) b = some o := fun b o nb e => by rw [upd_ne nb]; exact e
    refine ⟨ys, eD2, ?_, fun b o e => ?_, ys ++ [y], upd_same, by rw [List.length_append, ly]; rfl, fun m y' e => ?_⟩
    · rw [ly, sizeLine_eq]
      omega
    · rw [upd_ne (ne_of_none e nD)]
      exact s2 _ _ (sG b o e)
    · by_cases hm : m < ys.length
      · rw [List.getElem?_append_left hm] at e
        exact st _ _ _ _ (fun b o nb eb => kp b o nb (s2 b o eb)) ⟨_, eD⟩ (hw m y' e)
      · have hm' : m = ys.length := by
          have := (List.getElem?_eq_some_iff.mp e).1
          rw [List.length_append] at this
          simp at this
          omega
        subst hm'
        rw [List.getElem?_append_right (Nat.le_refl _)] at e
        simp at e
        subst e
        rw [ly]
        exact st _ _ _ _ (fun b o nb eb => kp b o nb eb) ⟨_, eD2⟩ wy
  · rintro G ⟨sG, ys, eD, ly, hw⟩
    exact fin G ys sG eD ly hw
/-- [x for x in XS if x is not None] -/
theorem lc_keep {K : PySem.W.Frag} {i a D : Addr} {σ : L2.St} {H : Hp} {Q : Hp → Prop} {xs : List V} (e : SqL K H a xs) (nD : H D = none) (few : xs.length < 1000)
    (wp : ∀ x, wipe ((wipe σ [i]).set i (some x)) [i] = wipe σ [i]) (gt : ∀ x, ((wipe σ [i]).set i (some x))[i]? = some (some x)) {tt : TT}
    (ht : ∀ x G (F : Bool → Hp → Prop), x ∈ xs → F (!decide (x = .non)) G → tt ((wipe σ [i]).set i (some x)) G F)
    (fin : ∀ G, Same H G → G D = some (.lst (xs.filter fun x => !decide (x = .non))) → Q G) :
    ∃ W' : Nat → Nat → Hp → Prop, (∃ m, W' 0 m (upd H D (.lst []))) ∧ ∀ j m G, W' j m G →
      ((Itl K a).stop j G ∧ Q G) ∨ ((Itl K a).go j G ∧ ∃ Nx : Hp → Prop, (∀ G', Nx G' → ∃ m', m' < m ∧ W' (j + 1) m' G') ∧ ∀ x G', (Itl K a).yld j G x G' → gName i x (wipe σ [i]) G' fun σ2 H2 => wipe σ2 [i] = wipe σ [i] ∧ tt σ2 H2 fun b H3 =>
        if b = true then tVar i σ2 H3 fun y H4 => ∃ acc, H4 D = some (.lst acc) ∧ acc.length < sizeLine ∧ Nx (upd H4 D (.lst (acc ++ [y]))) else Nx H3) := by
  refine lc_it (walk_list (K := K) (a := a) (xs := xs)) (fun j G => Same H G ∧ G D = some (.lst ((xs.take j).filter fun x => !decide (x = .non)))) ⟨Same.new nD, by rw [List.take_zero]; exact upd_same⟩ (fun j G _ q => sameL q.1 e) ?_ ?_
  · rintro j x G G' hj ⟨sG, eD⟩ ⟨rfl, hx⟩
    refine ⟨wp x, ht x G' _ (List.mem_of_getElem? hx) ?_⟩
    have tk : xs.take (j + 1) = xs.take j ++ [x] := by rw [List.take_succ, hx]; rfl
    by_cases c : x = .non
    · rw [decide_eq_true c]
      show Same H G' ∧ _
      rw [tk, List.filter_append]
      refine ⟨sG, ?_⟩
      rw [eD, c]
      simp
    · rw [decide_eq_false c]
      refine ⟨x, gt x, _, eD, ?_, ?_, ?_⟩
      · have := List.length_filter_le (fun x => !decide (x = V.non)) (xs.take j)
        rw [List.length_take] at this
        rw [sizeLine_eq]
        omega
      · intro b o e
        rw [upd_ne (ne_of_none e nD)]
        exact sG b o e
      · rw [upd_same, tk, List.filter_append]
        simp [c]
  · rintro G ⟨sG, eD⟩
    rw [List.take_length] at eD
    exact fin G sG eD
end
/-! ### lists of ranks -/
def Rks (K : PySem.W.Frag) (G : Hp) (xs ys : List V) : Prop := ys.length = xs.length ∧ ∀ (j : Nat) (y x : V), ys[j]? = some y → xs[j]? = some x → ∃ p, y = .ref p ∧ SqT K G p (rankL x)
section
variable {K : PySem.W.Frag} {G G' : Hp} {xs ys : List V}
theorem Rks.same (r : Rks K G xs ys) (s : Same G G') : Rks K G' xs ys := ⟨r.1, fun j y x h g => by
  obtain ⟨p, e, q⟩ := r.2 j y x h g
  exact ⟨p, e, sameT s q⟩⟩
theorem Rks.dp {c : Bool} {D : Addr} (r : Rks K G xs ys) (e : SqL K G D ys) (w : ∀ x ∈ xs, Wv c x) : Dp K G (.ref D) (.list (xs.map rkD)) :=
  .lst e (dp_all r.1 fun j y x h g => by
    obtain ⟨p, rfl, q⟩ := r.2 j y x h g
    exact dp_rk (w x (List.mem_of_getElem? g)) q)
theorem Rks.cons {x : V} {p : Addr} (r : Rks K G xs ys) (q : SqT K G p (rankL x)) : Rks K G (x :: xs) (.ref p :: ys) := ⟨by rw [List.length_cons, List.length_cons, r.1], fun j y z h g => by
  match j, h, g with
  | 0, h, g =>
    cases h
    cases g
    exact ⟨p, rfl, q⟩
  | j + 1, h, g => exact r.2 j y z h g⟩
/-- [rank(x) for x in XS] -/
theorem rk_lc {i a D : Addr} {σ : L2.St} {H : Hp} {Q : Hp → Prop} {te : TE} {xs : List V} (e : SqL K H a xs) (nD : H D = none) (few : xs.length < 1000)
    (wp : ∀ x, wipe ((wipe σ [i]).set i (some x)) [i] = wipe σ [i])
    (turn : ∀ x G (Q' : VK), x ∈ xs → (∀ p, G p = none → Q' (.ref p) (upd G p (.tup (rankL x)))) → te ((wipe σ [i]).set i (some x)) G Q')
    (fin : ∀ G ys, Same H G → G D = some (.lst ys) → Rks K G xs ys → Q G) :
    ∃ W' : Nat → Nat → Hp → Prop, (∃ m, W' 0 m (upd H D (.lst []))) ∧ ∀ j m G, W' j m G →
      ((Itl K a).stop j G ∧ Q G) ∨ ((Itl K a).go j G ∧ ∃ Nx : Hp → Prop, (∀ G', Nx G' → ∃ m', m' < m ∧ W' (j + 1) m' G') ∧ ∀ x G', (Itl K a).yld j G x G' → gName i x (wipe σ [i]) G' fun σ2 H2 => wipe σ2 [i] = wipe σ [i] ∧ tYes σ2 H2 fun b H3 =>
        if b = true then te σ2 H3 fun y H4 => ∃ acc, H4 D = some (.lst acc) ∧ acc.length < sizeLine ∧ Nx (upd H4 D (.lst (acc ++ [y]))) else Nx H3) := by
  refine lc_new (walk_list (K := K) (a := a) (xs := xs)) (Z := fun j x => xs[j]? = some x) (fun j y G => ∃ p x, y = .ref p ∧ xs[j]? = some x ∧ G p = some (.tup (rankL x))) nD (fun _ _ _ _ e => e) (fun _ s => sameL s e) ?_ (by omega) wp ?_ ?_
  · rintro j y G G' keep ⟨l, el⟩ ⟨p, x, rfl, hx, ep⟩
    refine ⟨p, x, rfl, hx, keep _ _ ?_ ep⟩
    rintro rfl
    rw [el] at ep
    cases ep
  · rintro j x G Q' hj hx sG kk
    exact turn x G Q' (List.mem_of_getElem? hx) fun p np => kk _ _ (Same.new np) ⟨p, x, rfl, hx, upd_same⟩
  · rintro G ys sG eD ly hw
    refine fin G ys sG eD ⟨ly, fun j y x h g => ?_⟩
    obtain ⟨p, x', rfl, hx, ep⟩ := hw j y h
    rw [g] at hx
    cases hx
    exact ⟨p, rfl, SqT.of ep⟩
end
end K01
set_option Elab.async false
set_option linter.all false
set_option maxRecDepth 100000
set_option maxHeartbeats 8000000
namespace K01
open PySem PySem.Spec PyProof.Rows L2 Bs Xg TL
abbrev sRanks : Stmt := top 36
section
variable {P : Program} {w : World} {K : PySem.W.Frag} {mg : Str → Option Value} {base : Heap} {fT fP : Addr} {dT dP : FuncData}
abbrev nRr : List Str := ["_law_hand_here", "_law_numbers", "_law_words_here", "_law_some", "_law_due", "_law_k", "_law_one"]
theorem scRr : FnScope nRr ["_law_hand_here"] (defScope sRanks) := ⟨rfl, rfl, rfl, by decide +kernel, rfl, by decide +kernel, by decide +kernel⟩
def spRanks : Sp := fun vs H Q _ => ∃ (h : Addr) (n : Nat), vs = [.ref h] ∧ HandAt H h n ∧ n + 8 < 1000000 ∧ ∀ H', HandAt H' h (n + 8) → But h H H' → Q (.bl true) H'
/-- some worths of one column, none of them None -/
def Col (c : Bool) (ks : List V) : Prop := ks.length = 4 ∧ ∀ x ∈ ks, x ≠ .non ∧ Wg c x
theorem Col.keep {c : Bool} {ks : List V} (col : Col c ks) : ((ks ++ [V.non]).filter fun x => !decide (x = .non)) = ks := by
  rw [List.filter_append, List.filter_eq_self.mpr fun x hx => by simpa using (col.2 x hx).1]
  simp
theorem Col.ints {ks : List V} (col : Col true ks) : ∃ ns : List Int, ks = ns.map V.int := by
  have := col.2
  clear col
  induction ks with
  | nil => exact ⟨[], rfl⟩
  | cons x r ih =>
    obtain ⟨ns, rfl⟩ := ih fun y hy => this y (List.mem_cons_of_mem _ hy)
    obtain ⟨nn, w, _⟩ := this x List.mem_cons_self
    rcases w with rfl | ⟨i, rfl⟩
    · exact absurd rfl nn
    · exact ⟨i :: ns, rfl⟩
theorem Col.strs {ks : List V} (col : Col false ks) : ∃ zs : List Str, ks = zs.map V.str := by
  have := col.2
  clear col
  induction ks with
  | nil => exact ⟨[], rfl⟩
  | cons x r ih =>
    obtain ⟨zs, rfl⟩ := ih fun y hy => this y (List.mem_cons_of_mem _ hy)
    obtain ⟨nn, w, _⟩ := this x List.mem_cons_self
    rcases w with rfl | ⟨z, rfl⟩
    · exact absurd rfl nn
    · exact ⟨z :: zs, rfl⟩
theorem ok_ranks {f fR : Addr} {fd dR : FuncData} (F : Fun K "_law_ranks_right" "_law_ranks_right" sRanks f fd) (T : Free mg) (T' : Txt mg) (Z : HandF K mg fT fP dT dP) (FR : Fun K "rank" "rank" sRank fR dR) (bR : Binds K dR ["worth"] []) (gR : mg "rank" = some (.ref fR)) (kR : KBinds K dR ["worth"] ["worth"] one one) :
    FnOk P w K mg base CX0 4 f fd ["_law_hand_here"] spRanks := by
  have GT : FnOk P w K mg base CX0 1 fT dT ["_law_hand_here", "_law_many"] spTake := ok_take Z.T
  have GP : FnOk P w K mg base CX0 2 fP dP ["_law_hand_here", "_law_some"] (spPick K) := ok_pick Z.P T' Z.T Z.bT Z.gT
  have GR : FnOk P w K mg base CX0 1 fR dR ["worth"] spRank := ok_rank FR
  have FR0 : FnOk P w K mg base CX0 1 fR dR ["worth"] spRank := ok_rank FR
  refine F.ok scRr (fun vs H Q E h => ?_) (fun cdv A outer s H vs Q E hr h => ?_)
  · obtain ⟨h, n, rfl, _⟩ := h
    rfl
  · obtain ⟨h, n, rfl, hd, nb, k⟩ := h
    have hr1 : Room 1 _ := hr.mono (by decide)
    have hr2 : Room 2 _ := hr.mono (by decide)
    refine ⟨_, pss_cons (ps_set (i := 1) scRr.nd rfl (Or.inl rfl) (pe_op op_cat (pe_lc (own := [("_law_k", 5)]) (g := gName 5) (tt := tYes) rfl scRr.nd (pi_range1 (by rfl) T.range (pa_cons pe_int pa_nil)) (blkOk_by (N := nRr) (sc := defScope sRanks) (by decide +kernel)) (fun _ _ _ _ _ => pg_name (i := 5) scRr.nd rfl (Or.inl rfl)) (fun _ _ _ _ _ => pts_nil) (fun _ _ _ _ _ => (pe_op op_sub (pe_call GT hr1 (by rfl) Z.gT Z.T.kp Z.bT .nil pass0 (pa_cons (pv 0) (pa_cons pe_int pa_nil))) pe_int))) (pe_lst (pa_cons pe_non pa_nil))))
      (pss_cons (ps_set (i := 2) scRr.nd rfl (Or.inl rfl) (pe_op op_cat (pe_lc (own := [("_law_k", 5)]) (g := gName 5) (tt := tYes) rfl scRr.nd (pi_range1 (by rfl) T.range (pa_cons pe_int pa_nil)) (blkOk_by (N := nRr) (sc := defScope sRanks) (by decide +kernel)) (fun _ _ _ _ _ => pg_name (i := 5) scRr.nd rfl (Or.inl rfl)) (fun _ _ _ _ _ => pts_nil) (fun _ _ _ _ _ => (pe_call GP hr2 (by rfl) Z.gP Z.P.kp Z.bP .nil pass0 (pa_cons (pv 0) (pa_cons (pe_lst (pa_cons pe_str (pa_cons pe_str (pa_cons pe_str (pa_cons pe_str (pa_cons pe_str (pa_cons pe_str (pa_cons pe_str (pa_cons pe_str (pa_cons pe_str pa_nil)))))))))) pa_nil))))) (pe_lst (pa_cons pe_non pa_nil))))
      (pss_cons (ps_for PassesOwn.never rfl (pi_tup (pe_tup (pa_cons (pv 1) (pa_cons (pv 2) pa_nil)))) (pg_name (i := 3) scRr.nd rfl (Or.inl rfl)) (pss_cons (ps_set (i := 4) scRr.nd rfl (Or.inl rfl) (pe_op op_cat (pe_lst (pa_cons pe_non pa_nil)) (pe_callB (CallR.or cr_sorted cr_sortedS) (by rfl) T.sorted (by decide +kernel) (pa_cons (pe_lc (own := [("_law_one", 6)]) (g := gName 6) (tt := tTest (tOp (fun x y H Q => y = .non ∧ Q (.bl (!decide (x = .non))) H) (tVar 6) (tC .non))) rfl scRr.nd (pi_list (pv 3)) (blkOk_by (N := nRr) (sc := defScope sRanks) (by decide +kernel)) (fun _ _ _ _ _ => pg_name (i := 6) scRr.nd rfl (Or.inl rfl)) (fun _ _ _ _ _ => pts_one (pt_cmpR op_notN (pv 6) pe_non (nomark _))) (fun _ _ _ _ _ => (pv 6))) pa_nil))))
      (pss_cons (ps_if (PW.pt (pw_or (pt_cmpR (op_neD hr.units) (pe_callBK (cr_sortRk FR0 bR hr) (by rfl) T.sorted (by decide +kernel) (pa_cons (pv 3) pa_nil) (pk_cons (pe_glob (v := V.ref fR) rfl gR rfl) pk_nil)) (pv 4) (nomark _)) (pw_or1 (pt_cmpR (op_neD hr.units) (pe_lc (own := [("_law_one", 6)]) (g := gName 6) (tt := tYes) rfl scRr.nd (pi_list (pv 3)) (blkOk_by (N := nRr) (sc := defScope sRanks) (by decide +kernel)) (fun _ _ _ _ _ => pg_name (i := 6) scRr.nd rfl (Or.inl rfl)) (fun _ _ _ _ _ => pts_nil) (fun _ _ _ _ _ => (callK0 GR hr1 (by rfl) gR FR.kp kR pass0 (pk_cons (pv 6) pk_nil)))) (pe_lc (own := [("_law_one", 6)]) (g := gName 6) (tt := tYes) rfl scRr.nd (pi_list (pv 3)) (blkOk_by (N := nRr) (sc := defScope sRanks) (by decide +kernel)) (fun _ _ _ _ _ => pg_name (i := 6) scRr.nd rfl (Or.inl rfl)) (fun _ _ _ _ _ => pts_nil) (fun _ _ _ _ _ => (pe_call GR hr1 (by rfl) gR FR.kp bR .nil pass0 (pa_cons (pv 6) pa_nil)))) (nomark _))))) (pss_one (ps_ret pe_bl)) (pss_nil))
      (pss_one (ps_if (pt_cmpR (op_neD hr.units) (pe_lc (own := [("_law_one", 6)]) (g := gName 6) (tt := tYes) rfl scRr.nd (pi_list (pv 4)) (blkOk_by (N := nRr) (sc := defScope sRanks) (by decide +kernel)) (fun _ _ _ _ _ => pg_name (i := 6) scRr.nd rfl (Or.inl rfl)) (fun _ _ _ _ _ => pts_nil) (fun _ _ _ _ _ => (pe_call GR hr1 (by rfl) gR FR.kp bR .nil pass0 (pa_cons (pv 6) pa_nil)))) (pe_op op_cat (pe_lst (pa_cons (pe_tup (pa_cons pe_int (pa_cons pe_int pa_nil))) pa_nil)) (pe_lc (own := [("_law_one", 6)]) (g := gName 6) (tt := tYes) rfl scRr.nd (pi_list (pe_slice sl_list (pv 4) (po_some pe_int) po_none)) (blkOk_by (N := nRr) (sc := defScope sRanks) (by decide +kernel)) (fun _ _ _ _ _ => pg_name (i := 6) scRr.nd rfl (Or.inl rfl)) (fun _ _ _ _ _ => pts_nil) (fun _ _ _ _ _ => (pe_tup (pa_cons pe_int (pa_cons (pv 6) pa_nil)))))) (nomark _)) (pss_one (ps_ret pe_bl)) (pss_nil))))))
      (pss_one (ps_ret pe_bl)))), ?_⟩
    refine cutA (fun v G => HandAt G h (n + 4) ∧ But h H G ∧ ∃ N, v = .ref N ∧ N ≠ h ∧ ∃ ks, G N = some (.lst (ks ++ [.non])) ∧ Col true ks) (fun Q' q' => ?_) ?_
    · refine ⟨4, rfl, by decide, by decide, fun D nD => ?_⟩
      have nh : D ≠ h := (hd.fresh nD).symm
      refine lc_map (walk_range (lo := 0) (n := (4 : Int).toNat)) (h := h) (Z := fun j x => True) (fun j G => HandAt G h (n + j)) (fun _ y _ => ∃ i, y = V.int i) nD nh (fun j G x G' e => ⟨e.1, trivial⟩) (fun _ _ => trivial) (fun _ _ _ _ _ _ e => e) (by decide) (fun _ => rfl) hd (fun j G l a => a.old nh.symm) ?_ ?_
      · rintro j x G Q2 hj _ btG hdG _ kk
        exact ⟨_, rfl, h, n + j, _, rfl, hdG, by have : j < 4 := hj; omega, by decide, by decide, fun r G2 r0 r1 hd2 bt2 => ⟨_, _, rfl, rfl, kk _ _ bt2 hd2 ⟨_, rfl⟩⟩⟩
      · rintro G ys btG hdG eD ly hw
        refine ⟨(by show 1 ≤ sizeLine; decide), fun l nl => ?_⟩
        have s1 := Same.new (o := .lst [.non]) nl
        have e1 : upd G l (.lst [.non]) l = some (.lst [.non]) := upd_same
        generalize upd G l (.lst [.non]) = G1 at s1 e1 ⊢
        refine ⟨D, l, _, _, rfl, rfl, s1 _ _ eD, e1, ?_, fun N nN => ?_⟩
        · rw [ly]
          show 4 + 1 ≤ sizeLine
          decide
        have s2 := Same.new (o := .lst (ys ++ [.non])) nN
        refine q' _ _ ⟨(hdG.mono s1 (Nat.le_refl _)).mono s2 (Nat.le_refl _), (btG.trans (But.of s1)).trans (But.of s2), N, rfl, ((hdG.mono s1 (Nat.le_refl _)).fresh nN).symm, ys, upd_same, ly, fun x hx => ?_⟩
        obtain ⟨j, hj, rfl⟩ := List.mem_iff_getElem.mp hx
        obtain ⟨i, ei⟩ := hw j _ (List.getElem?_eq_getElem hj)
        rw [ei]
        exact ⟨fun e => (nomatch e), .inr ⟨i, rfl⟩, fun z e => (nomatch e)⟩
    · rintro v G1 ⟨hd1, bt1, N, rfl, nN, ks1, eN, col1⟩
      refine gN ?_
      dsimp only
      refine cutA (fun v G => HandAt G h (n + 8) ∧ But h G1 G ∧ ∃ N, v = .ref N ∧ ∃ ks, G N = some (.lst (ks ++ [.non])) ∧ Col false ks) (fun Q' q' => ?_) ?_
      · refine ⟨4, rfl, by decide, by decide, fun D nD => ?_⟩
        have nh : D ≠ h := (hd1.fresh nD).symm
        refine lc_map (walk_range (lo := 0) (n := (4 : Int).toNat)) (h := h) (Z := fun j x => True) (fun j G => HandAt G h (n + 4 + j)) (fun _ y _ => ∃ z, y = V.str z ∧ PyData.strOk z = true) nD nh (fun j G x G' e => ⟨e.1, trivial⟩) (fun _ _ => trivial) (fun _ _ _ _ _ _ e => e) (by decide) (fun _ => rfl) hd1 (fun j G l a => a.old nh.symm) ?_ ?_
        · rintro j x G Q2 hj _ btG hdG _ kk
          refine ⟨_, rfl, (by show 9 ≤ sizeLine; decide), fun L nL => ?_⟩
          refine ⟨h, n + 4 + j, _, _, rfl, hdG.mono (Same.new nL) (Nat.le_refl _), by have : j < 4 := hj; omega, (by show 0 < 9; decide), (by show 9 ≤ 1000; decide), .inr ⟨L, rfl, (hdG.fresh nL).symm, SqL.of upd_same⟩, fun y G2 hy hd2 bt2 => ?_⟩
          refine kk _ _ ((But.of (Same.new nL)).trans bt2) hd2 ?_
          simp only [List.mem_cons, List.not_mem_nil, or_false] at hy
          rcases hy with rfl | rfl | rfl | rfl | rfl | rfl | rfl | rfl | rfl <;> exact ⟨_, rfl, by decide +kernel⟩
        · rintro G ys btG hdG eD ly hw
          refine ⟨(by show 1 ≤ sizeLine; decide), fun l nl => ?_⟩
          have s1 := Same.new (o := .lst [.non]) nl
          have e1 : upd G l (.lst [.non]) l = some (.lst [.non]) := upd_same
          generalize upd G l (.lst [.non]) = G2 at s1 e1 ⊢
          refine ⟨D, l, _, _, rfl, rfl, s1 _ _ eD, e1, ?_, fun N nN => ?_⟩
          · rw [ly]
            show 4 + 1 ≤ sizeLine
            decide
          have s2 := Same.new (o := .lst (ys ++ [.non])) nN
          refine q' _ _ ⟨(hdG.mono s1 (Nat.le_refl _)).mono s2 (by show n + 4 + 4 ≤ _; omega), (btG.trans (But.of s1)).trans (But.of s2), N, rfl, ys, upd_same, ly, fun x hx => ?_⟩
          obtain ⟨j, hj, rfl⟩ := List.mem_iff_getElem.mp hx
          obtain ⟨z, ez, oz⟩ := hw j _ (List.getElem?_eq_getElem hj)
          rw [ez]
          exact ⟨fun e => (nomatch e), .inr ⟨z, rfl⟩, fun z' e => by cases e; exact oz⟩
      · rintro v G2 ⟨hd2, bt2, W, rfl, ks2, eW, col2⟩
        refine gN ?_
        try dsimp only
        have eN2 := bt2 _ _ nN eN
        refine ⟨_, rfl, _, rfl, (by show 2 ≤ sizeLine; decide), fun t nt => ?_⟩
        have s3 := Same.new (o := .tup [.ref N, .ref W]) nt
        have e3 : upd G2 t (.tup [.ref N, .ref W]) t = some (.tup [.ref N, .ref W]) := upd_same
        generalize upd G2 t (.tup [.ref N, .ref W]) = G3 at s3 e3 ⊢
        have eN3 := s3 _ _ eN2
        have eW3 := s3 _ _ eW
        refine ⟨t, rfl, ⟨_, SqT.of e3⟩, for_tup (xs := [.ref N, .ref W]) (fun j σ G => Same G3 G ∧ ∃ u3 u4 u5 u6, σ = [some (.ref h), some (.ref N), some (.ref W), u3, u4, u5, u6]) ⟨Same.refl _, none, none, none, none, rfl⟩ (fun j σ G _ pv => SqT.of (pv.1 _ _ e3)) ?_ ?_⟩
        · rintro j v σ G hj ⟨sG, u3, u4, u5, u6, rfl⟩
          obtain ⟨S, c, ks, rfl, eS, col⟩ : ∃ S c ks, v = .ref S ∧ G S = some (.lst (ks ++ [.non])) ∧ Col c ks := by
            match j, hj with
            | 0, hj => cases hj; exact ⟨N, true, ks1, rfl, sG _ _ eN3, col1⟩
            | 1, hj => cases hj; exact ⟨W, false, ks2, rfl, sG _ _ eW3, col2⟩
            | n + 2, hj => exact nomatch hj
          have lk := col.1
          have ls : (ks ++ [V.non]).length = 5 := by rw [List.length_append, lk]; rfl
          refine gN ?_
          try dsimp only
          refine cutA (fun v G' => Same G G' ∧ ∃ d ds, v = .ref d ∧ G' d = some (.lst (.non :: ds)) ∧ ds.Perm ks ∧ ds.Pairwise leV) (fun Q' q' => ?_) ?_
          · refine ⟨(by show 1 ≤ sizeLine; decide), fun l1 n1 => ?_⟩
            have s1 := Same.new (o := .lst [.non]) n1
            have e1 : upd G l1 (.lst [.non]) l1 = some (.lst [.non]) := upd_same
            generalize upd G l1 (.lst [.non]) = H1 at s1 e1 ⊢
            refine ⟨_, rfl, S, rfl, ⟨_, SqL.of (s1 _ _ eS)⟩, fun D nD => lc_keep (K := K) (SqL.of (s1 _ _ eS)) nD (by omega) (fun _ => rfl) (fun _ => rfl) (fun x G' F hx k => ⟨x, rfl, rfl, _, rfl, k⟩) fun H2 s2 eD => ?_⟩
            rw [col.keep] at eD
            have e1' := s2 _ _ e1
            cases c with
            | true =>
              obtain ⟨ns, rfl⟩ := col.ints
              rw [List.length_map] at lk
              refine .inl ⟨D, ns, rfl, SqL.of eD, by omega, fun ns' p pp pw np => ?_⟩
              refine ⟨l1, p, _, _, rfl, rfl, Same.new np _ _ e1', upd_same, ?_, fun d nd => ?_⟩
              · rw [List.length_map, pp.length_eq, lk]
                decide
              · exact q' _ _ ⟨fun _ _ e => Same.new nd _ _ (Same.new np _ _ (s2 _ _ (s1 _ _ e))), d, ns'.map V.int, rfl, upd_same, pp.map _, ints_leV pw⟩
            | false =>
              obtain ⟨zs, rfl⟩ := col.strs
              rw [List.length_map] at lk
              refine .inr ⟨D, zs, rfl, SqL.of eD, by omega, fun zs' p pp pw np => ?_⟩
              refine ⟨l1, p, _, _, rfl, rfl, Same.new np _ _ e1', upd_same, ?_, fun d nd => ?_⟩
              · rw [List.length_map, pp.length_eq, lk]
                decide
              · exact q' _ _ ⟨fun _ _ e => Same.new nd _ _ (Same.new np _ _ (s2 _ _ (s1 _ _ e))), d, zs'.map V.str, rfl, upd_same, pp.map _, strs_leV _ pw⟩
          · rintro v G1 ⟨s1, d, ds, rfl, ed, pm, pw⟩
            refine gN ?_
            try dsimp only
            have ld : ds.length = 4 := by rw [pm.length_eq, lk]
            have wk : ∀ x ∈ ks ++ [V.non], Wg c x := fun x hx => by
              rcases List.mem_append.mp hx with hx | hx
              · exact (col.2 x hx).2
              · rw [List.mem_singleton.mp hx]
                exact ⟨.inl rfl, fun z e => (nomatch e)⟩
            have wd : ∀ x ∈ ds, x ≠ .non ∧ Wg c x := fun x hx => col.2 x (pm.mem_iff.mp hx)
            have wdd : ∀ x ∈ V.non :: ds, Wg c x := fun x hx => by
              rcases List.mem_cons.mp hx with rfl | hx
              · exact ⟨.inl rfl, fun z e => (nomatch e)⟩
              · exact (wd x hx).2
            have eS1 := s1 _ _ eS
            refine cutT (fun σ' G' => σ' = [some (.ref h), some (.ref N), some (.ref W), some (.ref S), some (.ref d), u5, u6] ∧ Same G1 G') (fun Nx nx => ?_) ?_
            · refine ⟨_, rfl, S, ks ++ [.non], c, rfl, rfl, SqL.of eS1, fun x hx => (wk x hx).1, by omega, by omega, fun ys us p G2 vals perm pwr np s2 ep => ?_⟩
              have same : ys = .non :: ds := by
                have wy : ∀ x ∈ ys, Wv c x := fun x hx => (wk x (perm.mem_iff.mp hx)).1
                refine one_order ?_ wy (vals_leV vals pwr wy) (due_leV (fun x hx => ⟨(wd x hx).1, (wd x hx).2.1⟩) pw)
                refine perm.trans ?_
                refine List.perm_append_comm.trans ?_
                exact List.Perm.cons _ pm.symm
              subst same
              refine ⟨_, rfl, (PyData.list ((V.non :: ds).map wD)), (PyData.list ((V.non :: ds).map wD)), dp_list (SqL.of ep) (fun x hx => (wdd x hx).1), dp_list (SqL.of (s2 _ _ ed)) (fun x hx => (wdd x hx).1), shaped_w wdd, shaped_w wdd, _, rfl, ?_⟩
              rw [ne_same (shaped_w wdd)]
              refine iteF ?_
              refine ⟨_, rfl, S, rfl, ⟨_, SqL.of (s2 _ _ eS1)⟩, fun D1 nD1 => rk_lc (K := K) (SqL.of (s2 _ _ eS1)) nD1 (by omega) (fun _ => rfl) (fun x G' Q' hx kk => ⟨_, rfl, x, rfl, kk⟩) fun K1 ys1 t1 eD1 rk1 => ?_⟩
              refine ⟨_, rfl, S, rfl, ⟨_, SqL.of (t1 _ _ (s2 _ _ eS1))⟩, fun D2 nD2 => rk_lc (K := K) (SqL.of (t1 _ _ (s2 _ _ eS1))) nD2 (by omega) (fun _ => rfl) (fun x G' Q' hx kk => ⟨_, rfl, x, rfl, kk⟩) fun K2 ys2 t2 eD2 rk2 => ?_⟩
              refine ⟨PyData.list ((ks ++ [V.non]).map rkD), PyData.list ((ks ++ [V.non]).map rkD), (rk1.same t2).dp (SqL.of (t2 _ _ eD1)) (fun x hx => (wk x hx).1), rk2.dp (SqL.of eD2) (fun x hx => (wk x hx).1), shaped_rk wk, shaped_rk wk, _, rfl, ?_⟩
              rw [ne_same (shaped_rk wk)]
              refine iteF ?_
              exact nx _ _ ⟨rfl, fun _ _ e => t2 _ _ (t1 _ _ (s2 _ _ e))⟩
            · rintro σ' G2 ⟨rfl, s2⟩
              have ed2 := s2 _ _ ed
              refine ⟨_, rfl, d, rfl, ⟨_, SqL.of ed2⟩, fun D1 nD1 => rk_lc (K := K) (SqL.of ed2) nD1 (by rw [List.length_cons]; omega) (fun _ => rfl) (fun x G' Q' hx kk => ⟨_, rfl, x, rfl, kk⟩) fun K1 ys1 t1 eD1 rk1 => ?_⟩
              refine ⟨(by show 2 ≤ sizeLine; decide), fun p0 np0 => ?_⟩
              have t2 := Same.new (o := .tup [.int 0, .int 0]) np0
              have ep0 : upd K1 p0 (.tup [.int 0, .int 0]) p0 = some (.tup [.int 0, .int 0]) := upd_same
              generalize upd K1 p0 (.tup [.int 0, .int 0]) = K2 at t2 ep0 ⊢
              refine ⟨(by show 1 ≤ sizeLine; decide), fun l0 nl0 => ?_⟩
              have t3 := Same.new (o := .lst [.ref p0]) nl0
              have el0 : upd K2 l0 (.lst [.ref p0]) l0 = some (.lst [.ref p0]) := upd_same
              generalize upd K2 l0 (.lst [.ref p0]) = K3 at t3 el0 ⊢
              have ed3 := t3 _ _ (t2 _ _ (t1 _ _ ed2))
              refine ⟨_, rfl, _, rfl, ?_⟩
              dsimp only [tNoPart]
              refine ⟨d, _, rfl, SqL.of ed3, fun d1 nd1 => ?_⟩
              have cf : cutV (V.non :: ds) (some 1) none = ds := cut_from (V.non :: ds) 1
              rw [cf]
              have t4 := Same.new (o := .lst ds) nd1
              have ed1 : upd K3 d1 (.lst ds) d1 = some (.lst ds) := upd_same
              generalize upd K3 d1 (.lst ds) = K4 at t4 ed1 ⊢
              refine ⟨d1, rfl, ⟨_, SqL.of ed1⟩, fun D2 nD2 => rk_lc (K := K) (SqL.of ed1) nD2 (by omega) (fun _ => rfl) (fun x G' Q' hx kk => ?_) fun K5 ys2 t5 eD2 rk2 => ?_⟩
              · have r1 : rankL x = [.int 1, x] := if_neg (wd x hx).1
                rw [r1] at kk
                exact ⟨_, rfl, (by show 2 ≤ sizeLine; decide), kk⟩
              · have r0 : rankL .non = [.int 0, .int 0] := if_pos rfl
                refine ⟨l0, D2, _, _, rfl, rfl, t5 _ _ (t4 _ _ el0), eD2, ?_, fun d2 nd2 => ?_⟩
                · rw [rk2.1, ld]
                  show 1 + 4 ≤ sizeLine
                  decide
                have t6 := Same.new (o := .lst ([.ref p0] ++ ys2)) nd2
                have ed2' : upd K5 d2 (.lst ([.ref p0] ++ ys2)) d2 = some (.lst ([.ref p0] ++ ys2)) := upd_same
                generalize upd K5 d2 (.lst ([.ref p0] ++ ys2)) = K6 at t6 ed2' ⊢
                have rkA := rk1.same (G' := K6) fun _ _ e => t6 _ _ (t5 _ _ (t4 _ _ (t3 _ _ (t2 _ _ e))))
                have rkB := (rk2.same t6).cons (x := .non) (p := p0) (by rw [r0]; exact SqT.of (t6 _ _ (t5 _ _ (t4 _ _ (t3 _ _ ep0)))))
                refine ⟨PyData.list ((V.non :: ds).map rkD), PyData.list ((V.non :: ds).map rkD), rkA.dp (SqL.of (t6 _ _ (t5 _ _ (t4 _ _ (t3 _ _ (t2 _ _ eD1)))))) (fun x hx => (wdd x hx).1), rkB.dp (SqL.of ed2') (fun x hx => (wdd x hx).1), shaped_rk wdd, shaped_rk wdd, _, rfl, ?_⟩
                rw [ne_same (shaped_rk wdd)]
                refine iteF ?_
                exact ⟨fun _ _ e => t6 _ _ (t5 _ _ (t4 _ _ (t3 _ _ (t2 _ _ (t1 _ _ (s2 _ _ (s1 _ _ (sG _ _ e)))))))), _, _, _, _, rfl⟩
        · rintro σ G ⟨sG, u3, u4, u5, u6, rfl⟩
          have z : Same G2 G := fun _ _ e => sG _ _ (s3 _ _ e)
          exact k G (hd2.mono z (Nat.le_refl _)) ((bt1.trans bt2).trans (But.of z))
end
end K01
set_option Elab.async false
set_option linter.all false
set_option maxRecDepth 100000
set_option maxHeartbeats 16000000
namespace K01
open PySem PySem.Spec PyProof.Rows L2 Bs Xg TL
abbrev sLaw : Stmt := top 37
/-- the defs as they stand -/
structure Defs (K : PySem.W.Frag) (mg : Str → Option Value) (fH fW fO fB fR fTr : Addr) (dH dW dO dB dR dTr : FuncData) : Prop where
  FH : Fun K "_law_hand" "_law_hand" sHand fH dH
  bH : Binds K dH ["_law_script", "_law_k"] []
  gH : mg "_law_hand" = some (.ref fH)
  FW : Fun K "_law_words" "_law_words" sWords fW dW
  bW : Binds K dW ["_law_hand_here", "_law_many"] []
  gW : mg "_law_words" = some (.ref fW)
  FO : Fun K "_law_odd_one" "_law_odd_one" sOdd fO dO
  bO : Binds K dO ["_law_hand_here"] []
  gO : mg "_law_odd_one" = some (.ref fO)
  FB : Fun K "_law_bent" "_law_bent" sBent fB dB
  bB : Binds K dB ["_law_hand_here", "_law_item", "_law_deep"] []
  gB : mg "_law_bent" = some (.ref fB)
  FR : Fun K "_law_ranks_right" "_law_ranks_right" sRanks fR dR
  bR : Binds K dR ["_law_hand_here"] []
  gR : mg "_law_ranks_right" = some (.ref fR)
  FTr : Fun K "_law_told_right" "_law_told_right" sTold fTr dTr
  bTr : Binds K dTr ["_law_item"] []
  gTr : mg "_law_told_right" = some (.ref fTr)
section
variable {P : Program} {w : World} {K : PySem.W.Frag} {mg : Str → Option Value} {base : Heap} {fT fP : Addr} {dT dP : FuncData}
abbrev nLaw : List Str := ["_law_script", "_law_k", "_law_hand_here", "_law_cols", "_law_forms", "_law_shapes", "_law_turn", "_law_item", "_law_col", "_law_one"]
theorem scLaw : FnScope nLaw ["_law_script"] (defScope sLaw) := ⟨rfl, rfl, rfl, by decide +kernel, rfl, by decide +kernel, by decide +kernel⟩
def spLaw (K : PySem.W.Frag) : Sp := fun vs H Q _ => ∃ (a : Addr) (ns : List Int), vs = [.ref a] ∧ SqL K H a (ns.map V.int) ∧ ns.length ≤ 63 ∧ ∀ H', Q (.bl true) H'
/-! ### the items -/
theorem rc_len : ∀ c : Nat, c < 127 → (rC 34 c).length ≤ 4 ∧ (rC 39 c).length ≤ 4 := by decide +kernel
theorem sh_len {L : Nat} {z : Str} (g : Good L z) : (sh (.str z)).length ≤ 4 * L + 2 := by
  rw [sh_str, tl_repr]
  have e : ∀ (q : Nat) (l : List Nat), q = 34 ∨ q = 39 → (∀ c ∈ l, 32 ≤ c ∧ c < 127) → (l.flatMap (rC q)).length ≤ 4 * l.length := by
    intro q l hq
    induction l with
    | nil => intro _; exact Nat.zero_le _
    | cons c r ih =>
      intro h
      have h1 := ih fun d hd => h d (List.mem_cons_of_mem _ hd)
      have h2 := rc_len c (h c List.mem_cons_self).2
      rw [List.flatMap_cons, List.length_append, List.length_cons]
      rcases hq with rfl | rfl
      · have := h2.1
        omega
      · have := h2.2
        omega
  have e1 := e _ (tl z) (quote_two z) g.2
  have gl := g.1
  rw [len_tl] at gl
  rw [List.length_append, List.length_cons, List.length_singleton]
  omega
/-- without lists and dicts -/
def nl : Nat → PyData → Bool
  | _, .none => true
  | _, .bool _ => true
  | _, .int _ => true
  | _, .str _ => true
  | _, .dict _ => false
  | _, .list _ => false
  | 0, .tuple l => l.isEmpty
  | n + 1, .tuple l => l.all (nl n)
theorem SqN.set {H H' : Hp} {S a : Addr} {xs : List V} (q : SqN H a xs) (keep : ∀ o, a ≠ S → H a = some o → H' a = some o) (l : ∃ ys, H S = some (.lst ys)) : SqN H' a xs := by
  obtain ⟨o, e, d⟩ := q
  obtain ⟨ys, el⟩ := l
  refine ⟨o, keep _ ?_ e, d⟩
  rintro rfl
  rw [el] at e
  cases e
theorem SqF.set {H H' : Hp} {S a : Addr} {xs : List V} (q : SqF H a xs) (keep : ∀ o, a ≠ S → H a = some o → H' a = some o) (l : ∃ ys, H S = some (.lst ys)) : SqF H' a xs := by
  obtain ⟨o, e⟩ := q
  obtain ⟨ys, el⟩ := l
  refine ⟨o, keep _ ?_ e⟩
  rintro rfl
  rw [el] at e
  cases e
theorem Dk.set {K : PySem.W.Frag} {H H' : Hp} {h S : Addr} {x : V} {d : PyData} (q : Dk K H h x d) (keep : ∀ b o, b ≠ S → b ≠ h → H b = some o → H' b = some o) (l : ∃ ys, H S = some (.lst ys)) : Dk K H' h x d := by
  induction q with
  | non => exact .non
  | bl b => exact .bl b
  | int i => exact .int i
  | str z => exact .str z
  | @d0 a n e =>
    refine .d0 n (keep _ _ ?_ n e)
    obtain ⟨ys, el⟩ := l
    rintro rfl
    rw [el] at e
    cases e
  | lst ps n e _ ih => exact .lst ps n (e.set (fun o ns => keep _ o ns n) l) ih
  | tup ps n e _ ih => exact .tup ps n (e.set (fun o ns => keep _ o ns n) l) ih
def Itm (K : PySem.W.Frag) (G : Hp) (h : Addr) (x : V) : Prop := ∃ a ps, x = .ref a ∧ ItemT K G h a 5 ps ∧ wt (ps.map (·.2)) ≤ 400 ∧ ∀ p ∈ ps, nl 5 p.2 = true
theorem Itm.but {K : PySem.W.Frag} {G G' : Hp} {h : Addr} {x : V} (i : Itm K G h x) (b : But h G G') : Itm K G' h x := by
  obtain ⟨a, ps, e, it, l⟩ := i
  exact ⟨a, ps, e, it.but b, l⟩
theorem Itm.set {K : PySem.W.Frag} {G G' : Hp} {h S : Addr} {x : V} (i : Itm K G h x) (keep : ∀ b o, b ≠ S → G b = some o → G' b = some o) (l : ∃ ys, G S = some (.lst ys)) : Itm K G' h x := by
  obtain ⟨a, ps, e, it, w, t⟩ := i
  exact ⟨a, ps, e, ⟨it.sq.set (fun o ns => keep _ o ns) l, it.ne, fun p hp => (it.dk p hp).set (fun b o ns _ => keep b o ns) l, it.gd, it.few⟩, w, t⟩
theorem item_made {K : PySem.W.Frag} {G : Hp} {h a : Addr} {ps : List (V × PyData)} (i : ItemT K G h a 5 ps) : Dk K G h (.ref a) (.tuple (ps.map (·.2))) ∧ gd 6 (.tuple (ps.map (·.2))) = true := made i.sq i.ne i.dk i.gd
theorem Itm.told {K : PySem.W.Frag} {G : Hp} {h : Addr} {x : V} (i : Itm K G h x) : ∃ d, Dk K G h x d ∧ fitR d := by
  obtain ⟨a, ps, rfl, it, l, _⟩ := i
  refine ⟨_, (item_made it).1, (item_made it).2, ?_⟩
  have := (sh_wt (ps.map (·.2))).2
  omega
/-- what is bent, as an item again -/
theorem Dk.item {K : PySem.W.Frag} {G : Hp} {h : Addr} {x : V} {d : PyData} (k : Dk K G h x d) (g : gd 6 d = true) (l : (sh d).length ≤ 2000) (t : isT "tuple" d = true) : ∃ a ps, x = .ref a ∧ d = .tuple (ps.map (·.2)) ∧ ItemT K G h a 5 ps ∧ wt (ps.map (·.2)) ≤ 2000 := by
  cases k with
  | @tup a ps n e p =>
    have := (sh_wt (ps.map (·.2))).1
    refine ⟨a, ps, rfl, rfl, ⟨e, n, p, fun q hq => (gd_tup 5 _).mp g _ (List.mem_map.mpr ⟨q, hq, rfl⟩), by omega⟩, by omega⟩
  | non => exact nomatch t
  | bl b => cases b <;> exact nomatch t
  | int i => exact nomatch t
  | str z => exact nomatch t
  | d0 _ _ => exact nomatch t
  | lst _ _ _ _ => exact nomatch t
/-- a tuple of texts -/
theorem texts_item {K : PySem.W.Frag} {G : Hp} {h t : Addr} {zs : List Str} (e : SqN G t (zs.map V.str)) (n : t ≠ h) (g : ∀ z ∈ zs, Good 8 z) (l : zs.length ≤ 6) : Dk K G h (.ref t) (.tuple (zs.map .str)) ∧ gd 1 (.tuple (zs.map .str)) = true ∧ (sh (.tuple (zs.map .str))).length ≤ 250 := by
  have q := Dk.tup (K := K) (H := G) (h := h) (a := t) (zs.map fun z => (V.str z, PyData.str z)) n (by rw [List.map_map]; exact e) (fun p hp => by
    obtain ⟨z, _, rfl⟩ := List.mem_map.mp hp
    exact .str z)
  rw [List.map_map] at q
  refine ⟨q, (gd_tup 0 _).mpr fun d hd => ?_, ?_⟩
  · obtain ⟨z, hz, rfl⟩ := List.mem_map.mp hd
    have := (g z hz).1
    exact decide_eq_true (by omega)
  · have b : ∀ ws : List Str, (∀ z ∈ ws, Good 8 z) → wt (ws.map .str) ≤ 36 * ws.length := by
      intro ws
      induction ws with
      | nil => intro _; exact Nat.le_refl _
      | cons z r ih =>
        intro h
        have h1 := ih fun y hy => h y (List.mem_cons_of_mem _ hy)
        have h2 := sh_len (h z List.mem_cons_self)
        rw [List.map_cons, wt_cons, List.length_cons]
        omega
    have h1 := b zs g
    have h2 := (sh_wt (zs.map PyData.str)).2
    omega
def gnl (d : PyData) : Bool := gd 5 d && nl 5 d
theorem mk_item {K : PySem.W.Frag} {G : Hp} {h t : Addr} (ps : List (V × PyData)) (sq : SqN G t (ps.map (·.1))) (n : t ≠ h) (k : ∀ p ∈ ps, Dk K G h p.1 p.2 ∧ gnl p.2 = true) (l : wt (ps.map (·.2)) ≤ 400) : Itm K G h (.ref t) :=
  ⟨t, ps, rfl, ⟨sq, n, fun p hp => (k p hp).1, fun p hp => (Bool.and_eq_true_iff.mp (k p hp).2).1, by omega⟩, l, fun p hp => (Bool.and_eq_true_iff.mp (k p hp).2).2⟩
theorem two_item {K : PySem.W.Frag} {G : Hp} {h t : Addr} {y : String} {x : V} {d : PyData} (sq : SqN G t [.str (Str.ofString y), x]) (n : t ≠ h) (ky : (sh (.str (Str.ofString y))).length ≤ 20 ∧ gnl (.str (Str.ofString y)) = true) (k : Dk K G h x d) (g : gnl d = true) (l : (sh d).length ≤ 100) : Itm K G h (.ref t) := by
  refine mk_item [(.str (Str.ofString y), .str (Str.ofString y)), (x, d)] sq n (fun p hp => ?_) ?_
  · simp only [List.mem_cons, List.not_mem_nil, or_false] at hp
    rcases hp with rfl | rfl
    · exact ⟨.str _, ky.2⟩
    · exact ⟨k, g⟩
  · show wt [.str (Str.ofString y), d] ≤ 400
    rw [wt_cons, wt_cons]
    have : wt [] = 0 := rfl
    have := ky.1
    omega
theorem three_item {K : PySem.W.Frag} {G : Hp} {h t : Addr} {y : String} {x z : V} {d e : PyData} (sq : SqN G t [.str (Str.ofString y), x, z]) (n : t ≠ h) (ky : (sh (.str (Str.ofString y))).length ≤ 20 ∧ gnl (.str (Str.ofString y)) = true) (k : Dk K G h x d) (g : gnl d = true) (l : (sh d).length ≤ 100) (k2 : Dk K G h z e) (g2 : gnl e = true) (l2 : (sh e).length ≤ 250) : Itm K G h (.ref t) := by
  refine mk_item [(.str (Str.ofString y), .str (Str.ofString y)), (x, d), (z, e)] sq n (fun p hp => ?_) ?_
  · simp only [List.mem_cons, List.not_mem_nil, or_false] at hp
    rcases hp with rfl | rfl | rfl
    · exact ⟨.str _, ky.2⟩
    · exact ⟨k, g⟩
    · exact ⟨k2, g2⟩
  · show wt [.str (Str.ofString y), d, e] ≤ 400
    rw [wt_cons, wt_cons, wt_cons]
    have : wt [] = 0 := rfl
    have := ky.1
    omega
theorem four_item {K : PySem.W.Frag} {G : Hp} {h t : Addr} {y : String} {x x2 z : V} {d d2 e : PyData} (sq : SqN G t [.str (Str.ofString y), x, x2, z]) (n : t ≠ h) (ky : (sh (.str (Str.ofString y))).length ≤ 20 ∧ gnl (.str (Str.ofString y)) = true) (k : Dk K G h x d) (g : gnl d = true) (l : (sh d).length ≤ 50) (k1 : Dk K G h x2 d2) (g1 : gnl d2 = true) (l1 : (sh d2).length ≤ 50) (k2 : Dk K G h z e) (g2 : gnl e = true) (l2 : (sh e).length ≤ 250) : Itm K G h (.ref t) := by
  refine mk_item [(.str (Str.ofString y), .str (Str.ofString y)), (x, d), (x2, d2), (z, e)] sq n (fun p hp => ?_) ?_
  · simp only [List.mem_cons, List.not_mem_nil, or_false] at hp
    rcases hp with rfl | rfl | rfl | rfl
    · exact ⟨.str _, ky.2⟩
    · exact ⟨k, g⟩
    · exact ⟨k1, g1⟩
    · exact ⟨k2, g2⟩
  · show wt [.str (Str.ofString y), d, d2, e] ≤ 400
    rw [wt_cons, wt_cons, wt_cons, wt_cons]
    have : wt [] = 0 := rfl
    have := ky.1
    omega
/-- one sign of a text -/
theorem sign_data {z : Str} {y : V} (g : z.cps.toList.all (fun c => decide (32 ≤ c) && decide (c < 127)) = true) (hy : y ∈ z.cps.toList.map fun c => V.str ⟨#[c]⟩) {K : PySem.W.Frag} {G : Hp} {h : Addr} : ∃ d, Dk K G h y d ∧ gnl d = true ∧ (sh d).length ≤ 50 := by
  obtain ⟨c, hc, rfl⟩ := List.mem_map.mp hy
  have gc := List.all_eq_true.mp g c hc
  rw [Bool.and_eq_true, decide_eq_true_eq, decide_eq_true_eq] at gc
  have gd1 : Good 1 ⟨#[c]⟩ := ⟨Nat.le_refl 1, fun d hd => by rw [show d = c from List.mem_singleton.mp hd]; exact gc⟩
  have := sh_len gd1
  exact ⟨_, .str _, rfl, by omega⟩
theorem texts_nl (zs : List Str) (g : ∀ z ∈ zs, Good 8 z) : gnl (.tuple (zs.map .str)) = true := by
  refine Bool.and_eq_true_iff.mpr ⟨(gd_tup 4 _).mpr fun d hd => ?_, List.all_eq_true.mpr fun d hd => ?_⟩
  · obtain ⟨z, hz, rfl⟩ := List.mem_map.mp hd
    have := (g z hz).1
    exact decide_eq_true (by omega)
  · obtain ⟨z, hz, rfl⟩ := List.mem_map.mp hd
    rfl
/-- a tuple of widths -/
theorem widths_item {K : PySem.W.Frag} {G : Hp} {h t : Addr} {ys : List V} (e : SqN G t ys) (n : t ≠ h) (g : ∀ y ∈ ys, y = .int 1 ∨ y = .int 20 ∨ y = .int 7) (l : ys.length ≤ 6) : ∃ d, Dk K G h (.ref t) d ∧ gnl d = true ∧ (sh d).length ≤ 100 := by
  obtain ⟨is, rfl, gi⟩ : ∃ is : List Int, ys = is.map V.int ∧ ∀ i ∈ is, i = 1 ∨ i = 20 ∨ i = 7 := by
    clear e l
    induction ys with
    | nil => exact ⟨[], rfl, fun i hi => nomatch hi⟩
    | cons y r ih =>
      obtain ⟨is, rfl, gi⟩ := ih fun z hz => g z (List.mem_cons_of_mem _ hz)
      rcases g y List.mem_cons_self with rfl | rfl | rfl
      · exact ⟨1 :: is, rfl, fun i hi => (List.mem_cons.mp hi).elim (fun q => .inl q) (gi i)⟩
      · exact ⟨20 :: is, rfl, fun i hi => (List.mem_cons.mp hi).elim (fun q => .inr (.inl q)) (gi i)⟩
      · exact ⟨7 :: is, rfl, fun i hi => (List.mem_cons.mp hi).elim (fun q => .inr (.inr q)) (gi i)⟩
  have q := Dk.tup (K := K) (H := G) (h := h) (a := t) (is.map fun i => (V.int i, PyData.int i)) n (by rw [List.map_map]; exact e) (fun p hp => by
    obtain ⟨z, _, rfl⟩ := List.mem_map.mp hp
    exact .int z)
  rw [List.map_map] at q
  refine ⟨_, q, Bool.and_eq_true_iff.mpr ⟨(gd_tup 4 _).mpr fun d hd => ?_, List.all_eq_true.mpr fun d hd => ?_⟩, ?_⟩
  · obtain ⟨i, hi, rfl⟩ := List.mem_map.mp hd
    rcases gi i hi with rfl | rfl | rfl <;> decide +kernel
  · obtain ⟨i, hi, rfl⟩ := List.mem_map.mp hd
    rfl
  · have b : ∀ ws : List Int, (∀ i ∈ ws, i = 1 ∨ i = 20 ∨ i = 7) → wt (ws.map .int) ≤ 4 * ws.length := by
      intro ws
      induction ws with
      | nil => intro _; exact Nat.le_refl _
      | cons z r ih =>
        intro h
        have h1 := ih fun y hy => h y (List.mem_cons_of_mem _ hy)
        have h2 : (sh (.int z)).length ≤ 2 := by
          rcases h z List.mem_cons_self with rfl | rfl | rfl <;> decide +kernel
        rw [List.map_cons, wt_cons, List.length_cons]
        omega
    have h1 := b is gi
    have h2 := (sh_wt (is.map PyData.int)).2
    rw [List.length_map] at l
    have e : (is.map ((fun p : V × PyData => p.2) ∘ fun i => (V.int i, PyData.int i))) = is.map PyData.int := rfl
    rw [e]
    omega
theorem HandAt.set {G : Hp} {h S : Addr} {n : Nat} {l : List V} (a : HandAt G h n) (ne : S ≠ h) : HandAt (upd G S (.lst l)) h n := a.old ne.symm
theorem ok_law {f fH fW fO fB fR fTr : Addr} {fd dH dW dO dB dR dTr : FuncData} (F : Fun K "law" "law" sLaw f fd) (T : Free mg) (T' : Txt mg) (Z : HandF K mg fT fP dT dP) (D : Defs K mg fH fW fO fB fR fTr dH dW dO dB dR dTr)
    (GR : FnOk P w K mg base CX0 4 fR dR ["_law_hand_here"] spRanks) (GTr : FG P w K mg base 5 fTr dTr ["_law_item"] (spTold K)) : FG P w K mg base 7 f fd ["_law_script"] (spLaw K) := by
  have GT : FnOk P w K mg base CX0 1 fT dT ["_law_hand_here", "_law_many"] spTake := ok_take Z.T
  have GP : FnOk P w K mg base CX0 2 fP dP ["_law_hand_here", "_law_some"] (spPick K) := ok_pick Z.P T' Z.T Z.bT Z.gT
  have GH : FnOk P w K mg base CX0 1 fH dH ["_law_script", "_law_k"] (spHand K) := ok_hand D.FH T'
  have GW : FnOk P w K mg base CX0 3 fW dW ["_law_hand_here", "_law_many"] spWords := ok_words D.FW T' Z
  have GO : FnOk P w K mg base CX0 3 fO dO ["_law_hand_here"] (spOdd K) := ok_odd D.FO T' Z
  have GB : FnOk P w K mg base CX0 6 fB dB ["_law_hand_here", "_law_item", "_law_deep"] (spBent K 5 2) := ok_bent D.FB D.bB D.gB T T' Z D.FO D.bO D.gO
  refine okG F scLaw (fun vs H Q E h => ?_) (fun cdv A outer s H vs Q E ng hr h => ?_)
  · obtain ⟨a, ns, rfl, _⟩ := h
    rfl
  · obtain ⟨a, ns, rfl, hS, hl, q⟩ := h
    have hr1 : Room 1 _ := hr.mono (by decide)
    have hr2 : Room 2 _ := hr.mono (by decide)
    have hr3 : Room 3 _ := hr.mono (by decide)
    have hr4 : Room 4 _ := hr.mono (by decide)
    have hr5 : Room 5 _ := hr.mono (by decide)
    refine ⟨_, pss_cons (ps_for PassesOwn.never rfl (pi_range1 (by rfl) T.range (pa_cons (pe_callB (call_max2 rfl) (by rfl) T.max (by decide +kernel) (pa_cons pe_int (pa_cons (pe_callB (call_min2 rfl) (by rfl) T.min (by decide +kernel) (pa_cons pe_int (pa_cons (pe_callB call_len_seq (by rfl) T.len PySem.boot_len (pa_cons (pv 0) pa_nil)) pa_nil))) pa_nil))) pa_nil)) (pg_name (i := 1) scLaw.nd rfl (Or.inl rfl)) (pss_cons (ps_set (i := 2) scLaw.nd rfl (Or.inr rfl) (pe_call GH hr1 (by rfl) D.gH D.FH.kp D.bH .nil pass0 (pa_cons (pv 0) (pa_cons (pv 1) pa_nil))))
      (pss_cons (ps_if (pt_not (pt_val (pe_call GR hr4 (by rfl) D.gR D.FR.kp D.bR .nil pass0 (pa_cons (pv 2) pa_nil)))) (pss_one (ps_ret pe_bl)) (pss_nil))
      (pss_cons (ps_set (i := 3) scLaw.nd rfl (Or.inl rfl) (pe_slice sl_list (pe_call GW hr3 (by rfl) D.gW D.FW.kp D.bW .nil pass0 (pa_cons (pv 2) (pa_cons pe_int pa_nil))) po_none (po_some (pe_op op_add pe_int (pe_call GT hr1 (by rfl) Z.gT Z.T.kp Z.bT .nil pass0 (pa_cons (pv 2) (pa_cons pe_int pa_nil)))))))
      (pss_cons (ps_set (i := 4) scLaw.nd rfl (Or.inl rfl) (pe_lst (pa_cons (pe_tupN (pa_cons pe_str pa_nil)) (pa_cons (pe_tupN (pa_cons pe_str (pa_cons (pe_op op_add pe_int (pe_call GT hr1 (by rfl) Z.gT Z.T.kp Z.bT .nil pass0 (pa_cons (pv 2) (pa_cons pe_int pa_nil)))) pa_nil))) (pa_cons (pe_tupN (pa_cons pe_str (pa_cons (pe_call GP hr2 (by rfl) Z.gP Z.P.kp Z.bP .nil pass0 (pa_cons (pv 2) (pa_cons (pe_lst (pa_cons pe_str (pa_cons pe_str (pa_cons pe_str pa_nil)))) pa_nil))) pa_nil))) pa_nil)))))
      (pss_cons (ps_set (i := 5) scLaw.nd rfl (Or.inl rfl) (pe_lst (pa_cons (pe_tupN (pa_cons pe_str (pa_cons (pe_call GP hr2 (by rfl) Z.gP Z.P.kp Z.bP .nil pass0 (pa_cons (pv 2) (pa_cons pe_str pa_nil))) (pa_cons (pe_call GP hr2 (by rfl) Z.gP Z.P.kp Z.bP .nil pass0 (pa_cons (pv 2) (pa_cons pe_str pa_nil))) (pa_cons (pe_callTy call_tupleN (by rfl) T.isi.tuple (by decide +kernel) (pa_cons (pv 3) pa_nil)) pa_nil))))) pa_nil)))
      (pss_cons (ps_expr (pe_bm PySem.F.plainAttrs_list PySem.F.slot_list_append PySem.F.type_list_append mt_append (pv 5) (pa_cons (pe_tupN (pa_cons pe_str (pa_cons (pe_callTy call_tupleN (by rfl) T.isi.tuple (by decide +kernel) (pa_cons (pe_lc (own := [("_law_col", 8)]) (g := gName 8) (tt := tYes) rfl scLaw.nd (pi_list (pv 3)) (blkOk_by (N := nLaw) (sc := defScope sLaw) (by decide +kernel)) (fun _ _ _ _ _ => pg_name (i := 8) scLaw.nd rfl (Or.inl rfl)) (fun _ _ _ _ _ => pts_nil) (fun _ _ _ _ _ => (pe_call GP hr2 (by rfl) Z.gP Z.P.kp Z.bP .nil pass0 (pa_cons (pv 2) (pa_cons (pe_lst (pa_cons pe_int (pa_cons pe_int (pa_cons pe_int pa_nil)))) pa_nil))))) pa_nil)) (pa_cons (pe_callTy call_tupleN (by rfl) T.isi.tuple (by decide +kernel) (pa_cons (pv 3) pa_nil)) pa_nil)))) pa_nil)))
      (pss_cons (ps_expr (pe_bm PySem.F.plainAttrs_list PySem.F.slot_list_append PySem.F.type_list_append mt_append (pv 5) (pa_cons (pe_tupN (pa_cons pe_str (pa_cons (pe_call GP hr2 (by rfl) Z.gP Z.P.kp Z.bP .nil pass0 (pa_cons (pv 2) (pa_cons pe_str pa_nil))) (pa_cons (pe_callTy call_tupleN (by rfl) T.isi.tuple (by decide +kernel) (pa_cons (pv 3) pa_nil)) pa_nil)))) pa_nil)))
      (pss_cons (ps_if (pt_not (pt_val (pe_callB (cr_all rfl) (by rfl) T.all (by decide +kernel) (pa_cons (pe_lc (own := [("_law_one", 9)]) (g := gName 9) (tt := tYes) rfl scLaw.nd (pi_list (pe_op op_cat (pe_op op_cat (pv 4) (pv 5)) (pe_lc (own := [("_law_turn", 6)]) (g := gName 6) (tt := tYes) rfl scLaw.nd (pi_range1 (by rfl) T.range (pa_cons pe_int pa_nil)) (blkOk_by (N := nLaw) (sc := defScope sLaw) (by decide +kernel)) (fun _ _ _ _ _ => pg_name (i := 6) scLaw.nd rfl (Or.inl rfl)) (fun _ _ _ _ _ => pts_nil) (fun _ _ _ _ _ => (pe_call GO hr3 (by rfl) D.gO D.FO.kp D.bO .nil pass0 (pa_cons (pv 2) pa_nil)))))) (blkOk_by (N := nLaw) (sc := defScope sLaw) (by decide +kernel)) (fun _ _ _ _ _ => pg_name (i := 9) scLaw.nd rfl (Or.inl rfl)) (fun _ _ _ _ _ => pts_nil) (fun _ _ _ _ _ => (callG GTr ng hr5 (by rfl) D.gTr D.FTr.kp D.bTr .nil (pa_cons (pv 9) pa_nil)))) pa_nil)))) (pss_one (ps_ret pe_bl)) (pss_nil))
      (pss_one (ps_for PassesOwn.never rfl (pi_range1 (by rfl) T.range (pa_cons pe_int pa_nil)) (pg_name (i := 6) scLaw.nd rfl (Or.inl rfl)) (pss_cons (ps_set (i := 7) scLaw.nd rfl (Or.inl rfl) (pe_call GB hr (by rfl) D.gB D.FB.kp D.bB .nil pass0 (pa_cons (pv 2) (pa_cons (pe_call GP hr2 (by rfl) Z.gP Z.P.kp Z.bP .nil pass0 (pa_cons (pv 2) (pa_cons (pe_op op_cat (pe_op op_cat (pv 4) (pv 5)) (pv 5)) pa_nil))) (pa_cons pe_int pa_nil)))))
      (pss_cons (ps_if (PW.pt (pw_and (pt_cmpR op_eq (pe_op op_mod (pv 6) pe_int) pe_int (nomark _)) (pw_and1 (pt_val (pe_callB call_isi (by rfl) T.isi.i (by decide +kernel) (pa_cons (pv 7) (pa_cons (pe_bltn rfl T.isi.tuple (v := V.ty "tuple") (by decide +kernel) rfl) pa_nil))))))) (pss_one (ps_set (i := 7) scLaw.nd rfl (Or.inl rfl) (pe_call GB hr (by rfl) D.gB D.FB.kp D.bB .nil pass0 (pa_cons (pv 2) (pa_cons (pv 7) (pa_cons pe_int pa_nil)))))) (pss_nil))
      (pss_one (ps_if (pt_not (pt_val (callG GTr ng hr5 (by rfl) D.gTr D.FTr.kp D.bTr .nil (pa_cons (pv 7) pa_nil)))) (pss_one (ps_ret pe_bl)) (pss_nil))))))))))))))))
      (pss_one (ps_ret pe_bl)), ?_⟩
    have lenN : (ns.map V.int).length ≤ 63 := by rw [List.length_map]; exact hl
    refine ⟨_, rfl, a, _, rfl, .inl hS, _, _, rfl, _, _, rfl, _, rfl, ?_, ?_, for_range (lo := 0) (n := Int.toNat _) (fun i σ G => Same H G ∧ ∃ v1 v2 v3 v4 v5 v6 v7 v8 v9, σ = [some (.ref a), v1, v2, v3, v4, v5, v6, v7, v8, v9]) ⟨Same.refl _, none, none, none, none, none, none, none, none, none, rfl⟩ ?_ ?_⟩
    · split <;> split <;> omega
    · split <;> split <;> omega
    · rintro i σ H1 hi ⟨s1, v1, v2, v3, v4, v5, v6, v7, v8, v9, rfl⟩
      have i4 : i < 64 := by
        have : i < 4 + 1 := by
          revert hi
          split <;> split <;> omega
        omega
      rw [Int.zero_add (i : Int)]
      refine ⟨_, rfl, _, rfl, a, ns, i, rfl, s1.seq hS, hl, i4, fun h H2 nh s2 hd2 => ?_⟩
      have nh0 : H1 h = none := nh
      refine gN ?_
      try dsimp only
      refine ⟨_, rfl, h, 0, rfl, hd2, by decide, fun H3 hd3 bt3 => ⟨_, rfl, iteF ?_⟩⟩
      unfold tNext
      dsimp only
      refine cutA (fun v G => HandAt G h 29 ∧ But h H3 G ∧ ∃ (C : Addr) (zs : List Str), v = .ref C ∧ C ≠ h ∧ G C = some (.lst (zs.map V.str)) ∧ 1 ≤ zs.length ∧ zs.length ≤ 6 ∧ ∀ z ∈ zs, Good 8 z) (fun Q' q' => ?_) ?_
      · refine ⟨_, rfl, h, 0 + 8, 6, rfl, hd3, by decide, by decide, fun p G zs lz gz hdG btG ep np => ?_⟩
        refine ⟨_, rfl, h, 0 + 8 + 20, 6, rfl, hdG, by decide, by decide, by decide, fun r G2 r0 r1 hd4 bt4 => ?_⟩
        have np' : p ≠ h := (hd3.fresh np).symm
        refine ⟨_, _, rfl, rfl, _, rfl, p, _, rfl, SqL.of (bt4 _ _ np' ep), fun C nC => ?_⟩
        have e : (1 + r : Int) = ((r.toNat + 1 : Nat) : Int) := by omega
        rw [e, cut_to, ← List.map_take]
        have s5 := Same.new (o := .lst ((zs.take (r.toNat + 1)).map V.str)) nC
        exact q' _ _ ⟨hd4.mono s5 (by decide), (btG.trans bt4).trans (But.of s5), C, zs.take (r.toNat + 1), rfl, (hd4.fresh nC).symm, upd_same, by rw [List.length_take]; omega, by rw [List.length_take]; omega, fun z hz => gz z (List.mem_of_mem_take hz)⟩
      · rintro v H4 ⟨hd4, bt4, C, zs, rfl, nC, eC, l1, l6, gz⟩
        refine gN ?_
        try dsimp only
        refine cutA (fun v G => HandAt G h 31 ∧ But h H4 G ∧ ∃ (Fo : Addr) (x1 x2 x3 : V), v = .ref Fo ∧ Fo ≠ h ∧ G Fo = some (.lst [x1, x2, x3]) ∧ Itm K G h x1 ∧ Itm K G h x2 ∧ Itm K G h x3) (fun Q' q' => ?_) ?_
        · refine ⟨(by show 1 ≤ sizeLine; decide), fun t1 o1 n1 d1 => ?_⟩
          have s1' := Same.new (o := .frz o1 (.tup [.str (Str.ofString "whole")])) n1
          have e1 : upd H4 t1 (.frz o1 (.tup [.str (Str.ofString "whole")])) t1 = some (.frz o1 (.tup [.str (Str.ofString "whole")])) := upd_same
          have ne1 := (hd4.fresh n1).symm
          generalize upd H4 t1 (.frz o1 (.tup [.str (Str.ofString "whole")])) = G1 at s1' e1 ⊢
          have hdG1 := hd4.mono s1' (Nat.le_refl _)
          refine ⟨_, rfl, h, 29, 4, rfl, hdG1, by decide, by decide, by decide, fun r G2 r0 r1 hdG2 bt2 => ?_⟩
          refine ⟨_, _, rfl, rfl, (by show 2 ≤ sizeLine; decide), fun t2 o2 n2 d2 => ?_⟩
          have s2' := Same.new (o := .frz o2 (.tup [.str (Str.ofString "amount"), .int (1 + r)])) n2
          have e2 : upd G2 t2 (.frz o2 (.tup [.str (Str.ofString "amount"), .int (1 + r)])) t2 = some (.frz o2 (.tup [.str (Str.ofString "amount"), .int (1 + r)])) := upd_same
          have ne2 := (hdG2.fresh n2).symm
          generalize upd G2 t2 (.frz o2 (.tup [.str (Str.ofString "amount"), .int (1 + r)])) = G3 at s2' e2 ⊢
          have hdG3 := hdG2.mono s2' (Nat.le_refl _)
          refine ⟨_, rfl, (by show 3 ≤ sizeLine; decide), fun L nL => ?_⟩
          refine ⟨h, 30, _, _, rfl, hdG3.mono (Same.new nL) (Nat.le_refl _), by decide, (by show 0 < 3; decide), (by show 3 ≤ 1000; decide), .inr ⟨L, rfl, (hdG3.fresh nL).symm, SqL.of upd_same⟩, fun y G4 hy hdG4 bt4' => ?_⟩
          have b34 : But h G3 G4 := (But.of (Same.new nL)).trans bt4'
          refine ⟨(by show 2 ≤ sizeLine; decide), fun t3 o3 n3 d3 => ?_⟩
          have s3' := Same.new (o := .frz o3 (.tup [.str (Str.ofString "day"), y])) n3
          have e3 : upd G4 t3 (.frz o3 (.tup [.str (Str.ofString "day"), y])) t3 = some (.frz o3 (.tup [.str (Str.ofString "day"), y])) := upd_same
          have ne3 := (hdG4.fresh n3).symm
          generalize upd G4 t3 (.frz o3 (.tup [.str (Str.ofString "day"), y])) = G5 at s3' e3 ⊢
          have hdG5 := hdG4.mono s3' (Nat.le_refl _)
          refine ⟨(by show 3 ≤ sizeLine; decide), fun Fo nFo => ?_⟩
          have s4' := Same.new (o := .lst [.ref t1, .ref t2, .ref t3]) nFo
          have e4 : upd G5 Fo (.lst [.ref t1, .ref t2, .ref t3]) Fo = some (.lst [.ref t1, .ref t2, .ref t3]) := upd_same
          have ne4 := (hdG5.fresh nFo).symm
          generalize upd G5 Fo (.lst [.ref t1, .ref t2, .ref t3]) = G6 at s4' e4 ⊢
          have b56 : But h G5 G6 := But.of s4'
          have b36 : But h G3 G6 := (b34.trans (But.of s3')).trans b56
          have b16 : But h G1 G6 := (bt2.trans (But.of s2')).trans b36
          refine q' _ _ ⟨hdG5.mono s4' (Nat.le_refl _), (But.of s1').trans b16, Fo, _, _, _, rfl, ne4, e4, ?_, ?_, ?_⟩
          · exact mk_item [(.str (Str.ofString "whole"), .str (Str.ofString "whole"))] (b16.seqN ne1 (SqN.of e1 d1)) ne1 (fun p hp => by rw [List.mem_singleton.mp hp]; exact ⟨.str _, by decide +kernel⟩) (by decide +kernel)
          · have ri : ∀ i : Nat, i < 4 → (sh (.int (1 + (i : Int)))).length ≤ 100 := by decide +kernel
            have rr := ri r.toNat (by omega)
            rw [show ((r.toNat : Nat) : Int) = r by omega] at rr
            exact two_item (b36.seqN ne2 (SqN.of e2 d2)) ne2 (by decide +kernel) (.int _) (by show (decide _ && true) = true; rw [Bool.and_true]; exact decide_eq_true (by omega)) rr
          · simp only [List.mem_cons, List.not_mem_nil, or_false] at hy
            rcases hy with rfl | rfl | rfl
            · exact two_item (b56.seqN ne3 (SqN.of e3 d3)) ne3 (by decide +kernel) (.str _) (by decide +kernel) (by decide +kernel)
            · exact two_item (b56.seqN ne3 (SqN.of e3 d3)) ne3 (by decide +kernel) (.str _) (by decide +kernel) (by decide +kernel)
            · exact two_item (b56.seqN ne3 (SqN.of e3 d3)) ne3 (by decide +kernel) (.str _) (by decide +kernel) (by decide +kernel)
        · rintro v H5 ⟨hd5, bt5, Fo, x1, x2, x3, rfl, nFo, eFo, i1, i2, i3⟩
          refine gN ?_
          try dsimp only
          have eC5 := bt5 _ _ nC eC
          have sm5 : Same H1 H5 := fun b o e => ((bt3.trans bt4).trans bt5) b o (ne_of_none e nh0) (s2 b o e)
          clear bt3 bt4 bt5
          refine cutA (fun v G => HandAt G h 33 ∧ But h H5 G ∧ ∃ (S : Addr) (y1 : V), v = .ref S ∧ S ≠ h ∧ H5 S = none ∧ G S = some (.lst [y1]) ∧ Itm K G h y1) (fun Q' q' => ?_) ?_
          · refine ⟨_, rfl, h, 31, _, _, rfl, hd5, by decide, (by decide +kernel : 0 < ((Str.ofString ",;|:").cps.toList.map fun c => V.str ⟨#[c]⟩).length), (by decide +kernel : ((Str.ofString ",;|:").cps.toList.map fun c => V.str ⟨#[c]⟩).length ≤ 1000), .inl ⟨_, rfl, rfl⟩, fun y G1 hy hdG1 bt1 => ?_⟩
            refine ⟨_, rfl, h, 32, _, _, rfl, hdG1, by decide, (by decide +kernel : 0 < ((Str.ofString "\"'").cps.toList.map fun c => V.str ⟨#[c]⟩).length), (by decide +kernel : ((Str.ofString "\"'").cps.toList.map fun c => V.str ⟨#[c]⟩).length ≤ 1000), .inl ⟨_, rfl, rfl⟩, fun z G2 hz hdG2 bt2 => ?_⟩
            refine ⟨_, rfl, C, _, rfl, SqL.of ((bt1.trans bt2) _ _ nC eC5), fun t o nt dt => ?_⟩
            have st := Same.new (o := .frz o (.tup (zs.map V.str))) nt
            have et : upd G2 t (.frz o (.tup (zs.map V.str))) t = some (.frz o (.tup (zs.map V.str))) := upd_same
            have net := (hdG2.fresh nt).symm
            generalize upd G2 t (.frz o (.tup (zs.map V.str))) = G3 at st et ⊢
            have hdG3 := hdG2.mono st (Nat.le_refl _)
            refine ⟨(by show 4 ≤ sizeLine; decide), fun p o2 np d2 => ?_⟩
            have sp := Same.new (o := .frz o2 (.tup [.str (Str.ofString "signs"), y, z, .ref t])) np
            have ep : upd G3 p (.frz o2 (.tup [.str (Str.ofString "signs"), y, z, .ref t])) p = some (.frz o2 (.tup [.str (Str.ofString "signs"), y, z, .ref t])) := upd_same
            have nep := (hdG3.fresh np).symm
            generalize upd G3 p (.frz o2 (.tup [.str (Str.ofString "signs"), y, z, .ref t])) = G4 at sp ep ⊢
            have hdG4 := hdG3.mono sp (Nat.le_refl _)
            refine ⟨(by show 1 ≤ sizeLine; decide), fun S nS => ?_⟩
            have sS := Same.new (o := .lst [.ref p]) nS
            have nS5 : H5 S = none := by
              cases hh : H5 S with
              | none => rfl
              | some u =>
                have q := sp _ _ (st _ _ ((bt1.trans bt2) S u (hdG4.fresh nS).symm hh))
                rw [nS] at q
                cases q
            obtain ⟨dy, ky, gy, ly⟩ := sign_data (K := K) (G := upd G4 S (.lst [.ref p])) (h := h) (by decide +kernel) hy
            obtain ⟨dz, kz, gz', lz⟩ := sign_data (K := K) (G := upd G4 S (.lst [.ref p])) (h := h) (by decide +kernel) hz
            have eT : SqN (upd G4 S (.lst [.ref p])) t (zs.map V.str) := sameN sS (sameN sp (SqN.of et dt))
            have tx := texts_item (K := K) eT net gz l6
            exact q' _ _ ⟨hdG4.mono sS (Nat.le_refl _), (((bt1.trans bt2).trans (But.of st)).trans (But.of sp)).trans (But.of sS), S, _, rfl, (hdG4.fresh nS).symm, nS5, upd_same, four_item (sameN sS (SqN.of ep d2)) nep (by decide +kernel) ky gy ly kz gz' lz tx.1 (texts_nl zs gz) tx.2.2⟩
          · rintro v H6 ⟨hd6, bt6, S, y1, rfl, nS, nS5, eS, j1⟩
            refine gN ?_
            try dsimp only
            have neF : Fo ≠ S := ne_of_none eFo nS5
            have neC : C ≠ S := ne_of_none eC5 nS5
            have eC6 := bt6 _ _ nC eC5
            have eF6 := bt6 _ _ nFo eFo
            have i1 := i1.but bt6
            have i2 := i2.but bt6
            have i3 := i3.but bt6
            have sm6 : Same H1 H6 := fun b o e => bt6 b o (ne_of_none e nh0) (sm5 b o e)
            have nS1 : H1 S = none := by
              cases hh : H1 S with
              | none => rfl
              | some u =>
                have q := sm5 _ _ hh
                rw [nS5] at q
                cases q
            have nhS : h ≠ S := nS.symm
            clear hd5 sm5 eC5 eFo eC
            refine cutT (fun σ' G => σ' = [some (.ref a), some (.int (i : Int)), some (.ref h), some (.ref C), some (.ref Fo), some (.ref S), v6, v7, v8, v9] ∧ HandAt G h 39 ∧ Same H1 G ∧ (∃ y2, G S = some (.lst [y1, y2]) ∧ Itm K G h y2) ∧ Itm K G h y1 ∧ (Itm K G h x1 ∧ Itm K G h x2 ∧ Itm K G h x3) ∧ G Fo = some (.lst [x1, x2, x3]) ∧ G C = some (.lst (zs.map V.str))) (fun Nx nx => ?_) ?_
            · refine ⟨_, rfl, .inl ⟨rfl, _, SqL.of eS⟩, ?_⟩
              refine ⟨_, rfl, C, rfl, ⟨_, SqL.of eC6⟩, fun D nD => ?_⟩
              have nh : D ≠ h := (hd6.fresh nD).symm
              refine lc_map (walk_list (K := K) (a := C) (xs := zs.map V.str)) (h := h) (Z := fun j x => True) (fun j G => HandAt G h (33 + j)) (fun _ y _ => y = V.int 1 ∨ y = V.int 20 ∨ y = V.int 7) nD nh (fun j G x G' e => ⟨e.1, trivial⟩) (fun G b => SqL.of (b _ _ nC eC6)) (fun _ _ _ _ _ _ e => e) (by rw [List.length_map]; omega) (fun _ => rfl) hd6 (fun j G l a => a.old nh.symm) ?_ ?_
              · rintro j x G Q2 hj _ btG hdG _ kk
                rw [List.length_map] at hj
                refine ⟨_, rfl, (by show 3 ≤ sizeLine; decide), fun L nL => ?_⟩
                refine ⟨h, 33 + j, _, _, rfl, hdG.mono (Same.new nL) (Nat.le_refl _), by omega, (by show 0 < 3; decide), (by show 3 ≤ 1000; decide), .inr ⟨L, rfl, (hdG.fresh nL).symm, SqL.of upd_same⟩, fun y G2 hy hd2 bt2 => ?_⟩
                refine kk _ _ ((But.of (Same.new nL)).trans bt2) hd2 ?_
                simpa only [List.mem_cons, List.not_mem_nil, or_false] using hy
              · rintro G ys btG hdG eD ly hw
                rw [List.length_map] at hdG ly
                refine ⟨D, ys, rfl, SqL.of eD, fun t1 o1 n1 d1 => ?_⟩
                have st1 := Same.new (o := .frz o1 (.tup ys)) n1
                have e1 : upd G t1 (.frz o1 (.tup ys)) t1 = some (.frz o1 (.tup ys)) := upd_same
                have ne1 := (hdG.fresh n1).symm
                generalize upd G t1 (.frz o1 (.tup ys)) = G1 at st1 e1 ⊢
                have hdG1 := hdG.mono st1 (Nat.le_refl _)
                have b61 : But h H6 G1 := btG.trans (But.of st1)
                refine ⟨_, rfl, C, _, rfl, SqL.of (b61 _ _ nC eC6), fun t2 o2 n2 d2 => ?_⟩
                have st2 := Same.new (o := .frz o2 (.tup (zs.map V.str))) n2
                have e2 : upd G1 t2 (.frz o2 (.tup (zs.map V.str))) t2 = some (.frz o2 (.tup (zs.map V.str))) := upd_same
                have ne2 := (hdG1.fresh n2).symm
                generalize upd G1 t2 (.frz o2 (.tup (zs.map V.str))) = G2 at st2 e2 ⊢
                have hdG2 := hdG1.mono st2 (Nat.le_refl _)
                refine ⟨(by show 3 ≤ sizeLine; decide), fun p o3 n3 d3 => ?_⟩
                have st3 := Same.new (o := .frz o3 (.tup [.str (Str.ofString "places"), .ref t1, .ref t2])) n3
                have e3 : upd G2 p (.frz o3 (.tup [.str (Str.ofString "places"), .ref t1, .ref t2])) p = some (.frz o3 (.tup [.str (Str.ofString "places"), .ref t1, .ref t2])) := upd_same
                have ne3 := (hdG2.fresh n3).symm
                generalize upd G2 p (.frz o3 (.tup [.str (Str.ofString "places"), .ref t1, .ref t2])) = G3 at st3 e3 ⊢
                have hdG3 := hdG2.mono st3 (Nat.le_refl _)
                have b63 : But h H6 G3 := (b61.trans (But.of st2)).trans (But.of st3)
                have eS3 := b63 _ _ nS eS
                refine ⟨S, [y1], .ref p, rfl, rfl, eS3, (by show 1 < sizeLine; decide), ?_⟩
                have keep : ∀ b o, b ≠ S → G3 b = some o → upd G3 S (.lst ([y1] ++ [.ref p])) b = some o := fun b o nb e => by rw [upd_ne nb]; exact e
                have is : ∃ ys, G3 S = some (.lst ys) := ⟨_, eS3⟩
                obtain ⟨dw, kw, gw, lw⟩ := widths_item (K := K) (h := h) (sameN st3 (sameN st2 (SqN.of e1 d1))) ne1 (fun y hy => by
                  obtain ⟨j, hj, rfl⟩ := List.mem_iff_getElem.mp hy
                  exact hw j _ (List.getElem?_eq_getElem hj)) (by omega)
                have tx := texts_item (K := K) (sameN st3 (SqN.of e2 d2)) ne2 gz l6
                have it : Itm K G3 h (.ref p) := three_item (SqN.of e3 d3) ne3 (by decide +kernel) kw gw lw tx.1 (texts_nl zs gz) tx.2.2
                refine nx _ _ ⟨rfl, (hdG3.set nS).up (by omega), fun b o e => ?_, ⟨_, upd_same, it.set keep is⟩, (j1.but b63).set keep is, ⟨(i1.but b63).set keep is, (i2.but b63).set keep is, (i3.but b63).set keep is⟩, keep _ _ neF (b63 _ _ nFo eF6), keep _ _ neC (b63 _ _ nC eC6)⟩
                exact keep _ _ (ne_of_none e nS1) (b63 b o (ne_of_none e nh0) (sm6 b o e))
            · rintro σ' H7 ⟨rfl, hd7, sm7, ⟨y2, eS7, j2⟩, j1, ⟨i1, i2, i3⟩, eF7, eC7⟩
              clear hd6 sm6 eC6 eF6 eS bt6
              refine cutT (fun σ' G => σ' = [some (.ref a), some (.int (i : Int)), some (.ref h), some (.ref C), some (.ref Fo), some (.ref S), v6, v7, v8, v9] ∧ HandAt G h 40 ∧ Same H1 G ∧ (∃ y3, G S = some (.lst [y1, y2, y3]) ∧ Itm K G h y3) ∧ (Itm K G h y1 ∧ Itm K G h y2) ∧ (Itm K G h x1 ∧ Itm K G h x2 ∧ Itm K G h x3) ∧ G Fo = some (.lst [x1, x2, x3])) (fun Nx nx => ?_) ?_
              · refine ⟨_, rfl, .inl ⟨rfl, _, SqL.of eS7⟩, ?_⟩
                refine ⟨_, rfl, h, 39, _, _, rfl, hd7, by decide, (by decide +kernel : 0 < ((Str.ofString ",;|").cps.toList.map fun c => V.str ⟨#[c]⟩).length), (by decide +kernel : ((Str.ofString ",;|").cps.toList.map fun c => V.str ⟨#[c]⟩).length ≤ 1000), .inl ⟨_, rfl, rfl⟩, fun y G1 hy hdG1 bt1 => ?_⟩
                refine ⟨_, rfl, C, _, rfl, SqL.of (bt1 _ _ nC eC7), fun t2 o2 n2 d2 => ?_⟩
                have st2 := Same.new (o := .frz o2 (.tup (zs.map V.str))) n2
                have e2 : upd G1 t2 (.frz o2 (.tup (zs.map V.str))) t2 = some (.frz o2 (.tup (zs.map V.str))) := upd_same
                have ne2 := (hdG1.fresh n2).symm
                generalize upd G1 t2 (.frz o2 (.tup (zs.map V.str))) = G2 at st2 e2 ⊢
                have hdG2 := hdG1.mono st2 (Nat.le_refl _)
                refine ⟨(by show 3 ≤ sizeLine; decide), fun p o3 n3 d3 => ?_⟩
                have st3 := Same.new (o := .frz o3 (.tup [.str (Str.ofString "named"), y, .ref t2])) n3
                have e3 : upd G2 p (.frz o3 (.tup [.str (Str.ofString "named"), y, .ref t2])) p = some (.frz o3 (.tup [.str (Str.ofString "named"), y, .ref t2])) := upd_same
                have ne3 := (hdG2.fresh n3).symm
                generalize upd G2 p (.frz o3 (.tup [.str (Str.ofString "named"), y, .ref t2])) = G3 at st3 e3 ⊢
                have hdG3 := hdG2.mono st3 (Nat.le_refl _)
                have b63 : But h H7 G3 := (bt1.trans (But.of st2)).trans (But.of st3)
                have eS3 := b63 _ _ nS eS7
                refine ⟨S, [y1, y2], .ref p, rfl, rfl, eS3, (by show 2 < sizeLine; decide), ?_⟩
                have keep : ∀ b o, b ≠ S → G3 b = some o → upd G3 S (.lst ([y1, y2] ++ [.ref p])) b = some o := fun b o nb e => by rw [upd_ne nb]; exact e
                have is : ∃ ys, G3 S = some (.lst ys) := ⟨_, eS3⟩
                obtain ⟨dy, ky, gy, ly⟩ := sign_data (K := K) (G := G3) (h := h) (by decide +kernel) hy
                have tx := texts_item (K := K) (sameN st3 (SqN.of e2 d2)) ne2 gz l6
                have it : Itm K G3 h (.ref p) := three_item (SqN.of e3 d3) ne3 (by decide +kernel) ky gy (by omega) tx.1 (texts_nl zs gz) tx.2.2
                refine nx _ _ ⟨rfl, hdG3.set nS, fun b o e => ?_, ⟨_, upd_same, it.set keep is⟩, ⟨(j1.but b63).set keep is, (j2.but b63).set keep is⟩, ⟨(i1.but b63).set keep is, (i2.but b63).set keep is, (i3.but b63).set keep is⟩, keep _ _ neF (b63 _ _ nFo eF7)⟩
                exact keep _ _ (ne_of_none e nS1) (b63 b o (ne_of_none e nh0) (sm7 b o e))
              · rintro σ' H8 ⟨rfl, hd8, sm8, ⟨y3, eS8, j3⟩, ⟨j1, j2⟩, ⟨i1, i2, i3⟩, eF8⟩
                clear hd7 sm7 eC7 eF7 eS7
                refine cutT (fun σ' G => σ' = [some (.ref a), some (.int (i : Int)), some (.ref h), some (.ref C), some (.ref Fo), some (.ref S), v6, v7, v8, v9] ∧ HandAt G h 48 ∧ But h H8 G) (fun Nx nx => ?_) ?_
                · refine ⟨_, rfl, _, rfl, Fo, S, _, _, rfl, rfl, eF8, eS8, (by show 6 ≤ sizeLine; decide), fun l1 nl1 => ?_⟩
                  have s1' := Same.new (o := .lst ([x1, x2, x3] ++ [y1, y2, y3])) nl1
                  have e1 : upd H8 l1 (.lst ([x1, x2, x3] ++ [y1, y2, y3])) l1 = some (.lst ([x1, x2, x3] ++ [y1, y2, y3])) := upd_same
                  have ne1 := (hd8.fresh nl1).symm
                  generalize upd H8 l1 (.lst ([x1, x2, x3] ++ [y1, y2, y3])) = G1 at s1' e1 ⊢
                  have hdG1 := hd8.mono s1' (Nat.le_refl _)
                  refine ⟨8, rfl, by decide, by decide, fun D2 nD => ?_⟩
                  have nh : D2 ≠ h := (hdG1.fresh nD).symm
                  refine lc_map (walk_range (lo := 0) (n := (8 : Int).toNat)) (h := h) (Z := fun j x => True) (fun j G => HandAt G h (40 + j)) (fun _ y G => ∃ d, Dk K G h y d ∧ fitR d) nD nh (fun j G x G' e => ⟨e.1, trivial⟩) (fun _ _ => trivial) (fun j y G G' keep l w => ?_) (by decide) (fun _ => rfl) hdG1 (fun j G l a => a.old nh.symm) ?_ ?_
                  · obtain ⟨d, k, f⟩ := w
                    exact ⟨d, k.set keep l, f⟩
                  · rintro j x G Q2 hj _ btG hdG _ kk
                    exact ⟨_, rfl, h, 40 + j, rfl, hdG, by have : j < 8 := hj; omega, fun y d G2 dk gg ll hd2 bt2 => kk _ _ bt2 hd2 ⟨d, dk, gd_le (by decide) gg, by omega⟩⟩
                  · rintro G ys btG hdG eD ly hw
                    have ly8 : ys.length = 8 := ly
                    refine ⟨l1, D2, _, _, rfl, rfl, btG _ _ ne1 e1, eD, ?_, fun l2 nl2 => ?_⟩
                    · show 6 + ys.length ≤ sizeLine
                      rw [ly8]
                      decide
                    have b8G : But h H8 G := (But.of s1').trans btG
                    have all : ∀ x ∈ ([x1, x2, x3] ++ [y1, y2, y3]) ++ ys, ∃ d, Dk K G h x d ∧ fitR d := by
                      intro x hx
                      rcases List.mem_append.mp hx with hx | hx
                      · simp only [List.cons_append, List.nil_append, List.mem_cons, List.not_mem_nil, or_false] at hx
                        rcases hx with rfl | rfl | rfl | rfl | rfl | rfl
                        · exact (i1.but b8G).told
                        · exact (i2.but b8G).told
                        · exact (i3.but b8G).told
                        · exact (j1.but b8G).told
                        · exact (j2.but b8G).told
                        · exact (j3.but b8G).told
                      · obtain ⟨j, hj, rfl⟩ := List.mem_iff_getElem.mp hx
                        exact hw j _ (List.getElem?_eq_getElem hj)
                    have lx : (([x1, x2, x3] ++ [y1, y2, y3]) ++ ys).length = 14 := by
                      rw [List.length_append, ly8]
                      rfl
                    generalize ([x1, x2, x3] ++ [y1, y2, y3]) ++ ys = xs at all lx ⊢
                    have s2' := Same.new (o := .lst xs) nl2
                    have e2 : upd G l2 (.lst xs) l2 = some (.lst xs) := upd_same
                    generalize upd G l2 (.lst xs) = G2 at s2' e2 ⊢
                    refine ⟨l2, rfl, ⟨_, SqL.of e2⟩, fun D3 nD3 => ?_⟩
                    refine lc_val (walk_list (K := K) (a := l2) (xs := xs)) (Z := fun j x => xs[j]? = some x) (fun _ => .bl true) nD3 (fun _ _ _ _ e => e) (fun _ s => SqL.of (s _ _ e2)) (by omega) (fun _ => rfl) ?_ ?_
                    · rintro j x G3 Q' hj hx sG3 kG
                      obtain ⟨d, dk, fd⟩ := all x (List.mem_of_getElem? hx)
                      exact ⟨_, rfl, h, x, d, rfl, dk.but (But.of fun _ _ e => sG3 _ _ (s2' _ _ e)), fd, kG⟩
                    · intro G3 sG3 eG3
                      refine ⟨D3, (List.range xs.length).map fun _ => true, rfl, SqL.of ?_, ?_⟩
                      · rw [eG3, List.map_map]
                        rfl
                      · have e : ((List.range xs.length).map fun _ => true).all id = true := by
                          rw [List.all_map, List.all_eq_true]
                          exact fun _ _ => rfl
                        rw [e]
                        refine ⟨_, rfl, iteF ?_⟩
                        have sG : Same G G3 := fun _ _ e => sG3 _ _ (s2' _ _ e)
                        exact nx _ _ ⟨rfl, hdG.mono sG (by decide), b8G.trans (But.of sG)⟩
                · rintro σ' H9 ⟨rfl, hd9, bt9⟩
                  have eF9 := bt9 _ _ nFo eF8
                  have eS9 := bt9 _ _ nS eS8
                  have i1 := i1.but bt9
                  have i2 := i2.but bt9
                  have i3 := i3.but bt9
                  have j1 := j1.but bt9
                  have j2 := j2.but bt9
                  have j3 := j3.but bt9
                  have sm9 : Same H1 H9 := fun b o e => bt9 b o (ne_of_none e nh0) (sm8 b o e)
                  clear bt9 hd8 sm8 eF8 eS8
                  refine ⟨24, rfl, by decide, by decide, for_range (lo := 0) (n := 24) (fun j σ G => HandAt G h (48 + 40 * j) ∧ But h H9 G ∧ ∃ u6 u7 u8 u9, σ = [some (.ref a), some (.int (i : Int)), some (.ref h), some (.ref C), some (.ref Fo), some (.ref S), u6, u7, u8, u9]) ⟨hd9, But.refl h H9, v6, v7, v8, v9, rfl⟩ ?_ ?_⟩
                  · rintro j σ G hj ⟨hdG, btG, u6, u7, u8, u9, rfl⟩
                    refine gN ?_
                    try dsimp only
                    have eF := btG _ _ nFo eF9
                    have eS := btG _ _ nS eS9
                    refine cutA (fun v G' => HandAt G' h (48 + 40 * j + 16) ∧ But h H9 G' ∧ ∃ d, Dk K G' h v d ∧ gd 6 d = true ∧ (sh d).length ≤ 2000) (fun Q' q' => ?_) ?_
                    · refine ⟨_, rfl, _, rfl, _, rfl, _, rfl, Fo, S, _, _, rfl, rfl, eF, eS, (by show 6 ≤ sizeLine; decide), fun l1 nl1 => ?_⟩
                      have s1' := Same.new (o := .lst ([x1, x2, x3] ++ [y1, y2, y3])) nl1
                      have e1 : upd G l1 (.lst ([x1, x2, x3] ++ [y1, y2, y3])) l1 = some (.lst ([x1, x2, x3] ++ [y1, y2, y3])) := upd_same
                      generalize upd G l1 (.lst ([x1, x2, x3] ++ [y1, y2, y3])) = G1 at s1' e1 ⊢
                      refine ⟨_, rfl, l1, S, _, _, rfl, rfl, e1, s1' _ _ eS, (by show 9 ≤ sizeLine; decide), fun l2 nl2 => ?_⟩
                      have s2' := Same.new (o := .lst ([x1, x2, x3] ++ [y1, y2, y3] ++ [y1, y2, y3])) nl2
                      have e2 : upd G1 l2 (.lst ([x1, x2, x3] ++ [y1, y2, y3] ++ [y1, y2, y3])) l2 = some (.lst ([x1, x2, x3] ++ [y1, y2, y3] ++ [y1, y2, y3])) := upd_same
                      have hdG1 := hdG.mono s1' (Nat.le_refl _)
                      have ne2 := (hdG1.fresh nl2).symm
                      generalize upd G1 l2 (.lst ([x1, x2, x3] ++ [y1, y2, y3] ++ [y1, y2, y3])) = G2 at s2' e2 ⊢
                      have hdG2 := hdG1.mono s2' (Nat.le_refl _)
                      have b2 : But h H9 G2 := (btG.trans (But.of s1')).trans (But.of s2')
                      refine ⟨h, 48 + 40 * j, _, _, rfl, hdG2, by omega, (by show 0 < 9; decide), (by show 9 ≤ 1000; decide), .inr ⟨l2, rfl, ne2, SqL.of e2⟩, fun y G3 hy hdG3 bt3 => ?_⟩
                      have b3 := b2.trans bt3
                      have it : Itm K G3 h y := by
                        simp only [List.cons_append, List.nil_append, List.mem_cons, List.not_mem_nil, or_false] at hy
                        rcases hy with rfl | rfl | rfl | rfl | rfl | rfl | rfl | rfl | rfl
                        · exact i1.but b3
                        · exact i2.but b3
                        · exact i3.but b3
                        · exact j1.but b3
                        · exact j2.but b3
                        · exact j3.but b3
                        · exact j1.but b3
                        · exact j2.but b3
                        · exact j3.but b3
                      obtain ⟨t, ps, rfl, it, wl, _⟩ := it
                      refine ⟨h, t, 48 + 40 * j + 1, ps, rfl, hdG3, by omega, it, fun y d G4 dk gg ll kind hd4 bt4 => ?_⟩
                      exact q' _ _ ⟨hd4, b3.trans bt4, d, dk, gg, by omega⟩
                    · rintro v G4 ⟨hd4, bt4, d, dk, gg, ll⟩
                      refine gN ?_
                      try dsimp only
                      refine cutT (fun σ' G' => ∃ v2, σ' = [some (.ref a), some (.int (i : Int)), some (.ref h), some (.ref C), some (.ref Fo), some (.ref S), some (.int (0 + (j : Int))), some v2, u8, u9] ∧ HandAt G' h (48 + 40 * j + 31) ∧ But h H9 G' ∧ ∃ d, Dk K G' h v2 d ∧ fitR d) (fun Nx nx => ?_) ?_
                      · refine ⟨_, rfl, _, _, rfl, rfl, (by show (0 : Int) < 4; decide), rfl, _, rfl, ?_⟩
                        have no : ∀ (G' : Hp), G' = G4 → Nx [some (.ref a), some (.int (i : Int)), some (.ref h), some (.ref C), some (.ref Fo), some (.ref S), some (.int (0 + (j : Int))), some v, u8, u9] G' := fun G' e => by
                          subst e
                          exact nx _ _ ⟨v, rfl, hd4.up (by omega), bt4, d, dk, gg, by omega⟩
                        refine ite2 (fun _ => ?_) (fun _ => no _ rfl)
                        refine ⟨_, rfl, v, .ty "tuple", _, _, _, rfl, .ty "tuple", ty_of dk.now, kit_d d "tuple" (.inr (.inr (.inr rfl))), _, rfl, ?_⟩
                        refine ite2 (fun ct => ?_) (fun _ => no _ rfl)
                        obtain ⟨t, ps, rfl, rfl, it, wl⟩ := dk.item gg ll ct
                        refine ⟨_, rfl, _, rfl, h, t, 48 + 40 * j + 16, ps, rfl, hd4, by omega, it, fun y d' G5 dk5 gg5 ll5 kind hd5 bt5 => gN ?_⟩
                        exact nx _ _ ⟨y, rfl, hd5, bt4.trans bt5, d', dk5, gg5, by omega⟩
                      · rintro σ' G5 ⟨v2, rfl, hd5, bt5, d, dk, fd⟩
                        refine ⟨_, rfl, h, v2, d, rfl, dk, fd, fun G6 s6 => ⟨_, rfl, iteF ?_⟩⟩
                        exact ⟨(hd5.mono s6 (Nat.le_refl _)).up (by omega), bt5.trans (But.of s6), _, _, _, _, rfl⟩
                  · rintro σ G ⟨hdG, btG, u6, u7, u8, u9, rfl⟩
                    exact ⟨fun b o e => btG b o (ne_of_none (s1 b o e) nh0) (sm9 b o (s1 b o e)), _, _, _, _, _, _, _, _, _, rfl⟩
    · rintro σ H1 _
      exact q _
end
end K01
set_option Elab.async false
set_option linter.all false
set_option maxRecDepth 100000
set_option maxHeartbeats 8000000
namespace K01
open PySem PySem.Spec PyProof.Rows L2 Bs Xg TL
theorem tup_const {K : PySem.W.Frag} {o : Addr} {od : Option Addr} {its : Array Value} {m : Nat} {sl : Array (Option Value)} {xs : List V} (hk : K.lookup o = some ⟨.type "tuple", od, .seq its m, sl⟩) (hz : its.size ≤ sizeLine) (r : Vals xs its.toList) : ∀ H, SqT K H o xs :=
  fun H => .inr ⟨_, its, m, hk, rfl, rfl, hz, r⟩
theorem all_mk {l : PySem.W.OpenLaw} {w : World} {K : PySem.W.Frag} {h : Heap} {mg : Str → Option Value} {fa f1 f2 f3 f4 f5 f6 f7 f8 f9 f10 f11 f12 f13 f14 f15 f16 f17 f18 f19 f20 f21 f22 f23 f24 f25 c_ORDERS c_SIGNS c_QUOTES c_NAMED_SIGNS : Addr} (X : K.In h) (G : h.Ns mainGlobals mg) (hfa : mg "law" = some (.ref fa))
    {od1 an1 od2 an2 od3 an3 od4 an4 od5 an5 od6 an6 od7 an7 od8 an8 od9 an9 od10 an10 od11 an11 od12 an12 od13 an13 od14 an14 od15 an15 od16 an16 od17 an17 od18 an18 od19 an19 od20 an20 od21 an21 od22 an22 od23 an23 od24 an24 od25 an25 od_ORDERS od_SIGNS od_QUOTES od_NAMED_SIGNS : Option Addr} {sl1 sl2 sl3 sl4 sl5 sl6 sl7 sl8 sl9 sl10 sl11 sl12 sl13 sl14 sl15 sl16 sl17 sl18 sl19 sl20 sl21 sl22 sl23 sl24 sl25 sl_ORDERS sl_SIGNS sl_QUOTES sl_NAMED_SIGNS : Array (Option Value)}
    {oc1 kV1 dc1 pm1 cd1 ct1 oc2 kV2 dc2 pm2 cd2 ct2 oc3 kV3 dc3 pm3 cd3 ct3 oc4 kV4 dc4 pm4 cd4 ct4 oc5 kV5 dc5 pm5 cd5 ct5 oc6 kV6 dc6 pm6 cd6 ct6 oc7 kV7 dc7 pm7 cd7 ct7 oc8 kV8 dc8 pm8 cd8 ct8 oc9 kV9 dc9 pm9 cd9 ct9 oc10 kV10 dc10 pm10 cd10 ct10 oc11 kV11 dc11 pm11 cd11 ct11 oc12 kV12 dc12 pm12 cd12 ct12 oc13 kV13 dc13 pm13 cd13 ct13 oc14 kV14 dc14 pm14 cd14 ct14 oc15 kV15 dc15 pm15 cd15 ct15 oc16 kV16 dc16 pm16 cd16 ct16 oc17 kV17 dc17 pm17 cd17 ct17 oc18 kV18 dc18 pm18 cd18 ct18 oc19 kV19 dc19 pm19 cd19 ct19 oc20 kV20 dc20 pm20 cd20 ct20 oc21 kV21 dc21 pm21 cd21 ct21 oc22 kV22 dc22 pm22 cd22 ct22 oc23 kV23 dc23 pm23 cd23 ct23 oc24 kV24 dc24 pm24 cd24 ct24 oc25 kV25 dc25 pm25 cd25 ct25 : Value}
    {tk_MOST_PLACES tk_LONGEST tk_WIDEST tk_MOST_COLUMNS tk_ORDERS0 tk_ORDERS1 tk_ORDERS2 tk_SIGNS0 tk_SIGNS1 tk_SIGNS2 tk_SIGNS3 tk_QUOTES0 tk_QUOTES1 tk_NAMED_SIGNS0 tk_NAMED_SIGNS1 tk_NAMED_SIGNS2 : Tok} {m_ORDERS m_SIGNS m_QUOTES m_NAMED_SIGNS : Nat}
    (a1 : PySem.W.nsIn K mainGlobals "is_whole" = some (some (.ref f1)))
    (l1 : K.lookup f1 = some ⟨oc1, od1, .func (PySem.W.fnOf "is_whole" "is_whole" (defArgs sWhole) (defBody sWhole) (defScope sWhole) .none kV1 dc1 pm1 an1 cd1 ct1), sl1⟩)
    (c1 : PySem.W.codeIn K cd1 "is_whole" = true)
    (k1 : PySem.W.keepIn K (.ref f1) = true)
    (a2 : PySem.W.nsIn K mainGlobals "is_worth" = some (some (.ref f2)))
    (l2 : K.lookup f2 = some ⟨oc2, od2, .func (PySem.W.fnOf "is_worth" "is_worth" (defArgs sWorth) (defBody sWorth) (defScope sWorth) .none kV2 dc2 pm2 an2 cd2 ct2), sl2⟩)
    (c2 : PySem.W.codeIn K cd2 "is_worth" = true)
    (k2 : PySem.W.keepIn K (.ref f2) = true)
    (a3 : PySem.W.nsIn K mainGlobals "rank" = some (some (.ref f3)))
    (l3 : K.lookup f3 = some ⟨oc3, od3, .func (PySem.W.fnOf "rank" "rank" (defArgs sRank) (defBody sRank) (defScope sRank) .none kV3 dc3 pm3 an3 cd3 ct3), sl3⟩)
    (c3 : PySem.W.codeIn K cd3 "rank" = true)
    (k3 : PySem.W.keepIn K (.ref f3) = true)
    (a4 : PySem.W.nsIn K mainGlobals "is_form" = some (some (.ref f4)))
    (l4 : K.lookup f4 = some ⟨oc4, od4, .func (PySem.W.fnOf "is_form" "is_form" (defArgs sForm) (defBody sForm) (defScope sForm) .none kV4 dc4 pm4 an4 cd4 ct4), sl4⟩)
    (c4 : PySem.W.codeIn K cd4 "is_form" = true)
    (k4 : PySem.W.keepIn K (.ref f4) = true)
    (a5 : PySem.W.nsIn K mainGlobals "is_name" = some (some (.ref f5)))
    (l5 : K.lookup f5 = some ⟨oc5, od5, .func (PySem.W.fnOf "is_name" "is_name" (defArgs sName) (defBody sName) (defScope sName) .none kV5 dc5 pm5 an5 cd5 ct5), sl5⟩)
    (c5 : PySem.W.codeIn K cd5 "is_name" = true)
    (k5 : PySem.W.keepIn K (.ref f5) = true)
    (a6 : PySem.W.nsIn K mainGlobals "are_names" = some (some (.ref f6)))
    (l6 : K.lookup f6 = some ⟨oc6, od6, .func (PySem.W.fnOf "are_names" "are_names" (defArgs sNames) (defBody sNames) (defScope sNames) .none kV6 dc6 pm6 an6 cd6 ct6), sl6⟩)
    (c6 : PySem.W.codeIn K cd6 "are_names" = true)
    (k6 : PySem.W.keepIn K (.ref f6) = true)
    (a7 : PySem.W.nsIn K mainGlobals "are_unlike_names" = some (some (.ref f7)))
    (l7 : K.lookup f7 = some ⟨oc7, od7, .func (PySem.W.fnOf "are_unlike_names" "are_unlike_names" (defArgs sUNames) (defBody sUNames) (defScope sUNames) .none kV7 dc7 pm7 an7 cd7 ct7), sl7⟩)
    (c7 : PySem.W.codeIn K cd7 "are_unlike_names" = true)
    (k7 : PySem.W.keepIn K (.ref f7) = true)
    (a8 : PySem.W.nsIn K mainGlobals "are_unlike" = some (some (.ref f8)))
    (l8 : K.lookup f8 = some ⟨oc8, od8, .func (PySem.W.fnOf "are_unlike" "are_unlike" (defArgs sUnlike) (defBody sUnlike) (defScope sUnlike) .none kV8 dc8 pm8 an8 cd8 ct8), sl8⟩)
    (c8 : PySem.W.codeIn K cd8 "are_unlike" = true)
    (k8 : PySem.W.keepIn K (.ref f8) = true)
    (a9 : PySem.W.nsIn K mainGlobals "is_shape" = some (some (.ref f9)))
    (l9 : K.lookup f9 = some ⟨oc9, od9, .func (PySem.W.fnOf "is_shape" "is_shape" (defArgs sShape) (defBody sShape) (defScope sShape) .none kV9 dc9 pm9 an9 cd9 ct9), sl9⟩)
    (c9 : PySem.W.codeIn K cd9 "is_shape" = true)
    (k9 : PySem.W.keepIn K (.ref f9) = true)
    (a10 : PySem.W.nsIn K mainGlobals "is_one_of" = some (some (.ref f10)))
    (l10 : K.lookup f10 = some ⟨oc10, od10, .func (PySem.W.fnOf "is_one_of" "is_one_of" (defArgs sOne) (defBody sOne) (defScope sOne) .none kV10 dc10 pm10 an10 cd10 ct10), sl10⟩)
    (c10 : PySem.W.codeIn K cd10 "is_one_of" = true)
    (k10 : PySem.W.keepIn K (.ref f10) = true)
    (a11 : PySem.W.nsIn K mainGlobals "are_widths" = some (some (.ref f11)))
    (l11 : K.lookup f11 = some ⟨oc11, od11, .func (PySem.W.fnOf "are_widths" "are_widths" (defArgs sWid) (defBody sWid) (defScope sWid) .none kV11 dc11 pm11 an11 cd11 ct11), sl11⟩)
    (c11 : PySem.W.codeIn K cd11 "are_widths" = true)
    (k11 : PySem.W.keepIn K (.ref f11) = true)
    (a12 : PySem.W.nsIn K mainGlobals "_law_hand" = some (some (.ref f12)))
    (l12 : K.lookup f12 = some ⟨oc12, od12, .func (PySem.W.fnOf "_law_hand" "_law_hand" (defArgs sHand) (defBody sHand) (defScope sHand) .none kV12 dc12 pm12 an12 cd12 ct12), sl12⟩)
    (c12 : PySem.W.codeIn K cd12 "_law_hand" = true)
    (k12 : PySem.W.keepIn K (.ref f12) = true)
    (a13 : PySem.W.nsIn K mainGlobals "_law_take" = some (some (.ref f13)))
    (l13 : K.lookup f13 = some ⟨oc13, od13, .func (PySem.W.fnOf "_law_take" "_law_take" (defArgs sTake) (defBody sTake) (defScope sTake) .none kV13 dc13 pm13 an13 cd13 ct13), sl13⟩)
    (c13 : PySem.W.codeIn K cd13 "_law_take" = true)
    (k13 : PySem.W.keepIn K (.ref f13) = true)
    (a14 : PySem.W.nsIn K mainGlobals "_law_pick" = some (some (.ref f14)))
    (l14 : K.lookup f14 = some ⟨oc14, od14, .func (PySem.W.fnOf "_law_pick" "_law_pick" (defArgs sPick) (defBody sPick) (defScope sPick) .none kV14 dc14 pm14 an14 cd14 ct14), sl14⟩)
    (c14 : PySem.W.codeIn K cd14 "_law_pick" = true)
    (k14 : PySem.W.keepIn K (.ref f14) = true)
    (a15 : PySem.W.nsIn K mainGlobals "_law_words" = some (some (.ref f15)))
    (l15 : K.lookup f15 = some ⟨oc15, od15, .func (PySem.W.fnOf "_law_words" "_law_words" (defArgs sWords) (defBody sWords) (defScope sWords) .none kV15 dc15 pm15 an15 cd15 ct15), sl15⟩)
    (c15 : PySem.W.codeIn K cd15 "_law_words" = true)
    (k15 : PySem.W.keepIn K (.ref f15) = true)
    (a16 : PySem.W.nsIn K mainGlobals "_law_odd_one" = some (some (.ref f16)))
    (l16 : K.lookup f16 = some ⟨oc16, od16, .func (PySem.W.fnOf "_law_odd_one" "_law_odd_one" (defArgs sOdd) (defBody sOdd) (defScope sOdd) .none kV16 dc16 pm16 an16 cd16 ct16), sl16⟩)
    (c16 : PySem.W.codeIn K cd16 "_law_odd_one" = true)
    (k16 : PySem.W.keepIn K (.ref f16) = true)
    (a17 : PySem.W.nsIn K mainGlobals "_law_bent" = some (some (.ref f17)))
    (l17 : K.lookup f17 = some ⟨oc17, od17, .func (PySem.W.fnOf "_law_bent" "_law_bent" (defArgs sBent) (defBody sBent) (defScope sBent) .none kV17 dc17 pm17 an17 cd17 ct17), sl17⟩)
    (c17 : PySem.W.codeIn K cd17 "_law_bent" = true)
    (k17 : PySem.W.keepIn K (.ref f17) = true)
    (a18 : PySem.W.nsIn K mainGlobals "_law_is_word" = some (some (.ref f18)))
    (l18 : K.lookup f18 = some ⟨oc18, od18, .func (PySem.W.fnOf "_law_is_word" "_law_is_word" (defArgs sLWord) (defBody sLWord) (defScope sLWord) .none kV18 dc18 pm18 an18 cd18 ct18), sl18⟩)
    (c18 : PySem.W.codeIn K cd18 "_law_is_word" = true)
    (k18 : PySem.W.keepIn K (.ref f18) = true)
    (a19 : PySem.W.nsIn K mainGlobals "_law_is_worth" = some (some (.ref f19)))
    (l19 : K.lookup f19 = some ⟨oc19, od19, .func (PySem.W.fnOf "_law_is_worth" "_law_is_worth" (defArgs sLWorth) (defBody sLWorth) (defScope sLWorth) .none kV19 dc19 pm19 an19 cd19 ct19), sl19⟩)
    (c19 : PySem.W.codeIn K cd19 "_law_is_worth" = true)
    (k19 : PySem.W.keepIn K (.ref f19) = true)
    (a20 : PySem.W.nsIn K mainGlobals "_law_are_cols" = some (some (.ref f20)))
    (l20 : K.lookup f20 = some ⟨oc20, od20, .func (PySem.W.fnOf "_law_are_cols" "_law_are_cols" (defArgs sCols) (defBody sCols) (defScope sCols) .none kV20 dc20 pm20 an20 cd20 ct20), sl20⟩)
    (c20 : PySem.W.codeIn K cd20 "_law_are_cols" = true)
    (k20 : PySem.W.keepIn K (.ref f20) = true)
    (a21 : PySem.W.nsIn K mainGlobals "_law_is_shape" = some (some (.ref f21)))
    (l21 : K.lookup f21 = some ⟨oc21, od21, .func (PySem.W.fnOf "_law_is_shape" "_law_is_shape" (defArgs sLShape) (defBody sLShape) (defScope sLShape) .none kV21 dc21 pm21 an21 cd21 ct21), sl21⟩)
    (c21 : PySem.W.codeIn K cd21 "_law_is_shape" = true)
    (k21 : PySem.W.keepIn K (.ref f21) = true)
    (a22 : PySem.W.nsIn K mainGlobals "_law_is_form" = some (some (.ref f22)))
    (l22 : K.lookup f22 = some ⟨oc22, od22, .func (PySem.W.fnOf "_law_is_form" "_law_is_form" (defArgs sLForm) (defBody sLForm) (defScope sLForm) .none kV22 dc22 pm22 an22 cd22 ct22), sl22⟩)
    (c22 : PySem.W.codeIn K cd22 "_law_is_form" = true)
    (k22 : PySem.W.keepIn K (.ref f22) = true)
    (a23 : PySem.W.nsIn K mainGlobals "_law_told_right" = some (some (.ref f23)))
    (l23 : K.lookup f23 = some ⟨oc23, od23, .func (PySem.W.fnOf "_law_told_right" "_law_told_right" (defArgs sTold) (defBody sTold) (defScope sTold) .none kV23 dc23 pm23 an23 cd23 ct23), sl23⟩)
    (c23 : PySem.W.codeIn K cd23 "_law_told_right" = true)
    (k23 : PySem.W.keepIn K (.ref f23) = true)
    (a24 : PySem.W.nsIn K mainGlobals "_law_ranks_right" = some (some (.ref f24)))
    (l24 : K.lookup f24 = some ⟨oc24, od24, .func (PySem.W.fnOf "_law_ranks_right" "_law_ranks_right" (defArgs sRanks) (defBody sRanks) (defScope sRanks) .none kV24 dc24 pm24 an24 cd24 ct24), sl24⟩)
    (c24 : PySem.W.codeIn K cd24 "_law_ranks_right" = true)
    (k24 : PySem.W.keepIn K (.ref f24) = true)
    (a25 : PySem.W.nsIn K mainGlobals "law" = some (some (.ref f25)))
    (l25 : K.lookup f25 = some ⟨oc25, od25, .func (PySem.W.fnOf "law" "law" (defArgs sLaw) (defBody sLaw) (defScope sLaw) .none kV25 dc25 pm25 an25 cd25 ct25), sl25⟩)
    (c25 : PySem.W.codeIn K cd25 "law" = true)
    (k25 : PySem.W.keepIn K (.ref f25) = true)
    (z_isinstance : PySem.W.nsIn K mainGlobals "isinstance" = some none)
    (z_int : PySem.W.nsIn K mainGlobals "int" = some none)
    (z_bool : PySem.W.nsIn K mainGlobals "bool" = some none)
    (z_str : PySem.W.nsIn K mainGlobals "str" = some none)
    (z_tuple : PySem.W.nsIn K mainGlobals "tuple" = some none)
    (z_len : PySem.W.nsIn K mainGlobals "len" = some none)
    (z_set : PySem.W.nsIn K mainGlobals "set" = some none)
    (z_all : PySem.W.nsIn K mainGlobals "all" = some none)
    (z_abs : PySem.W.nsIn K mainGlobals "abs" = some none)
    (z_range : PySem.W.nsIn K mainGlobals "range" = some none)
    (z_repr : PySem.W.nsIn K mainGlobals "repr" = some none)
    (z_max : PySem.W.nsIn K mainGlobals "max" = some none)
    (z_min : PySem.W.nsIn K mainGlobals "min" = some none)
    (z_list : PySem.W.nsIn K mainGlobals "list" = some none)
    (z_sorted : PySem.W.nsIn K mainGlobals "sorted" = some none)
    (n_MOST_PLACES : PySem.W.nsIn K mainGlobals "MOST_PLACES" = some (some (.int 4 tk_MOST_PLACES)))
    (n_LONGEST : PySem.W.nsIn K mainGlobals "LONGEST" = some (some (.int 8 tk_LONGEST)))
    (n_WIDEST : PySem.W.nsIn K mainGlobals "WIDEST" = some (some (.int 20 tk_WIDEST)))
    (n_MOST_COLUMNS : PySem.W.nsIn K mainGlobals "MOST_COLUMNS" = some (some (.int 6 tk_MOST_COLUMNS)))
    (n_ORDERS : PySem.W.nsIn K mainGlobals "ORDERS" = some (some (.ref c_ORDERS)))
    (L_ORDERS : K.lookup c_ORDERS = some ⟨.type "tuple", od_ORDERS, .seq #[.str (Str.ofString "ymd") tk_ORDERS0, .str (Str.ofString "dmy") tk_ORDERS1, .str (Str.ofString "mdy") tk_ORDERS2] m_ORDERS, sl_ORDERS⟩)
    (n_SIGNS : PySem.W.nsIn K mainGlobals "SIGNS" = some (some (.ref c_SIGNS)))
    (L_SIGNS : K.lookup c_SIGNS = some ⟨.type "tuple", od_SIGNS, .seq #[.str (Str.ofString ",") tk_SIGNS0, .str (Str.ofString ";") tk_SIGNS1, .str (Str.ofString "|") tk_SIGNS2, .str (Str.ofString ":") tk_SIGNS3] m_SIGNS, sl_SIGNS⟩)
    (n_QUOTES : PySem.W.nsIn K mainGlobals "QUOTES" = some (some (.ref c_QUOTES)))
    (L_QUOTES : K.lookup c_QUOTES = some ⟨.type "tuple", od_QUOTES, .seq #[.str (Str.ofString "\"") tk_QUOTES0, .str (Str.ofString "'") tk_QUOTES1] m_QUOTES, sl_QUOTES⟩)
    (n_NAMED_SIGNS : PySem.W.nsIn K mainGlobals "NAMED_SIGNS" = some (some (.ref c_NAMED_SIGNS)))
    (L_NAMED_SIGNS : K.lookup c_NAMED_SIGNS = some ⟨.type "tuple", od_NAMED_SIGNS, .seq #[.str (Str.ofString ",") tk_NAMED_SIGNS0, .str (Str.ofString ";") tk_NAMED_SIGNS1, .str (Str.ofString "|") tk_NAMED_SIGNS2] m_NAMED_SIGNS, sl_NAMED_SIGNS⟩) :
    ∃ fd : FuncData, (∀ (s : Shared) (v : Value), BindsTo s fd ⟨[v], []⟩ [("_law_script", v)]) ∧ ∀ base : Heap, K.In base → base.Ns mainGlobals mg → (∃ mm, base.Ns sysModules mm) → FG l.prog w K mg base 7 fa fd ["_law_script"] (spLaw K) := by
  have e := hfa.symm.trans (PySem.W.mg_of X G a25)
  cases e
  have FW := fun_mk (st := sWhole) l1 c1 k1
  have FWo := fun_mk (st := sWorth) l2 c2 k2
  have FRk := fun_mk (st := sRank) l3 c3 k3
  have FFo := fun_mk (st := sForm) l4 c4 k4
  have FN := fun_mk (st := sName) l5 c5 k5
  have FNs := fun_mk (st := sNames) l6 c6 k6
  have FUN := fun_mk (st := sUNames) l7 c7 k7
  have FU := fun_mk (st := sUnlike) l8 c8 k8
  have FSh := fun_mk (st := sShape) l9 c9 k9
  have FOn := fun_mk (st := sOne) l10 c10 k10
  have FWi := fun_mk (st := sWid) l11 c11 k11
  have Fhand := fun_mk (st := sHand) l12 c12 k12
  have Ftake := fun_mk (st := sTake) l13 c13 k13
  have Fpick := fun_mk (st := sPick) l14 c14 k14
  have Fwords := fun_mk (st := sWords) l15 c15 k15
  have Fodd := fun_mk (st := sOdd) l16 c16 k16
  have Fbent := fun_mk (st := sBent) l17 c17 k17
  have Flword := fun_mk (st := sLWord) l18 c18 k18
  have Flworth := fun_mk (st := sLWorth) l19 c19 k19
  have Flcols := fun_mk (st := sCols) l20 c20 k20
  have Flshape := fun_mk (st := sLShape) l21 c21 k21
  have Flform := fun_mk (st := sLForm) l22 c22 k22
  have Ftold := fun_mk (st := sTold) l23 c23 k23
  have Franks := fun_mk (st := sRanks) l24 c24 k24
  have Flaw := fun_mk (st := sLaw) l25 c25 k25
  have bW := FW.binds (ps := ["thing"]) fun _ _ _ _ _ _ us hl => match us, hl with | [_], _ => rfl
  have gW := PySem.W.mg_of X G a1
  have bWo := FWo.binds (ps := ["thing"]) fun _ _ _ _ _ _ us hl => match us, hl with | [_], _ => rfl
  have gWo := PySem.W.mg_of X G a2
  have bRk := FRk.binds (ps := ["worth"]) fun _ _ _ _ _ _ us hl => match us, hl with | [_], _ => rfl
  have gRk := PySem.W.mg_of X G a3
  have bFo := FFo.binds (ps := ["thing"]) fun _ _ _ _ _ _ us hl => match us, hl with | [_], _ => rfl
  have gFo := PySem.W.mg_of X G a4
  have bN := FN.binds (ps := ["thing"]) fun _ _ _ _ _ _ us hl => match us, hl with | [_], _ => rfl
  have gN := PySem.W.mg_of X G a5
  have bNs := FNs.binds (ps := ["thing", "least", "most"]) fun _ _ _ _ _ _ us hl => match us, hl with | [_, _, _], _ => rfl
  have gNs := PySem.W.mg_of X G a6
  have bUN := FUN.binds (ps := ["thing", "least", "most"]) fun _ _ _ _ _ _ us hl => match us, hl with | [_, _, _], _ => rfl
  have gUN := PySem.W.mg_of X G a7
  have bU := FU.binds (ps := ["texts"]) fun _ _ _ _ _ _ us hl => match us, hl with | [_], _ => rfl
  have gU := PySem.W.mg_of X G a8
  have bSh := FSh.binds (ps := ["thing"]) fun _ _ _ _ _ _ us hl => match us, hl with | [_], _ => rfl
  have gSh := PySem.W.mg_of X G a9
  have bOn := FOn.binds (ps := ["thing", "signs"]) fun _ _ _ _ _ _ us hl => match us, hl with | [_, _], _ => rfl
  have gOn := PySem.W.mg_of X G a10
  have bWi := FWi.binds (ps := ["thing", "many"]) fun _ _ _ _ _ _ us hl => match us, hl with | [_, _], _ => rfl
  have gWi := PySem.W.mg_of X G a11
  have bhand := Fhand.binds (ps := ["_law_script", "_law_k"]) fun _ _ _ _ _ _ us hl => match us, hl with | [_, _], _ => rfl
  have ghand := PySem.W.mg_of X G a12
  have btake := Ftake.binds (ps := ["_law_hand_here", "_law_many"]) fun _ _ _ _ _ _ us hl => match us, hl with | [_, _], _ => rfl
  have gtake := PySem.W.mg_of X G a13
  have bpick := Fpick.binds (ps := ["_law_hand_here", "_law_some"]) fun _ _ _ _ _ _ us hl => match us, hl with | [_, _], _ => rfl
  have gpick := PySem.W.mg_of X G a14
  have bwords := Fwords.binds (ps := ["_law_hand_here", "_law_many"]) fun _ _ _ _ _ _ us hl => match us, hl with | [_, _], _ => rfl
  have gwords := PySem.W.mg_of X G a15
  have bodd := Fodd.binds (ps := ["_law_hand_here"]) fun _ _ _ _ _ _ us hl => match us, hl with | [_], _ => rfl
  have godd := PySem.W.mg_of X G a16
  have bbent := Fbent.binds (ps := ["_law_hand_here", "_law_item", "_law_deep"]) fun _ _ _ _ _ _ us hl => match us, hl with | [_, _, _], _ => rfl
  have gbent := PySem.W.mg_of X G a17
  have blword := Flword.binds (ps := ["_law_what"]) fun _ _ _ _ _ _ us hl => match us, hl with | [_], _ => rfl
  have glword := PySem.W.mg_of X G a18
  have blworth := Flworth.binds (ps := ["_law_what"]) fun _ _ _ _ _ _ us hl => match us, hl with | [_], _ => rfl
  have glworth := PySem.W.mg_of X G a19
  have blcols := Flcols.binds (ps := ["_law_what"]) fun _ _ _ _ _ _ us hl => match us, hl with | [_], _ => rfl
  have glcols := PySem.W.mg_of X G a20
  have blshape := Flshape.binds (ps := ["_law_what"]) fun _ _ _ _ _ _ us hl => match us, hl with | [_], _ => rfl
  have glshape := PySem.W.mg_of X G a21
  have blform := Flform.binds (ps := ["_law_what"]) fun _ _ _ _ _ _ us hl => match us, hl with | [_], _ => rfl
  have glform := PySem.W.mg_of X G a22
  have btold := Ftold.binds (ps := ["_law_item"]) fun _ _ _ _ _ _ us hl => match us, hl with | [_], _ => rfl
  have gtold := PySem.W.mg_of X G a23
  have branks := Franks.binds (ps := ["_law_hand_here"]) fun _ _ _ _ _ _ us hl => match us, hl with | [_], _ => rfl
  have granks := PySem.W.mg_of X G a24
  refine ⟨PySem.W.fnOf "law" "law" (defArgs sLaw) (defBody sLaw) (defScope sLaw) .none kV25 dc25 pm25 an25 cd25 ct25, fun s v => .of_eq rfl, fun base _ _ sm => ?_⟩
  have T0 : Isi mg := ⟨PySem.W.mg_none_of X G z_isinstance, PySem.W.mg_none_of X G z_int, PySem.W.mg_none_of X G z_bool, PySem.W.mg_none_of X G z_str, PySem.W.mg_none_of X G z_tuple⟩
  have T : Free mg := ⟨T0, PySem.W.mg_none_of X G z_len, PySem.W.mg_none_of X G z_set, PySem.W.mg_none_of X G z_all, PySem.W.mg_none_of X G z_abs, PySem.W.mg_none_of X G z_range, PySem.W.mg_none_of X G z_repr, PySem.W.mg_none_of X G z_max, PySem.W.mg_none_of X G z_min, PySem.W.mg_none_of X G z_list, PySem.W.mg_none_of X G z_sorted⟩
  have T1 : Txt mg := ⟨PySem.W.mg_none_of X G z_len, PySem.W.mg_none_of X G z_abs, PySem.W.mg_none_of X G z_int, PySem.W.mg_none_of X G z_range⟩
  have C : Csts K mg c_ORDERS c_SIGNS c_QUOTES c_NAMED_SIGNS := ⟨⟨_, PySem.W.mg_of X G n_MOST_PLACES⟩, PySem.W.mg_of X G n_ORDERS, tup_const L_ORDERS (by show 3 ≤ sizeLine; decide) (.cons ⟨_, rfl⟩ (.cons ⟨_, rfl⟩ (.cons ⟨_, rfl⟩ .nil))), ⟨_, PySem.W.mg_of X G n_LONGEST⟩, ⟨_, PySem.W.mg_of X G n_WIDEST⟩, ⟨_, PySem.W.mg_of X G n_MOST_COLUMNS⟩, PySem.W.mg_of X G n_SIGNS, tup_const L_SIGNS (by show 4 ≤ sizeLine; decide) (.cons ⟨_, rfl⟩ (.cons ⟨_, rfl⟩ (.cons ⟨_, rfl⟩ (.cons ⟨_, rfl⟩ .nil)))), PySem.W.mg_of X G n_QUOTES, tup_const L_QUOTES (by show 2 ≤ sizeLine; decide) (.cons ⟨_, rfl⟩ (.cons ⟨_, rfl⟩ .nil)), PySem.W.mg_of X G n_NAMED_SIGNS, tup_const L_NAMED_SIGNS (by show 3 ≤ sizeLine; decide) (.cons ⟨_, rfl⟩ (.cons ⟨_, rfl⟩ (.cons ⟨_, rfl⟩ .nil)))⟩
  have O : Own K mg _ _ _ _ _ _ _ _ _ _ _ _ _ _ _ _ _ _ _ _ _ _ := ⟨FN, bN, gN, FNs, bNs, gNs, FU, bU, gU, FUN, bUN, gUN, FOn, bOn, gOn, FWi, bWi, gWi, FW, bW, gW, FSh, bSh, gSh, FWo, bWo, gWo, FFo, bFo, gFo, FRk, bRk, gRk⟩
  have Z : HandF K mg _ _ _ _ := ⟨Ftake, btake, gtake, Fpick, bpick, gpick⟩
  have L : Look K mg _ _ _ _ _ _ _ _ _ _ := ⟨Flworth, blworth, glworth, Flform, blform, glform, Flshape, blshape, glshape, Flcols, blcols, glcols, Flword, blword, glword⟩
  have kWo := kb_one (p := "thing") FWo fun _ _ _ _ _ _ _ => rfl
  have kFo := kb_one (p := "thing") FFo fun _ _ _ _ _ _ _ => rfl
  have kSh := kb_one (p := "thing") FSh fun _ _ _ _ _ _ _ => rfl
  have kRk := kb_one (p := "worth") FRk fun _ _ _ _ _ _ _ => rfl
  have GTr := ok_told (P := l.prog) (w := w) O T C L sm kWo kFo kSh Ftold
  have GR := ok_ranks (P := l.prog) (w := w) (base := base) Franks T T1 Z FRk bRk gRk kRk
  exact ok_law Flaw T T1 Z ⟨Fhand, bhand, ghand, Fwords, bwords, gwords, Fodd, bodd, godd, Fbent, bbent, gbent, Franks, branks, granks, Ftold, btold, gtold⟩ GR GTr
end K01
open PySem PySem.W PyProof.Rows
set_option maxRecDepth 100000 in
set_option maxHeartbeats 0 in
theorem PySem.Challenge.cw_cleanedtables_k01_worths_forms_shapes_of_holds : PySem.Challenge.rw_cleanedtables_k01_worths_forms_shapes_of.Holds := by
  w_on; o_law; k_head; (case hw => w_witness2)
  k_fill
  refine Xg.walkS (l := PySem.Challenge.rw_cleanedtables_k01_worths_forms_shapes_of) (n := 63) (k := 7) (sp := K01.spLaw) (x := "_law_script") ?calm rfl (by decide) rfl ⟨rfl, by decide, by decide⟩ (fun w h Y => PySem.W.kIn_of Y) ?F (fun K H a ns hl _ hS => ⟨a, ns, rfl, hS, hl, fun _ => rfl⟩)
  case calm => decide +kernel
  case F =>
    intro w mg fa h KX G hmg
    refine' K01.all_mk KX G hmg ?a1 ?l1 ?c1 ?k1 ?a2 ?l2 ?c2 ?k2 ?a3 ?l3 ?c3 ?k3 ?a4 ?l4 ?c4 ?k4 ?a5 ?l5 ?c5 ?k5 ?a6 ?l6 ?c6 ?k6 ?a7 ?l7 ?c7 ?k7 ?a8 ?l8 ?c8 ?k8 ?a9 ?l9 ?c9 ?k9 ?a10 ?l10 ?c10 ?k10 ?a11 ?l11 ?c11 ?k11 ?a12 ?l12 ?c12 ?k12 ?a13 ?l13 ?c13 ?k13 ?a14 ?l14 ?c14 ?k14 ?a15 ?l15 ?c15 ?k15 ?a16 ?l16 ?c16 ?k16 ?a17 ?l17 ?c17 ?k17 ?a18 ?l18 ?c18 ?k18 ?a19 ?l19 ?c19 ?k19 ?a20 ?l20 ?c20 ?k20 ?a21 ?l21 ?c21 ?k21 ?a22 ?l22 ?c22 ?k22 ?a23 ?l23 ?c23 ?k23 ?a24 ?l24 ?c24 ?k24 ?a25 ?l25 ?c25 ?k25 ?z_isinstance ?z_int ?z_bool ?z_str ?z_tuple ?z_len ?z_set ?z_all ?z_abs ?z_range ?z_repr ?z_max ?z_min ?z_list ?z_sorted ?n_MOST_PLACES ?n_LONGEST ?n_WIDEST ?n_MOST_COLUMNS ?n_ORDERS ?L_ORDERS ?n_SIGNS ?L_SIGNS ?n_QUOTES ?L_QUOTES ?n_NAMED_SIGNS ?L_NAMED_SIGNS
    (case a1 => k_is)
    (case l1 => k_is)
    (case c1 => k_is)
    (case k1 => k_is)
    (case a2 => k_is)
    (case l2 => k_is)
    (case c2 => k_is)
    (case k2 => k_is)
    (case a3 => k_is)
    (case l3 => k_is)
    (case c3 => k_is)
    (case k3 => k_is)
    (case a4 => k_is)
    (case l4 => k_is)
    (case c4 => k_is)
    (case k4 => k_is)
    (case a5 => k_is)
    (case l5 => k_is)
    (case c5 => k_is)
    (case k5 => k_is)
    (case a6 => k_is)
    (case l6 => k_is)
    (case c6 => k_is)
    (case k6 => k_is)
    (case a7 => k_is)
    (case l7 => k_is)
    (case c7 => k_is)
    (case k7 => k_is)
    (case a8 => k_is)
    (case l8 => k_is)
    (case c8 => k_is)
    (case k8 => k_is)
    (case a9 => k_is)
    (case l9 => k_is)
    (case c9 => k_is)
    (case k9 => k_is)
    (case a10 => k_is)
    (case l10 => k_is)
    (case c10 => k_is)
    (case k10 => k_is)
    (case a11 => k_is)
    (case l11 => k_is)
    (case c11 => k_is)
    (case k11 => k_is)
    (case a12 => k_is)
    (case l12 => k_is)
    (case c12 => k_is)
    (case k12 => k_is)
    (case a13 => k_is)
    (case l13 => k_is)
    (case c13 => k_is)
    (case k13 => k_is)
    (case a14 => k_is)
    (case l14 => k_is)
    (case c14 => k_is)
    (case k14 => k_is)
    (case a15 => k_is)
    (case l15 => k_is)
    (case c15 => k_is)
    (case k15 => k_is)
    (case a16 => k_is)
    (case l16 => k_is)
    (case c16 => k_is)
    (case k16 => k_is)
    (case a17 => k_is)
    (case l17 => k_is)
    (case c17 => k_is)
    (case k17 => k_is)
    (case a18 => k_is)
    (case l18 => k_is)
    (case c18 => k_is)
    (case k18 => k_is)
    (case a19 => k_is)
    (case l19 => k_is)
    (case c19 => k_is)
    (case k19 => k_is)
    (case a20 => k_is)
    (case l20 => k_is)
    (case c20 => k_is)
    (case k20 => k_is)
    (case a21 => k_is)
    (case l21 => k_is)
    (case c21 => k_is)
    (case k21 => k_is)
    (case a22 => k_is)
    (case l22 => k_is)
    (case c22 => k_is)
    (case k22 => k_is)
    (case a23 => k_is)
    (case l23 => k_is)
    (case c23 => k_is)
    (case k23 => k_is)
    (case a24 => k_is)
    (case l24 => k_is)
    (case c24 => k_is)
    (case k24 => k_is)
    (case a25 => k_is)
    (case l25 => k_is)
    (case c25 => k_is)
    (case k25 => k_is)
    (case z_isinstance => k_is)
    (case z_int => k_is)
    (case z_bool => k_is)
    (case z_str => k_is)
    (case z_tuple => k_is)
    (case z_len => k_is)
    (case z_set => k_is)
    (case z_all => k_is)
    (case z_abs => k_is)
    (case z_range => k_is)
    (case z_repr => k_is)
    (case z_max => k_is)
    (case z_min => k_is)
    (case z_list => k_is)
    (case z_sorted => k_is)
    (case n_MOST_PLACES => k_is)
    (case n_LONGEST => k_is)
    (case n_WIDEST => k_is)
    (case n_MOST_COLUMNS => k_is)
    (case n_ORDERS => k_is)
    (case L_ORDERS => k_is)
    (case n_SIGNS => k_is)
    (case L_SIGNS => k_is)
    (case n_QUOTES => k_is)
    (case L_QUOTES => k_is)
    (case n_NAMED_SIGNS => k_is)
    (case L_NAMED_SIGNS => k_is)
