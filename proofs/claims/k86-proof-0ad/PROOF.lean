import PyProof.Rows.All
import Wide.All
import OpenK.AllK
import Wide.FinOn
import HandS.ForMost
import HandS.Flow
import HandS.Wide
import HandS.StrMore
import HandS.StrSplit
import HandS.Codes
import PyProof.ReprRoads
import HandS.ExcInit
import HandS.IsInst
import KE.KExcInit
import HandS.MakeKw
import HandS.TryMany
import HandS.ExcField
import HandS.ExcIs
import KE.KExcIs
import HandS.ExcOwn
import HandS.ExcValue
import KE.KxText
import HandS.Conv
import HandS.Walk
import HandS.Zip
import HandS.Style
import HandS.DictComp
import HandS.NoneIn
import HandS.More
import HandS.TupAny
import PyProof.StrOps2
import PyProof.ReprLen
import HandS.Set
import HandS.Strs
import HandS.TupSets
import KE.SortData
import PyProof.Rows.SetFrom
import HandS.Sort
import PySem.Challenge.RW_cleanedtables_k86_programs_row_by_row
set_option Elab.async false
set_option linter.all false
set_option maxRecDepth 100000
set_option maxHeartbeats 4000000
/-! Bs: what all our texts lean on: defs that ask for reprs (no guard stands on the stack), reprs of data, draws. -/
namespace Bs
open PySem PySem.Spec PyProof.Rows L2

/-! ### defs under an empty stack of guards -/
/-- a def's promise where no guard stands on the stack -/
structure FG (P : Program) (w : World) (K : PySem.W.Frag) (mg : Str → Option Value) (base : Heap) (k : Nat) (f : Addr) (fd : FuncData) (ps : List Str) (sp : Sp) : Prop where
  many : ∀ vs H Q E, sp vs H Q E → vs.length = ps.length
  goes : ∀ (A : Around) (outer : List Env) (s : Shared) (H : Hp) (args : Args) (us : List Value) (vs : List V) (Q : VK) (E : XK),
    A.guards = some [] → Room k A → Env0 P w K mg base A outer s H → BindsTo s fd args (ps.zip us) → Vals vs us → sp vs H Q E →
    codeAny (model P w) A (.call (.ref f) args) (CR CX0 outer P w H s Q E) s
theorem FG.of {P : Program} {w : World} {K : PySem.W.Frag} {mg : Str → Option Value} {base : Heap} {k : Nat} {f : Addr} {fd : FuncData} {ps : List Str} {sp : Sp}
    (F : FnOk P w K mg base CX0 k f fd ps sp) : FG P w K mg base k f fd ps sp :=
  ⟨F.len, fun A outer s H args us vs Q E _ => F.run A outer s H args us vs Q E⟩

section
variable {P : Program} {w : World} {K : PySem.W.Frag} {mg : Str → Option Value} {base : Heap} {x qual : Str} {st : Stmt} {f : Addr} {fd : FuncData} {N ps : List Str} {k : Nat} {sp : Sp}
theorem okG (F : Fun K x qual st f fd) (S : FnScope N ps (defScope st)) (many : ∀ vs H Q E, sp vs H Q E → vs.length = ps.length)
    (body : ∀ (cdv : Value) (A : Around) (outer : List Env) (s : Shared) (H : Hp) (vs : List V) (Q : VK) (E : XK), A.guards = some [] →
      Room k (A.deeper (envOfC qual (defScope st) s.heap.objs.size f cdv)) → sp vs H Q E →
      ∃ t, PSs (cxOf CX0 P w K mg base N qual (defScope st) f cdv A outer s H E).nox (defBody st) t ∧ t { nx := fun _ H' => Q .non H', rt := Q } (start N vs) H) :
    FG P w K mg base (k + 1) f fd ps sp := by
  obtain ⟨oc, od, kV, doc, pm, an, cdv, ct, osl, rfl, lk, hcd⟩ := F.ex
  constructor
  · exact many
  · intro A outer s H args us vs Q E ng hr e0 hb rv hsp
    have inK : K.In s.heap := e0.mod.kin.keeps fun b o q => (e0.bs b o q).1
    have noL : s.heap.NoLimit := e0.mod.nolimit.keeps fun b o q => (e0.bs b o q).1
    have kinds : ∀ y ∈ ps.zip us, (defScope st).names.lookup y.1 = some .local ∨ ((defScope st).names.lookup y.1 = some .cell ∧ ((cellsFrom (s.heap.objs.size + 1) (defScope st).names []).lookup y.1).isSome = true) := by
      rintro ⟨n, v⟩ hy
      cases S.par n (List.of_mem_zip hy).1 with
      | inl q => exact .inl q
      | inr q => exact .inr ⟨q, PySem.W.cellsFrom_some _ _ _ (.inl q)⟩
    apply codeAny_call_function hr.depth (inK _ _ lk) rfl S.co S.gen rfl (PySem.W.codeRec_of inK hcd)
    apply hb
    apply wpAny_newFunctionEnv_cells S.kind kinds
    intro env he s1 xx
    subst he
    refine ⟨noL.keeps xx.toInCall.keep, ?_⟩
    apply codeAny_func
    obtain ⟨t, ht, hq⟩ := body cdv A outer s H vs Q E ng (hr.deeper _) hsp
    have J : Inv (cxOf CX0 P w K mg base N qual (defScope st) f cdv A outer s H E) [] (start N vs) H s1 := inv_start S hr.hd e0 (many _ _ _ _ hsp) rv xx
    refine wpAny_mono (ht.nox.run [] s1 (start N vs) H _ J hq) ?_ (fun _ _ z => z)
    intro fl s' hs
    cases fl with
    | ret u =>
      obtain ⟨v, σ', H', J', r', q⟩ := hs
      exact ⟨v, H', J'.os, J'.bare, J'.base, J'.hok, r', q⟩
    | next =>
      obtain ⟨σ', H', J', q⟩ := hs
      exact ⟨V.non, H', J'.os, J'.bare, J'.base, J'.hok, (rfl : RelV V.non Value.none), q⟩
    | brk => exact hs.elim fun _ z => z.elim fun _ z => z.2.elim
    | cont => exact hs.elim fun _ z => z.elim fun _ z => z.2.elim
end

section
variable {X : Cx} {k : Nat} {f : Addr} {fd : FuncData} {ps : List Str} {sp : Sp} {dvs : List V} {ds : List Value} {x : Str} {p pos : Pos} {e : Expr} {es : List Expr} {t : TA}
/-- a call of such a def, where no guard stands -/
theorem callG (F : FG X.prog X.w X.K X.mg X.base k f fd ps sp) (ng : X.A.guards = some []) (hr : Room k X.A) (hg : Gl X x) (hm : X.mg x = some (.ref f)) (hk : PySem.W.keepIn X.K (.ref f) = true) (hb : Binds X.K fd ps ds) (hd : Vals dvs ds)
    (ha : PA X (e :: es) t) (hdb : (x == ("__debug__" : Str)) = false := by decide) (he : starEach (e :: es) X.env = (false, eval e X.env) :: starEach es X.env := by rfl) (hpl : (backTo pos (starEach es X.env)).any (·.1) = false := by rfl) :
    PE X (.Call (.Name x p) (e :: es) [] pos) (tCall sp dvs E0 t) := by
  constructor
  intro pins s σ H Q I h
  apply wpAny_Call_Name_kw
  apply ld_glob I hg hm _ hdb
  apply PySem.W.callWith_K (h₀ := X.base) I.ok.mod.kin hk _ he hpl
  apply thn (ha.run pos pins s σ H _ I h)
  rintro us s1 ⟨vs, H1, I1, r, q⟩
  refine ⟨I1.kIn, ?_⟩
  have r2 : Vals (vs ++ dvs) (us ++ ds) := r.append hd
  have hl : (us ++ ds).length = ps.length := by rw [← r2.length]; exact F.many _ _ _ _ q
  apply wpAny_call
  apply codeAny_mono (F.goes X.A X.stack s1 H1 ⟨us, []⟩ (us ++ ds) (vs ++ dvs) Q E0 ng hr I1.env0 (hb s1 us I1.kIn hl) r2 q)
  intro res s' hq
  match res, hq with
  | .error _, hq => exact hq.elim
  | .ok (.ret u), hq => exact I1.after hq
  | .ok .next, hq => exact hq.elim
  | .ok .brk, hq => exact hq.elim
  | .ok .cont, hq => exact hq.elim
end

/-! ### the end of a row over such a law -/
theorem endG {P : Program} {w : World} {K : PySem.W.Frag} {mg mb : Str → Option Value} {k : Nat} {fa a : Addr} {fd : FuncData} {x : Str} {sp : Sp} {s : Shared} {us : List Value} {ns : List Int}
    (inK : K.In s.heap) (gl : s.heap.Ns mainGlobals mg) (bu : s.heap.Ns builtinsNs mb) (buE : ∀ x : Str, x ≠ "__name__" → mb x = bootBuiltins x) (noL : s.heap.NoLimit) (noG : s.gens = #[])
    (at_ : s.heap.get? a = some { cls := .type "list", data := .seq us.toArray }) (iA : IntsAre us ns) (len : ns.length ≤ sizeLine) (room : Room k callerA)
    (F : ∀ base : Heap, K.In base → base.Ns mainGlobals mg → FG P w K mg base k fa fd [x] sp) (bnd : ∀ (s : Shared) (u : Value), BindsTo s fd ⟨[u], []⟩ [(x, u)])
    (want : ∀ H : Hp, Only H → SqL K H a (ns.map V.int) → sp [.ref a] H (fun v _ => v = .bl true) E0) :
    codeAny (model P w) callerA (.call (.ref fa) ⟨[.ref a], []⟩) (fun r s' => r = .ok (.ret (.bool true)) ∧ OldK s.heap s'.heap ∧ s'.os = s.os ∧ AllBare s'.gens) s := by
  have rv := vals_ints iA
  have lenV := iA.length
  have key : ∀ H : Hp, Only H → SqL K H a (ns.map V.int) → HOk P w H s.heap → (∀ b, b ≠ a → H b = none) → (K.lookup a ≠ none → H a = none) →
      codeAny (model P w) callerA (.call (.ref fa) ⟨[.ref a], []⟩) (fun r s' => r = .ok (.ret (.bool true)) ∧ OldK s.heap s'.heap ∧ s'.os = s.os ∧ AllBare s'.gens) s := by
    intro H oH sH okH one hK
    have nd : ∀ {b : Addr} {o : Obj} {es : Array DictEntry} {ep : Nat}, s.heap.get? b = some o → o.data = .dict es ep → H b = none := by
      intro b o es ep e d
      by_cases eb : b = a
      · rw [eb, at_] at e
        cases e
        exact nomatch (show Data.seq us.toArray _ = Data.dict es ep from d)
      · exact one b eb
    have nsH : ∀ {b : Addr} {m : Str → Option Value}, s.heap.Ns b m → (hidT s.heap H).Ns b m := by
      rintro b m ⟨o, es, ep, e, d, r⟩
      exact ⟨o, es, ep, hidT_get e (nd e d), d, r⟩
    have kH : K.In (hidT s.heap H) := by
      intro b o e
      apply hidT_get (inK b o e)
      by_cases eb : b = a
      · rw [eb]
        exact hK (by rw [← eb, e]; simp)
      · exact one b eb
    have md : Mod K mg (hidT s.heap H) := ⟨kH, nsH gl, ⟨mb, nsH bu, buE⟩, noL.elim fun mc q => ⟨mc, nsH q.1, q.2⟩⟩
    have e0 : Env0 P w K mg (hidT s.heap H) callerA [] s H :=
      { frames := rfl, mod := md, bs := fun b o e => of_hidT e, bsz := Nat.le_of_eq (hidT_size _ _), funs := trivial, frf := fun b hb => (nomatch (show b ∈ ([] : List Addr) from hb)), hok := okH, bare := .of_eq noG }
    apply codeAny_mono ((F _ kH (nsH gl)).goes callerA [] s H ⟨[.ref a], []⟩ [.ref a] [.ref a] _ _ rfl room e0 (bnd s (.ref a)) (.cons rfl .nil) (want H oH sH))
    intro r s' h
    match r, h with
    | .error e, h => exact h.elim
    | .ok .next, h => exact h.elim
    | .ok .brk, h => exact h.elim
    | .ok .cont, h => exact h.elim
    | .ok (.ret u), ⟨v, H', os, bare, un, ok', r', q⟩ =>
      have q' : v = .bl true := q
      subst q'
      have eu : u = Value.bool true := r'
      subst eu
      refine ⟨rfl, OldK.of_keep ?_, os, bare⟩
      intro b o e
      cases eb : H b with
      | none => exact un.keep b o e eb (fun z => (nomatch (show b ∈ ([] : List Addr) from z))) (by simp)
      | some u =>
        cases oH b with
        | inl z => rw [eb] at z; cases z
        | inr z =>
          obtain ⟨ob, xs, z⟩ := z
          have e1 := (okH b _ z).1
          have e2 := (ok' b _ (un.frzs b ob _ z)).1
          rw [e] at e1
          cases e1
          exact e2
  cases hk : K.lookup a with
  | some o =>
    have e := inK a o hk
    rw [at_] at e
    cases e
    apply key (fun _ => none) (fun _ => .inl rfl) _ (fun b u z => nomatch (show (none : Option HO) = some u from z)) (fun _ _ => rfl) (fun _ => rfl)
    exact .inr ⟨_, us.toArray, _, hk, rfl, rfl, rfl, by rw [List.size_toArray, lenV]; exact len, by simpa using rv⟩
  | none =>
    let fz : HO := .frz { cls := .type "list", data := .seq us.toArray } (.lst (ns.map V.int))
    apply key (fun b => if b = a then some fz else none)
    · intro b
      by_cases hb : b = a
      · exact .inr ⟨_, _, if_pos hb⟩
      · exact .inl (if_neg hb)
    · exact .inl (.inr ⟨_, if_pos rfl⟩)
    · intro b u z
      by_cases hb : b = a
      · have z' := (if_pos hb).symm.trans z
        cases z'
        subst hb
        exact ⟨at_, by rw [List.length_map]; exact len, us, _, rv, at_⟩
      · have z' := (if_neg hb).symm.trans z
        cases z'
    · intro b hb
      exact if_neg hb
    · intro z
      exact absurd hk z
theorem walkG {l : PySem.W.OpenLaw} {n k : Nat} {q : Program} {loose : List Str} {XP : (Str → Option Value) → Heap → Prop} {YP : World → Heap → Prop} {d : DefRec} {K : Params → PySem.W.Frag} {sp : PySem.W.Frag → Sp} {x : Str}
    (most : l.most = some n) (small : n ≤ sizeLine) (plain : d.params.defaults = []) (room : Room k callerA) (hY : ∀ (w : World) (h : Heap), YP w h → (K w.params).In h)
    (F : ∀ (w : World) (mg : Str → Option Value) (fa : Addr) (h : Heap), (K w.params).In h → h.Ns mainGlobals mg → mg d.name = some (.ref fa) →
      ∃ fd : FuncData, (∀ (s : Shared) (u : Value), BindsTo s fd ⟨[u], []⟩ [(x, u)]) ∧
        ∀ base : Heap, (K w.params).In base → base.Ns mainGlobals mg → FG l.prog w (K w.params) mg base k fa fd [x] (sp (K w.params)))
    (want : ∀ (K : PySem.W.Frag) (H : Hp) (a : Addr) (ns : List Int), ns.length ≤ n → Only H → SqL K H a (ns.map V.int) → sp K [.ref a] H (fun v _ => v = .bl true) E0) :
    PySem.W.WalkO q loose XP YP l.row.toRowW d [] (fun f vs => PySem.call f vs) := by
  apply Att.attach_call most plain
  intro w s₀ s₁ mg mb fa o pm cd doc a us ns G Y ho hd hcd hmg at_ iA len noG
  obtain ⟨fd, hb, hF⟩ := F w mg fa _ (hY w _ Y) G.T.g hmg
  exact endG (hY w _ Y) G.T.g G.T.b G.T.builtins G.T.nolimit noG at_ iA (Nat.le_trans len small) room hF hb fun H hO hS => want (K w.params) H a ns len hO hS

/-! ### a value is told by what is wanted of it, then what follows is shown once -/
theorem cutA {te : TE} {g : TG} {u : TS} {D : Ends} {σ : L2.St} {H : Hp} (W : V → Hp → Prop) (h1 : ∀ Q : VK, (∀ v H', W v H' → Q v H') → te σ H Q) (h2 : ∀ v H', W v H' → g v σ H' (u D)) : tSeq (tAsg te g) u D σ H := h1 _ h2
theorem cutT {t u : TS} {D : Ends} {σ : L2.St} {H : Hp} (W : L2.St → Hp → Prop) (h1 : ∀ N : L2.St → Hp → Prop, (∀ σ' H', W σ' H' → N σ' H') → t { D with nx := N } σ H) (h2 : ∀ σ' H', W σ' H' → u D σ' H') : tSeq t u D σ H := h1 _ h2

/-- a store; then «dsimp only» -/
theorem gN {i : Nat} {v : V} {σ : L2.St} {H : Hp} {N : L2.St → Hp → Prop} (h : N (σ.set i (some v)) H) : gName i v σ H N := h
/-- a comprehension without a test -/
theorem yes {σ : L2.St} {H : Hp} {F G : Hp → Prop} (h : F H) : tYes σ H (fun b H3 => if b = true then F H3 else G H3) := by
  show (if true = true then F H else G H)
  rw [if_pos rfl]
  exact h

/-! ### reprs of data -/
section
variable {X : Cx}
/-- repr(x), x a list or a tuple of data -/
theorem call_repr (ng : X.A.guards = some []) (hu : X.A.units + 64 < cLine) :
    CallR X (.builtin "repr") (fun xs H Q => ∃ x d, xs = [x] ∧ Dp X.K H x d ∧ isDisplay d = true ∧ d.showable = true ∧ d.hasDict = false ∧ d.depth < 60 ∧ d.shown.length ≤ sizeLine ∧ Q (.str d.shown) H) := by
  intro pins s σ H xs us Q I r h
  obtain ⟨x, d, rfl, dp, dis, sho, nod, dep, len, q⟩ := h
  cases r with
  | cons r1 r2 =>
    cases r2
    obtain ⟨as, rd⟩ := Dp.reads I d x _ dp r1
    obtain ⟨a, rfl⟩ := isRef_of_reads rd dis
    apply repr_of_reads' rd sho (PyData.noDict_hsm nod) ng (by omega) (fun _ _ e => e) _ len
    intro h' u tk kp
    exact ⟨.str d.shown, H, I.kept (h' := h') (t' := tk) kp, ⟨u, rfl⟩, q⟩
/-- x.ljust(i, c) -/
theorem mt_ljustF : MtR X "str.ljust" (fun x xs H Q => ∃ (a : Str) (i : Int) (c : Nat), x = .str a ∧ xs = [.int i, .str ⟨#[c]⟩] ∧ PadOk i = true ∧ Q (.str (Txt.ljustF a i c)) H) := by
  intro pins s σ H x xs v us Q I rx rs h
  obtain ⟨a, i, c, rfl, rfl, pad, q⟩ := h
  obtain ⟨t, rfl⟩ := rx
  cases rs with
  | cons r1 rs =>
    cases rs with
    | cons r2 rs =>
      cases rs
      obtain ⟨u, rfl⟩ := r1
      obtain ⟨z, rfl⟩ := r2
      apply ljust_fill pad rfl
      intro t' k
      exact ⟨.str _, H, I.tok k, ⟨t', rfl⟩, q⟩
end

/-! ### calls by names alone -/
section
variable {X : Cx} {CX : CXT} {k : Nat} {f : Addr} {fd : FuncData} {ps ks : List Str} {sp : Sp} {E : XK} {x : Str} {p pos : Pos} {kws : List Keyword} {tk : TA} {g : List Value → List Value → List Value} {gV : List V → List V → List V}
/-- f(k = v, ..) -/
theorem callK0 (F : FnOk X.prog X.w X.K X.mg X.base CX k f fd ps sp) (hr : Room k X.A) (hg : Gl X x) (hm : X.mg x = some (.ref f)) (hk : PySem.W.keepIn X.K (.ref f) = true) (hb : KBinds X.K fd ps ks g gV) (hx : Passes CX X E) (hkw : PK X kws tk)
    (hall : (backToKw pos (keywordEach kws X.env)).all (·.1.isSome) = true := by rfl) (hks : (backToKw pos (keywordEach kws X.env)).filterMap (·.1) = ks := by rfl) (hdb : (x == ("__debug__" : Str)) = false := by decide)
    (hpl : ((backTo pos (starEach [] X.env)).any (·.1) || (backToKw pos (keywordEach kws X.env)).any (·.1.isNone)) = false := by rfl) :
    PE X (.Call (.Name x p) [] kws pos) (tCallK sp gV E tNil tk) := by
  constructor
  intro pins s σ H Q I h
  apply wpAny_Call_Name_kw
  apply ld_glob I hg hm _ hdb
  apply PySem.W.callWith_KW0 (h₀ := X.base) I.ok.mod.kin hk hall _ hpl
  apply thn (hkw.run pos pins s σ H _ I h)
  rintro ws s2 ⟨zs, H2, I2, rz, q2⟩
  refine ⟨I2.kIn, ?_⟩
  rw [hks]
  exact run_fnk (us := []) (vs := []) F hr hb hx I2 .nil rz q2
end
/-- two parameters, told by their names the other way about -/
def swp {α : Type} : List α → List α → List α
  | [], [a, b] => [b, a]
  | _, _ => []
theorem kb_swp {K : PySem.W.Frag} {x qual : Str} {st : Stmt} {f : Addr} {fd : FuncData} {p1 p2 : Str} (F : Fun K x qual st f fd)
    (h : ∀ (kV doc pm : Value) (an : Option Addr) (cdv ct : Value) (a b : Value), bindArgs (PySem.W.fnOf x qual (defArgs st) (defBody st) (defScope st) .none kV doc pm an cdv ct) ⟨[], [(p2, a), (p1, b)]⟩ = pure [(p1, b), (p2, a)]) :
    KBinds K fd [p1, p2] [p2, p1] swp swp := by
  obtain ⟨oc, od, kV, doc, pm, an, cdv, ct, osl, rfl, lk, hcd⟩ := F.ex
  constructor
  · intro s us ws _ hl
    match us, ws, hl with
    | [], [a, b], _ => exact .of_eq (h kV doc pm an cdv ct a b)
    | [], [], hl => exact absurd hl (by simp [swp])
    | [], [_], hl => exact absurd hl (by simp [swp])
    | [], _ :: _ :: _ :: _, hl => exact absurd hl (by simp [swp])
    | _ :: _, _, hl => exact absurd hl (by simp [swp])
  · intro vs us zs ws h1 h2
    cases h1 with
    | nil =>
      cases h2 with
      | nil => exact .nil
      | cons a h2 =>
        cases h2 with
        | nil => exact .nil
        | cons b h2 =>
          cases h2 with
          | nil => exact .cons b (.cons a .nil)
          | cons c h2 => exact .nil
    | cons a h1 =>
      cases h2 with
      | nil => exact .nil
      | cons b h2 => exact .nil
/-! ### the text of a list of two -/
theorem two_text (t u : Str) : (listText [t, u]).length = t.length + u.length + 4 := by
  have e : listText [t, u] = ((((Str.ofString "[" ++ Str.ofString "") ++ t) ++ Str.ofString ", ") ++ u) ++ Str.ofString "]" := rfl
  rw [e, TL.len_tl]
  simp only [TL.tl_append, List.length_append]
  rw [show (TL.tl (Str.ofString "[")).length = 1 by decide +kernel, show (TL.tl (Str.ofString "")).length = 0 by decide +kernel, show (TL.tl (Str.ofString ", ")).length = 2 by decide +kernel, show (TL.tl (Str.ofString "]")).length = 1 by decide +kernel, ← TL.len_tl, ← TL.len_tl]
  omega
theorem two_small {t : Str} {d : PyData} (e : d.shown = t) (h : t.length ≤ 1000) : (PyData.list [d, d]).shown.length ≤ sizeLine := by
  simp only [PyData.shown, PyData.shownAll, e]
  rw [two_text]
  exact Nat.le_trans (show _ ≤ 3000 by omega) (by decide)
end Bs
set_option Elab.async false
set_option linter.all false
set_option maxRecDepth 100000
set_option maxHeartbeats 4000000
/-! Xc: exceptions of the program's own, over ValueError, LookupError or RuntimeError, with own classes between, made and held as values: stored into by their own __init__, read, asked for their class. -/
namespace PySem
namespace XcW
open PySem.W PySem.Calls PyProof.Rows Builtin Builtin.ObjectAttr
section
variable {prog : Program} {w : World} {A : Around} {R : Result → Shared → Prop} {hp : Heap} {g : Array GenState} {d : Drawn} {t : Nat} {os : OsState} {K : Frag} {x C : Addr} {fv : Array Value} {name : Str} {tk : Tok} {v : Value} {B : String} {bmB : List Value}
/-- the first field -/
theorem store1 (SF : StoreFacts B bmB "object.__setattr__" "object") (inK : K.In hp) (hx : hp.get? x = some { cls := .ref C, data := .fields fv }) (ov : excOver K C bmB = true) (tn : takerIn K C name = some none) (hd : hasDictIn K C = true)
    (go : ∀ h' tk' dx, (∀ b o, b ≠ x → hp.get? b = some o → h'.get? b = some o) → hp.objs.size ≤ dx → dx ≠ x → h'.get? x = some { cls := .ref C, dict := some dx, data := .fields fv } →
      h'.Ns1 dx (fun y => if y = name then some v else none) → R (.ok (.ret .none)) ⟨h', g, d, tk', os⟩) :
    codeAny (model prog w) A (.call (.builtin "object.__setattr__") ⟨[.ref x, .str name tk, v], []⟩) R ⟨hp, g, d, t, os⟩ := by
  apply osa_openX (od := none) SF inK ⟨hx, rfl, rfl, trivial⟩ ov tn
  intro b
  obtain ⟨cd, hc, hd'⟩ := any_some hd
  have away : x ≠ hp.objs.size := Nat.ne_of_lt (Heap.lt_size hx)
  have cls : Looks (model prog w) hp (classData C) cd := looks_clsIn inK hc
  show wpAny _ _ (storeInOwnDict (.ref x) (.ref C) (.str name tk) name v b) _ _ _
  obtain ⟨nm, bs, mro, ns, qn, hdd, sn, sb, ab, col, del⟩ := cd
  have e : hdd = true := hd'
  subst e
  unfold storeInOwnDict ownDictForStores
  repeat (first | with_reducible refine HandSPX.store_in_new ?_ ?_ | with_reducible refine wpAny_loadPart_at hx ?_ | with_reducible refine cls.at ?_ | wp_step)
  · exact ⟨_, #[], _, (Heap.get?_update_ne _ _ _ _ away.symm).trans (Heap.get?_push_at rfl rfl), rfl, (fun e he => absurd he (by simp)), (fun _ => rfl)⟩
  · intro h' tk' hn' hs
    have hx1 : (hp.push { cls := .type "dict", data := .dict #[] }).get? x = some { cls := .ref C, data := .fields fv } := Heap.get?_push_of_some _ hx
    apply go h' tk' hp.objs.size _ (Nat.le_refl _) away.symm _ hn'
    · intro b o hb ho
      exact (hs.2 b (Nat.ne_of_lt (Heap.lt_size ho))).trans ((Heap.get?_update_ne _ _ _ _ hb).trans (Heap.get?_push_of_some _ ho))
    · exact (hs.2 x away).trans (Heap.get?_update_self _ hx1 rfl)
/-- a further field -/
theorem store2 {dx : Addr} {m0 : Str → Option Value} {nl : List Str} (SF : StoreFacts B bmB "object.__setattr__" "object") (inK : K.In hp) (hx : hp.get? x = some { cls := .ref C, dict := some dx, data := .fields fv }) (hns : hp.Ns1 dx m0) (hw : Within m0 nl) (few : nl.length ≤ 1000)
    (ov : excOver K C bmB = true) (tn : takerIn K C name = some none) (hd : hasDictIn K C = true)
    (go : ∀ h' tk', (∀ b o, b ≠ dx → hp.get? b = some o → h'.get? b = some o) → h'.Ns1 dx (fun y => if y = name then some v else m0 y) → R (.ok (.ret .none)) ⟨h', g, d, tk', os⟩) :
    codeAny (model prog w) A (.call (.builtin "object.__setattr__") ⟨[.ref x, .str name tk, v], []⟩) R ⟨hp, g, d, t, os⟩ := by
  obtain ⟨oD, _, _, hoD, _, _⟩ := hns.count hw
  apply osa_openX (od := some oD) SF inK ⟨hx, rfl, rfl, hoD⟩ ov tn
  intro b
  obtain ⟨cd, hc, hd'⟩ := any_some hd
  have cls : Looks (model prog w) hp (classData C) cd := looks_clsIn inK hc
  show wpAny _ _ (storeInOwnDict (.ref x) (.ref C) (.str name tk) name v b) _ _ _
  obtain ⟨nm, bs, mro, ns, qn, hdd, sn, sb, ab, col, del⟩ := cd
  have e : hdd = true := hd'
  subst e
  unfold storeInOwnDict ownDictForStores
  repeat (first | with_reducible refine OEX.store_in_old hns hw few ?_ | with_reducible refine wpAny_loadPart_at hx ?_ | with_reducible refine cls.at ?_ | wp_step)
  intro h' tk' hn' hs
  exact go h' tk' (fun b o hb ho => (hs.2 b hb).trans ho) hn'
end
end XcW
end PySem
namespace Xc
open PySem PySem.Spec PyProof.Rows L2 Bs
/-- what the written part says of such a class -/
structure Cl (K : PySem.W.Frag) (C : Addr) (B newId initId : String) (bmB : List Value) : Prop where
  F : ExcBaseFacts B newId initId bmB
  SF : StoreFacts B bmB "object.__setattr__" "object"
  ini : PySem.W.excInitIn K C bmB newId = true
  ov : PySem.W.excOver K C bmB = true
  hd : PySem.W.hasDictIn K C = true
  sa : PySem.W.findIn K (.ref C) "__setattr__" = some (some (.builtin "object.__setattr__"))
  ga : PySem.W.findIn K (.ref C) "__getattribute__" = some (some (.builtin "BaseException.__getattribute__"))
  gg : PySem.W.findIn K (.ref C) "__getattr__" = some none
  ex : PySem.W.subIn K (.ref C) (.type "BaseException") = some true
  ty : PySem.W.typeIn K (.ref C) = some (.type "type")
  kp : PySem.W.keepIn K (.ref C) = true
section
variable {X : Cx} {pins : List (Addr × Obj)} {σ : L2.St} {H : Hp} {s : Shared} {a C dx : Addr} {f : Str} {y : V} {u : Value} {fs : List (Str × V)} {Q : Unit → Shared → Prop} {E : Value → Shared → Prop} {A : Around} {B newId initId : String} {bmB : List Value}
theorem put1 (T : Cl X.K C B newId initId bmB) (I : Inv X pins σ H s) (e : H a = some (exo a C none)) (tn : PySem.W.takerIn X.K C f = some none) (ry : RelV y u)
    (go : ∀ dx s', H dx = none → dx ≠ a → Inv X pins σ (upd (upd H dx (exd dx [(f, y)])) a (exo a C (some dx))) s' → Q () s') : wpAny (model X.prog X.w) A (setAttr (.ref a) f u) Q E s := by
  obtain ⟨t1, ho⟩ := exo_at I.hok e
  obtain ⟨hp, g, d, t, os⟩ := s
  apply PySem.W.set_plain I.kIn (ox := { cls := .ref C, dict := none, data := .fields #[.ref t1, .none, .none, .none, .bool false, .none] }) (od := none) ⟨ho, rfl, rfl, trivial⟩ T.sa
  apply PySem.XcW.store1 T.SF I.kIn ho T.ov tn T.hd
  intro h' tk' dx k dn dne hx hn
  have fresh : H dx = none := I.hok.fresh dn
  have offd : ∀ {b : Addr} {o : Obj}, hp.get? b = some o → b ≠ dx := fun {b o} q => Nat.ne_of_lt (Nat.lt_of_lt_of_le (Heap.lt_size q) dn)
  have offa : ∀ {b : Addr}, H b = none → b ≠ a := by
    intro b n z
    rw [z, e] at n
    cases n
  have un : Un X.fs [] H (upd (upd H dx (exd dx [(f, y)])) a (exo a C (some dx))) hp h' := by
    constructor
    · exact fun b o q n _ _ => k b o (offa n) q
    · exact fun b o q n _ _ => ⟨o.slots, k b o (offa n) q⟩
    · intro b o q n _
      rw [upd_ne (offa n), upd_ne (offd q)]
      exact n
    · intro b o q _
      by_cases hb : b = a
      · exact ⟨_, by rw [hb]; exact hx⟩
      · exact ⟨o, k b o hb q⟩
    · intro b xs q
      rw [upd_ne (at_ne e q exo_tup), upd_ne (ne_of_none q fresh)]
      exact q
    · intro b o v q
      rw [upd_ne (at_ne e q exo_frz), upd_ne (ne_of_none q fresh)]
      exact q
    · intro b ps q
      exact ⟨#[], by rw [upd_ne (at_ne e q exo_tbl), upd_ne (ne_of_none q fresh), q]; simp⟩
  apply go dx _ fresh dne
  apply I.un (t' := tk') un
  intro b o q
  by_cases hb : b = a
  · subst hb
    rw [upd_same] at q
    cases q
    exact exo_ok hx
  · rw [upd_ne hb] at q
    by_cases hd : b = dx
    · subst hd
      rw [upd_same] at q
      cases q
      exact exd_ok hn (relO_put (fs := []) ry fun g => True.intro)
    · rw [upd_ne hd] at q
      apply (I.hok b o q).stay
      · intro c v hc z
        apply k c v _ z
        cases hc with
        | inl hc =>
          rw [hc]
          exact hb
        | inr hc => exact at_ne e hc exo_own
      · intro c hc
        rw [upd_ne (at_ne e hc exo_own), upd_ne (ne_of_none hc fresh)]
        exact hc
      · intro c xs hc
        rw [upd_ne (at_ne e hc exo_tup), upd_ne (ne_of_none hc fresh)]
        exact hc
theorem put2 (T : Cl X.K C B newId initId bmB) (I : Inv X pins σ H s) (e : H a = some (exo a C (some dx))) (ed : H dx = some (exd dx fs)) (few : fs.length ≤ 900) (tn : PySem.W.takerIn X.K C f = some none) (ry : RelV y u)
    (go : ∀ s', Inv X pins σ (upd H dx (exd dx ((f, y) :: fs))) s' → Q () s') : wpAny (model X.prog X.w) A (setAttr (.ref a) f u) Q E s := by
  obtain ⟨t1, ho⟩ := exo_at I.hok e
  obtain ⟨mA, hns, rel⟩ := exd_at I.hok ed
  have hw := within_of rel
  obtain ⟨hp, g, d, t, os⟩ := s
  obtain ⟨oD, _, _, hoD, _, _⟩ := hns.count hw
  apply PySem.W.set_plain I.kIn (ox := { cls := .ref C, dict := some dx, data := .fields #[.ref t1, .none, .none, .none, .bool false, .none] }) (od := some oD) ⟨ho, rfl, rfl, hoD⟩ T.sa
  apply PySem.XcW.store2 T.SF I.kIn ho hns hw (by rw [List.length_map]; omega) T.ov tn T.hd
  intro h' tk' k hn
  have hd : ∃ o, h'.get? dx = some o := by
    obtain ⟨o, _, _, e', _⟩ := hn
    exact ⟨o, e'⟩
  apply go
  exact I.write (t' := tk') (x := dx) (e := dx) (o := exd dx ((f, y) :: fs)) (by rw [ed]; exact True.intro) (.inl rfl) k hd (exd_ok hn (relO_put ry rel))
end
end Xc
set_option Elab.async false
set_option linter.all false
set_option maxRecDepth 100000
set_option maxHeartbeats 4000000
/-! Xd: such exceptions made by places and by names. -/
namespace PySem
namespace XcW
open PySem.W PySem.Calls PyProof.Rows Builtin Builtin.ObjectAttr
section
variable {M : Model} {A : Around} {E : Value → Shared → Prop} {hp : Heap} {g : Array GenState} {d : Drawn} {t : Nat} {os : OsState}
variable {nm qn : Str} {C N : Addr} {bs bm bmB : List Value} {hdct : Bool} {sn : List Str} {sub : List Value} {ab : Bool} {col : Option Bool} {dd : Option Addr} {k0 k1 k2 k3 k5 : Option Value} {B newId initId : String} {us : List Value} {kw : List (Str × Value)}
theorem newCheck (F : ExcBaseFacts B newId initId bmB) (alike : ∀ Y : String, bm.contains (.type Y) = bmB.contains (.type Y)) {Q : Unit → Shared → Prop}
    (atC : hp.get? C = some (excClassObj nm qn C N bs bm hdct sn sub ab col dd k0 k1 k2 k3 k5 newId)) (go : Q () ⟨hp, g, d, t, os⟩) :
    wpAny M A (checkBuiltinCall newId ⟨.ref C :: us, kw⟩) Q E ⟨hp, g, d, t, os⟩ := by
  have below : (Value.ref C :: bm).contains (.type B) = true := by
    rw [List.contains_cons, alike, F.hasB]
    exact Bool.or_true _
  have star := F.noStar
  simp only [checkBuiltinCall, F.newRow, F.newSplit, F.newKind]
  repeat (first | refine wpAny_staticBase_exc atC ?_ | refine wpAny_madeBy_exc atC ?_ | refine wpAny_loadPart_at atC ?_ | (refine wpAny_isSubtype_exc atC ?_; rw [below]) | simp only [bne_self_eq_false, Bool.false_eq_true, if_false] | wp_step)
  exact go
theorem tcCheck {Q : Unit → Shared → Prop} (atC : hp.get? C = some (excClassObj nm qn C N bs bm hdct sn sub ab col dd k0 k1 k2 k3 k5 newId))
    (go : Q () ⟨hp, g, d, t, os⟩) : wpAny M A (checkBuiltinCall "type.__call__" ⟨.ref C :: us, kw⟩) Q E ⟨hp, g, d, t, os⟩ := by
  have g3 := tc_sub
  have isT : (⟨hp, g, d, t, os⟩ : Shared).TypeIs (.ref C) "type" := ⟨_, atC, rfl⟩
  simp only [checkBuiltinCall, tc_split, tc_kind]
  repeat (any_goals (first | assumption | with_reducible refine wpAny_map ?_ | with_reducible refine wpAny_onRaise ?_ | with_reducible refine wpAny_loadPart_at atC ?_ | wp_step))
end
section
variable {prog : Program} {w : World} {A : Around} {E : Value → Shared → Prop} {R : Result → Shared → Prop} {hp : Heap} {g : Array GenState} {d : Drawn} {t : Nat} {os : OsState}
variable {nm qn : Str} {C N fI : Addr} {bs bm bmB : List Value} {hdct : Bool} {sn : List Str} {sub : List Value} {ab : Bool} {col : Option Bool} {dd : Option Addr} {k0 k1 k2 k3 k5 : Option Value} {B newId initId : String} {us : List Value} {kw : List (Str × Value)}
/-- the heap with the new one, not yet filled -/
abbrev bornH (hp : Heap) (C : Addr) (us : List Value) : Heap := (hp.push (kdv_tup us)).push (HandSPX.excO C hp.objs.size)
theorem newMade (F : ExcBaseFacts B newId initId bmB) (alike : ∀ Y : String, bm.contains (.type Y) = bmB.contains (.type Y))
    (atC : hp.get? C = some (excClassObj nm qn C N bs bm hdct sn sub ab col dd k0 k1 k2 k3 k5 newId)) (few : us.length ≤ sizeLine)
    (go : R (.ok (.ret (.ref (hp.objs.size + 1)))) ⟨bornH hp C us, g, d, t, os⟩) :
    codeAny (model prog w) A (.builtin newId ⟨.ref C :: us, kw⟩) R ⟨hp, g, d, t, os⟩ := by
  have fe := F.ends
  have isB : (Value.ref C :: bm).contains (.type B) = true := by
    rw [List.contains_cons, alike, F.hasB]
    exact Bool.or_true _
  have notA : (Value.ref C :: bm).contains (.type "AttributeError") = false := by
    rw [List.contains_cons, alike, F.noAttr]
    rfl
  have notN : (Value.ref C :: bm).contains (.type "NameError") = false := by
    rw [List.contains_cons, alike, F.noName]
    rfl
  apply codeAny_builtinAt F.entry
  unfold Builtin.«BaseException.__new__»
  apply wpAt_bind
  show wpAt _ _ _ (stack >>= _) _ _ _
  apply wpAt_bind
  apply wpAt_stack
  intro p below
  apply wpAt_of_wpAny
  wp_walk
  apply wpAt_of_wpAny
  rw [F.owner]
  repeat (first | with_reducible refine wpAny_loadPart_at atC ?_ | (with_reducible refine wpAny_isSubtype_exc atC ?_; first | rw [isB] | rw [notA] | rw [notN]) | with_reducible refine wpAny_madeHere_exc F.canon atC ?_ | wp_step)
  show R _ _
  rw [Heap.size_push]
  exact go
theorem tcMade (F : ExcBaseFacts B newId initId bmB) (alike : ∀ Y : String, bm.contains (.type Y) = bmB.contains (.type Y)) {Q : Fin → Shared → Prop}
    (atC : hp.get? C = some (excClassObj nm qn C N bs bm hdct sn sub ab col dd k0 k1 k2 k3 k5 newId)) (few : us.length ≤ sizeLine)
    (li : Looks (model prog w) hp (typeLookup (.ref C) "__init__") (some (.ref fI))) (lb : ∀ self, Looks (model prog w) hp (bindSpecial (.ref fI) self) (.ref fI, [self]))
    (go : codeAny (model prog w) A (.call (.ref fI) ⟨.ref (hp.objs.size + 1) :: us, kw⟩)
      (fun r s' => match r with | .error e => E e s' | .ok (.ret v) => v = .none ∧ Q (.done (.ret (.ref (hp.objs.size + 1)))) s' | .ok _ => False) ⟨bornH hp C us, g, d, t, os⟩) :
    wpAny (model prog w) A (Builtin.«type.__call__» ⟨.ref C :: us, kw⟩) Q E ⟨hp, g, d, t, os⟩ := by
  repeat (first | with_reducible refine wpAny_madeBy_exc atC ?_ | with_reducible refine wpAny_loadPart_at atC ?_ | wp_step)
  apply codeAny_call_builtin_code (Code.quiet_builtin _ F.quiet) (newCheck F alike atC _)
  apply newMade F alike atC few
  show wpAny _ _ _ _ _ _
  have keeps : ∀ b o, hp.get? b = some o → (bornH hp C us).get? b = some o := by
    intro b o e
    exact Heap.get?_push_of_some _ (Heap.get?_push_of_some _ e)
  have atC' := keeps _ _ atC
  have born : (bornH hp C us).get? (hp.objs.size + 1) = some (HandSPX.excO C hp.objs.size) := by heap_get
  have self : (Value.ref C :: bm).contains (.ref C) = true := by simp
  have li' := li.keeps keeps
  have lb' := (lb (.ref (hp.objs.size + 1))).keeps keeps
  unfold isInstance
  repeat (first | (with_reducible refine wpAny_isSubtype_exc atC' ?_; rw [self]) | with_reducible refine wpAny_loadPart_at born ?_ | wp_step)
  show wpAny _ _ (typeLookup (.ref C) _) _ _ _
  apply li'.at
  apply wpAny_holding
  apply wpAny_bind
  apply lb'.at
  apply wpAny_bind
  apply wpAny_call
  apply codeAny_mono go
  intro r s' z
  match r, z with
  | .error e, z => exact z
  | .ok .next, z => exact z.elim
  | .ok .brk, z => exact z.elim
  | .ok .cont, z => exact z.elim
  | .ok (.ret v), z =>
    obtain ⟨rfl, z⟩ := z
    first
      | exact wpAny_pure (wpAny_pure z)
      | (wp_walk; exact z)
theorem callMade (F : ExcBaseFacts B newId initId bmB) (alike : ∀ Y : String, bm.contains (.type Y) = bmB.contains (.type Y))
    (atC : hp.get? C = some (excClassObj nm qn C N bs bm hdct sn sub ab col dd k0 k1 k2 k3 k5 newId)) (few : us.length ≤ sizeLine)
    (li : Looks (model prog w) hp (typeLookup (.ref C) "__init__") (some (.ref fI))) (lb : ∀ self, Looks (model prog w) hp (bindSpecial (.ref fI) self) (.ref fI, [self]))
    (go : codeAny (model prog w) (A.under (.builtin "type.__call__" ⟨.ref C :: us, kw⟩)) (.call (.ref fI) ⟨.ref (hp.objs.size + 1) :: us, kw⟩) (InitBack (hp.objs.size + 1) R) ⟨bornH hp C us, g, d, t, os⟩) :
    codeAny (model prog w) A (.call (.ref C) ⟨us, kw⟩) R ⟨hp, g, d, t, os⟩ := by
  have g1 := tc_lookup
  have g2 := tc_bind (.ref C)
  have isT : (⟨hp, g, d, t, os⟩ : Shared).TypeIs (.ref C) "type" := ⟨_, atC, rfl⟩
  apply codeAny_of_tree
  show wpAny _ _ (callAny (.ref C) _) _ _ _
  repeat (any_goals (first | with_reducible refine wpAny_loadPart_at atC ?_ | assumption | wp_step))
  constructor
  · rfl
  apply codeAny_call_builtin_at (Code.quiet_builtin _ (by decide +kernel)) entry_typeCall
  apply tcCheck atC
  apply tcMade F alike atC few li lb
  apply codeAny_mono go
  intro r s' z
  match r, z with
  | .error _, z => exact z
  | .ok .next, z => exact z
  | .ok .brk, z => exact z
  | .ok .cont, z => exact z
  | .ok (.ret _), z => exact z
end
end XcW
end PySem
set_option Elab.async false
set_option linter.all false
set_option maxRecDepth 100000
set_option maxHeartbeats 4000000
/-! Xe: such exceptions as values: made, stored into, read. -/
namespace Xc
open PySem PySem.Spec PyProof.Rows L2 Bs
/-! ### self.f = e -/
def tPut (K : PySem.W.Frag) (f : Str) (to te : TE) : TS := fun D σ H => te σ H fun y H1 => to σ H1 fun x H2 =>
  ∃ (a C : Addr) (B n i : String) (bm : List Value), x = .ref a ∧ Cl K C B n i bm ∧ PySem.W.takerIn K C f = some none ∧
    ((H2 a = some (exo a C none) ∧ ∀ dx, H2 dx = none → dx ≠ a → D.nx σ (upd (upd H2 dx (exd dx [(f, y)])) a (exo a C (some dx)))) ∨
      ∃ (dx : Addr) (fs : List (Str × V)), H2 a = some (exo a C (some dx)) ∧ H2 dx = some (exd dx fs) ∧ fs.length ≤ 900 ∧ D.nx σ (upd H2 dx (exd dx ((f, y) :: fs))))
theorem ps_put {X : Cx} {o e : Expr} {f : Str} {to te : TE} {p' pos : Pos} (ho : PE X o to) (he : PE X e te) (hs : swapsWith e (some (.Attribute o f p')) pos.line X.env = pure false := by rfl) :
    PS X (.Assign [.Attribute o f p'] e pos) (tPut X.K f to te) := by
  constructor
  intro pins s σ H D I h
  apply plainObj_wpAny_Assign_Attribute _ hs
  apply thn (he.run pins s σ H _ I h)
  rintro v s1 ⟨y, H1, I1, r1, q1⟩
  apply thn (ho.run pins s1 σ H1 _ I1 q1)
  rintro u s2 ⟨x, H2, I2, r2, a, C, B, n, i, bm, rfl, T, tn, q⟩
  obtain rfl : u = Value.ref a := r2
  cases q with
  | inl q => exact put1 T I2 q.1 tn r1 fun dx s' h1 h2 J => ⟨σ, _, J, q.2 dx h1 h2⟩
  | inr q =>
    obtain ⟨dx, fs, ea, ed, few, q⟩ := q
    exact put2 T I2 ea ed few tn r1 fun s' J => ⟨σ, _, J, q⟩

/-! ### __init__'s own promise -/
def spIn (C : Addr) (n : Nat) (mk : List V → List (Str × V)) : Sp := fun vs H Q _ => ∃ (a : Addr) (xs : List V), vs = .ref a :: xs ∧ xs.length = n ∧ H a = some (exo a C none) ∧
  ∀ (dx : Addr) (H' : Hp), H dx = none → dx ≠ a → H' a = some (exo a C (some dx)) → H' dx = some (exd dx (mk xs)) → (∀ b, b ≠ a → b ≠ dx → H' b = H b) → Q .non H'

/-! ### C(..) -/
/-- what the class has: its own __init__ -/
structure Ini (K : PySem.W.Frag) (C fI : Addr) : Prop where
  at_ : PySem.W.findIn K (.ref C) "__init__" = some (some (.ref fI))
  ty : PySem.W.typeIn K (.ref fI) = some (.type "function")
section
variable {X : Cx} {pins : List (Addr × Obj)} {σ : L2.St} {H : Hp} {s : Shared} {Q : VK} {us ws : List Value} {vs zs : List V} {B newId initId : String} {bmB : List Value} {C fI : Addr} {k n : Nat} {fd : FuncData} {ps ks : List Str} {sp : Sp} {g : List Value → List Value → List Value} {gV : List V → List V → List V}
theorem runMade (T : Cl X.K C B newId initId bmB) (N : Ini X.K C fI) (F1 : FnOk X.prog X.w X.K X.mg X.base CX0 k fI fd ps sp) (hr : Room (k + 1) X.A) (hb : KBn X.K fd ps (n + 1) ks g gV) (few : n ≤ 1000)
    (I : Inv X pins σ H s) (r : Vals vs us) (rz : Vals zs ws) (l1 : vs.length = n) (l2 : zs.length = ks.length)
    (h : ∀ a, H a = none → sp (gV (.ref a :: vs) zs) (upd H a (exo a C none)) (fun v H2 => v = .non ∧ Q (.ref a) H2) E0) :
    wpAny (model X.prog X.w) X.A (call (.ref C) us (ks.zip ws)) (EP X pins σ Q) X.xe s := by
  obtain ⟨nm, N', qn, bs, bm, hdct, sn, sub, ab, col, dd, k0, k1, k2, k3, k5, hC, alike⟩ := PySem.W.excInit_of I.kIn T.ini
  have li := PySem.W.looks_findIn (M := model X.prog X.w) I.kIn N.at_
  have lb : ∀ self, PySem.W.Looks (model X.prog X.w) s.heap (bindSpecial (.ref fI) self) (.ref fI, [self]) := fun self => PySem.W.bind_fn I.kIn self N.ty
  have fresh : s.heap.objs.size ≤ s.heap.objs.size + 1 := Nat.le_succ _
  have hn : H (s.heap.objs.size + 1) = none := I.hok.fresh fresh
  have q0 := h _ hn
  have ul : us.length ≤ sizeLine := by
    have e := r.length
    rw [sizeLine_eq]
    omega
  obtain ⟨hp, gg, d, t, os⟩ := s
  have keeps : ∀ b o, hp.get? b = some o → (PySem.XcW.bornH hp C us).get? b = some o := by
    intro b o e
    exact Heap.get?_push_of_some _ (Heap.get?_push_of_some _ e)
  have born : (PySem.XcW.bornH hp C us).get? (hp.objs.size + 1) = some (PySem.HandSPX.excO C hp.objs.size) := by heap_get
  have I2 : Inv X pins σ (upd H (hp.objs.size + 1) (exo (hp.objs.size + 1) C none)) ⟨PySem.XcW.bornH hp C us, gg, d, t, os⟩ :=
    I.laid (h' := PySem.XcW.bornH hp C us) (t' := t) (o := exo (hp.objs.size + 1) C none) (a := hp.objs.size + 1) keeps fresh (exo_ok born)
  have r2 : Vals (V.ref (hp.objs.size + 1) :: vs) (Value.ref (hp.objs.size + 1) :: us) := .cons rfl r
  have e1 : (Value.ref (hp.objs.size + 1) :: us).length = n + 1 := r2.length.symm.trans (congrArg Nat.succ l1)
  have e2 : ws.length = ks.length := rz.length.symm.trans l2
  apply wpAny_call
  apply PySem.XcW.callMade T.F alike hC ul li lb
  apply codeAny_mono (F1.run _ X.stack _ _ ⟨Value.ref (hp.objs.size + 1) :: us, ks.zip ws⟩ _ _ _ E0 (hr.make C us (ks.zip ws)) (I2.env0.make C us (ks.zip ws)) (hb.to _ _ ws I2.kIn e1 e2) (hb.rel r2 rz) q0)
  intro res s' z
  match res, z with
  | .error _, z => exact z.elim
  | .ok .next, z => exact z.elim
  | .ok .brk, z => exact z.elim
  | .ok .cont, z => exact z.elim
  | .ok (.ret u), z =>
    obtain ⟨v, H3, I3, rv, ev, q3⟩ := I2.after z
    subst ev
    exact ⟨rv, V.ref (hp.objs.size + 1), H3, I3, rfl, q3⟩
/-- C(e, .., k = v, ..) as a value -/
def tMkX (C : Addr) (n m : Nat) (sp : Sp) (gV : List V → List V → List V) (t tk : TA) : TE := fun σ H Q => t σ H fun vs H1 => tk σ H1 fun zs H2 => vs.length = n ∧ zs.length = m ∧
  ∀ a, H2 a = none → sp (gV (.ref a :: vs) zs) (upd H2 a (exo a C none)) (fun v H3 => v = .non ∧ Q (.ref a) H3) E0
variable {x : Str} {p pos : Pos} {e : Expr} {es : List Expr} {kws : List Keyword} {ta tk : TA}
theorem pe_mkx (T : Cl X.K C B newId initId bmB) (N : Ini X.K C fI) (F1 : FnOk X.prog X.w X.K X.mg X.base CX0 k fI fd ps sp) (hr : Room (k + 1) X.A) (hb : KBn X.K fd ps (n + 1) ks g gV) (few : n ≤ 1000) (hg : Gl X x) (hm : X.mg x = some (.ref C))
    (ha : PA X (e :: es) ta) (hkw : PK X kws tk) (hall : (backToKw pos (keywordEach kws X.env)).all (·.1.isSome) = true := by rfl) (hks : (backToKw pos (keywordEach kws X.env)).filterMap (·.1) = ks := by rfl)
    (hdb : (x == ("__debug__" : Str)) = false := by decide) (he : starEach (e :: es) X.env = (false, eval e X.env) :: starEach es X.env := by rfl)
    (hpl : ((backTo pos (starEach (e :: es) X.env)).any (·.1) || (backToKw pos (keywordEach kws X.env)).any (·.1.isNone)) = false := by rfl) :
    PE X (.Call (.Name x p) (e :: es) kws pos) (tMkX C n ks.length sp gV ta tk) := by
  constructor
  intro pins s σ H Q I h
  apply wpAny_Call_Name_kw
  apply ld_glob I hg hm _ hdb
  apply PySem.W.callWith_KW (h₀ := X.base) I.ok.mod.kin T.kp hall _ hpl he
  apply thn (ha.run pos pins s σ H _ I h)
  rintro us s1 ⟨vs, H1, I1, r, q⟩
  apply thn (hkw.run pos pins s1 σ H1 _ I1 q)
  rintro ws s2 ⟨zs, H2, I2, rz, l1, l2, q2⟩
  refine ⟨I2.kIn, ?_⟩
  rw [hks]
  exact runMade T N F1 hr hb few I2 r rz l1 l2 q2
theorem pe_mkx0 (T : Cl X.K C B newId initId bmB) (N : Ini X.K C fI) (F1 : FnOk X.prog X.w X.K X.mg X.base CX0 k fI fd ps sp) (hr : Room (k + 1) X.A) (hb : KBn X.K fd ps 1 ks g gV) (hg : Gl X x) (hm : X.mg x = some (.ref C))
    (hkw : PK X kws tk) (hall : (backToKw pos (keywordEach kws X.env)).all (·.1.isSome) = true := by rfl) (hks : (backToKw pos (keywordEach kws X.env)).filterMap (·.1) = ks := by rfl)
    (hdb : (x == ("__debug__" : Str)) = false := by decide)
    (hpl : ((backTo pos (starEach [] X.env)).any (·.1) || (backToKw pos (keywordEach kws X.env)).any (·.1.isNone)) = false := by rfl) :
    PE X (.Call (.Name x p) [] kws pos) (tMkX C 0 ks.length sp gV tNil tk) := by
  constructor
  intro pins s σ H Q I h
  apply wpAny_Call_Name_kw
  apply ld_glob I hg hm _ hdb
  apply PySem.W.callWith_KW0 (h₀ := X.base) I.ok.mod.kin T.kp hall _ hpl
  apply thn (hkw.run pos pins s σ H _ I h)
  rintro ws s2 ⟨zs, H2, I2, rz, l1, l2, q2⟩
  refine ⟨I2.kIn, ?_⟩
  rw [hks]
  exact runMade (us := []) (vs := []) T N F1 hr hb (Nat.zero_le _) I2 .nil rz rfl l2 q2
end
/-! ### what such a call binds -/
section
variable {K : PySem.W.Frag} {x qual : Str} {st : Stmt} {f : Addr} {fd : FuncData} {ps ks : List Str} {n : Nat}
def gS {α : Type} (xs ys : List α) : List α := xs ++ ys
def gR {α : Type} (xs ys : List α) : List α := xs ++ ys.reverse
theorem kbS (F : Fun K x qual st f fd) (h : ∀ (kV doc pm : Value) (an : Option Addr) (cdv ct : Value) (us ws : List Value), us.length = n → ws.length = ks.length → bindArgs (PySem.W.fnOf x qual (defArgs st) (defBody st) (defScope st) .none kV doc pm an cdv ct) ⟨us, ks.zip ws⟩ = pure (ps.zip (gS us ws))) :
    KBn K fd ps n ks gS gS := by
  obtain ⟨oc, od, kV, doc, pm, an, cdv, ct, osl, rfl, lk, hcd⟩ := F.ex
  exact ⟨fun s us ws _ h1 h2 => .of_eq (h kV doc pm an cdv ct us ws h1 h2), fun r1 r2 => r1.append r2⟩
theorem kbR (F : Fun K x qual st f fd) (h : ∀ (kV doc pm : Value) (an : Option Addr) (cdv ct : Value) (us ws : List Value), us.length = n → ws.length = ks.length → bindArgs (PySem.W.fnOf x qual (defArgs st) (defBody st) (defScope st) .none kV doc pm an cdv ct) ⟨us, ks.zip ws⟩ = pure (ps.zip (gR us ws))) :
    KBn K fd ps n ks gR gR := by
  obtain ⟨oc, od, kV, doc, pm, an, cdv, ct, osl, rfl, lk, hcd⟩ := F.ex
  exact ⟨fun s us ws _ h1 h2 => .of_eq (h kV doc pm an cdv ct us ws h1 h2), fun r1 r2 => r1.append r2.reverse⟩
end
end Xc
set_option Elab.async false
set_option linter.all false
set_option maxRecDepth 100000
set_option maxHeartbeats 4000000
/-! Xf: such exceptions read and asked for their class; one without an __init__ of its own. -/
namespace Xc
open PySem PySem.Spec PyProof.Rows L2 Bs
/-- an exception at a, of the class at C, with these fields -/
def Ex (H : Hp) (a C : Addr) (fs : List (Str × V)) : Prop := (fs = [] ∧ H a = some (exo a C none)) ∨ ∃ dx, H a = some (exo a C (some dx)) ∧ H dx = some (exd dx fs)
/-- what asking for its class needs -/
structure As (K : PySem.W.Frag) (C : Addr) : Prop where
  cl : (PySem.W.clsIn K C).isSome = true
  cc : PySem.W.findIn K (.ref C) "__class__" = some (some (.builtin "object.__class__"))
  gs : PySem.W.specialIn K (.builtin "object.__class__") "__get__" = some (some (.builtin "getset_descriptor.__get__"))
  tk : PySem.W.takesIn K (.builtin "object.__class__") = some true
  ob : PySem.W.mroIn K C (.type "object") = some true
section
variable {X : Cx} {pins : List (Addr × Obj)} {σ : L2.St} {H : Hp} {s : Shared} {a C : Addr} {fs : List (Str × V)} {B newId initId : String} {bmB : List Value}
theorem Ex.inst (I : Inv X pins σ H s) (e : Ex H a C fs) : ∃ (ox : Obj) (od : Option Obj), PySem.W.InstAt s.heap a ox C od := by
  cases e with
  | inl e =>
    obtain ⟨t, ho⟩ := exo_at I.hok e.2
    exact ⟨_, none, ho, rfl, rfl, True.intro⟩
  | inr e =>
    obtain ⟨dx, e1, e2⟩ := e
    obtain ⟨t, ho⟩ := exo_at I.hok e1
    obtain ⟨mA, hns, _⟩ := exd_at I.hok e2
    obtain ⟨od, hd, _⟩ := lookIn_ns hns
    exact ⟨_, some od, ho, rfl, rfl, hd⟩
/-- isinstance(x, c), x such an exception -/
def rIsX (K : PySem.W.Frag) : List V → Hp → VK → Prop := fun xs H Q => ∃ (a C : Addr) (fs : List (Str × V)) (c : V) (u : Value) (b : Bool), xs = [.ref a, c] ∧ Ex H a C fs ∧ (∃ B n i bm, Cl K C B n i bm) ∧ As K C ∧ ClsV c u ∧
  PySem.W.kitOne K (.ref C) u = some b ∧ Q (.bl b) H
theorem call_isX : CallR X (.builtin "isinstance") (rIsX X.K) := by
  intro pins s σ H xs us Q I r h
  obtain ⟨a, C, fs, c, u, b, rfl, ex, ⟨B, n, i, bm, T⟩, S, cv, e, q⟩ := h
  cases r with
  | cons r1 r =>
    cases r with
    | cons r2 r =>
      cases r
      have e2 := cv.eq r2
      subst e2
      obtain rfl := (show _ = Value.ref a from r1)
      obtain ⟨ox, od, J⟩ := ex.inst I
      exact PySem.W.kia_one (PySem.W.kitx_exc S.cl T.ga T.gg T.ex S.cc S.gs S.tk S.ob) I.kIn J e (fun z => nomatch z) fun tk => ⟨.bl b, H, I.tok tk, rfl, q⟩
/-- e.f -/
def tFld (K : PySem.W.Frag) (f : Str) (te : TE) : TE := fun σ H Q => te σ H fun x H1 => ∃ (a C : Addr) (fs : List (Str × V)) (v : V), x = .ref a ∧ Ex H1 a C fs ∧ (∃ B n i bm, Cl K C B n i bm) ∧ PySem.W.findIn K (.ref C) f = some none ∧ fs.lookup f = some v ∧ Q v H1
theorem pe_fld {e : Expr} {te : TE} {pos : Pos} {f : Str} (he : PE X e te) (hb : attributeBase e f X.env (eval e X.env) = eval e X.env := by rfl) : PE X (.Attribute e f pos) (tFld X.K f te) := by
  constructor
  intro pins s σ H Q I h
  apply attr_of hb
  apply thn (he.run pins s σ H _ I h)
  rintro u s1 ⟨x, H1, I1, rx, a, C, fs, v, rfl, ex, ⟨B, n, i, bm, T⟩, fn, l, q⟩
  obtain rfl : u = Value.ref a := rx
  cases ex with
  | inl e =>
    rw [e.1] at l
    exact nomatch l
  | inr e =>
    obtain ⟨dx, e1, e2⟩ := e
    obtain ⟨t, ho⟩ := exo_at I1.hok e1
    obtain ⟨mA, hns, rel⟩ := exd_at I1.hok e2
    obtain ⟨od, hd, look⟩ := lookIn_ns hns
    have rf := rel f
    rw [l] at rf
    obtain ⟨w, hw, rw'⟩ := RelO.some_of rf
    have J : PySem.W.InstAt s1.heap a _ C (some od) := ⟨ho, rfl, rfl, hd⟩
    apply PySem.HandSPX.exc_get I1.kIn J T.ga T.gg T.ex (PySem.W.findObj_own T.hd fn rfl _) (handed_of rw') ⟨v, H1, I1.tok _, rw', q⟩
    rw [look, hw]
/-- C(), without an __init__ of its own -/
def tMk0 (C : Addr) : TE := fun σ H Q => ∀ a, H a = none → Q (.ref a) (upd H a (exo a C none))
theorem pe_mk00 {x : Str} {p pos : Pos} (F : ExcBaseFacts B newId initId bmB) (q : PySem.W.excIn X.K C bmB newId = true) (kC : PySem.W.keepIn X.K (.ref C) = true) (hg : Gl X x) (hm : X.mg x = some (.ref C)) (hdb : (x == ("__debug__" : Str)) = false := by decide)
    (hpl : ((backTo pos (starEach [] X.env)).any (·.1) || (backToKw pos (keywordEach [] X.env)).any (·.1.isNone)) = false := by rfl) :
    PE X (.Call (.Name x p) [] [] pos) (tMk0 C) := by
  constructor
  intro pins s σ H Q I h
  apply wpAny_Call_Name_kw
  apply ld_glob I hg hm _ hdb
  apply PySem.W.callWith_KW0 (h₀ := X.base) I.ok.mod.kin kC (by rfl) _ hpl
  apply thn (pk_nil.run pos pins s σ H (fun vs H1 => vs = [] ∧ H1 = H) I ⟨rfl, rfl⟩)
  rintro ws s2 ⟨zs, H2, I2, rz, rfl, rfl⟩
  cases rz
  refine ⟨I2.kIn, ?_⟩
  show wpAny _ _ (call (.ref C) []) _ _ _
  obtain ⟨bm, N, nm, qn, bs, hdct, sn, sub, ab, col, dd, k0, k1, k2, k3, k5, mN, hC, hN, none, T⟩ := exc_obj I2.kIn q
  apply wpAny_call_exc_subT F T hC hN none _ (Nat.zero_le _)
  intro h' a made
  have hn := I2.hok.gone made.new
  obtain ⟨t, ht, _, _⟩ := made.there
  exact ⟨.ref a, _, I2.laidN made.keeps made.new hn (exo_ok ht), rfl, h a hn⟩
end
/-! ### all of it by one look -/
def clB (K : PySem.W.Frag) (C : Addr) (newId : String) (bmB : List Value) : Bool :=
  PySem.W.excInitIn K C bmB newId && (PySem.W.excOver K C bmB && (PySem.W.hasDictIn K C && (decide (PySem.W.findIn K (.ref C) "__setattr__" = some (some (.builtin "object.__setattr__"))) &&
  (decide (PySem.W.findIn K (.ref C) "__getattribute__" = some (some (.builtin "BaseException.__getattribute__"))) && (decide (PySem.W.findIn K (.ref C) "__getattr__" = some none) && (decide (PySem.W.subIn K (.ref C) (.type "BaseException") = some true) &&
  (decide (PySem.W.typeIn K (.ref C) = some (.type "type")) && PySem.W.keepIn K (.ref C))))))))
theorem Cl.of {K : PySem.W.Frag} {C : Addr} {B newId initId : String} {bmB : List Value} (F : ExcBaseFacts B newId initId bmB) (SF : StoreFacts B bmB "object.__setattr__" "object") (h : clB K C newId bmB = true) : Cl K C B newId initId bmB := by
  unfold clB at h
  simp only [Bool.and_eq_true, decide_eq_true_eq] at h
  obtain ⟨h1, h2, h3, h4, h5, h6, h7, h8, h9⟩ := h
  exact ⟨F, SF, h1, h2, h3, h4, h5, h6, h7, h8, h9⟩
def asB (K : PySem.W.Frag) (C : Addr) : Bool := (PySem.W.clsIn K C).isSome && (decide (PySem.W.findIn K (.ref C) "__class__" = some (some (.builtin "object.__class__"))) &&
  (decide (PySem.W.specialIn K (.builtin "object.__class__") "__get__" = some (some (.builtin "getset_descriptor.__get__"))) && (decide (PySem.W.takesIn K (.builtin "object.__class__") = some true) && decide (PySem.W.mroIn K C (.type "object") = some true))))
theorem As.of {K : PySem.W.Frag} {C : Addr} (h : asB K C = true) : As K C := by
  unfold asB at h
  simp only [Bool.and_eq_true, decide_eq_true_eq] at h
  obtain ⟨h1, h2, h3, h4, h5⟩ := h
  exact ⟨h1, h2, h3, h4, h5⟩
/-- of which classes it is -/
def kitB' (K : PySem.W.Frag) (C : Addr) (us : List Value) (bs : List Bool) : Bool := decide (us.map (PySem.W.kitOne K (.ref C)) = bs.map some)
theorem kitB'_at {K : PySem.W.Frag} {C : Addr} {us : List Value} {bs : List Bool} (h : kitB' K C us bs = true) {j : Nat} {u : Value} {b : Bool} (e1 : us[j]? = some u) (e2 : bs[j]? = some b) : PySem.W.kitOne K (.ref C) u = some b := by
  have e := congrArg (fun l => l[j]?) (of_decide_eq_true h)
  simp only [List.getElem?_map, e1, e2, Option.map_some] at e
  exact Option.some.inj e
end Xc
set_option Elab.async false
set_option linter.all false
set_option maxRecDepth 100000
set_option maxHeartbeats 4000000
/-! Xg: data with a dict of one row in it, shown; the end of a row over a law that shows it. -/
namespace Xg
open PySem PySem.Spec PyProof.Rows L2 Bs
/-- data at any depth, with dicts of one text and one number -/
inductive Dq (K : PySem.W.Frag) (H : Hp) : V → PyData → Prop
  | non : Dq K H .non .none
  | bl (b : Bool) : Dq K H (.bl b) (.bool b)
  | int (i : Int) : Dq K H (.int i) (.int i)
  | str (x : Str) : Dq K H (.str x) (.str x)
  | dk {a : Addr} (x : Str) (i : Int) : H a = some (.dK [(.inr x, .int i)]) → Dq K H (.ref a) (.dict [(.str x, .int i)])
  | d0 {a : Addr} : H a = some (.dK []) → Dq K H (.ref a) (.dict [])
  | lst {a : Addr} (ps : List (V × PyData)) : SqL K H a (ps.map (·.1)) → (∀ p ∈ ps, Dq K H p.1 p.2) → Dq K H (.ref a) (.list (ps.map (·.2)))
  | tup {a : Addr} (ps : List (V × PyData)) : SqT K H a (ps.map (·.1)) → (∀ p ∈ ps, Dq K H p.1 p.2) → Dq K H (.ref a) (.tuple (ps.map (·.2)))
theorem sameL {K : PySem.W.Frag} {H H' : Hp} {a : Addr} {xs : List V} (s : Same H H') (q : SqL K H a xs) : SqL K H' a xs := by
  rcases q with (q | ⟨o, q⟩) | q
  · exact .inl (.inl (s _ _ q))
  · exact .inl (.inr ⟨o, s _ _ q⟩)
  · exact .inr q
theorem sameT {K : PySem.W.Frag} {H H' : Hp} {a : Addr} {xs : List V} (s : Same H H') (q : SqT K H a xs) : SqT K H' a xs := by
  rcases q with (q | ⟨o, q⟩) | q
  · exact .inl (.inl (s _ _ q))
  · exact .inl (.inr ⟨o, s _ _ q⟩)
  · exact .inr q
theorem Dq.same {K : PySem.W.Frag} {H H' : Hp} {x : V} {d : PyData} (h : Dq K H x d) (s : Same H H') : Dq K H' x d := by
  induction h with
  | non => exact .non
  | bl b => exact .bl b
  | int i => exact .int i
  | str x => exact .str x
  | dk x i e => exact .dk x i (s _ _ e)
  | d0 e => exact .d0 (s _ _ e)
  | lst ps e _ ih => exact .lst ps (sameL s e) ih
  | tup ps e _ ih => exact .tup ps (sameT s e) ih
section
variable {X : Cx} {pins : List (Addr × Obj)} {σ : L2.St} {H : Hp} {s : Shared}
theorem readsAll_of {h : Heap} : ∀ {ps : List (V × PyData)} {us : List Value}, (∀ p ∈ ps, ∀ u, RelV p.1 u → ∃ as, Reads h u p.2 as ∧ sysModules ∉ as) → Vals (ps.map (·.1)) us → ∃ as, ReadsAll h us (ps.map (·.2)) as ∧ sysModules ∉ as
  | [], _, _, r => by
    cases r
    exact ⟨_, .nil, by simp⟩
  | p :: ps, _, h, r => by
    cases r with
    | cons r1 r2 =>
      obtain ⟨as, q1, n1⟩ := h p List.mem_cons_self _ r1
      obtain ⟨bs, q2, n2⟩ := readsAll_of (fun q hq => h q (List.mem_cons_of_mem _ hq)) r2
      refine ⟨_, .cons q1 q2, ?_⟩
      intro z
      cases List.mem_append.mp z with
      | inl z => exact n1 z
      | inr z => exact n2 z
theorem Dq.reads (I : Inv X pins σ H s) (sm : ∃ mm, X.base.Ns sysModules mm) {x : V} {d : PyData} (h : Dq X.K H x d) : ∀ u, RelV x u → ∃ as, Reads s.heap u d as ∧ sysModules ∉ as := by
  obtain ⟨mm, om, es, ep, hm, hdm, _⟩ := sm
  have hm' : s.heap.get? sysModules = some om := I.bk _ _ hm
  induction h with
  | non =>
    intro u r
    cases r
    exact ⟨_, .none, by simp⟩
  | bl b =>
    intro u r
    cases r
    exact ⟨_, .bool b, by simp⟩
  | int i =>
    intro u r
    obtain ⟨t, rfl⟩ := r
    exact ⟨_, .int i t, by simp⟩
  | str x =>
    intro u r
    obtain ⟨t, rfl⟩ := r
    exact ⟨_, .str x t, by simp⟩
  | @dk a x i e =>
    intro u r
    cases r
    obtain ⟨_, ns, vs, kv, o, es, ep, ho, hc, hd, _, pr, _⟩ := (show ObjOk X.prog X.w H s.heap a (.dK [(.inr x, .int i)]) from I.hok a _ e)
    cases kv with
    | @cons _ b _ _ k1 k2 =>
      cases k2
      obtain ⟨qk, qv⟩ := b
      obtain ⟨e1, e2⟩ := k1
      dsimp only at e1 e2
      subst e1
      obtain ⟨t, rfl⟩ := e2
      generalize hl : es.toList = l at pr
      cases pr with
      | cons p1 p2 p3 =>
        rename_i en _
        cases p3
        obtain ⟨t2, hk⟩ := Value.isStrOf_shape (x := x) (v := en.key) p1
        dsimp only at p2
        have rk : ReadsAll s.heap (es.toList.map (·.key)) [PyData.str x] ([] ++ []) := by
          rw [hl]
          show ReadsAll s.heap [en.key] _ _
          rw [hk]
          exact .cons (.str x t2) .nil
        have rv : ReadsAll s.heap (es.toList.map (·.val)) [PyData.int i] ([] ++ []) := by
          rw [hl]
          show ReadsAll s.heap [en.val] _ _
          rw [p2]
          exact .cons (.int i t) .nil
        refine ⟨_, Reads.dict (kvs := [(PyData.str x, PyData.int i)]) ho hc.1 hd rk rv, ?_⟩
        have ne : a ≠ sysModules := by
          intro z
          rw [z] at ns
          exact absurd ns (by decide)
        intro z
        simp at z
        exact ne z.symm
  | @d0 a e =>
    intro u r
    cases r
    obtain ⟨_, ns, vs, kv, o, es, ep, ho, hc, hd, _, pr, _⟩ := (show ObjOk X.prog X.w H s.heap a (.dK []) from I.hok a _ e)
    cases kv
    generalize hl : es.toList = l at pr
    cases pr
    have rk : ReadsAll s.heap (es.toList.map (·.key)) [] [] := by
      rw [hl]
      exact .nil
    have rv : ReadsAll s.heap (es.toList.map (·.val)) [] [] := by
      rw [hl]
      exact .nil
    refine ⟨_, Reads.dict (kvs := []) ho hc.1 hd rk rv, ?_⟩
    have ne : a ≠ sysModules := by
      intro z
      rw [z] at ns
      exact absurd ns (by decide)
    intro z
    simp at z
    exact ne z.symm
  | @lst a ps e _ ih =>
    intro u r
    cases r
    obtain ⟨its, rv, ⟨o, n, ho, hc, _, hd⟩, _⟩ := I.list e
    obtain ⟨as, hr, na⟩ := readsAll_of ih rv
    refine ⟨_, .list ho hc hd hr, ?_⟩
    intro z
    cases List.mem_cons.mp z with
    | inl z =>
      rw [← z, hm'] at ho
      cases ho
      rw [hdm] at hd
      cases hd
    | inr z => exact na z
  | @tup a ps e _ ih =>
    intro u r
    cases r
    obtain ⟨its, rv, ⟨o, ho, hc, n, hd⟩, _⟩ := I.tuple e
    obtain ⟨as, hr, na⟩ := readsAll_of ih rv
    exact ⟨_, .tuple ho hc hd hr, na⟩
end
section
variable {X : Cx}
/-- repr(x), x such a list, tuple or dict -/
theorem call_reprQ (ng : X.A.guards = some []) (hu : X.A.units + 64 < cLine) (sm : ∃ mm, X.base.Ns sysModules mm) :
    CallR X (.builtin "repr") (fun xs H Q => ∃ x d, xs = [x] ∧ Dq X.K H x d ∧ isDisplay d = true ∧ d.showable = true ∧ d.depth < 60 ∧ d.shown.length ≤ sizeLine ∧ Q (.str d.shown) H) := by
  intro pins s σ H xs us Q I r h
  obtain ⟨x, d, rfl, dp, dis, sho, dep, len, q⟩ := h
  cases r with
  | cons r1 r2 =>
    cases r2
    obtain ⟨as, rd, no⟩ := dp.reads I sm _ r1
    obtain ⟨a, rfl⟩ := isRef_of_reads rd dis
    apply repr_of_reads' rd sho (fun _ => no) ng (by omega) (fun _ _ e => e) _ len
    intro h' u tk kp
    exact ⟨.str d.shown, H, I.kept (h' := h') (t' := tk) kp, ⟨u, rfl⟩, q⟩
end
end Xg
set_option Elab.async false
set_option linter.all false
set_option maxRecDepth 100000
set_option maxHeartbeats 4000000
/-! Xh: the end of a row over a law that shows dicts. -/
namespace Xg
open PySem PySem.Spec PyProof.Rows L2 Bs
theorem endS {P : Program} {w : World} {K : PySem.W.Frag} {mg mb : Str → Option Value} {k : Nat} {fa a : Addr} {fd : FuncData} {x : Str} {sp : Sp} {s : Shared} {us : List Value} {ns : List Int}
    (inK : K.In s.heap) (gl : s.heap.Ns mainGlobals mg) (bu : s.heap.Ns builtinsNs mb) (buE : ∀ x : Str, x ≠ "__name__" → mb x = bootBuiltins x) (noL : s.heap.NoLimit) (sm : ∃ mm, s.heap.Ns sysModules mm) (noG : s.gens = #[])
    (at_ : s.heap.get? a = some { cls := .type "list", data := .seq us.toArray }) (iA : IntsAre us ns) (len : ns.length ≤ sizeLine) (room : Room k callerA)
    (F : ∀ base : Heap, K.In base → base.Ns mainGlobals mg → (∃ mm, base.Ns sysModules mm) → FG P w K mg base k fa fd [x] sp) (bnd : ∀ (s : Shared) (u : Value), BindsTo s fd ⟨[u], []⟩ [(x, u)])
    (want : ∀ H : Hp, Only H → SqL K H a (ns.map V.int) → sp [.ref a] H (fun v _ => v = .bl true) E0) :
    codeAny (model P w) callerA (.call (.ref fa) ⟨[.ref a], []⟩) (fun r s' => r = .ok (.ret (.bool true)) ∧ OldK s.heap s'.heap ∧ s'.os = s.os ∧ AllBare s'.gens) s := by
  have rv := vals_ints iA
  have lenV := iA.length
  have key : ∀ H : Hp, Only H → SqL K H a (ns.map V.int) → HOk P w H s.heap → (∀ b, b ≠ a → H b = none) → (K.lookup a ≠ none → H a = none) →
      codeAny (model P w) callerA (.call (.ref fa) ⟨[.ref a], []⟩) (fun r s' => r = .ok (.ret (.bool true)) ∧ OldK s.heap s'.heap ∧ s'.os = s.os ∧ AllBare s'.gens) s := by
    intro H oH sH okH one hK
    have nd : ∀ {b : Addr} {o : Obj} {es : Array DictEntry} {ep : Nat}, s.heap.get? b = some o → o.data = .dict es ep → H b = none := by
      intro b o es ep e d
      by_cases eb : b = a
      · rw [eb, at_] at e
        cases e
        exact nomatch (show Data.seq us.toArray _ = Data.dict es ep from d)
      · exact one b eb
    have nsH : ∀ {b : Addr} {m : Str → Option Value}, s.heap.Ns b m → (hidT s.heap H).Ns b m := by
      rintro b m ⟨o, es, ep, e, d, r⟩
      exact ⟨o, es, ep, hidT_get e (nd e d), d, r⟩
    have kH : K.In (hidT s.heap H) := by
      intro b o e
      apply hidT_get (inK b o e)
      by_cases eb : b = a
      · rw [eb]
        exact hK (by rw [← eb, e]; simp)
      · exact one b eb
    have md : Mod K mg (hidT s.heap H) := ⟨kH, nsH gl, ⟨mb, nsH bu, buE⟩, noL.elim fun mc q => ⟨mc, nsH q.1, q.2⟩⟩
    have e0 : Env0 P w K mg (hidT s.heap H) callerA [] s H :=
      { frames := rfl, mod := md, bs := fun b o e => of_hidT e, bsz := Nat.le_of_eq (hidT_size _ _), funs := trivial, frf := fun b hb => (nomatch (show b ∈ ([] : List Addr) from hb)), hok := okH, bare := .of_eq noG }
    apply codeAny_mono ((F _ kH (nsH gl) (sm.elim fun mm q => ⟨mm, nsH q⟩)).goes callerA [] s H ⟨[.ref a], []⟩ [.ref a] [.ref a] _ _ rfl room e0 (bnd s (.ref a)) (.cons rfl .nil) (want H oH sH))
    intro r s' h
    match r, h with
    | .error e, h => exact h.elim
    | .ok .next, h => exact h.elim
    | .ok .brk, h => exact h.elim
    | .ok .cont, h => exact h.elim
    | .ok (.ret u), ⟨v, H', os, bare, un, ok', r', q⟩ =>
      have q' : v = .bl true := q
      subst q'
      have eu : u = Value.bool true := r'
      subst eu
      refine ⟨rfl, OldK.of_keep ?_, os, bare⟩
      intro b o e
      cases eb : H b with
      | none => exact un.keep b o e eb (fun z => (nomatch (show b ∈ ([] : List Addr) from z))) (by simp)
      | some u =>
        cases oH b with
        | inl z => rw [eb] at z; cases z
        | inr z =>
          obtain ⟨ob, xs, z⟩ := z
          have e1 := (okH b _ z).1
          have e2 := (ok' b _ (un.frzs b ob _ z)).1
          rw [e] at e1
          cases e1
          exact e2
  cases hk : K.lookup a with
  | some o =>
    have e := inK a o hk
    rw [at_] at e
    cases e
    apply key (fun _ => none) (fun _ => .inl rfl) _ (fun b u z => nomatch (show (none : Option HO) = some u from z)) (fun _ _ => rfl) (fun _ => rfl)
    exact .inr ⟨_, us.toArray, _, hk, rfl, rfl, rfl, by rw [List.size_toArray, lenV]; exact len, by simpa using rv⟩
  | none =>
    let fz : HO := .frz { cls := .type "list", data := .seq us.toArray } (.lst (ns.map V.int))
    apply key (fun b => if b = a then some fz else none)
    · intro b
      by_cases hb : b = a
      · exact .inr ⟨_, _, if_pos hb⟩
      · exact .inl (if_neg hb)
    · exact .inl (.inr ⟨_, if_pos rfl⟩)
    · intro b u z
      by_cases hb : b = a
      · have z' := (if_pos hb).symm.trans z
        cases z'
        subst hb
        exact ⟨at_, by rw [List.length_map]; exact len, us, _, rv, at_⟩
      · have z' := (if_neg hb).symm.trans z
        cases z'
    · intro b hb
      exact if_neg hb
    · intro z
      exact absurd hk z
theorem walkS {l : PySem.W.OpenLaw} {n k : Nat} {q : Program} {loose : List Str} {XP : (Str → Option Value) → Heap → Prop} {YP : World → Heap → Prop} {d : DefRec} {K : Params → PySem.W.Frag} {sp : PySem.W.Frag → Sp} {x : Str}
    (calm : importsNone q = true) (most : l.most = some n) (small : n ≤ sizeLine) (plain : d.params.defaults = []) (room : Room k callerA) (hY : ∀ (w : World) (h : Heap), YP w h → (K w.params).In h)
    (F : ∀ (w : World) (mg : Str → Option Value) (fa : Addr) (h : Heap), (K w.params).In h → h.Ns mainGlobals mg → mg d.name = some (.ref fa) →
      ∃ fd : FuncData, (∀ (s : Shared) (u : Value), BindsTo s fd ⟨[u], []⟩ [(x, u)]) ∧
        ∀ base : Heap, (K w.params).In base → base.Ns mainGlobals mg → (∃ mm, base.Ns sysModules mm) → FG l.prog w (K w.params) mg base k fa fd [x] (sp (K w.params)))
    (want : ∀ (K : PySem.W.Frag) (H : Hp) (a : Addr) (ns : List Int), ns.length ≤ n → Only H → SqL K H a (ns.map V.int) → sp K [.ref a] H (fun v _ => v = .bl true) E0) :
    PySem.W.WalkO q loose XP YP l.row.toRowW d [] (fun f vs => PySem.call f vs) := by
  apply Att.attach_call most plain
  intro w s₀ s₁ mg mb fa o pm cd doc a us ns G Y ho hd hcd hmg at_ iA len noG
  obtain ⟨fd, hb, hF⟩ := F w mg fa _ (hY w _ Y) G.T.g hmg
  exact endS (hY w _ Y) G.T.g G.T.b G.T.builtins G.T.nolimit ((G.T.seer calm).mods.elim fun mm q => ⟨mm, q.1⟩) noG at_ iA (Nat.le_trans len small) room hF hb fun H hO hS => want (K w.params) H a ns len hO hS

end Xg
set_option Elab.async false
set_option linter.all false
set_option maxRecDepth 100000
set_option maxHeartbeats 4000000
/-! Xi: repr of data of any form; such exceptions raised; a try with several named clauses. -/
namespace Xg
open PySem PySem.Spec PyProof.Rows L2 Bs Xc
section
variable {X : Cx}
/-- repr(x), x data of any form -/
theorem call_reprA (ng : X.A.guards = some []) (hu : X.A.units + 64 < cLine) (sm : ∃ mm, X.base.Ns sysModules mm) :
    CallR X (.builtin "repr") (fun xs H Q => ∃ x d, xs = [x] ∧ Dq X.K H x d ∧ d.showable = true ∧ d.depth < 60 ∧ d.shown.length ≤ sizeLine ∧ Q (.str d.shown) H) := by
  intro pins s σ H xs us Q I r h
  obtain ⟨x, d, rfl, dp, sho, dep, len, q⟩ := h
  cases r with
  | cons r1 r2 =>
    cases r2
    obtain ⟨as, rd, no⟩ := dp.reads I sm _ r1
    have far : ∀ {a : Addr} {u : Value}, u = .ref a → Reads s.heap u d as → wpAny (model X.prog X.w) X.A (call (.builtin "repr") [u]) (EP X pins σ Q) X.xe s := by
      rintro a u rfl rd
      apply repr_of_reads' rd sho (fun _ => no) ng (by omega) (fun _ _ e => e) _ len
      intro h' u tk kp
      exact ⟨.str d.shown, H, I.kept (h' := h') (t' := tk) kp, ⟨u, rfl⟩, q⟩
    cases dp with
    | non =>
      cases r1
      simp only [PyData.shown] at q
      exact PySem.P.repr_of_none ⟨.str _, H, I.tok _, ⟨_, rfl⟩, q⟩
    | bl b =>
      cases r1
      simp only [PyData.shown] at q
      exact PySem.P.repr_of_bool ⟨.str _, H, I.tok _, ⟨_, rfl⟩, q⟩
    | int i =>
      obtain ⟨t, rfl⟩ := r1
      simp only [PyData.shown] at q
      simp only [PyData.showable, decide_eq_true_eq] at sho
      exact PySem.P.repr_of_int sho ⟨.str _, H, I.tok _, ⟨_, rfl⟩, q⟩
    | str x =>
      obtain ⟨t, rfl⟩ := r1
      rw [PyData.shown_str] at q len
      exact PySem.P.repr_of_str ⟨.str _, H, I.tok _, ⟨_, rfl⟩, q⟩ len
    | dk x i e => exact far r1 rd
    | d0 e => exact far r1 rd
    | lst ps e k => exact far r1 rd
    | tup ps e k => exact far r1 rd
end
/-- .. the written part told -/
def rRp (K : PySem.W.Frag) : List V → Hp → VK → Prop := fun xs H Q => ∃ x d, xs = [x] ∧ Dq K H x d ∧ d.showable = true ∧ d.depth < 60 ∧ d.shown.length ≤ sizeLine ∧ Q (.str d.shown) H
theorem call_reprK {X : Cx} {K : PySem.W.Frag} (hK : X.K = K) (ng : X.A.guards = some []) (hu : X.A.units + 64 < cLine) (sm : ∃ mm, X.base.Ns sysModules mm) : CallR X (.builtin "repr") (rRp K) := by
  subst hK
  exact call_reprA ng hu sm
/-! ### raise C(e, .., k = v, ..) -/
section
variable {X : Cx} {pins : List (Addr × Obj)} {σ : L2.St} {H : Hp} {s : Shared} {us ws : List Value} {vs zs : List V} {B newId initId : String} {bmB : List Value} {C fI : Addr} {k n : Nat} {fd : FuncData} {ps ks : List Str} {sp : Sp} {g : List Value → List Value → List Value} {gV : List V → List V → List V}
/-- what is wanted of it, behind its __init__ -/
def flew (C a : Addr) (H : Hp) (Q : XK) : VK := fun v H3 => v = .non ∧ ∃ (d : Addr) (fs : List (Str × V)), H3 a = some (exo a C (some d)) ∧ H3 d = some (exd d fs) ∧ H d = none ∧ Q (.ref C) (some d) (upd (del H3 a) d (.xd fs))
theorem runRaise {Q : XK} (T : Cl X.K C B newId initId bmB) (N : Ini X.K C fI) (F1 : FnOk X.prog X.w X.K X.mg X.base CX0 k fI fd ps sp) (hr : Room (k + 1) X.A) (hb : KBn X.K fd ps (n + 1) ks g gV) (few : n ≤ 1000)
    (I : Inv X pins σ H s) (r : Vals vs us) (rz : Vals zs ws) (l1 : vs.length = n) (l2 : zs.length = ks.length)
    (h : ∀ a, H a = none → sp (gV (.ref a :: vs) zs) (upd H a (exo a C none)) (flew C a H Q) E0) :
    wpAny (model X.prog X.w) X.A (call (.ref C) us (ks.zip ws)) (MkP X pins σ Q) X.xe s := by
  obtain ⟨nm, N', qn, bs, bm, hdct, sn, sub, ab, col, dd, k0, k1, k2, k3, k5, hC, alike⟩ := PySem.W.excInit_of I.kIn T.ini
  have li := PySem.W.looks_findIn (M := model X.prog X.w) I.kIn N.at_
  have lb : ∀ self, PySem.W.Looks (model X.prog X.w) s.heap (bindSpecial (.ref fI) self) (.ref fI, [self]) := fun self => PySem.W.bind_fn I.kIn self N.ty
  have fresh : s.heap.objs.size ≤ s.heap.objs.size + 1 := Nat.le_succ _
  have hn : H (s.heap.objs.size + 1) = none := I.hok.fresh fresh
  have q0 := h _ hn
  have ul : us.length ≤ sizeLine := by
    have e := r.length
    rw [sizeLine_eq]
    omega
  obtain ⟨hp, gg, d, t, os⟩ := s
  have keeps : ∀ b o, hp.get? b = some o → (PySem.XcW.bornH hp C us).get? b = some o := by
    intro b o e
    exact Heap.get?_push_of_some _ (Heap.get?_push_of_some _ e)
  have born : (PySem.XcW.bornH hp C us).get? (hp.objs.size + 1) = some (PySem.HandSPX.excO C hp.objs.size) := by heap_get
  have I2 : Inv X pins σ (upd H (hp.objs.size + 1) (exo (hp.objs.size + 1) C none)) ⟨PySem.XcW.bornH hp C us, gg, d, t, os⟩ :=
    I.laid (h' := PySem.XcW.bornH hp C us) (t' := t) (o := exo (hp.objs.size + 1) C none) (a := hp.objs.size + 1) keeps fresh (exo_ok born)
  have r2 : Vals (V.ref (hp.objs.size + 1) :: vs) (Value.ref (hp.objs.size + 1) :: us) := .cons rfl r
  have e1 : (Value.ref (hp.objs.size + 1) :: us).length = n + 1 := r2.length.symm.trans (congrArg Nat.succ l1)
  have e2 : ws.length = ks.length := rz.length.symm.trans l2
  apply wpAny_call
  apply PySem.XcW.callMade T.F alike hC ul li lb
  apply codeAny_mono (F1.run _ X.stack _ _ ⟨Value.ref (hp.objs.size + 1) :: us, ks.zip ws⟩ _ _ _ E0 (hr.make C us (ks.zip ws)) (I2.env0.make C us (ks.zip ws)) (hb.to _ _ ws I2.kIn e1 e2) (hb.rel r2 rz) q0)
  intro res s' z
  match res, z with
  | .error _, z => exact z.elim
  | .ok .next, z => exact z.elim
  | .ok .brk, z => exact z.elim
  | .ok .cont, z => exact z.elim
  | .ok (.ret u), z =>
    obtain ⟨v, H3, os3, bare3, un3, hok3, rv, ev, dx, fs, ea, ed, n1, q3⟩ := z
    subst ev
    obtain ⟨h3, g3, d3, t3, os'⟩ := s'
    exact ⟨rv, mk_end (raises_own T.ex T.ty) I fresh keeps un3 hok3 os3 bare3 ea ed n1 q3⟩
def tRs (C : Addr) (n m : Nat) (sp : Sp) (gV : List V → List V → List V) (t tk : TA) : L2.St → Hp → XK → Prop := fun σ H Q => t σ H fun vs H1 => tk σ H1 fun zs H2 => vs.length = n ∧ zs.length = m ∧
  ∀ a, H2 a = none → sp (gV (.ref a :: vs) zs) (upd H2 a (exo a C none)) (flew C a H2 Q) E0
variable {x : Str} {p pos : Pos} {e : Expr} {es : List Expr} {kws : List Keyword} {ta tk : TA}
theorem pmk_x (T : Cl X.K C B newId initId bmB) (N : Ini X.K C fI) (F1 : FnOk X.prog X.w X.K X.mg X.base CX0 k fI fd ps sp) (hr : Room (k + 1) X.A) (hb : KBn X.K fd ps (n + 1) ks g gV) (few : n ≤ 1000) (hg : Gl X x) (hm : X.mg x = some (.ref C))
    (ha : PA X (e :: es) ta) (hkw : PK X kws tk) (hall : (backToKw pos (keywordEach kws X.env)).all (·.1.isSome) = true := by rfl) (hks : (backToKw pos (keywordEach kws X.env)).filterMap (·.1) = ks := by rfl)
    (hdb : (x == ("__debug__" : Str)) = false := by decide) (he : starEach (e :: es) X.env = (false, eval e X.env) :: starEach es X.env := by rfl)
    (hpl : ((backTo pos (starEach (e :: es) X.env)).any (·.1) || (backToKw pos (keywordEach kws X.env)).any (·.1.isNone)) = false := by rfl) :
    PMk X (.Call (.Name x p) (e :: es) kws pos) (tRs C n ks.length sp gV ta tk) := by
  intro pins s σ H Q I h
  apply wpAny_Call_Name_kw
  apply ld_glob I hg hm _ hdb
  apply PySem.W.callWith_KW (h₀ := X.base) I.ok.mod.kin T.kp hall _ hpl he
  apply thn (ha.run pos pins s σ H _ I h)
  rintro us s1 ⟨vs, H1, I1, r, q⟩
  apply thn (hkw.run pos pins s1 σ H1 _ I1 q)
  rintro ws s2 ⟨zs, H2, I2, rz, l1, l2, q2⟩
  refine ⟨I2.kIn, ?_⟩
  rw [hks]
  exact runRaise T N F1 hr hb few I2 r rz l1 l2 q2
theorem pmk_x0 (T : Cl X.K C B newId initId bmB) (N : Ini X.K C fI) (F1 : FnOk X.prog X.w X.K X.mg X.base CX0 k fI fd ps sp) (hr : Room (k + 1) X.A) (hb : KBn X.K fd ps 1 ks g gV) (hg : Gl X x) (hm : X.mg x = some (.ref C))
    (hkw : PK X kws tk) (hall : (backToKw pos (keywordEach kws X.env)).all (·.1.isSome) = true := by rfl) (hks : (backToKw pos (keywordEach kws X.env)).filterMap (·.1) = ks := by rfl)
    (hdb : (x == ("__debug__" : Str)) = false := by decide)
    (hpl : ((backTo pos (starEach [] X.env)).any (·.1) || (backToKw pos (keywordEach kws X.env)).any (·.1.isNone)) = false := by rfl) :
    PMk X (.Call (.Name x p) [] kws pos) (tRs C 0 ks.length sp gV tNil tk) := by
  intro pins s σ H Q I h
  apply wpAny_Call_Name_kw
  apply ld_glob I hg hm _ hdb
  apply PySem.W.callWith_KW0 (h₀ := X.base) I.ok.mod.kin T.kp hall _ hpl
  apply thn (hkw.run pos pins s σ H _ I h)
  rintro ws s2 ⟨zs, H2, I2, rz, l1, l2, q2⟩
  refine ⟨I2.kIn, ?_⟩
  rw [hks]
  exact runRaise (us := []) (vs := []) T N F1 hr hb (Nat.zero_le _) I2 .nil rz rfl l2 q2
end
/-- such an __init__, and it flies -/
theorem flies {H : Hp} {a C : Addr} {n : Nat} {mk : List V → List (Str × V)} {l xs : List V} {Q : XK} (el : l = .ref a :: xs) (hl : xs.length = n) (ha : H a = none)
    (k : ∀ (d : Addr) (H' : Hp), (∀ b o, H b = some o → H' b = some o) → H' d = some (.xd (mk xs)) → Q (.ref C) (some d) H') :
    spIn C n mk l (upd H a (exo a C none)) (flew C a H Q) E0 := by
  refine ⟨a, xs, el, hl, upd_same, fun dx H' n1 n2 e1 e2 keep => ?_⟩
  have nd : H dx = none := by
    rw [upd_ne n2] at n1
    exact n1
  refine ⟨rfl, dx, _, e1, e2, nd, k dx _ ?_ upd_same⟩
  intro b o e
  have b1 : b ≠ a := ne_of_none e ha
  have b2 : b ≠ dx := ne_of_none e nd
  rw [upd_ne b2, del_ne b1, keep b b1 b2, upd_ne b1]
  exact e
end Xg
set_option Elab.async false
set_option linter.all false
set_option maxRecDepth 100000
set_option maxHeartbeats 4000000
/-! Xm: data with dicts of any texts: repr. -/
namespace Xm
open PySem PySem.Spec PyProof.Rows L2 Bs Xg
def keyD : Key → PyData
  | .inl i => .int i
  | .inr x => .str x
/-- data, a dict of it, a tuple of such -/
inductive Dr (K : PySem.W.Frag) (H : Hp) : V → PyData → Prop
  | q {x : V} {d : PyData} : Dq K H x d → Dr K H x d
  | dn {a : Addr} (kvs : List (Key × V × PyData)) : H a = some (.dK (kvs.map fun e => (e.1, e.2.1))) → (∀ e ∈ kvs, Dq K H e.2.1 e.2.2) → Dr K H (.ref a) (.dict (kvs.map fun e => (keyD e.1, e.2.2)))
  | tup {a : Addr} (ps : List (V × PyData)) : SqT K H a (ps.map (·.1)) → (∀ p ∈ ps, Dr K H p.1 p.2) → Dr K H (.ref a) (.tuple (ps.map (·.2)))
theorem Dr.same {K : PySem.W.Frag} {H H' : Hp} {x : V} {d : PyData} (h : Dr K H x d) (s : Same H H') : Dr K H' x d := by
  induction h with
  | q h => exact .q (h.same s)
  | dn kvs e h => exact .dn kvs (s _ _ e) fun p hp => (h p hp).same s
  | tup ps e _ ih => exact .tup ps (sameT s e) ih
section
variable {X : Cx} {pins : List (Addr × Obj)} {σ : L2.St} {H : Hp} {s : Shared}
theorem key_reads {h : Heap} {P : Program} {w : World} {k : Key} {v : Value} (e : (mixKind P w).is k v = true) : Reads h v (keyD k) [] := by
  have r : RelV (kV k) v := keyIs_rel e
  cases k with
  | inl i =>
    obtain ⟨t, rfl⟩ := r
    exact .int i t
  | inr x =>
    obtain ⟨t, rfl⟩ := r
    exact .str x t
theorem entries_read (I : Inv X pins σ H s) (sm : ∃ mm, X.base.Ns sysModules mm) : ∀ {kvs : List (Key × V × PyData)} {vs : List (Key × Value)} {es : List DictEntry}, KV (kvs.map fun e => (e.1, e.2.1)) vs → Pairs (mixKind X.prog X.w) es vs → (∀ e ∈ kvs, Dq X.K H e.2.1 e.2.2) →
    ReadsAll s.heap (es.map (·.key)) (kvs.map fun e => keyD e.1) [] ∧ ∃ bs, ReadsAll s.heap (es.map (·.val)) (kvs.map fun e => e.2.2) bs ∧ sysModules ∉ bs
  | [], _, _, r, p, _ => by
    cases r
    cases p
    exact ⟨.nil, _, .nil, by simp⟩
  | e :: kvs, _, _, r, p, h => by
    cases r with
    | @cons _ b _ _ k1 k2 =>
      cases p with
      | cons p1 p2 p3 =>
        obtain ⟨q1, bs, q2, q3⟩ := entries_read I sm k2 p3 fun x hx => h x (List.mem_cons_of_mem _ hx)
        obtain ⟨e1, e2⟩ := k1
        obtain ⟨as, r1, n1⟩ := (h e List.mem_cons_self).reads I sm _ e2
        rw [← e1] at p1
        have rk := key_reads (h := s.heap) p1
        refine ⟨ReadsAll.cons rk q1, _, .cons (by show Reads s.heap (DictEntry.val _) _ _; rw [p2]; exact r1) q2, fun z => ?_⟩
        cases List.mem_append.mp z with
        | inl z => exact n1 z
        | inr z => exact q3 z
theorem Dr.reads (I : Inv X pins σ H s) (sm : ∃ mm, X.base.Ns sysModules mm) {x : V} {d : PyData} (h : Dr X.K H x d) : ∀ u, RelV x u → ∃ as, Reads s.heap u d as ∧ sysModules ∉ as := by
  induction h with
  | q h => exact h.reads I sm
  | @dn a kvs e h =>
    intro u r
    cases r
    obtain ⟨_, ns, vs, kv, o, es, ep, ho, hc, hd, _, pr, _⟩ := (show ObjOk X.prog X.w H s.heap a (.dK (kvs.map fun e => (e.1, e.2.1))) from I.hok a _ e)
    obtain ⟨q1, bs, q2, q3⟩ := entries_read I sm kv pr h
    have ek : (kvs.map fun e => (keyD e.1, e.2.2)).map (·.1) = kvs.map fun e => keyD e.1 := by rw [List.map_map]; rfl
    have ev : (kvs.map fun e => (keyD e.1, e.2.2)).map (·.2) = kvs.map fun e => e.2.2 := by rw [List.map_map]; rfl
    refine ⟨_, Reads.dict ho hc.1 hd (by rw [ek]; exact q1) (by rw [ev]; exact q2), ?_⟩
    have ne : a ≠ sysModules := by
      intro z
      rw [z] at ns
      exact absurd ns (by decide)
    intro z
    cases List.mem_append.mp z with
    | inl z => exact ne (List.mem_singleton.mp z).symm
    | inr z => exact q3 z
  | @tup a ps e _ ih =>
    intro u r
    cases r
    obtain ⟨its, rv, ⟨o, ho, hc, n, hd⟩, _⟩ := I.tuple e
    obtain ⟨as, hr, na⟩ := readsAll_of ih rv
    exact ⟨_, .tuple ho hc hd hr, na⟩
end
/-- repr of a tuple of such -/
def rRz (K : PySem.W.Frag) : List V → Hp → VK → Prop := fun xs H Q => ∃ x d, xs = [x] ∧ Dr K H x d ∧ isDisplay d = true ∧ d.showable = true ∧ d.depth < 60 ∧ d.shown.length ≤ sizeLine ∧ Q (.str d.shown) H
theorem call_reprZ {X : Cx} {K : PySem.W.Frag} (hK : X.K = K) (ng : X.A.guards = some []) (hu : X.A.units + 64 < cLine) (sm : ∃ mm, X.base.Ns sysModules mm) : CallR X (.builtin "repr") (rRz K) := by
  subst hK
  intro pins s σ H xs us Q I r h
  obtain ⟨x, d, rfl, dp, dis, sho, dep, len, q⟩ := h
  obtain ⟨u0, rfl, r1⟩ := vals1 r
  obtain ⟨as, rd, no⟩ := dp.reads I sm _ r1
  obtain ⟨a, rfl⟩ := isRef_of_reads rd dis
  apply repr_of_reads' rd sho (fun _ => no) ng (by omega) (fun _ _ e => e) _ len
  intro h' u tk kp
  exact ⟨.str d.shown, H, I.kept (h' := h') (t' := tk) kp, ⟨u, rfl⟩, q⟩
end Xm
set_option Elab.async false
set_option linter.all false
set_option maxRecDepth 100000
set_option maxHeartbeats 4000000
/-! Gn: what many laws' hands want, of no law -/
namespace Gn
open PySem PySem.Spec PyProof.Rows L2 Bs Xg TL Xm
section
variable {X : Cx}
theorem dummy : True := trivial
end
def HandAt (H : Hp) (h : Addr) (n : Nat) : Prop := ∃ g s c : Int, H h = some (.lst [.int g, .int s, .int c]) ∧ 0 ≤ s ∧ s < 2305843009213693951 ∧ 0 ≤ c ∧ c ≤ n
def But (h : Addr) (H H' : Hp) : Prop := ∀ b o, b ≠ h → H b = some o → H' b = some o
theorem But.refl (h : Addr) (H : Hp) : But h H H := fun _ _ _ e => e
theorem But.trans {h : Addr} {H H1 H2 : Hp} (a : But h H H1) (b : But h H1 H2) : But h H H2 := fun c o n e => b c o n (a c o n e)
theorem But.upd {h : Addr} {H : Hp} {o : HO} : But h H (upd H h o) := fun c p n e => by rw [upd_ne n]; exact e
theorem But.of {h : Addr} {H H' : Hp} (s : Same H H') : But h H H' := fun b o _ e => s b o e
theorem But.seq {K : PySem.W.Frag} {h a : Addr} {H H' : Hp} {xs : List V} (e : But h H H') (n : a ≠ h) (q : SqL K H a xs) : SqL K H' a xs := by
  rcases q with (q | ⟨o, q⟩) | q
  · exact .inl (.inl (e _ _ n q))
  · exact .inl (.inr ⟨o, e _ _ n q⟩)
  · exact .inr q
theorem Same.new {H : Hp} {p : Addr} {o : HO} (n : H p = none) : Same H (upd H p o) := fun b u e => by rw [upd_ne (ne_of_none e n)]; exact e
theorem HandAt.mono {H H' : Hp} {h : Addr} {n m : Nat} (a : HandAt H h n) (s : Same H H') (l : n ≤ m) : HandAt H' h m := by
  obtain ⟨g, t, c, e, h1, h2, h3, h4⟩ := a
  exact ⟨g, t, c, s _ _ e, h1, h2, h3, by omega⟩
theorem HandAt.up {H : Hp} {h : Addr} {n m : Nat} (a : HandAt H h n) (l : n ≤ m) : HandAt H h m := a.mono (Same.refl H) l
def spTake : Sp := fun vs H Q _ => ∃ (h : Addr) (n : Nat) (m : Int), vs = [.ref h, .int m] ∧ HandAt H h n ∧ n < 1000000 ∧ 0 < m ∧ m < 1000000000 ∧
  ∀ (r : Int) (H' : Hp), 0 ≤ r → r < m → HandAt H' h (n + 1) → But h H H' → Q (.int r) H'
def spPick (K : PySem.W.Frag) : Sp := fun vs H Q _ => ∃ (h : Addr) (n : Nat) (x : V) (ys : List V), vs = [.ref h, x] ∧ HandAt H h n ∧ n < 1000000 ∧ 0 < ys.length ∧ ys.length ≤ 1000 ∧
  ((∃ z : Str, x = .str z ∧ ys = z.cps.toList.map fun c => V.str ⟨#[c]⟩) ∨ (∃ p, x = .ref p ∧ p ≠ h ∧ SqL K H p ys)) ∧
  ∀ (y : V) (H' : Hp), y ∈ ys → HandAt H' h (n + 1) → But h H H' → Q y H'
structure Free (mg : Str → Option Value) : Prop where
  isinstance : mg "isinstance" = none
  int : mg "int" = none
  bool : mg "bool" = none
  str : mg "str" = none
  tuple : mg "tuple" = none
  dict : mg "dict" = none
  len : mg "len" = none
  abs : mg "abs" = none
  range : mg "range" = none
  all : mg "all" = none
  sum : mg "sum" = none
  zip : mg "zip" = none
  list : mg "list" = none
  sorted : mg "sorted" = none
  repr : mg "repr" = none
  max : mg "max" = none
  min : mg "min" = none
  set : mg "set" = none
  any : mg "any" = none
  enumerate : mg "enumerate" = none
theorem op_powX {X : Cx} : OpR X (binaryOp .Pow) (rI (fun i j => 0 ≤ j ∧ (Builtin.Int.intBits i : Int) * j ≤ 2 ^ 27) fun i j => .int (i ^ j.toNat)) := opI fun _ _ _ _ _ _ _ hc q => PyProof.Rows.pow_int hc.1 hc.2 q
theorem at3 {a b c : V} : ∀ j : Nat, j < 3 → ∃ v, ([a, b, c] : List V)[j]? = some v := fun j h => ⟨_, List.getElem?_eq_getElem (l := [a, b, c]) (by simpa using h)⟩
theorem mod_lt (x : Int) {B : Int} (b : 0 < B) (l : B.toNat ≤ 2 ^ 1000) : (x % B).natAbs < 2 ^ 1000 := by
  have h0 := Int.emod_nonneg x (show B ≠ 0 by omega)
  have h1 := Int.emod_lt_of_pos x b
  generalize 2 ^ 1000 = M at l ⊢
  omega
def spHand (K : PySem.W.Frag) : Sp := fun vs H Q _ => ∃ (a : Addr) (ns : List Int) (j : Nat), vs = [.ref a, .int (j : Int)] ∧ SqL K H a (ns.map V.int) ∧ ns.length ≤ 63 ∧ j < 64 ∧
  ∀ (p : Addr) (H' : Hp), H p = none → Same H H' → HandAt H' p 0 → Q (.ref p) H'
def Good (L : Nat) (z : Str) : Prop := z.length ≤ L ∧ ∀ c ∈ z.cps.toList, 32 ≤ c ∧ c < 127
theorem Good.app {a b : Nat} {x y : Str} (h : Good a x) (g : Good b y) : Good (a + b) (x ++ y) := by
  refine ⟨?_, fun c hc => ?_⟩
  · have e := congrArg List.length (tl_append x y)
    rw [List.length_append] at e
    rw [len_tl, e, ← len_tl, ← len_tl]
    exact Nat.add_le_add h.1 g.1
  · have e : c ∈ tl x ++ tl y := by rw [← tl_append]; exact hc
    rcases List.mem_append.mp e with e | e
    · exact h.2 c e
    · exact g.2 c e
theorem Good.cut {L : Nat} {z : Str} (h : Good L z) (lo hi : Option Int) : Good L (cutS z lo hi) :=
  ⟨Nat.le_trans (cutS_length z lo hi) h.1, fun c hc => h.2 c (List.mem_of_mem_drop (List.mem_of_mem_take hc))⟩
theorem Good.le {a b : Nat} {z : Str} (h : Good a z) (l : a ≤ b) : Good b z := ⟨Nat.le_trans h.1 l, h.2⟩
theorem HandAt.old {H : Hp} {h D : Addr} {n : Nat} {l : List V} (a : HandAt H h n) (ne : h ≠ D) : HandAt (upd H D (.lst l)) h n := by
  obtain ⟨g, t, c, e, q⟩ := a
  exact ⟨g, t, c, by rw [upd_ne ne]; exact e, q⟩
theorem HandAt.fresh {H : Hp} {h D : Addr} {n : Nat} (a : HandAt H h n) (nD : H D = none) : h ≠ D := by
  obtain ⟨g, t, c, e, _⟩ := a
  exact ne_of_none e nD
/-! ### a comprehension that makes one value a turn, by a hand or without -/
section
variable {J : It} {n : Nat} {Gd : Hp → Prop} {Y : Nat → Hp → V → Hp → Prop}
theorem lc_map (w : Walk J n Gd Y) {i : Nat} {te : TE} {σ : L2.St} {H : Hp} {D h : Addr} {Q : Hp → Prop} {Z : Nat → V → Prop} (I : Nat → Hp → Prop) (W : Nat → V → Hp → Prop)
    (nD : H D = none) (nh : D ≠ h) (hY : ∀ j G x G', Y j G x G' → G' = G ∧ Z j x) (hG : ∀ G, But h H G → Gd G)
    (st : ∀ j y G G', (∀ b o, b ≠ D → b ≠ h → G b = some o → G' b = some o) → (∃ l, G D = some (.lst l)) → W j y G → W j y G')
    (small : n < 100000) (wp : ∀ x, wipe ((wipe σ [i]).set i (some x)) [i] = wipe σ [i]) (I0 : I 0 H) (ID : ∀ j G l, I j G → I j (upd G D (.lst l)))
    (turn : ∀ j x G (Q' : VK), j < n → Z j x → But h H G → I j G → (∃ l, G D = some (.lst l)) → (∀ y G', But h G G' → I (j + 1) G' → W j y G' → Q' y G') → te ((wipe σ [i]).set i (some x)) G Q')
    (fin : ∀ G ys, But h H G → I n G → G D = some (.lst ys) → ys.length = n → (∀ j y, ys[j]? = some y → W j y G) → Q G) :
    ∃ W' : Nat → Nat → Hp → Prop, (∃ m, W' 0 m (upd H D (.lst []))) ∧ ∀ j m G, W' j m G →
      (J.stop j G ∧ Q G) ∨ (J.go j G ∧ ∃ Nx : Hp → Prop, (∀ G', Nx G' → ∃ m', m' < m ∧ W' (j + 1) m' G') ∧ ∀ x G', J.yld j G x G' → gName i x (wipe σ [i]) G' fun σ2 H2 => wipe σ2 [i] = wipe σ [i] ∧ tYes σ2 H2 fun b H3 =>
        if b = true then te σ2 H3 fun y H4 => ∃ acc, H4 D = some (.lst acc) ∧ acc.length < sizeLine ∧ Nx (upd H4 D (.lst (acc ++ [y]))) else Nx H3) := by
  have oldD : ∀ G l, But h H G → But h H (upd G D (.lst l)) := by
    intro G l b c o nc e
    rw [upd_ne (ne_of_none e nD)]
    exact b c o nc e
  refine lc_it w (fun j G => But h H G ∧ I j G ∧ ∃ ys, G D = some (.lst ys) ∧ ys.length = j ∧ ∀ m y, ys[m]? = some y → W m y G) ⟨oldD _ _ (But.refl h H), ID _ _ _ I0, [], upd_same, rfl, fun m y e => by simp at e⟩ (fun j G _ q => hG G q.1) ?_ ?_
  · rintro j x G G' hj ⟨bt, ij, ys, eD, ly, hw⟩ hy
    obtain ⟨rfl, z⟩ := hY _ _ _ _ hy
    refine ⟨wp x, yes ?_⟩
    refine turn j x G' _ hj z bt ij ⟨_, eD⟩ fun y G2 bt2 ij2 wy => ?_
    have eD2 : G2 D = some (.lst ys) := bt2 D _ nh eD
    have kp : ∀ b o, b ≠ D → G2 b = some o → upd G2 D (.lst (ys ++ [y])) b = some o := fun b o nb e => by rw [upd_ne nb]; exact e
    refine ⟨ys, eD2, ?_, oldD _ _ (bt.trans bt2), ID _ _ _ ij2, ys ++ [y], upd_same, by rw [List.length_append, ly]; rfl, fun m y' e => ?_⟩
    · rw [ly, sizeLine_eq]
      omega
    · by_cases hm : m < ys.length
      · rw [List.getElem?_append_left hm] at e
        exact st _ _ _ _ (fun b o nb nb2 eb => kp b o nb (bt2 b o nb2 eb)) ⟨_, eD⟩ (hw m y' e)
      · have hm' : m = ys.length := by
          have := (List.getElem?_eq_some_iff.mp e).1
          rw [List.length_append] at this
          simp at this
          omega
        subst hm'
        rw [List.getElem?_append_right (Nat.le_refl _)] at e
        simp at e
        subst e
        rw [ly]
        exact st _ _ _ _ (fun b o nb _ eb => kp b o nb eb) ⟨_, eD2⟩ wy
  · rintro G ⟨bt, ij, ys, eD, ly, hw⟩
    exact fin G ys bt ij eD ly hw
end
section
variable {J : It} {n : Nat} {Gd : Hp → Prop} {Y : Nat → Hp → V → Hp → Prop}
/-- a comprehension whose turns change nothing that was there -/
theorem lc_val (w : Walk J n Gd Y) {i : Nat} {te : TE} {σ : L2.St} {H : Hp} {D : Addr} {Q : Hp → Prop} {Z : Nat → V → Prop} (f : Nat → V)
    (nD : H D = none) (hY : ∀ j G x G', Y j G x G' → G' = G ∧ Z j x) (hG : ∀ G, Same H G → Gd G) (small : n < 100000) (wp : ∀ x, wipe ((wipe σ [i]).set i (some x)) [i] = wipe σ [i])
    (turn : ∀ j x G (Q' : VK), j < n → Z j x → Same H G → (∀ G', Same G G' → Q' (f j) G') → te ((wipe σ [i]).set i (some x)) G Q')
    (fin : ∀ G, Same H G → G D = some (.lst ((List.range n).map f)) → Q G) :
    ∃ W' : Nat → Nat → Hp → Prop, (∃ m, W' 0 m (upd H D (.lst []))) ∧ ∀ j m G, W' j m G →
      (J.stop j G ∧ Q G) ∨ (J.go j G ∧ ∃ Nx : Hp → Prop, (∀ G', Nx G' → ∃ m', m' < m ∧ W' (j + 1) m' G') ∧ ∀ x G', J.yld j G x G' → gName i x (wipe σ [i]) G' fun σ2 H2 => wipe σ2 [i] = wipe σ [i] ∧ tYes σ2 H2 fun b H3 =>
        if b = true then te σ2 H3 fun y H4 => ∃ acc, H4 D = some (.lst acc) ∧ acc.length < sizeLine ∧ Nx (upd H4 D (.lst (acc ++ [y]))) else Nx H3) := by
  refine lc_it w (fun j G => Same H G ∧ G D = some (.lst ((List.range j).map f))) ⟨Same.new nD, upd_same⟩ (fun j G _ q => hG G q.1) ?_ ?_
  · rintro j x G G' hj ⟨sG, eD⟩ hy
    obtain ⟨rfl, z⟩ := hY _ _ _ _ hy
    refine ⟨wp x, yes ?_⟩
    refine turn j x G' _ hj z sG fun G2 s2 => ⟨_, s2 _ _ eD, ?_, fun b o eo => ?_, ?_⟩
    · rw [List.length_map, List.length_range, sizeLine_eq]
      omega
    · rw [upd_ne (ne_of_none eo nD)]
      exact s2 _ _ (sG b o eo)
    · rw [upd_same, List.range_succ, List.map_append]
      rfl
  · rintro G ⟨sG, eD⟩
    exact fin G sG eD
end
theorem range_at {α β : Type} (xs : List α) (f : α → β) (g : Nat → β) (h : ∀ j x, xs[j]? = some x → g j = f x) : (List.range xs.length).map g = xs.map f := by
  apply List.ext_getElem
  · simp
  · intro j h1 h2
    rw [List.getElem_map, List.getElem_map, List.getElem_range]
    exact h j _ (List.getElem?_eq_getElem _)
theorem yat {xs : List V} : ∀ j G x G', YAt xs j G x G' → G' = G ∧ xs[j]? = some x := fun _ _ _ _ h => h
theorem But.sub {h : Addr} {H H' : Hp} (b : But h H H') (n : H h = none) : Same H H' := fun c o e => b c o (ne_of_none e n) e
/-! ### a comprehension that makes new things -/
section
variable {J : It} {n : Nat} {Gd : Hp → Prop} {Y : Nat → Hp → V → Hp → Prop}
theorem lc_new (w : Walk J n Gd Y) {i : Nat} {te : TE} {σ : L2.St} {H : Hp} {D : Addr} {Q : Hp → Prop} {Z : Nat → V → Prop} (W : Nat → V → Hp → Prop)
    (nD : H D = none) (hY : ∀ j G x G', Y j G x G' → G' = G ∧ Z j x) (hG : ∀ G, Same H G → Gd G)
    (st : ∀ j y G G', (∀ b o, b ≠ D → G b = some o → G' b = some o) → (∃ l, G D = some (.lst l)) → W j y G → W j y G')
    (small : n < 100000) (wp : ∀ x, wipe ((wipe σ [i]).set i (some x)) [i] = wipe σ [i])
    (turn : ∀ j x G (Q' : VK), j < n → Z j x → Same H G → (∀ y G', Same G G' → W j y G' → Q' y G') → te ((wipe σ [i]).set i (some x)) G Q')
    (fin : ∀ G ys, Same H G → G D = some (.lst ys) → ys.length = n → (∀ j y, ys[j]? = some y → W j y G) → Q G) :
    ∃ W' : Nat → Nat → Hp → Prop, (∃ m, W' 0 m (upd H D (.lst []))) ∧ ∀ j m G, W' j m G →
      (J.stop j G ∧ Q G) ∨ (J.go j G ∧ ∃ Nx : Hp → Prop, (∀ G', Nx G' → ∃ m', m' < m ∧ W' (j + 1) m' G') ∧ ∀ x G', J.yld j G x G' → gName i x (wipe σ [i]) G' fun σ2 H2 => wipe σ2 [i] = wipe σ [i] ∧ tYes σ2 H2 fun b H3 =>
        if b = true then te σ2 H3 fun y H4 => ∃ acc, H4 D = some (.lst acc) ∧ acc.length < sizeLine ∧ Nx (upd H4 D (.lst (acc ++ [y]))) else Nx H3) := by
  refine lc_it w (fun j G => Same H G ∧ ∃ ys, G D = some (.lst ys) ∧ ys.length = j ∧ ∀ m y, ys[m]? = some y → W m y G) ⟨Same.new nD, [], upd_same, rfl, fun m y e => by simp at e⟩ (fun j G _ q => hG G q.1) ?_ ?_
  · rintro j x G G' hj ⟨sG, ys, eD, ly, hw⟩ hy
    obtain ⟨rfl, z⟩ := hY _ _ _ _ hy
    refine ⟨wp x, yes ?_⟩
    refine turn j x G' _ hj z sG fun y G2 s2 wy => ?_
    have eD2 : G2 D = some (.lst ys) := s2 _ _ eD
    have kp : ∀ b o, b ≠ D → G2 b = some o → upd G2 D (.lst (ys ++ [y])) b = some o := fun b o nb e => by rw [upd_ne nb]; exact e
    refine ⟨ys, eD2, ?_, fun b o e => ?_, ys ++ [y], upd_same, by rw [List.length_append, ly]; rfl, fun m y' e => ?_⟩
    · rw [ly, sizeLine_eq]
      omega
    · rw [upd_ne (ne_of_none e nD)]
      exact s2 _ _ (sG b o e)
    · by_cases hm : m < ys.length
      · rw [List.getElem?_append_left hm] at e
        exact st _ _ _ _ (fun b o nb eb => kp b o nb (s2 b o eb)) ⟨_, eD⟩ (hw m y' e)
      · have hm' : m = ys.length := by
          have := (List.getElem?_eq_some_iff.mp e).1
          rw [List.length_append] at this
          simp at this
          omega
        subst hm'
        rw [List.getElem?_append_right (Nat.le_refl _)] at e
        simp at e
        subst e
        rw [ly]
        exact st _ _ _ _ (fun b o nb eb => kp b o nb eb) ⟨_, eD2⟩ wy
  · rintro G ⟨sG, ys, eD, ly, hw⟩
    exact fin G ys sG eD ly hw
/-- [x for x in XS if x is not None] -/
theorem lc_keep {K : PySem.W.Frag} {i a D : Addr} {σ : L2.St} {H : Hp} {Q : Hp → Prop} {xs : List V} (e : SqL K H a xs) (nD : H D = none) (few : xs.length < 1000)
    (wp : ∀ x, wipe ((wipe σ [i]).set i (some x)) [i] = wipe σ [i]) (gt : ∀ x, ((wipe σ [i]).set i (some x))[i]? = some (some x)) {tt : TT}
    (ht : ∀ x G (F : Bool → Hp → Prop), x ∈ xs → F (!decide (x = .non)) G → tt ((wipe σ [i]).set i (some x)) G F)
    (fin : ∀ G, Same H G → G D = some (.lst (xs.filter fun x => !decide (x = .non))) → Q G) :
    ∃ W' : Nat → Nat → Hp → Prop, (∃ m, W' 0 m (upd H D (.lst []))) ∧ ∀ j m G, W' j m G →
      ((Itl K a).stop j G ∧ Q G) ∨ ((Itl K a).go j G ∧ ∃ Nx : Hp → Prop, (∀ G', Nx G' → ∃ m', m' < m ∧ W' (j + 1) m' G') ∧ ∀ x G', (Itl K a).yld j G x G' → gName i x (wipe σ [i]) G' fun σ2 H2 => wipe σ2 [i] = wipe σ [i] ∧ tt σ2 H2 fun b H3 =>
        if b = true then tVar i σ2 H3 fun y H4 => ∃ acc, H4 D = some (.lst acc) ∧ acc.length < sizeLine ∧ Nx (upd H4 D (.lst (acc ++ [y]))) else Nx H3) := by
  refine lc_it (walk_list (K := K) (a := a) (xs := xs)) (fun j G => Same H G ∧ G D = some (.lst ((xs.take j).filter fun x => !decide (x = .non)))) ⟨Same.new nD, by rw [List.take_zero]; exact upd_same⟩ (fun j G _ q => sameL q.1 e) ?_ ?_
  · rintro j x G G' hj ⟨sG, eD⟩ ⟨rfl, hx⟩
    refine ⟨wp x, ht x G' _ (List.mem_of_getElem? hx) ?_⟩
    have tk : xs.take (j + 1) = xs.take j ++ [x] := by rw [List.take_succ, hx]; rfl
    by_cases c : x = .non
    · rw [decide_eq_true c]
      show Same H G' ∧ _
      rw [tk, List.filter_append]
      refine ⟨sG, ?_⟩
      rw [eD, c]
      simp
    · rw [decide_eq_false c]
      refine ⟨x, gt x, _, eD, ?_, ?_, ?_⟩
      · have := List.length_filter_le (fun x => !decide (x = V.non)) (xs.take j)
        rw [List.length_take] at this
        rw [sizeLine_eq]
        omega
      · intro b o e
        rw [upd_ne (ne_of_none e nD)]
        exact sG b o e
      · rw [upd_same, tk, List.filter_append]
        simp [c]
  · rintro G ⟨sG, eD⟩
    rw [List.take_length] at eD
    exact fin G sG eD
end

theorem Good.sub {L : Nat} {x : Str} (h : Good L x) (i j : Nat) : Good L (Builtin.Str.strSub x i j) := by
  have e : (x.cps.extract i j).toList = (x.cps.toList.take j).drop i := by
    rw [Array.toList_extract]
    simp [List.extract, List.drop_take]
  refine ⟨?_, fun c hc => ?_⟩
  · show (x.cps.extract i j).size ≤ L
    rw [Array.size_extract]
    have : x.cps.size ≤ L := h.1
    omega
  · have hc' : c ∈ (x.cps.extract i j).toList := hc
    rw [e] at hc'
    exact h.2 c (List.mem_of_mem_take (List.mem_of_mem_drop hc'))
theorem Good.strip {L : Nat} {x y : Str} (h : Good L x) : Good L (Txt.stripChars x y) := by
  unfold Txt.stripChars Txt.stripBy
  split
  · exact h
  · exact h.sub _ _
theorem Good.ok {L : Nat} {x : Str} (h : Good L x) : PyData.strOk x = true := by
  unfold PyData.strOk
  rw [← Array.all_toList, List.all_eq_true]
  intro c hc
  have := h.2 c hc
  simp
  omega
theorem strs_of {W : Str → Prop} : ∀ {ys : List V}, (∀ (j : Nat) (y : V), ys[j]? = some y → ∃ z, y = V.str z ∧ W z) → ∃ zs : List Str, ys = zs.map V.str ∧ ∀ z ∈ zs, W z
  | [], _ => ⟨[], rfl, by simp⟩
  | y :: ys, h => by
    obtain ⟨z, rfl, hz⟩ := h 0 y rfl
    obtain ⟨zs, rfl, hw⟩ := strs_of (ys := ys) fun j y hy => h (j + 1) y (by simpa using hy)
    refine ⟨z :: zs, rfl, fun x hx => ?_⟩
    rcases List.mem_cons.mp hx with rfl | hx
    · exact hz
    · exact hw x hx
def Txs (L : Nat) (ys : List V) : Prop := ∀ y ∈ ys, ∃ z, y = V.str z ∧ Good L z
theorem txs_of {L : Nat} {zs : List Str} (h : ∀ z ∈ zs, Good L z) : Txs L (zs.map V.str) := fun y hy => by
  obtain ⟨z, hz, rfl⟩ := List.mem_map.mp hy
  exact ⟨z, rfl, h z hz⟩
theorem joinM {s : List Nat} {M : Nat} (hs : s.length ≤ 1 ∧ ∀ c ∈ s, 32 ≤ c ∧ c < 127) : ∀ ps : List (List Nat), (∀ p ∈ ps, p.length ≤ M ∧ ∀ c ∈ p, 32 ≤ c ∧ c < 127) → (joinL s ps).length ≤ ps.length * (M + 1) ∧ ∀ c ∈ joinL s ps, 32 ≤ c ∧ c < 127
  | [], _ => by simp [joinL]
  | [p], h => by
    have := h p (by simp)
    exact ⟨by simp [joinL]; omega, this.2⟩
  | p :: q :: r, h => by
    have ih := joinM hs (q :: r) fun x hx => h x (List.mem_cons_of_mem _ hx)
    have hp := h p (by simp)
    show (p ++ (s ++ joinL s (q :: r))).length ≤ _ ∧ ∀ c ∈ p ++ (s ++ joinL s (q :: r)), _
    refine ⟨?_, fun c hc => ?_⟩
    · have h1 := ih.1
      rw [List.length_append, List.length_append, List.length_cons, Nat.succ_mul]
      omega
    · rcases List.mem_append.mp hc with hc | hc
      · exact hp.2 c hc
      rcases List.mem_append.mp hc with hc | hc
      · exact hs.2 c hc
      · exact ih.2 c hc
theorem good_joinM {sep : Str} {M : Nat} {ys : List Str} (hs : Good 1 sep) (h : ∀ y ∈ ys, Good M y) : Good (ys.length * (M + 1)) (Txt.join sep ys) := by
  have q := joinM (s := tl sep) (M := M) ⟨by rw [← len_tl]; exact hs.1, hs.2⟩ (ys.map tl) (fun p hp => by
    obtain ⟨y, hy, rfl⟩ := List.mem_map.mp hp
    exact ⟨by rw [← len_tl]; exact (h y hy).1, (h y hy).2⟩)
  rw [List.length_map] at q
  have e : tl (Txt.join sep ys) = joinL (tl sep) (ys.map tl) := by rw [join_eq, tl_join]
  exact ⟨by rw [len_tl, e]; exact q.1, fun c hc => q.2 c (by rw [← e]; exact hc)⟩
theorem hand_upd {H : Hp} {h D : Addr} {o : HO} {n : Nat} (a : HandAt H h n) (ne : D ≠ h) : HandAt (upd H D o) h n := by
  obtain ⟨g, t, c, e, r⟩ := a
  exact ⟨g, t, c, by rw [upd_ne ne.symm]; exact e, r⟩
section
variable {J : It} {n : Nat} {Gd : Hp → Prop} {Y : Nat → Hp → V → Hp → Prop} {α : Type}
theorem lc_fm (w : Walk J n Gd Y) {g : TG} {tt : TT} {te : TE} {vs : List Nat} {σ : L2.St} {H : Hp} {D : Addr} {Q : Hp → Prop} (xs : List α) (f : α → Option V) (len : xs.length = n) (nD : H D = none) (hG : ∀ G, Same H G → Gd G) (small : n < 100000)
    (turn : ∀ j a x G G' (R : V → Hp → Prop) (N : Hp → Prop), xs[j]? = some a → Same H G → Y j G x G' → (∀ v, f a = some v → ∀ G2, Same G G2 → R v G2) → (f a = none → ∀ G2, Same G G2 → N G2) → g x (wipe σ vs) G' fun σ2 H2 => wipe σ2 vs = wipe σ vs ∧ tt σ2 H2 fun b H3 =>
      if b = true then te σ2 H3 R else N H3)
    (fin : ∀ G, Same H G → G D = some (.lst (xs.filterMap f)) → Q G) :
    ∃ W : Nat → Nat → Hp → Prop, (∃ m, W 0 m (upd H D (.lst []))) ∧ ∀ i m G, W i m G →
      (J.stop i G ∧ Q G) ∨ (J.go i G ∧ ∃ Nx : Hp → Prop, (∀ H', Nx H' → ∃ m', m' < m ∧ W (i + 1) m' H') ∧ ∀ x H', J.yld i G x H' → g x (wipe σ vs) H' fun σ2 H2 => wipe σ2 vs = wipe σ vs ∧ tt σ2 H2 fun b H3 =>
        if b = true then te σ2 H3 fun y H4 => ∃ acc, H4 D = some (.lst acc) ∧ acc.length < sizeLine ∧ Nx (upd H4 D (.lst (acc ++ [y]))) else Nx H3) := by
  refine lc_it w (fun j G => Same H G ∧ G D = some (.lst ((xs.take j).filterMap f))) ⟨Same.new nD, by rw [List.take_zero]; exact upd_same⟩ (fun j G _ q => hG G q.1) ?_ ?_
  · rintro j x G G' hj ⟨sG, eD⟩ hy
    have hk : xs[j]? = some xs[j] := List.getElem?_eq_getElem (by omega)
    have tk : xs.take (j + 1) = xs.take j ++ [xs[j]] := by rw [List.take_succ, hk]; rfl
    refine turn j xs[j] x G G' _ _ hk sG hy (fun v hv G2 s2 => ⟨_, s2 _ _ eD, ?_, fun b o e => ?_, ?_⟩) (fun hv G2 s2 => ⟨sG.trans s2, ?_⟩)
    · have := List.length_filterMap_le f (xs.take j)
      rw [List.length_take] at this
      rw [sizeLine_eq]
      omega
    · rw [upd_ne (ne_of_none e nD)]
      exact s2 _ _ (sG b o e)
    · rw [upd_same, tk, List.filterMap_append]
      simp [hv]
    · rw [s2 _ _ eD, tk, List.filterMap_append]
      simp [hv]
  · rintro G ⟨sG, eD⟩
    rw [List.take_of_length_le (by omega)] at eD
    exact fin G sG eD
end

theorem show_int {i : Int} (h : i.natAbs < 10 ^ 12) : PyData.showable (.int i) = true := by
  simp only [PyData.showable, decide_eq_true_eq]
  have : i.natAbs.log2 < 1920 := by
    by_cases z : i.natAbs = 0
    · rw [z]
      decide
    · exact (Nat.log2_lt z).mpr (Nat.lt_of_lt_of_le h (by decide +kernel))
  exact this
def Sh (d : PyData) (w k : Nat) : Prop := d.leavesShort 13 = true ∧ d.showable = true ∧ d.depth ≤ k ∧ d.weight ≤ w
theorem Sh.up {d : PyData} {w k w' k' : Nat} (h : Sh d w k) (a : w ≤ w') (b : k ≤ k') : Sh d w' k' := ⟨h.1, h.2.1, Nat.le_trans h.2.2.1 b, Nat.le_trans h.2.2.2 a⟩
theorem sh_non : Sh .none 1 1 := ⟨rfl, rfl, by simp [PyData.depth], by simp [PyData.weight]⟩
theorem sh_int {i : Int} (h : i.natAbs < 10 ^ 12) : Sh (.int i) 41 1 := by
  refine ⟨?_, ?_, by simp [PyData.depth], ?_⟩
  · simp only [PyData.leavesShort, decide_eq_true_eq]
    exact PyData.shown_int_le h
  · exact show_int h
  · simp only [PyData.weight]
    by_cases z : i = 0
    · rw [if_pos (by simpa using z)]
      decide
    · rw [if_neg (by simpa using z)]
      have nz : i.natAbs ≠ 0 := by omega
      have : i.natAbs.log2 < 40 := (Nat.log2_lt nz).mpr (Nat.lt_of_lt_of_le h (by decide))
      omega
theorem sh_str {L : Nat} {z : Str} (h : Good L z) : Sh (.str z) (L + 1) 1 := by
  refine ⟨?_, by simp [PyData.showable], by simp [PyData.depth], ?_⟩
  · simp only [PyData.leavesShort, List.all_eq_true, decide_eq_true_eq]
    intro c hc
    have := (h.2 c hc).2
    omega
  · have : z.cps.size ≤ L := h.1
    simp only [PyData.weight]
    omega
theorem sh_all {w k : Nat} : ∀ {xs : List PyData}, (∀ x ∈ xs, Sh x w k) → PyData.leavesShortAll 13 xs = true ∧ PyData.showableAll xs = true ∧ PyData.depthAll xs ≤ k ∧ PyData.weightAll xs ≤ xs.length * (w + 1)
  | [], _ => ⟨rfl, rfl, by simp [PyData.depthAll], by simp [PyData.weightAll]⟩
  | x :: xs, h => by
    obtain ⟨a, b, c, d⟩ := sh_all (xs := xs) fun y hy => h y (List.mem_cons_of_mem _ hy)
    obtain ⟨a', b', c', d'⟩ := h x List.mem_cons_self
    refine ⟨?_, ?_, ?_, ?_⟩
    · simp only [PyData.leavesShortAll, a, a']
      rfl
    · simp only [PyData.showableAll, b, b']
      rfl
    · simp only [PyData.depthAll]
      exact Nat.max_le.mpr ⟨c', c⟩
    · simp only [PyData.weightAll, List.length_cons, Nat.add_mul]
      omega
theorem sh_tuple {w k n : Nat} {xs : List PyData} (h : ∀ x ∈ xs, Sh x w k) (l : xs.length ≤ n) : Sh (.tuple xs) (n * (w + 1) + 1) (k + 1) := by
  obtain ⟨a, b, c, d⟩ := sh_all h
  have m : xs.length * (w + 1) ≤ n * (w + 1) := Nat.mul_le_mul_right _ l
  refine ⟨?_, ?_, ?_, ?_⟩
  · simp only [PyData.leavesShort, a]
  · simp only [PyData.showable, b]
  · simp only [PyData.depth]
    omega
  · simp only [PyData.weight]
    omega
theorem sh_kv {w k : Nat} : ∀ {kvs : List (PyData × PyData)}, (∀ x ∈ kvs, Sh x.1 w k ∧ Sh x.2 w k) → PyData.leavesShortKv 13 kvs = true ∧ PyData.showableKv kvs = true ∧ PyData.depthKv kvs ≤ k ∧ PyData.weightKv kvs ≤ kvs.length * (2 * w + 2)
  | [], _ => ⟨rfl, rfl, by simp [PyData.depthKv], by simp [PyData.weightKv]⟩
  | (x, y) :: xs, h => by
    obtain ⟨a, b, c, d⟩ := sh_kv (kvs := xs) fun y hy => h y (List.mem_cons_of_mem _ hy)
    obtain ⟨⟨a', b', c', d'⟩, ⟨a2, b2, c2, d2⟩⟩ := h (x, y) List.mem_cons_self
    refine ⟨?_, ?_, ?_, ?_⟩
    · simp only [PyData.leavesShortKv, a, a', a2]
      rfl
    · simp only [PyData.showableKv, b, b', b2]
      rfl
    · simp only [PyData.depthKv]
      dsimp only at c' c2
      omega
    · simp only [PyData.weightKv, List.length_cons, Nat.add_mul]
      dsimp only at d' d2
      omega
theorem sh_dict {w k n : Nat} {kvs : List (PyData × PyData)} (h : ∀ x ∈ kvs, Sh x.1 w k ∧ Sh x.2 w k) (l : kvs.length ≤ n) : Sh (.dict kvs) (n * (2 * w + 2) + 1) (k + 1) := by
  obtain ⟨a, b, c, d⟩ := sh_kv h
  have m : kvs.length * (2 * w + 2) ≤ n * (2 * w + 2) := Nat.mul_le_mul_right _ l
  refine ⟨?_, ?_, ?_, ?_⟩
  · simp only [PyData.leavesShort, a]
  · simp only [PyData.showable, b]
  · simp only [PyData.depth]
    omega
  · simp only [PyData.weight]
    omega

theorem tl_empty : tl Str.empty = [] := by decide +kernel
def timesS (a : Str) (k : Int) : Str := if k < 1 then Str.empty else if (k == 1 || a.length == 0) = true then a else ⟨(List.replicate k.toNat a.cps).foldl (· ++ ·) #[]⟩
theorem fold_app : ∀ (l : List (Array Nat)) (x : Array Nat), (l.foldl (· ++ ·) x).toList = x.toList ++ (l.map Array.toList).flatten
  | [], x => by simp
  | y :: l, x => by
    rw [List.foldl_cons, fold_app l]
    simp
theorem times_tl (a : Str) (k : Int) : tl (timesS a k) = (List.replicate k.toNat (tl a)).flatten := by
  unfold timesS
  by_cases c : k < 1
  · rw [if_pos c, show k.toNat = 0 by omega]
    exact tl_empty
  · rw [if_neg c]
    by_cases d : (k == 1 || a.length == 0) = true
    · rw [if_pos d]
      rcases Bool.or_eq_true_iff.mp d with e | e
      · have e1 : k = 1 := by simpa using e
        rw [e1]
        show tl a = (List.replicate 1 (tl a)).flatten
        simp
      · have e1 : tl a = [] := List.eq_nil_of_length_eq_zero (by rw [← len_tl]; simpa using e)
        rw [e1]
        generalize k.toNat = n
        induction n with
        | zero => rfl
        | succ n ih => rw [List.replicate_succ, List.flatten_cons, ← ih]; rfl
    · rw [if_neg d]
      show ((List.replicate k.toNat a.cps).foldl (· ++ ·) #[]).toList = _
      rw [fold_app]
      simp [tl]
theorem times_len (a : Str) (k : Int) : (timesS a k).length = k.toNat * a.length := by
  rw [len_tl, times_tl, len_tl]
  generalize k.toNat = n
  induction n with
  | zero => simp
  | succ n ih => rw [List.replicate_succ, List.flatten_cons, List.length_append, ih, Nat.succ_mul, Nat.add_comm]
section
variable {X : Cx}
theorem op_times : OpR X (binaryOp .Mult) (fun x y H Q => ∃ (a : Str) (k : Int), x = .str a ∧ y = .int k ∧ -1000 ≤ k ∧ k ≤ 1000 ∧ a.length ≤ 1000 ∧ Q (.str (timesS a k)) H) := by
  intro pins s σ H x y v u Q I rx ry h
  obtain ⟨a, k, rfl, rfl, k0, k1, al, q⟩ := h
  obtain ⟨t, rfl⟩ := rx
  obtain ⟨t', rfl⟩ := ry
  have tl_ : k.toNat * a.length ≤ 1000 * 1000 := Nat.mul_le_mul (by omega) al
  refine PySem.P.mul_str (by rw [decide_eq_false (by omega), decide_eq_false (by omega)]; rfl) (fun c1 _ c2 => ?_) (fun c1 _ => ?_) ?_
  · have ek : ((k.toNat : Nat) : Int) = k := Int.toNat_of_nonneg (by omega)
    have h1 : (a.length : Int) * k ≤ 2 ^ 63 - 1 := by
      have h3 : ((a.length * k.toNat : Nat) : Int) ≤ 1000 * 1000 := by rw [Nat.mul_comm]; exact_mod_cast tl_
      rw [Int.natCast_mul, ek] at h3
      omega
    have h2 : (a.length : Int) ≤ (2 ^ 63 - 1) / k := Int.le_ediv_of_mul_le (by omega) h1
    omega
  · show decide (a.length * k.toNat > sizeLine) = false
    refine decide_eq_false ?_
    rw [Nat.mul_comm, sizeLine_eq]
    omega
  · have eT := times_len a k
    unfold timesS at q eT
    by_cases c : k < 1
    · rw [if_pos c] at q ⊢
      exact ⟨by decide, ⟨.str Str.empty, H, I.tok _, ⟨_, rfl⟩, q⟩⟩
    · rw [if_neg c] at q ⊢
      rw [if_neg c] at eT
      by_cases d : (k == 1 || a.length == 0) = true
      · rw [if_pos d] at q ⊢
        exact ⟨.str a, H, I, ⟨_, rfl⟩, q⟩
      · rw [if_neg d] at q ⊢
        rw [if_neg d] at eT
        exact ⟨by rw [eT, sizeLine_eq]; omega, ⟨.str _, H, I.tok _, ⟨_, rfl⟩, q⟩⟩
end
@[elab_as_elim] theorem newO {H : Hp} {p : Addr} {o : HO} {R : Hp → Prop} (n : H p = none) (k : ∀ H', Same H H' → H' p = some o → R H') : R (upd H p o) := k _ (Same.new n) upd_same
end Gn
set_option Elab.async false
set_option linter.all false
set_option maxRecDepth 100000
set_option maxHeartbeats 8000000
/-! Xs: sets of numbers and texts whose order can be drawn; sorted(set(x)), sorted of a list of data -/
namespace Xs
open PySem PySem.Spec PyProof.Rows L2 Bs Xg TL
open Classical in
/-- a member more -/
noncomputable def more (k : Key) (ks : List Key) : List Key := if k ∈ ks then ks else k :: ks
theorem more_old {k : Key} {ks : List Key} (h : k ∈ ks) : more k ks = ks := if_pos h
theorem more_new {k : Key} {ks : List Key} (h : k ∉ ks) : more k ks = k :: ks := if_neg h
def ky : Int × Value → Key
  | (_, .int k _) => .inl k
  | (_, .str x _) => .inr x
  | _ => .inl 0
def Lv (w : World) (e : Int × Value) : Prop := ∃ k, keyIs k e.2 = true ∧ e.1 = keyH w k
theorem ky_of {e : Int × Value} {k : Key} (h : keyIs k e.2 = true) : ky e = k := by
  obtain ⟨c, v⟩ := e
  rcases keyIs_shape h with ⟨i, t, rfl, q⟩ | ⟨x, t, rfl, q⟩
  · dsimp only at q
    subst q
    rfl
  · dsimp only at q
    subst q
    rfl
theorem lv_is {w : World} {e : Int × Value} (l : Lv w e) (k : Key) : keyIs k e.2 = true ↔ ky e = k := by
  obtain ⟨c, hc, _⟩ := l
  have ec := ky_of hc
  constructor
  · exact ky_of
  · intro z
    rw [← z, ec]
    exact hc
theorem lv_scan {w : World} {e : Int × Value} (l : Lv w e) : e.2.scannable = true := by
  obtain ⟨k, hk, _⟩ := l
  rcases keyIs_shape hk with ⟨i, t, _, q⟩ | ⟨x, t, _, q⟩ <;> rw [q] <;> rfl
theorem lv_elems {P : Program} {w : World} {l : List (Int × Value)} (g : ∀ e ∈ l, Lv w e) : ElemsOf (mixKind P w) l := fun e he =>
  ⟨(g e he).elim fun k hk => ⟨k, hk.1, hk.2⟩, lv_scan (g e he)⟩
/-- a set at a whose members are ks, whose table rises -/
def Ord (w : World) (h : Heap) (a : Addr) (ks : List Key) : Prop := ∃ (o : Obj) (es : Array (Int × Value)) (ep : Nat) (t : SetTable), h.get? a = some o ∧ o.ExactSet ∧ o.data = .set es ep t ∧
  ((∀ e ∈ es.toList, Lv w e) ∧ (es.toList.map ky).Perm ks ∧ ks.Nodup) ∧ (es.size < scanBound ∧ t.fits es.size = true) ∧ Ris t.place.toList ∧ (w.params.followText "set-order" = true ∨ t.led = true)
theorem Ord.move {w : World} {h h' : Heap} {a : Addr} {ks : List Key} (R : Ord w h a ks) (k : ∀ o, h.get? a = some o → h'.get? a = some o) : Ord w h' a ks := by
  obtain ⟨o, es, ep, t, e, rest⟩ := R
  exact ⟨o, es, ep, t, k o e, rest⟩
section
variable {P : Program} {w : World} {A : Around} {E : Value → Shared → Prop} {s : Shared} {a : Addr} {ks : List Key}
theorem ord_store {gv : Bool → Sem Unit} (calm : ∀ (b : Bool) (z : Shared) (F : Unit → Shared → Prop), F () z → wpAny (model P w) A (gv b) F E z)
    {o : Obj} {es : Array (Int × Value)} {ep : Nat} {t : SetTable} (at0 : s.heap.get? a = some o) (ex : o.ExactSet) (d0 : o.data = .set es ep t)
    {fs : Array (Int × Value)} {u : SetTable} (g : ∀ e ∈ fs.toList, Lv w e) (pm : (fs.toList.map ky).Perm ks) (nd : ks.Nodup) (sb : fs.size < scanBound) (ft : u.fits fs.size = true) (rs : Ris u.place.toList)
    (ld : w.params.followText "set-order" = true ∨ u.led = true) {dm : Bool} {F : Option Bool → Shared → Prop} (k : ∀ h', Heap.SameBut a s.heap h' → Ord w h' a ks → F (some true) { s with heap := h' }) :
    wpAny (model P w) A (do
        storeSet a fs u
        if (!dm && u.tooFull) = true then do
            gv (relayAll u fs (SetTable.grown fs.size)).2.2
            storeSet a (relayAll u fs (SetTable.grown fs.size)).1 (relayAll u fs (SetTable.grown fs.size)).2.1
            pure (some true)
          else pure (some true)) F E s := by
  refine wpAny_bind (wpAny_storeSet_of at0 d0 ?_ (fits_of_scanBound sb))
  have at1 := store_at (es' := fs) (t' := u) at0 d0
  have same1 := Heap.SameBut.update s.heap a (Obj.putSet fs u)
  by_cases full : (!dm && u.tooFull) = true
  · rw [if_pos full]
    have q1 := relayAll_perm u fs (SetTable.grown fs.size)
    have q2 := relayAll_fits u fs (SetTable.grown fs.size)
    have q3 := relayAll_ris u fs (SetTable.grown fs.size)
    have q4 := relayAll_led u fs (SetTable.grown fs.size)
    generalize relayAll u fs (SetTable.grown fs.size) = W at q1 q2 q3 q4 ⊢
    obtain ⟨gs, v, gave⟩ := W
    dsimp only at q1 q2 q3 q4 ⊢
    have len : gs.size = fs.size := by
      rw [← Array.length_toList, q1.length_eq, Array.length_toList]
    have sb2 : gs.size < scanBound := by
      rw [len]
      exact sb
    refine wpAny_bind (calm _ _ _ ?_)
    refine wpAny_bind (wpAny_storeSet_of at1 rfl ?_ (fits_of_scanBound sb2))
    refine wpAny_pure (k _ (same1.trans (Heap.SameBut.update _ a _)) ⟨_, gs, _, v, store_at (es' := gs) (t' := v) at1 rfl, ex, rfl, ⟨fun e he => g e (q1.mem_iff.mp he), (q1.map ky).trans pm, nd⟩, ⟨sb2, q2⟩, q3, ?_⟩)
    rcases ld with l | l
    · exact .inl l
    · exact .inr (by rw [q4]; exact l)
  · rw [if_neg full]
    exact wpAny_pure (k _ same1 ⟨_, fs, _, u, at1, ex, rfl, ⟨g, pm, nd⟩, ⟨sb, ft⟩, rs, ld⟩)
/-- a member more, its hash told -/
theorem ord_add {k : Key} {v : Value} {Q : Bool → Shared → Prop} (R : Ord w s.heap a ks) (hv : keyIs k v = true) (room : ks.length + 1 < scanBound)
    (next : ∀ (b : Bool) h', Heap.SameBut a s.heap h' → Ord w h' a (more k ks) → Q b { s with heap := h' }) :
    wpAny (model P w) A (setAddHashed a v ((mixKind P w).hash k)) Q E s := by
  obtain ⟨o, es, ep, t, at0, ex, d0, ⟨g, pm, nd⟩, ⟨sb, ft⟩, rs, ld⟩ := R
  have is1 : (mixKind P w).is k v = true := hv
  have sc : v.scannable = true := lv_scan (w := w) (e := (keyH w k, v)) ⟨k, hv, rfl⟩
  have el : ElemsOf (mixKind P w) es.toList := lv_elems g
  unfold setAddHashed setAddHashedIn
  refine wpAny_holding (wpAny_bind (wpAny_setState_of at0 d0 ft ?_))
  dsimp only
  rw [byScan_of sc sb el]
  simp only [↓reduceIte]
  unfold setAddByScan
  refine wpAny_bind ?_
  refine wpAny_bind (wpAny_rule ?_)
  refine wpAny_bind (wpAny_setScan_of is1 at0 d0 ft el ?_)
  cases met : List.findIdx? (fun e => (mixKind P w).is k e.2) es.toList with
  | some j =>
    dsimp only
    obtain ⟨jl, jt, _⟩ := List.findIdx?_eq_some_iff_getElem.mp met
    have mem : k ∈ ks := pm.mem_iff.mp (List.mem_map.mpr ⟨_, List.getElem_mem jl, (lv_is (g _ (List.getElem_mem jl)) k).mp jt⟩)
    refine wpAny_pure (wpAny_pure ?_)
    have q := next false s.heap (Heap.SameBut.refl a s.heap)
    rw [more_old mem] at q
    exact q ⟨o, es, ep, t, at0, ex, d0, ⟨g, pm, nd⟩, ⟨sb, ft⟩, rs, ld⟩
  | none =>
    dsimp only
    have new : k ∉ ks := by
      intro z
      obtain ⟨e, he, q⟩ := List.mem_map.mp (pm.mem_iff.mpr z)
      have c := List.findIdx?_eq_none_iff.mp met e he
      have c' : (mixKind P w).is k e.2 = true := (lv_is (g e he) k).mpr q
      rw [c'] at c
      cases c
    have quiet : ∀ (b : Bool) {z : Shared} {F : Unit → Shared → Prop}, F () z → wpAny (model P w) A (match b with | true => rule "set.scan.the-table-gave-way" | false => pure ()) F E z := by
      intro b z F q
      cases b
      · exact wpAny_pure q
      · exact wpAny_rule q
    have p1 := layNew_perm t es ((mixKind P w).hash k) v
    have p2 := layNew_fits t es ((mixKind P w).hash k) v
    have p3 := layNew_ris t es ((mixKind P w).hash k) v rs
    have p4 := layNew_led t es ((mixKind P w).hash k) v
    generalize layNew t es ((mixKind P w).hash k) v = W at p1 p2 p3 p4 ⊢
    obtain ⟨fs, u, dm, gave⟩ := W
    dsimp only at p1 p2 p3 p4 ⊢
    rw [Array.toList_push] at p1
    have p5 : fs.toList.Perm (((mixKind P w).hash k, v) :: es.toList) := p1.trans (List.perm_append_singleton _ _)
    have ke : ky ((mixKind P w).hash k, v) = k := ky_of (e := ((mixKind P w).hash k, v)) hv
    have p6 : (fs.toList.map ky).Perm (k :: ks) := by
      have q := p5.map ky
      rw [List.map_cons, ke] at q
      exact q.trans (pm.cons k)
    have g1 : ∀ e ∈ fs.toList, Lv w e := by
      intro e he
      rcases List.mem_cons.mp (p5.mem_iff.mp he) with z | z
      · rw [z]
        exact ⟨k, hv, rfl⟩
      · exact g e z
    have nd1 : (k :: ks).Nodup := List.nodup_cons.mpr ⟨new, nd⟩
    have sz : fs.size = ks.length + 1 := by
      rw [← Array.length_toList, ← List.length_map (f := ky), p6.length_eq, List.length_cons]
    have sb1 : fs.size < scanBound := by
      rw [sz]
      exact room
    have ld1 : w.params.followText "set-order" = true ∨ u.led = true := by
      rcases ld with l | l
      · exact .inl l
      · exact .inr (by rw [p4]; exact l)
    have fin : ∀ h', Heap.SameBut a s.heap h' → Ord w h' a (k :: ks) → Q true { s with heap := h' } := by
      intro h' sm r
      have q := next true h' sm
      rw [more_new new] at q
      exact q r
    have qs : ∀ (b : Bool) (z : Shared) (F : Unit → Shared → Prop), F () z → wpAny (model P w) A (match b with | true => rule "set.scan.the-table-gave-way" | false => pure ()) F E z := fun b z F q => quiet b q
    refine wpAny_bind (quiet _ ?_)
    split
    · refine wpAny_bind ?_
      rw [hashByValue_scannable 8 sc]
      refine wpAny_pure ?_
      refine ord_store ?_ at0 ex d0 g1 p6 nd1 sb1 ?_ ?_ ?_ ?_
      · intro b z F q
        cases b <;> first | exact wpAny_pure q | exact wpAny_rule q
      · first | (split <;> first | exact p2 | exact SetTable.fits_plain_off p2) | exact p2
      · first | (split <;> exact p3) | exact p3
      · first | (split <;> exact ld1) | exact ld1
      · intro h' sm r
        dsimp only
        exact wpAny_pure (fin h' sm r)
    · refine wpAny_bind (wpAny_pure ?_)
      simp only [↓reduceIte]
      refine ord_store ?_ at0 ex d0 g1 p6 nd1 sb1 p2 p3 ld1 ?_
      · intro b z F q
        cases b <;> first | exact wpAny_pure q | exact wpAny_rule q
      · intro h' sm r
        dsimp only
        exact wpAny_pure (fin h' sm r)
end
/-- the unlike ones of the first i -/
noncomputable def unl (ys : List Key) : Nat → List Key
  | 0 => []
  | i + 1 => more (ys.getD i (.inl 0)) (unl ys i)
theorem unl_len (ys : List Key) : ∀ i, (unl ys i).length ≤ i
  | 0 => Nat.le_refl _
  | i + 1 => by
    have := unl_len ys i
    show (more _ _).length ≤ i + 1
    by_cases c : ys.getD i (.inl 0) ∈ unl ys i
    · rw [more_old c]
      omega
    · rw [more_new c, List.length_cons]
      omega
theorem unl_mem (ys : List Key) : ∀ i, i ≤ ys.length → ∀ k, k ∈ unl ys i ↔ k ∈ ys.take i
  | 0, _, k => by simp [unl]
  | i + 1, hi, k => by
    have ih := unl_mem ys i (by omega)
    have hg : ys[i]? = some ys[i] := List.getElem?_eq_getElem hi
    have gd : ys.getD i (.inl 0) = ys[i] := by rw [List.getD_eq_getElem?_getD, hg]; rfl
    have tk : ys.take (i + 1) = ys.take i ++ [ys[i]] := by rw [List.take_succ, hg]; rfl
    rw [tk, List.mem_append, List.mem_singleton, ← ih]
    show k ∈ more _ _ ↔ _
    rw [gd]
    by_cases c : ys[i] ∈ unl ys i
    · rw [more_old c]
      exact ⟨.inl, fun z => z.elim id fun e => by rw [e]; exact c⟩
    · rw [more_new c, List.mem_cons]
      exact Or.comm
theorem unl_full (ys : List Key) (k : Key) : k ∈ unl ys ys.length ↔ k ∈ ys := by
  rw [unl_mem ys _ (Nat.le_refl _), List.take_length]
section
variable {prog : Program} {w : World} {A : Around} {R : Result → Shared → Prop} {J : Addr} {fq wq : List Addr} {G : Array GenState → Array GenState → Prop} {m : Nat} {Pv : Nat → Value → Prop} {Sv : Nat → Shared → Prop}
theorem turnAll (U : WalksS prog w A.in1 J fq wq G m Pv Sv) (D : Addr) (nD : D ∉ fq) (ys : List Key) (few : m + 1 < scanBound) (vals : ∀ i v, Pv i v → keyIs (ys.getD i (.inl 0)) v = true) :
    ∀ (j i : Nat) (z : Shared), m - i = j → i ≤ m → Sv i z → Ord w z.heap D (unl ys i) →
      (∀ z', Moved (D :: wq) G z z' → Ord w z'.heap D (unl ys m) → R (.ok (.ret .none)) z') →
      codeAny (model prog w) A (.builtin "set.update.loop" ⟨[.ref D, .ref J], []⟩) R z := by
  have nW : D ∉ wq := fun q => nD (U.sub _ q)
  have up : ∀ b ∈ wq, b ∈ D :: wq := fun b q => List.mem_cons_of_mem _ q
  intro j
  induction j with
  | zero =>
    intro i z ej hi sv so k
    obtain rfl : i = m := by omega
    refine codeAny_builtin PyProof.Rows.F.entry_set_update_loop ?_
    rw [Around.under_plainId PyProof.Rows.F.plain_set_update_loop _]
    show wpAny _ A.in1 (pyNext (.ref J) >>= _) _ _ z
    refine wpAny_bind (U.done z _ _ sv fun z' mv => ?_)
    show wpAny _ A.in1 (ret Value.none) _ _ z'
    exact wpAny_pure (k z' (mv.mono up) (so.move fun o e => mv.heap D _ nW e))
  | succ j ih =>
    intro i z ej hi sv so k
    have il : i < m := by omega
    refine codeAny_builtin PyProof.Rows.F.entry_set_update_loop ?_
    rw [Around.under_plainId PyProof.Rows.F.plain_set_update_loop _]
    show wpAny _ A.in1 (pyNext (.ref J) >>= _) _ _ z
    refine wpAny_bind (U.item i z _ _ il sv fun v z' pv sv' mv => ?_)
    have hv := vals i v pv
    have so' : Ord w z'.heap D (unl ys i) := so.move fun o e => mv.heap D _ nW e
    show wpAny _ A.in1 (holding [v] (setAdd D v) >>= _) _ _ z'
    refine wpAny_bind (wpAny_holding ?_)
    unfold setAdd
    refine wpAny_holding ?_
    have le := unl_len ys i
    refine wpAny_bind ((mixKind prog w).pyHash (k := ys.getD i (.inl 0)) hv ?_)
    refine ord_add (s := { z' with toks := z'.toks + 1 }) so' hv (by omega) fun b h2 sb so2 => ?_
    have so3 : Ord w h2 D (unl ys (i + 1)) := so2
    refine wpAny_pure ⟨plainId_quiet PyProof.Rows.F.plain_set_update_loop _, ih (i + 1) _ (by omega) il (U.frame _ z' _ _ sv' (Nat.le_succ _) fun b hb o e => ?_) so3 fun z2 mv2 so4 => ?_⟩
    · rw [sb.2 b (fun q : b = D => nD (by rw [← q]; exact hb))]
      exact e
    · refine k z2 (Moved.trans U.gtrans ((mv.mono up).then_heap (Nat.le_succ _) fun b o hb e => ?_) mv2) so4
      rw [sb.2 b (fun q : b = D => hb (by rw [q]; exact List.mem_cons_self))]
      exact e
end
def set0 (w : World) : Obj := { cls := .type "set", dict := none, data := .set #[] 0 (.fresh 0 0 (!w.params.followText "set-order")) }
theorem set0_ord {w : World} {h : Heap} {a : Addr} (e : h.get? a = some (set0 w)) : Ord w h a [] := by
  refine ⟨_, #[], 0, _, e, ⟨rfl, rfl, rfl⟩, rfl, ⟨(fun x hx => by simp at hx), List.Perm.refl _, List.nodup_nil⟩, ⟨by decide, rfl⟩, List.Pairwise.nil, ?_⟩
  by_cases c : w.params.followText "set-order" = true
  · exact .inl c
  · right
    show (!w.params.followText "set-order") = true
    simpa using c
section
variable {prog : Program} {w : World} {A : Around} {E : Value → Shared → Prop} {z : Shared}
set_option maxHeartbeats 6400000 in
theorem set_ofT {p : Addr} {its : Array Value} {ys : List Key} {Q : Value → Shared → Prop} (calm : A.handled = none) (pt : z.heap.IsTuple p its) (ly : ys.length = its.size) (vals : ∀ (i : Nat) (v : Value), its[i]? = some v → keyIs (ys.getD i (.inl 0)) v = true) (few : ys.length + 1 < scanBound)
    (k : ∀ (h2 : Heap) (tk : Nat), Ord w h2 z.heap.objs.size (unl ys its.size) → (∀ b o, b < z.heap.objs.size → z.heap.get? b = some o → h2.get? b = some o) → Q (.ref z.heap.objs.size) { z with heap := h2, toks := tk }) :
    wpAny (model prog w) A (call (.type "set") [.ref p]) Q E z := by
  obtain ⟨cr, ct, hmro⟩ := PySem.F.called_set.mro
  have hmade := PySem.F.called_set.made
  have hsub := PySem.F.called_set.sub
  refine wpAny_call (codeAny_of_tree ?_)
  show wpAny _ _ (callAny (.type "set") _) _ _ _
  refine wpAny_pure ⟨Code.quiet_builtin _ (by decide +kernel), codeAny_builtin PySem.F.entry_type_call ?_⟩
  rw [Around.under_plain (weight_type_call_type "set" [.ref p] []) rfl]
  have c1 := PySem.F.called_set.notType
  have c2 := PySem.F.called_set.canCreate
  have c3 := PySem.F.typeCall_set_1 (.ref p)
  repeat (any_goals (first | assumption | wp_step))
  refine codeAny_mono (code_set_led1 (.ref p) (E := E) (Q₁ := fun v z1 => v = .ref z.heap.objs.size ∧ z1 = { z with heap := z.heap.push (set0 w) }) ⟨rfl, rfl⟩) fun r z1 hr => ?_
  cases r with
  | error e => exact hr
  | ok fl =>
    cases fl with
    | next => exact hr.elim
    | brk => exact hr.elim
    | cont => exact hr.elim
    | ret v =>
      obtain ⟨rfl, rfl⟩ := hr
      have born : (z.heap.push (set0 w)).get? z.heap.objs.size = some (set0 w) := Heap.get?_push_size _ rfl
      have ty : Shared.TypeIs { z with heap := z.heap.push (set0 w) } (.ref z.heap.objs.size) "set" := ⟨_, born, rfl⟩
      have i1 := PySem.F.called_set.init.lookup
      have i2 := PySem.F.called_set.init.bind (.ref z.heap.objs.size)
      repeat (any_goals (first | assumption | wp_step))
      refine codeAny_mono (codeAny_call_builtin (R := wants (fun r z2 => r = .none ∧ ∃ h2 tk, z2 = { z with heap := h2, toks := tk } ∧ Ord w h2 z.heap.objs.size (unl ys its.size) ∧
        (∀ b o, b < z.heap.objs.size → z.heap.get? b = some o → h2.get? b = some o)) E) PySem.F.called_set.init.plain PySem.F.entry_set_init (check_set_init_1 ty ?_)) fun r2 z2 hr2 => ?_
      · obtain ⟨ot, hot, hct, nt, hdt⟩ := pt
        obtain ⟨otc, otd, ota, ots⟩ := ot
        simp only at hct hdt
        subst hct
        subst hdt
        have hot2 : (z.heap.push (set0 w)).get? p = some { cls := .type "tuple", dict := otd, data := .seq its nt, slots := ots } := Heap.get?_push_of_some _ hot
        have s1 := PySem.F.sub_tuple_set
        have s2 := PySem.F.sub_tuple_frozenset
        have s3 : (Value.type "tuple" == Value.type "dict") = false := by decide
        have pt1 : (z.heap.push (set0 w)).IsTuple p its := ⟨_, hot2, rfl, nt, rfl⟩
        unfold Builtin.«set.__init__» noKeywords Builtin.Frozenset.updateFrom
        generalize hPI : pyIter = PI
        wp_walk
        subst hPI
        refine wpAny_pyIter_tuple pt1 ?_
        refine wpAny_bind (wpAny_runValue ?_)
        have pl : p < z.heap.objs.size := Heap.lt_size hot
        have calm3 : A.in1.in1.in1.handled = none := by simp [calm]
        have sz1 : (z.heap.push (set0 w)).objs.size = z.heap.objs.size + 1 := Heap.size_push ..
        have ne1 : p ≠ (z.heap.push (set0 w)).objs.size := by
          rw [sz1]
          exact Nat.ne_of_lt (Nat.lt_succ_of_lt pl)
        have ne2 : z.heap.objs.size ∉ [(z.heap.push (set0 w)).objs.size, p] := by
          rw [sz1]
          intro q
          rcases List.mem_cons.mp q with q | q
          · exact absurd q (Nat.ne_of_lt (Nat.lt_succ_self _))
          · exact absurd (List.mem_singleton.mp q) (Nat.ne_of_gt pl)
        refine turnAll ((Walks.tuple calm3 _ p ne1 its).toS) z.heap.objs.size ne2 ys (by rw [← ly]; exact few) vals (its.size - 0) 0 _ (by omega) (Nat.zero_le _) ⟨⟨_, Heap.get?_push_size _ rfl, rfl, rfl⟩, (pt1.push _)⟩ ?hA ?hB
        case hA =>
          have at2 : ((z.heap.push (set0 w)).push { cls := .type "tuple_iterator", data := .fields #[.ref p, .int 0 0] }).get? z.heap.objs.size = some (set0 w) := Heap.get?_push_of_some _ born
          exact set0_ord at2
        case hB =>
          intro z3 mv so
          obtain ⟨h3, g3, d3, tk3, os3⟩ := z3
          have eg : g3 = z.gens := mv.gens
          have ed : d3 = z.drawn := mv.drawn
          have eo : os3 = z.os := mv.os
          subst eg
          subst ed
          subst eo
          show wpAny _ _ _ _ _ _
          refine wpAny_pure ?_
          show wpAny _ _ (ret Value.none) _ _ _
          refine wpAny_pure ⟨rfl, h3, tk3, rfl, so, fun b o hb e => ?_⟩
          have b1 : b ≠ z.heap.objs.size := Nat.ne_of_lt hb
          have b2 : b ≠ (z.heap.push (set0 w)).objs.size := by
            rw [sz1]
            exact Nat.ne_of_lt (Nat.lt_succ_of_lt hb)
          refine mv.heap b o (fun q => ?_) (Heap.get?_push_of_some _ (Heap.get?_push_of_some _ e))
          rcases List.mem_cons.mp q with q | q
          · exact b1 q
          · exact b2 (List.mem_singleton.mp q)
      · cases r2 with
        | error e => exact hr2
        | ok fl2 =>
          cases fl2 with
          | next => exact hr2.elim
          | brk => exact hr2.elim
          | cont => exact hr2.elim
          | ret r =>
            obtain ⟨rfl, h4, tk4, rfl, so, kp⟩ := hr2
            repeat (any_goals (first | assumption | wp_step))
            exact k _ _ so kp
set_option maxHeartbeats 6400000 in
theorem set_ofL {p : Addr} {its : Array Value} {ys : List Key} {Q : Value → Shared → Prop} (calm : A.handled = none) (pt : z.heap.IsList p its) (ly : ys.length = its.size) (vals : ∀ (i : Nat) (v : Value), its[i]? = some v → keyIs (ys.getD i (.inl 0)) v = true) (few : ys.length + 1 < scanBound)
    (k : ∀ (h2 : Heap) (tk : Nat), Ord w h2 z.heap.objs.size (unl ys its.size) → (∀ b o, b < z.heap.objs.size → z.heap.get? b = some o → h2.get? b = some o) → Q (.ref z.heap.objs.size) { z with heap := h2, toks := tk }) :
    wpAny (model prog w) A (call (.type "set") [.ref p]) Q E z := by
  obtain ⟨cr, ct, hmro⟩ := PySem.F.called_set.mro
  have hmade := PySem.F.called_set.made
  have hsub := PySem.F.called_set.sub
  refine wpAny_call (codeAny_of_tree ?_)
  show wpAny _ _ (callAny (.type "set") _) _ _ _
  refine wpAny_pure ⟨Code.quiet_builtin _ (by decide +kernel), codeAny_builtin PySem.F.entry_type_call ?_⟩
  rw [Around.under_plain (weight_type_call_type "set" [.ref p] []) rfl]
  have c1 := PySem.F.called_set.notType
  have c2 := PySem.F.called_set.canCreate
  have c3 := PySem.F.typeCall_set_1 (.ref p)
  repeat (any_goals (first | assumption | wp_step))
  refine codeAny_mono (code_set_led1 (.ref p) (E := E) (Q₁ := fun v z1 => v = .ref z.heap.objs.size ∧ z1 = { z with heap := z.heap.push (set0 w) }) ⟨rfl, rfl⟩) fun r z1 hr => ?_
  cases r with
  | error e => exact hr
  | ok fl =>
    cases fl with
    | next => exact hr.elim
    | brk => exact hr.elim
    | cont => exact hr.elim
    | ret v =>
      obtain ⟨rfl, rfl⟩ := hr
      have born : (z.heap.push (set0 w)).get? z.heap.objs.size = some (set0 w) := Heap.get?_push_size _ rfl
      have ty : Shared.TypeIs { z with heap := z.heap.push (set0 w) } (.ref z.heap.objs.size) "set" := ⟨_, born, rfl⟩
      have i1 := PySem.F.called_set.init.lookup
      have i2 := PySem.F.called_set.init.bind (.ref z.heap.objs.size)
      repeat (any_goals (first | assumption | wp_step))
      refine codeAny_mono (codeAny_call_builtin (R := wants (fun r z2 => r = .none ∧ ∃ h2 tk, z2 = { z with heap := h2, toks := tk } ∧ Ord w h2 z.heap.objs.size (unl ys its.size) ∧
        (∀ b o, b < z.heap.objs.size → z.heap.get? b = some o → h2.get? b = some o)) E) PySem.F.called_set.init.plain PySem.F.entry_set_init (check_set_init_1 ty ?_)) fun r2 z2 hr2 => ?_
      · obtain ⟨ot, hot, hct, nt, hdt⟩ := pt
        obtain ⟨otc, otd, ota, ots⟩ := ot
        simp only at hct hdt
        subst hct
        subst hdt
        have hot2 : (z.heap.push (set0 w)).get? p = some { cls := .type "list", dict := otd, data := .seq its nt, slots := ots } := Heap.get?_push_of_some _ hot
        have s1 := PySem.F.sub_list_set
        have s2 := PySem.F.sub_list_frozenset
        have s3 : (Value.type "list" == Value.type "dict") = false := by decide
        have pt1 : (z.heap.push (set0 w)).IsList p its := ⟨_, hot2, rfl, nt, rfl⟩
        unfold Builtin.«set.__init__» noKeywords Builtin.Frozenset.updateFrom
        generalize hPI : pyIter = PI
        wp_walk
        subst hPI
        refine wpAny_pyIter_list pt1 ?_
        refine wpAny_bind (wpAny_runValue ?_)
        have pl : p < z.heap.objs.size := Heap.lt_size hot
        have calm3 : A.in1.in1.in1.handled = none := by simp [calm]
        have sz1 : (z.heap.push (set0 w)).objs.size = z.heap.objs.size + 1 := Heap.size_push ..
        have ne1 : p ≠ (z.heap.push (set0 w)).objs.size := by
          rw [sz1]
          exact Nat.ne_of_lt (Nat.lt_succ_of_lt pl)
        have ne2 : z.heap.objs.size ∉ [(z.heap.push (set0 w)).objs.size, p] := by
          rw [sz1]
          intro q
          rcases List.mem_cons.mp q with q | q
          · exact absurd q (Nat.ne_of_lt (Nat.lt_succ_self _))
          · exact absurd (List.mem_singleton.mp q) (Nat.ne_of_gt pl)
        refine turnAll ((Walks.list calm3 _ p ne1 its).toS) z.heap.objs.size ne2 ys (by rw [← ly]; exact few) vals (its.size - 0) 0 _ (by omega) (Nat.zero_le _) ⟨⟨_, Heap.get?_push_size _ rfl, rfl, rfl⟩, (pt1.push _)⟩ ?hA ?hB
        case hA =>
          have at2 : ((z.heap.push (set0 w)).push { cls := .type "list_iterator", data := .fields #[.ref p, .int 0 0] }).get? z.heap.objs.size = some (set0 w) := Heap.get?_push_of_some _ born
          exact set0_ord at2
        case hB =>
          intro z3 mv so
          obtain ⟨h3, g3, d3, tk3, os3⟩ := z3
          have eg : g3 = z.gens := mv.gens
          have ed : d3 = z.drawn := mv.drawn
          have eo : os3 = z.os := mv.os
          subst eg
          subst ed
          subst eo
          show wpAny _ _ _ _ _ _
          refine wpAny_pure ?_
          show wpAny _ _ (ret Value.none) _ _ _
          refine wpAny_pure ⟨rfl, h3, tk3, rfl, so, fun b o hb e => ?_⟩
          have b1 : b ≠ z.heap.objs.size := Nat.ne_of_lt hb
          have b2 : b ≠ (z.heap.push (set0 w)).objs.size := by
            rw [sz1]
            exact Nat.ne_of_lt (Nat.lt_succ_of_lt hb)
          refine mv.heap b o (fun q => ?_) (Heap.get?_push_of_some _ (Heap.get?_push_of_some _ e))
          rcases List.mem_cons.mp q with q | q
          · exact b1 q
          · exact b2 (List.mem_singleton.mp q)
      · cases r2 with
        | error e => exact hr2
        | ok fl2 =>
          cases fl2 with
          | next => exact hr2.elim
          | brk => exact hr2.elim
          | cont => exact hr2.elim
          | ret r =>
            obtain ⟨rfl, h4, tk4, rfl, so, kp⟩ := hr2
            repeat (any_goals (first | assumption | wp_step))
            exact k _ _ so kp
end
end Xs
set_option Elab.async false
set_option linter.all false
set_option maxRecDepth 100000
set_option maxHeartbeats 8000000
/-! Xt: sorted(set(x)); sorted of a list of data -/
namespace Xs
open PySem PySem.Spec PySem.Calls PyProof.Rows L2 Bs Xg TL
def encK : Key → PyData
  | .inl i => .int i
  | .inr x => .str x
/-- numbers alone, or texts alone -/
def OneKind (ks : List Key) : Prop := (∀ k ∈ ks, ∃ i, k = .inl i) ∨ ∀ k ∈ ks, ∃ x, k = .inr x
theorem OneKind.alike {ks : List Key} (h : OneKind ks) : PySem.W.AllAlike (ks.map encK) := by
  intro d hd d' hd'
  obtain ⟨k, hk, rfl⟩ := List.mem_map.mp hd
  obtain ⟨k', hk', rfl⟩ := List.mem_map.mp hd'
  rcases h with h | h
  · obtain ⟨i, rfl⟩ := h k hk
    obtain ⟨j, rfl⟩ := h k' hk'
    simp [encK, PySem.W.alike]
  · obtain ⟨x, rfl⟩ := h k hk
    obtain ⟨y, rfl⟩ := h k' hk'
    simp [encK, PySem.W.alike]
theorem keys_sortable (ks : List Key) : PySem.W.Sortable (ks.map encK) := by
  right
  intro d hd
  obtain ⟨k, _, rfl⟩ := List.mem_map.mp hd
  cases k
  · exact ⟨(fun z => by cases z), (fun xs z => by cases z)⟩
  · exact ⟨(fun z => by cases z), (fun xs z => by cases z)⟩
theorem OneKind.mono {ks js : List Key} (h : OneKind ks) (s : ∀ k ∈ js, k ∈ ks) : OneKind js := by
  rcases h with h | h
  · exact .inl fun k hk => h k (s k hk)
  · exact .inr fun k hk => h k (s k hk)
theorem encK_depth (k : Key) : (encK k).depth ≤ 1 := by cases k <;> simp [encK, PyData.depth]
theorem key_read {h : Heap} {k : Key} {v : Value} (e : keyIs k v = true) : Reads h v (encK k) [] := by
  rcases keyIs_shape e with ⟨i, t, rfl, rfl⟩ | ⟨x, t, rfl, rfl⟩
  · exact .int i t
  · exact .str x t
theorem key_rel {k : Key} {v : Value} (e : keyIs k v = true) : RelV (kV k) v := by
  rcases keyIs_shape e with ⟨i, t, rfl, rfl⟩ | ⟨x, t, rfl, rfl⟩
  · exact ⟨t, rfl⟩
  · exact ⟨t, rfl⟩
theorem rel_key {k : Key} {v : Value} (e : RelV (kV k) v) : keyIs k v = true := by
  cases k with
  | inl i =>
    obtain ⟨t, rfl⟩ := e
    exact keyIs_int i t
  | inr x =>
    obtain ⟨t, rfl⟩ := e
    exact keyIs_str x t
theorem vals_of_keys : ∀ {vs : List Value} {ks : List Key}, PySem.W.EachIs (fun v k => keyIs k v = true) vs ks → Vals (ks.map kV) vs
  | _, _, .nil => .nil
  | _, _, .cons h t => .cons (key_rel h) (vals_of_keys t)
theorem each_keys {w : World} : ∀ {vs : List Value}, (∀ v ∈ vs, ∃ k, keyIs k v = true) → PySem.W.EachIs (fun v k => keyIs k v = true) vs (vs.map fun v => ky (0, v))
  | [], _ => .nil
  | v :: vs, h => by
    obtain ⟨k, hk⟩ := h v List.mem_cons_self
    refine .cons ?_ (each_keys (w := w) fun u hu => h u (List.mem_cons_of_mem _ hu))
    show keyIs (ky (0, v)) v = true
    rw [ky_of (e := ((0 : Int), v)) hk]
    exact hk
/-- what is sorted: a kind of key -/
structure Knd (β : Type) where
  f : β → Key
  g : Key → β
  enc : β → PyData
  gf : ∀ b, g (f b) = b
  rd : ∀ b, encK (f b) = enc b
  al : ∀ b c, PySem.W.alike (enc b) (enc c) = true
  ot : ∀ b, enc b ≠ .none ∧ ∀ xs, enc b ≠ .tuple xs
  tr : ∀ a b c, PySem.W.dataLe false enc a b = true → PySem.W.dataLe false enc b c = true → PySem.W.dataLe false enc a c = true
  tot : ∀ a b, (PySem.W.dataLe false enc a b || PySem.W.dataLe false enc b a) = true
def kStr : Knd Str where
  f := Sum.inr
  g := fun k => match k with | .inr x => x | _ => Str.empty
  enc := fun x => .str x
  gf := fun _ => rfl
  rd := fun _ => rfl
  al := fun _ _ => by simp [PySem.W.alike]
  ot := fun _ => ⟨(fun z => by cases z), (fun xs z => by cases z)⟩
  tr := fun a b c h1 h2 => by
    rw [PySem.W.dataLe_str (fun x : Str => x)] at *
    simp only [decide_eq_true_eq] at *
    exact List.le_trans h1 h2
  tot := fun a b => by
    rw [PySem.W.dataLe_str (fun x : Str => x)]
    simp only [Bool.or_eq_true, decide_eq_true_eq]
    exact List.le_total _ _
def kInt : Knd Int where
  f := Sum.inl
  g := fun k => match k with | .inl i => i | _ => 0
  enc := fun x => .int x
  gf := fun _ => rfl
  rd := fun _ => rfl
  al := fun _ _ => by simp [PySem.W.alike]
  ot := fun _ => ⟨(fun z => by cases z), (fun xs z => by cases z)⟩
  tr := fun a b c h1 h2 => by
    rw [PySem.W.dataLe_int (fun x : Int => x)] at *
    simp only [decide_eq_true_eq] at *
    omega
  tot := fun a b => by
    rw [PySem.W.dataLe_int (fun x : Int => x)]
    simp only [Bool.or_eq_true, decide_eq_true_eq]
    omega
theorem each_map_f {β : Type} (kd : Knd β) : ∀ {vs : List Value} {bs : List β}, PySem.W.EachIs (fun v k => keyIs k v = true) vs (bs.map kd.f) → PySem.W.EachIs (fun v b => keyIs (kd.f b) v = true) vs bs
  | _, [], h => by
    cases vs_nil h
    exact .nil
  | _, b :: bs, h => by
    cases h with
    | cons h1 h2 => exact .cons h1 (each_map_f kd h2)
where
  vs_nil {vs : List Value} (h : PySem.W.EachIs (fun v k => keyIs k v = true) vs ([] : List Key)) : vs = [] := by
    cases h
    rfl
theorem vals_of_f {β : Type} (kd : Knd β) : ∀ {vs : List Value} {bs : List β}, PySem.W.EachIs (fun v b => keyIs (kd.f b) v = true) vs bs → Vals (bs.map fun b => kV (kd.f b)) vs
  | _, _, .nil => .nil
  | _, _, .cons h t => .cons (key_rel h) (vals_of_f kd t)
section
variable {P : Program} {w : World} {A : Around} {E : Value → Shared → Prop} {s : Shared} {a : Addr} {β : Type}
theorem sorted_ord (kd : Knd β) {bs : List β} {Q : Value → Shared → Prop} (R : Ord w s.heap a (bs.map kd.f)) (hh : A.handled = none) (few : bs.length ≤ 100000) (units : A.units + 64 < cLine)
    (k : ∀ (s' : Shared) (p : Addr) (out : List Value) (c : Nat) (ys : List β), (∀ b o, s.heap.get? b = some o → s'.heap.get? b = some o) → s'.gens = s.gens → s'.os = s.os → s.heap.objs.size ≤ p →
      s'.heap.get? p = some (seqObj "list" out.toArray c) → Vals (ys.map fun b => kV (kd.f b)) out → ys.Perm bs → ys.Pairwise (fun x y => PySem.W.dataLe false kd.enc x y = true) → Q (.ref p) s') :
    wpAny (model P w) A (call (.builtin "sorted") [.ref a]) Q E s := by
  obtain ⟨o, es, ep, t, at0, ex, d0, ⟨g, pm, nd⟩, ⟨sb, ft⟩, rs, ld⟩ := R
  refine Calls.call_function_entry kind_sorted plain_sorted entry_sorted (args_sorted1 _) ?_
  unfold Builtin.«sorted»
  refine wpAny_bind (m := checkCount "sorted" 1 1 _) (wpAny_pure ?_)
  refine wpAny_bind (collect_set (A := A.in1) hh ⟨o, at0, ex.1, d0⟩ ft sb rs ld fun s1 vs k1 hz g1 o1 pv => ?_)
  have each : ∀ v ∈ vs, ∃ k, keyIs k v = true := by
    intro v hv
    obtain ⟨e, he, rfl⟩ := List.mem_map.mp (pv.mem_iff.mp hv)
    obtain ⟨k, hk, _⟩ := g e he
    exact ⟨k, hk⟩
  have ev := each_keys (w := w) each
  have pk : (vs.map fun v => ky (0, v)).Perm (bs.map kd.f) := by
    have q := pv.map fun v => ky (0, v)
    rw [List.map_map] at q
    refine q.trans (List.Perm.trans ?_ pm)
    have : (fun v => ky (0, v)) ∘ (fun x : Int × Value => x.2) = ky := by
      funext e
      obtain ⟨c, v⟩ := e
      cases v <;> rfl
    rw [this]
  obtain ⟨cs, ecs, pcs⟩ : ∃ cs : List β, (vs.map fun v => ky (0, v)) = cs.map kd.f ∧ cs.Perm bs := by
    refine ⟨(vs.map fun v => ky (0, v)).map kd.g, ?_, ?_⟩
    · have : ∀ l : List Key, (∀ k ∈ l, ∃ b, kd.f b = k) → l = (l.map kd.g).map kd.f := by
        intro l
        induction l with
        | nil => intro _; rfl
        | cons k l ih =>
          intro h
          obtain ⟨b, rfl⟩ := h k List.mem_cons_self
          simp only [List.map_cons]
          rw [← ih fun j hj => h j (List.mem_cons_of_mem _ hj), kd.gf]
      refine this _ fun k hk => ?_
      obtain ⟨b, _, e⟩ := List.mem_map.mp (pk.mem_iff.mp hk)
      exact ⟨b, e⟩
    · have q := pk.map kd.g
      rw [List.map_map (f := kd.f)] at q
      have : kd.g ∘ kd.f = id := funext kd.gf
      rw [this, List.map_id] at q
      exact q
  rw [ecs] at ev
  have ev2 := each_map_f kd ev
  have len : vs.length = cs.length := by rw [← List.length_map (f := fun v => ky (0, v)), ecs, List.length_map]
  have lv : vs.length ≤ sizeLine := by rw [len, pcs.length_eq, sizeLine_eq]; omega
  refine wpAny_bind (wpAny_newList ?_ lv)
  have hoL : (s1.heap.push (seqObj "list" vs.toArray 0)).get? s1.heap.objs.size = some (seqObj "list" vs.toArray 0) := Heap.get?_push_size _ rfl
  refine wpAny_bind (wpAny_holding (PySem.W.list_sort_data (bs := cs) (enc := kd.enc) (R := fun v b => keyIs (kd.f b) v = true) hoL ev2 ?_ (PySem.W.AllAlike.of kd.al) (PySem.W.Sortable.others kd.ot) (by rw [← len]; exact lv) ?_ ?_))
  · refine ev2.mono fun v b h => ⟨[], ?_, by simp⟩
    rw [← kd.rd b]
    exact key_read h
  · intro b _
    have d := encK_depth (kd.f b)
    rw [kd.rd] at d
    have u1 : A.in1.units ≤ A.units + 1 := by first | exact Nat.le_refl _ | (unfold Around.in1; dsimp only; omega) | simp [Around.in1]
    omega
  · intro out lo eo
    obtain ⟨c, hc⟩ := sortedHeap_at (vs := vs) (out := out.toArray) hoL
    refine wpAny_pure ⟨_, rfl, k _ s1.heap.objs.size out c _ (fun b u e => ?_) g1 o1 hz hc (vals_of_f kd eo) ((List.mergeSort_perm _ _).trans pcs) (List.pairwise_mergeSort kd.tr kd.tot _)⟩
    have q := k1 b u e
    have hlt := Heap.lt_size q
    show (sortedHeap (s1.heap.push (seqObj "list" vs.toArray 0)) s1.heap.objs.size vs out.toArray).get? b = some u
    rw [sortedHeap_old (Nat.ne_of_lt hlt) (by rw [size_push']; exact Nat.lt_succ_of_lt hlt)]
    exact Heap.get?_push_of_some _ q
end
section
variable {X : Cx}
theorem rel_at {ks : List Key} {us : List Value} (r : Vals (ks.map kV) us) : ∀ (i : Nat) (v : Value), us[i]? = some v → keyIs (ks.getD i (.inl 0)) v = true := by
  induction ks generalizing us with
  | nil =>
    intro i v h
    cases r
    simp at h
  | cons k ks ih =>
    intro i v h
    cases r with
    | cons r1 r2 =>
      cases i with
      | zero =>
        simp at h
        subst h
        exact rel_key r1
      | succ i =>
        simp only [List.getElem?_cons_succ] at h
        exact ih r2 i v h
/-- sorted(set(x)), x a list or a tuple of numbers alone or texts alone -/
def tSrtSet (K : PySem.W.Frag) (te : TE) : TE := fun σ H Q => te σ H fun x H1 => ∃ (β : Type) (kd : Knd β) (p : Addr) (bs : List β), x = .ref p ∧ (SqL K H1 p (bs.map fun b => kV (kd.f b)) ∨ SqT K H1 p (bs.map fun b => kV (kd.f b))) ∧ bs.length ≤ 1000 ∧
  ∀ (ys : List β) (l : Addr), ys.Nodup → (∀ b, b ∈ ys ↔ b ∈ bs) → ys.length ≤ bs.length → ys.Pairwise (fun x y => PySem.W.dataLe false kd.enc x y = true) → H1 l = none → Q (.ref l) (upd H1 l (.lst (ys.map fun b => kV (kd.f b))))
theorem pe_srtSet {K : PySem.W.Frag} (hK : X.K = K) {a : Expr} {te : TE} {p p2 q pos : Pos} (hc : X.calm = true) (hu : X.A.units + 80 < cLine) (g1 : Gl X "sorted") (m1 : X.mg "sorted" = none) (g2 : Gl X "set") (m2 : X.mg "set" = none) (ha : PE X a te)
    (na : starEach [a] X.env = (false, eval a X.env) :: starEach [] X.env := by rfl) : PE X (.Call (.Name "sorted" p) [.Call (.Name "set" p2) [a] [] q] [] pos) (tSrtSet K te) := by
  subst hK
  constructor
  intro pins s σ H Q I h
  refine Call_ (ld_blt I g1 m1 PyProof.Rows.boot_sorted ?_)
  refine callWith_builtin1 (args_cons ?_ (by rfl)) (by rfl) rfl
  refine Call_ (ld_blt I g2 m2 boot_set ?_)
  refine callWith_type1 (args_cons ?_ na) na (by rfl)
  apply thn (ha.run pins s σ H _ I h)
  rintro v s1 ⟨x, H1, I1, r1, β, kd, l, bs, rfl, hq, few, q1⟩
  apply PyProof.Rows.args_nil
  cases r1
  have goal : ∀ (h2 : Heap) (tk : Nat), Ord X.w h2 s1.heap.objs.size (unl (bs.map kd.f) (bs.map kd.f).length) → (∀ b o, b < s1.heap.objs.size → s1.heap.get? b = some o → h2.get? b = some o) →
      wpAny (model X.prog X.w) X.A (call (.builtin "sorted") [.ref s1.heap.objs.size]) (EP X pins σ Q) X.xe { s1 with heap := h2, toks := tk } := by
    intro h2 tk so kp
    have I2 : Inv X pins σ H1 { s1 with heap := h2, toks := tk } := I1.kept fun b o e => kp b o (Heap.lt_size e) e
    obtain ⟨cs, ec, mc, nc⟩ : ∃ cs : List β, unl (bs.map kd.f) (bs.map kd.f).length = cs.map kd.f ∧ (∀ b, b ∈ cs ↔ b ∈ bs) ∧ cs.length ≤ bs.length := by
      have mm := unl_full (bs.map kd.f)
      have ll := unl_len (bs.map kd.f) (bs.map kd.f).length
      generalize unl (bs.map kd.f) (bs.map kd.f).length = L at mm ll
      have back : L = (L.map kd.g).map kd.f := by
        have : ∀ l : List Key, (∀ k ∈ l, ∃ b, kd.f b = k) → l = (l.map kd.g).map kd.f := by
          intro l
          induction l with
          | nil => intro _; rfl
          | cons k l ih =>
            intro h
            obtain ⟨b, rfl⟩ := h k List.mem_cons_self
            simp only [List.map_cons]
            rw [← ih fun j hj => h j (List.mem_cons_of_mem _ hj), kd.gf]
        refine this L fun k hk => ?_
        obtain ⟨b, _, e⟩ := List.mem_map.mp ((mm k).mp hk)
        exact ⟨b, e⟩
      refine ⟨L.map kd.g, back, fun b => ?_, by rw [List.length_map]; rw [List.length_map] at ll; exact ll⟩
      have m1 := mm (kd.f b)
      constructor
      · intro hb
        have : kd.f b ∈ L := by rw [back]; exact List.mem_map.mpr ⟨b, hb, rfl⟩
        obtain ⟨c, hc2, e⟩ := List.mem_map.mp (m1.mp this)
        have := congrArg kd.g e
        rw [kd.gf, kd.gf] at this
        rw [← this]
        exact hc2
      · intro hb
        have := m1.mpr (List.mem_map.mpr ⟨b, hb, rfl⟩)
        exact List.mem_map.mpr ⟨_, this, kd.gf b⟩
    rw [ec] at so
    have nd : (cs.map kd.f).Nodup := by
      obtain ⟨_, _, _, _, _, _, _, ⟨_, _, z⟩, _⟩ := so
      exact z
    have ndc : cs.Nodup := List.Pairwise.of_map kd.f (fun _ _ hne e => hne (congrArg kd.f e)) nd
    refine sorted_ord kd so (I2.ok.hd hc) (by omega) (by omega) fun s' p out c ys k g o hp hg rv pm pw => ?_
    have hlen : (ys.map fun b => kV (kd.f b)).length ≤ sizeLine := by rw [List.length_map, pm.length_eq, sizeLine_eq]; omega
    have hn : H1 p = none := I2.hok.fresh hp
    have J : Inv X pins σ (upd H1 p (.lst (ys.map fun b => kV (kd.f b)))) { ({ s1 with heap := h2, toks := tk } : Shared) with heap := s'.heap, gens := s'.gens, drawn := s'.drawn, toks := s'.toks } :=
      I2.call (ch := []) (Un.laid k hp hn) (I2.hok.laid k hp ⟨hlen, out, c, rv, hg⟩) (by rw [g]; exact I2.bare) (fun _ z => nomatch z)
    have e : s' = { ({ s1 with heap := h2, toks := tk } : Shared) with heap := s'.heap, gens := s'.gens, drawn := s'.drawn, toks := s'.toks } := by
      cases s'
      cases s1
      cases o
      rfl
    rw [e]
    exact ⟨.ref p, _, J, rfl, q1 ys p (pm.nodup_iff.mpr ndc) (fun b => pm.mem_iff.trans (mc b)) (by rw [pm.length_eq]; exact nc) pw hn⟩
  have ek : ∀ l : List β, (l.map fun b => kV (kd.f b)) = (l.map kd.f).map kV := fun l => by rw [List.map_map]; rfl
  rcases hq with hq | hq
  · obtain ⟨its, r, pl, hz⟩ := I1.list hq
    rw [ek] at r
    have ls : its.toArray.size = (bs.map kd.f).length := by rw [List.size_toArray, ← r.length, List.length_map, List.length_map]
    refine set_ofL (ys := bs.map kd.f) (I1.ok.hd hc) pl.isList ls.symm (fun i v hv => rel_at r i v (by simpa using hv)) (by rw [List.length_map]; unfold scanBound; omega) fun h2 tk so kp => ?_
    apply PyProof.Rows.args_nil
    rw [ls] at so
    exact goal h2 tk so kp
  · obtain ⟨its, r, pl, hz⟩ := I1.tuple hq
    rw [ek] at r
    have ls : its.toArray.size = (bs.map kd.f).length := by rw [List.size_toArray, ← r.length, List.length_map, List.length_map]
    refine set_ofT (ys := bs.map kd.f) (I1.ok.hd hc) pl ls.symm (fun i v hv => rel_at r i v (by simpa using hv)) (by rw [List.length_map]; unfold scanBound; omega) fun h2 tk so kp => ?_
    apply PyProof.Rows.args_nil
    rw [ls] at so
    exact goal h2 tk so kp
end
/-- sorted(xs), xs a list that reads as data -/
def rSrtD (K : PySem.W.Frag) : List V → Hp → VK → Prop := fun vs H Q => ∃ (a : Addr) (ps : List (V × PyData)), vs = [.ref a] ∧ SqL K H a (ps.map (·.1)) ∧ (∀ p ∈ ps, Dp K H p.1 p.2) ∧ PySem.W.AllAlike (ps.map (·.2)) ∧ PySem.W.Sortable (ps.map (·.2)) ∧ (∀ p ∈ ps, p.2.depth ≤ 10) ∧
  ∀ (qs : List (V × PyData)) (l : Addr), qs = ps.mergeSort (PySem.W.dataLe false (·.2)) → H l = none → Q (.ref l) (upd H l (.lst (qs.map (·.1))))
theorem cr_srtD {X : Cx} {K : PySem.W.Frag} (hK : X.K = K) (hu : X.A.units + 80 < cLine) : CallR X (.builtin "sorted") (rSrtD K) := by
  subst hK
  intro pins s σ H vs us Q I r h
  obtain ⟨a, ps, rfl, hs, hd, al, so, dp, q⟩ := h
  obtain ⟨its, rv, hl, hz⟩ := I.list hs
  rw [Vals.ref1 r]
  have each : ∀ {ps : List (V × PyData)} {us : List Value}, Vals (ps.map (·.1)) us → (∀ p ∈ ps, Dp X.K H p.1 p.2) → PySem.W.EachIs (fun u p => RelV p.1 u ∧ ∃ as, Reads s.heap u p.2 as) us ps := by
    intro ps
    induction ps with
    | nil =>
      intro us r _
      cases r
      exact .nil
    | cons p ps ih =>
      intro us r h
      cases r with
      | cons r1 r2 => exact .cons ⟨r1, Dp.reads I _ _ _ (h p List.mem_cons_self) r1⟩ (ih r2 fun x hx => h x (List.mem_cons_of_mem _ hx))
  have ev := each rv hd
  refine PySem.W.sorted_data (bs := ps) (enc := (·.2)) (R := fun u p => RelV p.1 u) hl.isList (ev.mono fun _ _ h => h.1) (ev.mono fun _ _ h => h.2) al so (by rw [List.length_map] at hz; exact hz) (fun p hp => by have := dp p hp; omega) fun out lo eo => ?_
  obtain ⟨c, hc⟩ := sortedAll_at s.heap its out.toArray
  have rel : ∀ {qs : List (V × PyData)} {us : List Value}, PySem.W.EachIs (fun u p => RelV p.1 u) us qs → Vals (qs.map (·.1)) us := by
    intro qs
    induction qs with
    | nil =>
      intro us r
      cases r
      exact .nil
    | cons p qs ih =>
      intro us r
      cases r with
      | cons r1 r2 => exact .cons r1 (ih r2)
  have hn : H (s.heap.objs.size + 1) = none := I.hok.fresh (Nat.le_succ _)
  have lq : ((ps.mergeSort (PySem.W.dataLe false (·.2))).map (·.1)).length ≤ sizeLine := by
    rw [List.length_map, (List.mergeSort_perm _ _).length_eq]
    rw [List.length_map] at hz
    exact hz
  exact ⟨.ref _, upd H (s.heap.objs.size + 1) (.lst ((ps.mergeSort (PySem.W.dataLe false (·.2))).map (·.1))), I.laid (t' := s.toks) (fun b o e => sortedAll_old e) (Nat.le_succ _) ⟨lq, out, c, rel eo, hc⟩, rfl, q _ _ rfl hn⟩
end Xs
set_option Elab.async false
set_option linter.all false
set_option pp.maxSteps 4000
set_option maxRecDepth 100000
set_option maxHeartbeats 4000000
/-! k86: the box -/
namespace K86
open PySem PySem.Spec PyProof.Rows L2 Bs Xg TL Xm Xs Gn
def top (i : Nat) : Stmt := PySem.Challenge.pw_cleanedtables_k86_programs_row_by_row.main.body.getD i (.Pass ⟨0, 0, 0, 0⟩)
abbrev sBx : Stmt := top 4
abbrev sTk : Stmt := top 5
abbrev sPk : Stmt := top 6
section
variable {X : Cx}
theorem ix_listK {K : PySem.W.Frag} (hK : X.K = K) : IxR X (rIxL K) := hK ▸ ix_list
theorem ix_tupK {K : PySem.W.Frag} (hK : X.K = K) : IxR X (rIxT K) := hK ▸ ix_tup
theorem call_len_seqK {K : PySem.W.Frag} (hK : X.K = K) : CallR X (.builtin "len") (fun xs H Q => ∃ p ys, xs = [.ref p] ∧ (SqL K H p ys ∨ SqT K H p ys) ∧ Q (.int ys.length) H) := hK ▸ call_len_seq
theorem pe_bmK {K : PySem.W.Frag} (hK : X.K = K) {T id : String} {name : Str} {o e : Expr} {es : List Expr} {r : V → List V → Hp → VK → Prop} {to : TE} {t : TA} {apos cpos : Pos} (pa : PlainAttrs T) (slot : Slot T name id) (hty : typeOf (.builtin id) = pure (.type "method_descriptor")) (hm : MtR X id r) (ho : PE X o to) (ha : PA X (e :: es) t)
    (hbase : attributeBase o name X.env (eval o X.env) = eval o X.env := by rfl)
    (hfew : ((backTo cpos (starEach (e :: es) X.env)).all (fun x => !x.1) && (backToKw cpos (keywordEach [] X.env)).all (fun x => x.1.isSome)
      && decide ((e :: es).length + ([] : List Keyword).length + (if ([] : List Keyword).isEmpty then 0 else 1) < 30)) = true := by rfl)
    (hline : (apos.endLine == cpos.line) = true := by rfl) (hs : starEach (e :: es) X.env = (false, eval e X.env) :: starEach es X.env := by rfl) (hplain : (backTo cpos (starEach es X.env)).any (·.1) = false := by rfl) :
    PE X (.Call (.Attribute o name apos) (e :: es) [] cpos) (tBM K T r to t) := hK ▸ pe_bm pa slot hty hm ho ha hbase hfew hline hs hplain
end
structure HandF (K : PySem.W.Frag) (mg : Str → Option Value) (fTk fPk : Addr) (dTk dPk : FuncData) : Prop where
  Tk : Fun K "_law_take" "_law_take" sTk fTk dTk
  bTk : Binds K dTk ["_law_box_here", "_law_many"] []
  gTk : mg "_law_take" = some (.ref fTk)
  Pk : Fun K "_law_pick" "_law_pick" sPk fPk dPk
  bPk : Binds K dPk ["_law_box_here", "_law_some"] []
  gPk : mg "_law_pick" = some (.ref fPk)
section
variable {P : Program} {w : World} {K : PySem.W.Frag} {mg : Str → Option Value} {base : Heap}
theorem scTk : FnScope ["_law_box_here", "_law_many", "_law_digit", "_law_once"] ["_law_box_here", "_law_many"] (defScope sTk) := ⟨rfl, rfl, rfl, by decide +kernel, rfl, by decide +kernel, by decide +kernel⟩
theorem ok_take {f : Addr} {fd : FuncData} (F : Fun K "_law_take" "_law_take" sTk f fd) : FnOk P w K mg base CX0 1 f fd ["_law_box_here", "_law_many"] spTake := by
  refine F.ok scTk (fun vs H Q E h => ?_) (fun cdv A outer s H vs Q E hr h => ?_)
  · obtain ⟨h, n, m, rfl, _⟩ := h
    rfl
  · obtain ⟨h, n, m, rfl, ⟨g, t, c, e, t0, t1, c0, c1⟩, nb, m0, m1, k⟩ := h
    have at0 : atI ([V.int g, V.int t, V.int c]) 0 = some (V.int g) := atI_nat (j := 0) rfl
    have at1 : atI ([V.int g, V.int t, V.int c]) 1 = some (V.int t) := atI_nat (j := 1) rfl
    have at2 : atI ([V.int g, V.int t, V.int c]) 2 = some (V.int c) := atI_nat (j := 2) rfl
    refine ⟨_, pss_cons (ps_if (pt_cmpR op_gt (pe_ix (ix_listK (K := K) rfl) (pv 0) pe_int (fun _ _ => rfl)) pe_int (nomark _)) (pss_cons (ps_set (i := 2) scTk.nd rfl (Or.inl rfl) (pe_op op_mod (pe_ix (ix_listK (K := K) rfl) (pv 0) pe_int (fun _ _ => rfl)) (pv 1)))
      (pss_cons (ps_asg (pe_op op_fdiv (pe_ix (ix_listK (K := K) rfl) (pv 0) pe_int (fun _ _ => rfl)) (pv 1)) (pg_sub (pv 0) pe_int set_list))
      (pss_one (ps_ret (pv 2))))) (pss_nil))
      (pss_cons (ps_asg (pe_op op_add (pe_ix (ix_listK (K := K) rfl) (pv 0) pe_int (fun _ _ => rfl)) pe_int) (pg_sub (pv 0) pe_int set_list))
      (pss_cons (ps_set (i := 3) scTk.nd rfl (Or.inl rfl) (pe_op op_mod (pe_op op_mul (pe_op op_add (pe_op op_add (pe_ix (ix_listK (K := K) rfl) (pv 0) pe_int (fun _ _ => rfl)) (pe_op op_mul (pe_op op_mul pe_int (pe_ix (ix_listK (K := K) rfl) (pv 0) pe_int (fun _ _ => rfl))) (pe_ix (ix_listK (K := K) rfl) (pv 0) pe_int (fun _ _ => rfl)))) pe_int) pe_int) pe_int))
      (pss_cons (ps_set (i := 3) scTk.nd rfl (Or.inl rfl) (pe_op op_mod (pe_op op_mul (pv 3) (pe_op op_add (pe_op op_mod (pv 3) pe_int) (pe_op op_mul pe_int (pe_ix (ix_listK (K := K) rfl) (pv 0) pe_int (fun _ _ => rfl))))) pe_int))
      (pss_one (ps_ret (pe_op op_mod (pe_op op_add (pe_op op_fdiv (pv 3) pe_int) (pe_op op_fdiv (pv 3) pe_int)) (pv 1))))))), ?_⟩
    refine ⟨_, rfl, h, _, _, _, rfl, rfl, SqL.of e, at0, _, _, rfl, rfl, _, rfl, ?_⟩
    by_cases hc : (0 : Int) < g
    · rw [decide_eq_true hc]
      refine iteT ?_
      refine ⟨_, rfl, h, _, _, _, rfl, rfl, SqL.of e, at0, _, rfl, _, _, rfl, rfl, m0, ?_⟩
      refine ⟨_, rfl, h, _, _, _, rfl, rfl, SqL.of e, at0, _, rfl, _, _, rfl, rfl, ⟨m0, by omega⟩, ?_⟩
      refine ⟨_, rfl, h, _, _, 0, rfl, rfl, e, rfl, ?_⟩
      refine ⟨_, rfl, ?_⟩
      exact k _ _ (Int.emod_nonneg _ (by omega)) (Int.emod_lt_of_pos _ m0) ⟨g / m, t, c, upd_same, t0, t1, c0, by omega⟩ But.upd
    · rw [decide_eq_false hc]
      refine iteF ?_
      refine ⟨_, rfl, h, _, _, _, rfl, rfl, SqL.of e, at2, _, _, rfl, rfl, _, rfl, h, _, _, 2, rfl, rfl, e, rfl, ?_⟩
      rw [show ([V.int g, V.int t, V.int c].set 2 (V.int (c + 1))) = [V.int g, V.int t, V.int (c + 1)] from rfl]
      have e1 : upd H h (.lst [.int g, .int t, .int (c + 1)]) h = some (.lst [.int g, .int t, .int (c + 1)]) := upd_same
      have b1 : atI ([V.int g, V.int t, V.int (c + 1)]) 1 = some (V.int t) := atI_nat (j := 1) rfl
      have b2 : atI ([V.int g, V.int t, V.int (c + 1)]) 2 = some (V.int (c + 1)) := atI_nat (j := 2) rfl
      have bt : But h H (upd H h (.lst [.int g, .int t, .int (c + 1)])) := But.upd
      generalize upd H h (.lst [.int g, .int t, .int (c + 1)]) = H1 at e1 bt ⊢
      have cB : -(2 ^ 64) < (40009 : Int) * (c + 1) ∧ (40009 : Int) * (c + 1) < 2 ^ 64 := by omega
      refine ⟨_, rfl, h, _, _, _, rfl, rfl, SqL.of e1, b1, _, rfl, h, _, _, _, rfl, rfl, SqL.of e1, b2, _, _, rfl, rfl, .inl ⟨by decide, by decide⟩, _, rfl, h, _, _, _, rfl, rfl, SqL.of e1, b2, _, _, rfl, rfl, .inl cB, _, _, rfl, rfl, _, _, rfl, rfl, _, _, rfl, rfl, .inr ⟨by decide, by decide⟩, _, _, rfl, rfl, (by decide : (0 : Int) < 2305843009213693921), ?_⟩
      dsimp only
      generalize ((t + 40009 * (c + 1) * (c + 1) + 101) * 48271) = big
      have d0 : 0 ≤ big % 2305843009213693921 := Int.emod_nonneg _ (by decide)
      have d1 : big % 2305843009213693921 < 2305843009213693921 := Int.emod_lt_of_pos _ (by decide)
      generalize big % 2305843009213693921 = u at d0 d1 ⊢
      refine gN ?_
      try dsimp only
      have dB : -(2 ^ 64) < u ∧ u < 2 ^ 64 := by omega
      refine ⟨_, rfl, _, rfl, _, _, rfl, rfl, (by decide : (0 : Int) < 1000003), _, rfl, h, _, _, _, rfl, rfl, SqL.of e1, b2, _, _, rfl, rfl, .inl ⟨by decide, by decide⟩, _, _, rfl, rfl, _, _, rfl, rfl, .inl dB, _, _, rfl, rfl, (by decide : (0 : Int) < 2305843009213693907), ?_⟩
      refine gN ?_
      try dsimp only
      refine ⟨_, rfl, _, _, rfl, rfl, ⟨by decide, by decide⟩, _, rfl, _, _, rfl, rfl, ⟨by decide, by decide⟩, _, _, rfl, rfl, _, rfl, _, _, rfl, rfl, m0, ?_⟩
      exact k _ _ (Int.emod_nonneg _ (by omega)) (Int.emod_lt_of_pos _ m0) ⟨g, t, c + 1, e1, t0, t1, by omega, by omega⟩ bt
theorem scBx : FnScope ["_law_script", "_law_k", "_law_cell", "_law_mixed"] ["_law_script", "_law_k"] (defScope sBx) := ⟨rfl, rfl, rfl, by decide +kernel, rfl, by decide +kernel, by decide +kernel⟩
theorem ok_box {f : Addr} {fd : FuncData} (F : Fun K "_law_box" "_law_box" sBx f fd) (T : Free mg) : FnOk P w K mg base CX0 1 f fd ["_law_script", "_law_k"] (spHand K) := by
  refine F.ok scBx (fun vs H Q E h => ?_) (fun cdv A outer s H vs Q E hr h => ?_)
  · obtain ⟨a, ns, j, rfl, _⟩ := h
    rfl
  · obtain ⟨a, ns, j, rfl, hS, hl, hj, k⟩ := h
    refine ⟨_, pss_cons (ps_set (i := 2) scBx.nd rfl (Or.inl rfl) pe_int)
      (pss_cons (ps_if (pt_cmpR op_lt (pv 1) (pe_callB (call_len_seqK (K := K) rfl) (by rfl) T.len PySem.boot_len (pa_cons (pv 0) pa_nil)) (nomark _)) (pss_one (ps_set (i := 2) scBx.nd rfl (Or.inl rfl) (pe_ix (ix_listK (K := K) rfl) (pv 0) (pv 1) (fun _ _ => rfl)))) (pss_nil))
      (pss_cons (ps_set (i := 3) scBx.nd rfl (Or.inl rfl) (pe_op op_mod (pe_op op_add (pe_op op_add (pe_op op_mod (pv 2) pe_int) (pe_op op_mul (pe_op op_mul pe_int (pv 1)) (pv 1))) pe_int) pe_int))
      (pss_one (ps_ret (pe_lst (pa_cons (pe_op op_mul (pe_callB call_abs (by rfl) T.abs (by decide +kernel) (pa_cons (pv 2) pa_nil)) (pe_callTy call_int1 (by rfl) T.int (by decide +kernel) (pa_cons (pe_cmpR op_ge (pe_callB call_abs (by rfl) T.abs (by decide +kernel) (pa_cons (pv 2) pa_nil)) (pe_op op_powX pe_int pe_int) (nomark _)) pa_nil))) (pa_cons (pv 3) (pa_cons pe_int pa_nil)))))))), ?_⟩
    refine gN ?_
    try dsimp only
    refine cutT (fun σ' H' => H' = H ∧ ∃ cell : Int, σ' = [some (.ref a), some (.int (j : Int)), some (.int cell), none]) (fun N q => ?_) ?_
    · refine ⟨_, rfl, _, rfl, a, _, rfl, .inl hS, _, _, rfl, rfl, _, rfl, ?_⟩
      by_cases c : (j : Int) < ((ns.map V.int).length : Nat)
      · rw [decide_eq_true c]
        refine iteT ?_
        rw [List.length_map] at c
        have hj' : j < ns.length := by omega
        refine ⟨_, rfl, _, rfl, a, _, _, .int ns[j], rfl, rfl, hS, atI_nat (by rw [List.getElem?_map, List.getElem?_eq_getElem hj']; rfl), ?_⟩
        exact q _ _ ⟨rfl, _, rfl⟩
      · rw [decide_eq_false c]
        refine iteF ?_
        exact q _ _ ⟨rfl, _, rfl⟩
    · rintro σ' H' ⟨rfl, cell, rfl⟩
      have jB : -(2 ^ 64) < (7907 : Int) * j ∧ (7907 : Int) * j < 2 ^ 64 := by omega
      refine ⟨_, rfl, _, _, rfl, rfl, (by decide : (0 : Int) < 2305843009213693921), _, rfl, _, _, rfl, rfl, .inl ⟨by decide, by decide⟩, _, rfl, _, _, rfl, rfl, .inl jB, _, _, rfl, rfl, _, _, rfl, rfl, _, _, rfl, rfl, (by decide : (0 : Int) < 2305843009213693907), ?_⟩
      refine gN ?_
      try dsimp only
      have kb : ∀ b : Bool, -(2 ^ 64) < (if b = true then (1 : Int) else 0) ∧ (if b = true then (1 : Int) else 0) < 2 ^ 64 := by decide
      refine ⟨_, rfl, _, rfl, _, rfl, _, rfl, _, _, rfl, rfl, ⟨by decide, by decide +kernel⟩, _, _, rfl, rfl, .inr ⟨_, rfl, _, _, rfl, rfl, .inr (kb _), _, rfl, (show 3 ≤ sizeLine by decide), fun p hp => ?_⟩⟩
      have m0 := Int.emod_nonneg (cell % 2305843009213693921 + 7907 * (j : Int) * j + 31) (show (2305843009213693907 : Int) ≠ 0 by decide)
      have m1 := Int.emod_lt_of_pos (cell % 2305843009213693921 + 7907 * (j : Int) * j + 31) (show (0 : Int) < 2305843009213693907 by decide)
      exact k p _ hp (Same.new hp) ⟨_, _, _, upd_same, m0, by omega, Int.le_refl _, Int.le_refl _⟩
/-- pick from a text, a list, a tuple -/
def spPk (K : PySem.W.Frag) : Sp := fun vs H Q _ => ∃ (h : Addr) (n : Nat) (x : V) (ys : List V), vs = [.ref h, x] ∧ HandAt H h n ∧ n < 1000000 ∧ 0 < ys.length ∧ ys.length ≤ 1000 ∧
  ((∃ z : Str, x = .str z ∧ ys = z.cps.toList.map fun c => V.str ⟨#[c]⟩) ∨ (∃ p, x = .ref p ∧ p ≠ h ∧ SqL K H p ys) ∨ (∃ p, x = .ref p ∧ SqT K H p ys)) ∧
  ∀ (y : V) (H' : Hp), y ∈ ys → HandAt H' h (n + 1) → But h H H' → Q y H'
theorem tup_hand {H : Hp} {h p : Addr} {n : Nat} (a : HandAt H h n) {o : HO} (e : H p = some o) (t : ∀ l, o ≠ .lst l) : p ≠ h := by
  obtain ⟨g, s, c, e1, _⟩ := a
  intro z
  rw [z, e1] at e
  exact t _ (Option.some.inj e).symm
theorem but_seqT {H H' : Hp} {h a : Addr} {n : Nat} {xs : List V} (hd : HandAt H h n) (b : But h H H') (q : SqT K H a xs) : SqT K H' a xs := by
  rcases q with (q | ⟨o, q⟩) | q
  · exact .inl (.inl (b _ _ (tup_hand hd q fun l z => by cases z) q))
  · exact .inl (.inr ⟨o, b _ _ (tup_hand hd q fun l z => by cases z) q⟩)
  · exact .inr q
theorem pick_lst {h D : Addr} {m : Nat} {G : Hp} {ys : List V} {R : VK} (hg : HandAt G h m) (mb : m < 999999) (nD : G D = none) (l0 : 0 < ys.length) (l1 : ys.length ≤ 1000) (k : ∀ y G', y ∈ ys → HandAt G' h (m + 1) → But h G G' → R y G') : spPk K [.ref h, .ref D] (upd G D (.lst ys)) R E0 :=
  ⟨h, m, .ref D, ys, rfl, hg.mono (Same.new nD) (Nat.le_refl _), by omega, l0, l1, .inr (.inl ⟨D, rfl, (hg.fresh nD).symm, SqL.of upd_same⟩), fun y G2 hy hd2 bt2 => k y G2 hy hd2 ((But.of (Same.new nD)).trans bt2)⟩
theorem pick_old {h D : Addr} {m : Nat} {G : Hp} {ys : List V} {R : VK} (hg : HandAt G h m) (mb : m < 999999) (e : SqL K G D ys) (ne : D ≠ h) (l0 : 0 < ys.length) (l1 : ys.length ≤ 1000) (k : ∀ y G', y ∈ ys → HandAt G' h (m + 1) → But h G G' → R y G') : spPk K [.ref h, .ref D] G R E0 :=
  ⟨h, m, .ref D, ys, rfl, hg, by omega, l0, l1, .inr (.inl ⟨D, rfl, ne, e⟩), k⟩
theorem pick_tup {h D : Addr} {m : Nat} {G : Hp} {ys : List V} {R : VK} (hg : HandAt G h m) (mb : m < 999999) (e : SqT K G D ys) (l0 : 0 < ys.length) (l1 : ys.length ≤ 1000) (k : ∀ y G', y ∈ ys → HandAt G' h (m + 1) → But h G G' → R y G') : spPk K [.ref h, .ref D] G R E0 :=
  ⟨h, m, .ref D, ys, rfl, hg, by omega, l0, l1, .inr (.inr ⟨D, rfl, e⟩), k⟩
theorem pick_str {h : Addr} {m : Nat} {G : Hp} {z : Str} {R : VK} (hg : HandAt G h m) (mb : m < 999999) (l0 : 0 < z.length) (l1 : z.length ≤ 1000) (k : ∀ c G', c ∈ z.cps.toList → HandAt G' h (m + 1) → But h G G' → R (.str ⟨#[c]⟩) G') : spPk K [.ref h, .str z] G R E0 := by
  have zl : z.length = (z.cps.toList.map fun c => V.str ⟨#[c]⟩).length := by rw [List.length_map]; simp [Str.length]
  refine ⟨h, m, .str z, _, rfl, hg, by omega, by omega, by omega, .inl ⟨z, rfl, rfl⟩, fun y G2 hy hd2 bt2 => ?_⟩
  obtain ⟨c, hc, rfl⟩ := List.mem_map.mp hy
  exact k c G2 hc hd2 bt2
theorem scPk : FnScope ["_law_box_here", "_law_some"] ["_law_box_here", "_law_some"] (defScope sPk) := ⟨rfl, rfl, rfl, by decide +kernel, rfl, by decide +kernel, by decide +kernel⟩
theorem ok_pick {f fTk : Addr} {fd dTk : FuncData} (F : Fun K "_law_pick" "_law_pick" sPk f fd) (T : Free mg) (FTk : Fun K "_law_take" "_law_take" sTk fTk dTk) (bTk : Binds K dTk ["_law_box_here", "_law_many"] []) (gTk : mg "_law_take" = some (.ref fTk)) :
    FnOk P w K mg base CX0 2 f fd ["_law_box_here", "_law_some"] (spPk K) := by
  have GTk : FnOk P w K mg base CX0 1 fTk dTk ["_law_box_here", "_law_many"] spTake := ok_take FTk
  refine F.ok scPk (fun vs H Q E h => ?_) (fun cdv A outer s H vs Q E hr h => ?_)
  · obtain ⟨h, n, x, ys, rfl, _⟩ := h
    rfl
  · obtain ⟨h, n, x, ys, rfl, hd, nb, l0, l1, sh, k⟩ := h
    rcases sh with ⟨z, rfl, rfl⟩ | ⟨p, rfl, ne, hp⟩ | ⟨p, rfl, hp⟩
    · have zl : z.length = (z.cps.toList.map fun c => V.str ⟨#[c]⟩).length := by rw [List.length_map]; simp [Str.length]
      refine ⟨_, pss_one (ps_ret (pe_ix ix_str (pv 1) (pe_call GTk hr (by rfl) gTk FTk.kp bTk .nil pass0 (pa_cons (pv 0) (pa_cons (pe_callB call_len_str (by rfl) T.len PySem.boot_len (pa_cons (pv 1) pa_nil)) pa_nil))) (fun _ _ => rfl))), ?_⟩
      refine ⟨_, rfl, _, rfl, _, rfl, z, rfl, Nat.le_trans (by omega) (show 1000 ≤ sizeLine by decide), h, n, _, rfl, hd, nb, by omega, by omega, fun r H' r0 r1 hd' bt => ?_⟩
      have rl : r.toNat < z.cps.toList.length := by rw [List.length_map] at zl; omega
      refine ⟨z, r, z.cps.toList[r.toNat], rfl, rfl, Nat.le_trans (by omega) (show 1000 ≤ sizeLine by decide), ?_, ?_⟩
      · have e := atI_nat (xs := z.cps.toList) (j := r.toNat) (List.getElem?_eq_getElem rl)
        rw [Int.toNat_of_nonneg r0] at e
        exact e
      · exact k _ _ (List.mem_map.mpr ⟨_, List.getElem_mem rl, rfl⟩) hd' bt
    · refine ⟨_, pss_one (ps_ret (pe_ix ix_list (pv 1) (pe_call GTk hr (by rfl) gTk FTk.kp bTk .nil pass0 (pa_cons (pv 0) (pa_cons (pe_callB call_len_seq (by rfl) T.len PySem.boot_len (pa_cons (pv 1) pa_nil)) pa_nil))) (fun _ _ => rfl))), ?_⟩
      refine ⟨_, rfl, _, rfl, _, rfl, p, _, rfl, .inl hp, h, n, _, rfl, hd, nb, by omega, by omega, fun r H' r0 r1 hd' bt => ?_⟩
      have rl : r.toNat < ys.length := by omega
      refine ⟨p, _, r, ys[r.toNat], rfl, rfl, bt.seq ne hp, ?_, ?_⟩
      · have e := atI_nat (xs := ys) (j := r.toNat) (List.getElem?_eq_getElem rl)
        rw [Int.toNat_of_nonneg r0] at e
        exact e
      · exact k _ _ (List.getElem_mem rl) hd' bt
    · refine ⟨_, pss_one (ps_ret (pe_ix ix_tup (pv 1) (pe_call GTk hr (by rfl) gTk FTk.kp bTk .nil pass0 (pa_cons (pv 0) (pa_cons (pe_callB call_len_seq (by rfl) T.len PySem.boot_len (pa_cons (pv 1) pa_nil)) pa_nil))) (fun _ _ => rfl))), ?_⟩
      refine ⟨_, rfl, _, rfl, _, rfl, p, _, rfl, .inr hp, h, n, _, rfl, hd, nb, by omega, by omega, fun r H' r0 r1 hd' bt => ?_⟩
      have rl : r.toNat < ys.length := by omega
      refine ⟨p, _, r, ys[r.toNat], rfl, rfl, but_seqT hd bt hp, ?_, ?_⟩
      · have e := atI_nat (xs := ys) (j := r.toNat) (List.getElem?_eq_getElem rl)
        rw [Int.toNat_of_nonneg r0] at e
        exact e
      · exact k _ _ (List.getElem_mem rl) hd' bt
end
end K86
set_option Elab.async false
set_option linter.all false
set_option pp.maxSteps 4000
set_option maxRecDepth 100000
set_option maxHeartbeats 4000000
/-! k86: words, cells, shapes -/
namespace K86
open PySem PySem.Spec PyProof.Rows L2 Bs Xg TL Xm Xs Gn
abbrev sWo : Stmt := top 7
abbrev sCe : Stmt := top 8
abbrev sSh : Stmt := top 9
def letters : Str := Str.ofString "abcdefghijklmnopqrstuvwxyz"
/-- a word: a stem, a letter, a tail -/
def wordAt (stem tail : Str) (f b : Int) (k : Nat) : Str := stem ++ ⟨#[letters.cps.toList.getD ((f + b * k) % 26).toNat 97]⟩ ++ tail
def stems : List Str := ["", "", "o", "row", "tabl", "the", "fil", "qqqqqqq"]
def IsWords (zs : List Str) (n : Nat) : Prop := ∃ (stem tail : Str) (f b : Int), stem ∈ stems ∧ (tail = Str.empty ∨ (tail = Str.ofString "z" ∧ stem.length < 7)) ∧ 0 ≤ f ∧ f < 26 ∧ (b = 1 ∨ b = 5 ∨ b = 7 ∨ b = 25) ∧ zs = (List.range n).map (wordAt stem tail f b)
section
variable {P : Program} {w : World} {K : PySem.W.Frag} {mg : Str → Option Value} {base : Heap} {fTk fPk : Addr} {dTk dPk : FuncData}
abbrev nWo : List Str := ["_law_box_here", "_law_many", "_law_letters", "_law_stem", "_law_first", "_law_by", "_law_tail", "_law_k"]
theorem scWo : FnScope nWo ["_law_box_here", "_law_many"] (defScope sWo) := ⟨rfl, rfl, rfl, by decide +kernel, rfl, by decide +kernel, by decide +kernel⟩
def spWo : Sp := fun vs H Q _ => ∃ (h : Addr) (n many : Nat), vs = [.ref h, .int (many : Int)] ∧ HandAt H h n ∧ n < 990000 ∧ many ≤ 26 ∧
  ∀ (D : Addr) (zs : List Str) (H' : Hp), H D = none → IsWords zs many → H' D = some (.lst (zs.map V.str)) → HandAt H' h (n + 4) → But h H H' → Q (.ref D) H'
theorem ok_words {f : Addr} {fd : FuncData} (F : Fun K "_law_words" "_law_words" sWo f fd) (T : Free mg) (W : HandF K mg fTk fPk dTk dPk) : FnOk P w K mg base CX0 3 f fd ["_law_box_here", "_law_many"] spWo := by
  have GTk : FnOk P w K mg base CX0 1 fTk dTk ["_law_box_here", "_law_many"] spTake := ok_take W.Tk
  have GPk : FnOk P w K mg base CX0 2 fPk dPk ["_law_box_here", "_law_some"] (spPk K) := ok_pick W.Pk T W.Tk W.bTk W.gTk
  have FTk := W.Tk
  have bTk := W.bTk
  have gTk := W.gTk
  have FPk := W.Pk
  have bPk := W.bPk
  have gPk := W.gPk
  refine F.ok scWo (fun vs H Q E h => ?_) (fun cdv A outer s H vs Q E hr h => ?_)
  · obtain ⟨h, n, many, rfl, _⟩ := h
    rfl
  · obtain ⟨h, n, many, rfl, hd, nb, ml, q⟩ := h
    refine ⟨_, pss_cons (ps_set (i := 2) scWo.nd rfl (Or.inr rfl) pe_str)
      (pss_cons (ps_set (i := 3) scWo.nd rfl (Or.inr rfl) (pe_call GPk (hr.mono (by decide)) (by rfl) gPk FPk.kp bPk .nil pass0 (pa_cons (pv 0) (pa_cons (pe_lst (pa_cons pe_str (pa_cons pe_str (pa_cons pe_str (pa_cons pe_str (pa_cons pe_str (pa_cons pe_str (pa_cons pe_str (pa_cons pe_str pa_nil))))))))) pa_nil))))
      (pss_cons (ps_asg (pe_tup (pa_cons (pe_call GTk (hr.mono (by decide)) (by rfl) gTk FTk.kp bTk .nil pass0 (pa_cons (pv 0) (pa_cons pe_int pa_nil))) (pa_cons (pe_call GPk (hr.mono (by decide)) (by rfl) gPk FPk.kp bPk .nil pass0 (pa_cons (pv 0) (pa_cons (pe_lst (pa_cons pe_int (pa_cons pe_int (pa_cons pe_int (pa_cons pe_int pa_nil))))) pa_nil))) pa_nil))) (pg_tup rfl (pgs_cons (pg_name (i := 4) scWo.nd rfl (Or.inr rfl)) (pgs_cons (pg_name (i := 5) scWo.nd rfl (Or.inr rfl)) pgs_nil))))
      (pss_cons (ps_set (i := 6) scWo.nd rfl (Or.inr rfl) (pe_op op_times pe_str (pe_callTy call_int1 (by rfl) T.int (by decide +kernel) (pa_cons (pe_and (pe_cmpR op_lt (pe_callB call_len_str (by rfl) T.len PySem.boot_len (pa_cons (pv 3) pa_nil)) pe_int (nomark _)) (pe_one (pe_cmpR op_eq (pe_call GTk (hr.mono (by decide)) (by rfl) gTk FTk.kp bTk .nil pass0 (pa_cons (pv 0) (pa_cons pe_int pa_nil))) pe_int (nomark _)))) pa_nil))))
      (pss_one (ps_ret (pe_lc (own := [("_law_k", 7)]) (g := gName 7) (tt := tYes) rfl scWo.nd (pi_range1 (by rfl) T.range (pa_cons (pv 1) pa_nil)) (blkOk_by (own := [("_law_k", 7)]) (N := nWo) (sc := defScope sWo) (by decide +kernel)) (fun _ _ _ _ _ => (pg_name (i := 7) scWo.nd rfl (Or.inl rfl))) (fun _ _ _ _ _ => pts_nil) (fun _ _ _ _ _ => (pe_op op_add_str (pe_op op_add_str (pv 3) (pe_ix ix_str (pv 2) (pe_op op_mod (pe_op op_add (pv 4) (pe_op op_mul (pv 5) (pv 7))) pe_int) (fun _ _ => rfl))) (pv 6))))))))), ?_⟩
    refine gN ?_
    try dsimp only
    refine ⟨_, rfl, (show 8 ≤ sizeLine by decide), fun L1 n1 => ?_⟩
    refine pick_lst hd (by omega) n1 (show 0 < 8 by decide) (show 8 ≤ 1000 by decide) (fun y H1 hy hd1 bt1 => ?_)
    obtain ⟨stem, rfl, hst⟩ : ∃ stem : Str, y = .str stem ∧ stem ∈ stems := by
      have : y ∈ stems.map V.str := hy
      obtain ⟨z, hz, rfl⟩ := List.mem_map.mp this
      exact ⟨z, rfl, hz⟩
    clear hy
    refine gN ?_
    try dsimp only
    refine ⟨_, rfl, h, n + 1, 26, rfl, hd1, by omega, by decide, by decide, fun r H2 r0 r1 hd2 bt2 => ?_⟩
    refine ⟨_, rfl, (show 4 ≤ sizeLine by decide), fun L2 n2 => pick_lst hd2 (by omega) n2 (show 0 < 4 by decide) (show 4 ≤ 1000 by decide) (fun y H3 hy hd3 bt3 => ?_)⟩
    obtain ⟨b, rfl, hb⟩ : ∃ b : Int, y = .int b ∧ (b = 1 ∨ b = 5 ∨ b = 7 ∨ b = 25) := by
      simp only [List.mem_cons, List.not_mem_nil, or_false] at hy
      rcases hy with rfl | rfl | rfl | rfl
      · exact ⟨1, rfl, .inl rfl⟩
      · exact ⟨5, rfl, .inr (.inl rfl)⟩
      · exact ⟨7, rfl, .inr (.inr (.inl rfl))⟩
      · exact ⟨25, rfl, .inr (.inr (.inr rfl))⟩
    clear hy
    refine ⟨(show 2 ≤ sizeLine by decide), fun t1 m1 => newO m1 fun H4 s4 e4 => ?_⟩
    refine ⟨t1, [.int r, .int b], rfl, SqT.of e4, rfl, _, _, rfl, gN ⟨_, _, rfl, gN ⟨rfl, ?_⟩⟩⟩
    try dsimp only
    have b4 : But h H H4 := ((bt1.trans bt2).trans bt3).trans (But.of s4)
    have hd4 := hd3.mono s4 (Nat.le_refl _)
    have gst : Good 7 stem := by
      unfold stems at hst
      simp only [List.mem_cons, List.not_mem_nil, or_false] at hst
      rcases hst with rfl | rfl | rfl | rfl | rfl | rfl | rfl | rfl <;> constructor <;> decide +kernel
    refine cutA (fun v H' => ∃ tail : Str, v = .str tail ∧ (tail = Str.empty ∨ (tail = Str.ofString "z" ∧ stem.length < 7)) ∧ HandAt H' h (n + 4) ∧ But h H4 H') (fun Q' q' => ?_) ?_
    · have fin : ∀ (c : Bool) (H' : Hp), (c = true → stem.length < 7) → HandAt H' h (n + 4) → But h H4 H' → ∃ (a : Str) (k : Int), V.str (Str.ofString "z") = V.str a ∧ V.int (if c = true then (1 : Int) else 0) = V.int k ∧ -1000 ≤ k ∧ k ≤ 1000 ∧ a.length ≤ 1000 ∧ Q' (V.str (timesS a k)) H' := by
        intro c H' hc hh bb
        refine ⟨_, _, rfl, rfl, ?_, ?_, by decide +kernel, ?_⟩
        · cases c <;> decide
        · cases c <;> decide
        · cases c with
          | false => exact q' _ _ ⟨_, rfl, .inl (by unfold timesS; rw [if_pos (by decide)]), hh, bb⟩
          | true => exact q' _ _ ⟨_, rfl, .inr ⟨by unfold timesS; rw [if_neg (by decide), if_pos (by rfl)], hc rfl⟩, hh, bb⟩
      refine ⟨_, rfl, stem, rfl, Nat.le_trans gst.1 (by decide), _, _, rfl, rfl, _, rfl, ?_⟩
      by_cases c : ((stem.length : Nat) : Int) < 7
      · rw [decide_eq_true c]
        refine iteT ?_
        refine ⟨_, rfl, h, n + 1 + 1 + 1, 4, rfl, hd4, by omega, by decide, by decide, fun r2 H5 _ _ hd5 bt5 => ?_⟩
        exact ⟨rfl, .inr ⟨_, rfl, fin _ H5 (fun _ => by omega) (hd5.up (by omega)) bt5⟩⟩
      · rw [decide_eq_false c]
        refine iteF ?_
        exact .inr ⟨false, rfl, fin false H4 (fun z => by cases z) (hd4.up (by omega)) (But.refl _ _)⟩
    · rintro v H5 ⟨tail, rfl, ht, hd5, bt5⟩
      refine gN ?_
      try dsimp only
      have gt : Good 1 tail := by
        rcases ht with rfl | ⟨rfl, _⟩ <;> constructor <;> decide +kernel
      refine ⟨_, rfl, (many : Int), rfl, by omega, by omega, fun D nD => ?_⟩
      refine lc_val (walk_range (lo := 0) (n := (many : Int).toNat)) (Z := fun j x => x = V.int (0 + (j : Int))) (fun j => V.str (wordAt stem tail r b j)) nD (fun j G x G' e => ⟨e.1, e.2⟩) (fun _ _ => trivial) (by omega) (fun _ => rfl) ?_ ?_
      · rintro j x G Q2 hj rfl sG kk
        rw [Int.zero_add (j : Int)]
        have i0 := Int.emod_nonneg (r + b * j) (show (26 : Int) ≠ 0 by decide)
        have i1 := Int.emod_lt_of_pos (r + b * j) (show (0 : Int) < 26 by decide)
        have ll : letters.cps.toList.length = 26 := by decide +kernel
        have il : ((r + b * j) % 26).toNat < letters.cps.toList.length := by omega
        have ea : atI letters.cps.toList ((r + b * j) % 26) = some (letters.cps.toList.getD ((r + b * j) % 26).toNat 97) := by
          have e := atI_nat (xs := letters.cps.toList) (j := ((r + b * j) % 26).toNat) (v := letters.cps.toList.getD ((r + b * j) % 26).toNat 97) (by rw [List.getD_eq_getElem?_getD, List.getElem?_eq_getElem il]; rfl)
          rw [Int.toNat_of_nonneg i0] at e
          exact e
        have bB : -(2 ^ 64) < b ∧ b < 2 ^ 64 := by omega
        have l1 := gst.1
        have l2 := gt.1
        have l3 : (⟨#[letters.cps.toList.getD ((r + b * j) % 26).toNat 97]⟩ : Str).length = 1 := rfl
        have gc : Good 1 (⟨#[letters.cps.toList.getD ((r + b * j) % 26).toNat 97]⟩ : Str) := by
          refine ⟨Nat.le_of_eq l3, fun c hc => ?_⟩
          have hc' : c = letters.cps.toList.getD ((r + b * j) % 26).toNat 97 := by simpa using hc
          have m : c ∈ letters.cps.toList := by
            rw [hc', List.getD_eq_getElem?_getD, List.getElem?_eq_getElem il]
            exact List.getElem_mem il
          have al : ∀ c ∈ letters.cps.toList, 32 ≤ c ∧ c < 127 := by decide +kernel
          exact al c m
        have g8 := gst.app gc
        refine ⟨_, rfl, _, rfl, _, rfl, _, rfl, _, rfl, _, _, rfl, rfl, .inl bB, _, _, rfl, rfl, _, _, rfl, rfl, (by decide : (0 : Int) < 26), letters, _, _, rfl, rfl, by decide +kernel, ea, _, _, rfl, rfl, by rw [sizeLine_eq]; omega, _, rfl, _, _, rfl, rfl, ?_, kk _ (Same.refl _)⟩
        have := g8.1
        rw [sizeLine_eq]
        omega
      · intro G sG eD
        have em : ((many : Int)).toNat = many := by omega
        rw [em] at eD
        have eD' : G D = some (.lst (((List.range many).map (wordAt stem tail r b)).map V.str)) := by
          rw [List.map_map]
          exact eD
        have nD0 : H D = none := by
          cases e : H D with
          | none => rfl
          | some o =>
            have nh : D ≠ h := (hd5.fresh nD).symm
            rw [bt5 D o nh (b4 D o nh e)] at nD
            cases nD
        exact q D _ G nD0 ⟨stem, tail, r, b, hst, ht, r0, r1, hb, rfl⟩ eD' (hd5.mono sG (Nat.le_refl _)) ((b4.trans bt5).trans (But.of sG))
/-- words are short and plain -/
theorem words_good {zs : List Str} {n : Nat} (h : IsWords zs n) : ∀ z ∈ zs, Good 9 z := by
  obtain ⟨stem, tail, r, b, hst, ht, r0, r1, hb, rfl⟩ := h
  intro z hz
  obtain ⟨j, _, rfl⟩ := List.mem_map.mp hz
  have gst : Good 7 stem := by
    unfold stems at hst
    simp only [List.mem_cons, List.not_mem_nil, or_false] at hst
    rcases hst with rfl | rfl | rfl | rfl | rfl | rfl | rfl | rfl <;> constructor <;> decide +kernel
  have gt : Good 1 tail := by
    rcases ht with rfl | ⟨rfl, _⟩ <;> constructor <;> decide +kernel
  have i0 := Int.emod_nonneg (r + b * j) (show (26 : Int) ≠ 0 by decide)
  have i1 := Int.emod_lt_of_pos (r + b * j) (show (0 : Int) < 26 by decide)
  have ll : letters.cps.toList.length = 26 := by decide +kernel
  have il : ((r + b * j) % 26).toNat < letters.cps.toList.length := by omega
  have gc : Good 1 (⟨#[letters.cps.toList.getD ((r + b * j) % 26).toNat 97]⟩ : Str) := by
    refine ⟨Nat.le_refl _, fun c hc => ?_⟩
    have hc' : c = letters.cps.toList.getD ((r + b * j) % 26).toNat 97 := by simpa using hc
    have m : c ∈ letters.cps.toList := by
      rw [hc', List.getD_eq_getElem?_getD, List.getElem?_eq_getElem il]
      exact List.getElem_mem il
    have al : ∀ c ∈ letters.cps.toList, 32 ≤ c ∧ c < 127 := by decide +kernel
    exact al c m
  exact (gst.app gc).app gt
theorem words_len {zs : List Str} {n : Nat} (h : IsWords zs n) : zs.length = n := by
  obtain ⟨stem, tail, r, b, _, _, _, _, _, rfl⟩ := h
  simp
def cells : List Str := ["a", "b", "a-b", "b-a", "1", "-2", "007", "1.5", "2024-02-29", "29.2.2024", "x y", "a-b-a"]
theorem scCe : FnScope [] [] (defScope sCe) := ⟨rfl, rfl, rfl, by decide +kernel, rfl, by decide +kernel, by decide +kernel⟩
def spCe : Sp := fun vs H Q _ => vs = [] ∧ ∀ D, H D = none → Q (.ref D) (upd H D (.lst (cells.map V.str)))
theorem ok_cells {f : Addr} {fd : FuncData} (F : Fun K "_law_cells" "_law_cells" sCe f fd) : FnOk P w K mg base CX0 1 f fd [] spCe := by
  refine F.ok scCe (fun vs H Q E h => ?_) (fun cdv A outer s H vs Q E hr h => ?_)
  · obtain ⟨rfl, _⟩ := h
    rfl
  · obtain ⟨rfl, q⟩ := h
    refine ⟨_, pss_one (ps_ret (pe_lst (pa_cons pe_str (pa_cons pe_str (pa_cons pe_str (pa_cons pe_str (pa_cons pe_str (pa_cons pe_str (pa_cons pe_str (pa_cons pe_str (pa_cons pe_str (pa_cons pe_str (pa_cons pe_str (pa_cons pe_str pa_nil)))))))))))))), ?_⟩
    exact ⟨(show 12 ≤ sizeLine by decide), fun D nD => q D nD⟩
/-- what a shape shows of its names -/
def IsShape (K : PySem.W.Frag) (H : Hp) (v : V) (names : List Str) : Prop := ∃ (a t : Addr) (pre : List V), v = .ref a ∧ H a = some (.tup (pre ++ [.ref t])) ∧ H t = some (.tup (names.map V.str)) ∧ ((∃ s q : Str, pre = [.str "signs", .str s, .str q] ∧ Good 1 s ∧ Good 1 q) ∨ (∃ s : Str, pre = [.str "named", .str s] ∧ Good 1 s) ∨
  ∃ (u : Addr) (ws : List Int), pre = [.str "places", .ref u] ∧ H u = some (.tup (ws.map V.int)) ∧ ws.length = names.length ∧ ∀ w ∈ ws, 0 ≤ w ∧ w < 100)
abbrev nSh : List Str := ["_law_box_here", "_law_names", "_law_lot", "_law_sign", "_law_quote", "_law_name"]
theorem scSh : FnScope nSh ["_law_box_here", "_law_names"] (defScope sSh) := ⟨rfl, rfl, rfl, by decide +kernel, rfl, by decide +kernel, by decide +kernel⟩
def spSh (K : PySem.W.Frag) : Sp := fun vs H Q _ => ∃ (h L : Addr) (n : Nat) (names : List Str), vs = [.ref h, .ref L] ∧ HandAt H h n ∧ n < 990000 ∧ H L = some (.lst (names.map V.str)) ∧ L ≠ h ∧ 1 ≤ names.length ∧ names.length ≤ 6 ∧
  ∀ (v : V) (H' : Hp), IsShape K H' v names → HandAt H' h (n + 10) → But h H H' → Q v H'
theorem ok_shape {f : Addr} {fd : FuncData} (F : Fun K "_law_shape" "_law_shape" sSh f fd) (T : Free mg) (W : HandF K mg fTk fPk dTk dPk) : FnOk P w K mg base CX0 3 f fd ["_law_box_here", "_law_names"] (spSh K) := by
  have GTk : FnOk P w K mg base CX0 1 fTk dTk ["_law_box_here", "_law_many"] spTake := ok_take W.Tk
  have GPk : FnOk P w K mg base CX0 2 fPk dPk ["_law_box_here", "_law_some"] (spPk K) := ok_pick W.Pk T W.Tk W.bTk W.gTk
  have FTk := W.Tk
  have bTk := W.bTk
  have gTk := W.gTk
  have FPk := W.Pk
  have bPk := W.bPk
  have gPk := W.gPk
  refine F.ok scSh (fun vs H Q E h => ?_) (fun cdv A outer s H vs Q E hr h => ?_)
  · obtain ⟨h, L, n, names, rfl, _⟩ := h
    rfl
  · obtain ⟨h, L, n, names, rfl, hd, nb, eL, nL, l1, l6, q⟩ := h
    refine ⟨_, pss_cons (ps_set (i := 2) scSh.nd rfl (Or.inl rfl) (pe_call GTk (hr.mono (by decide)) (by rfl) gTk FTk.kp bTk .nil pass0 (pa_cons (pv 0) (pa_cons pe_int pa_nil))))
      (pss_cons (ps_if (pt_cmpR op_lt (pv 2) pe_int (nomark _)) (pss_cons (ps_par (i := 3) (j := 4) rfl scSh.nd rfl rfl (by decide) rfl rfl (pa_cons (pe_call GPk (hr.mono (by decide)) (by rfl) gPk FPk.kp bPk .nil pass0 (pa_cons (pv 0) (pa_cons pe_str pa_nil))) (pa_cons (pe_call GPk (hr.mono (by decide)) (by rfl) gPk FPk.kp bPk .nil pass0 (pa_cons (pv 0) (pa_cons pe_str pa_nil))) pa_nil)) (by rfl))
      (pss_one (ps_ret (pe_tup (pa_cons pe_str (pa_cons (pv 3) (pa_cons (pv 4) (pa_cons (pe_callTy call_tuple_of (by rfl) T.tuple (by decide +kernel) (pa_cons (pv 1) pa_nil)) pa_nil)))))))) (pss_nil))
      (pss_cons (ps_if (pt_cmpR op_eq (pv 2) pe_int (nomark _)) (pss_one (ps_ret (pe_tup (pa_cons pe_str (pa_cons (pe_callTy call_tuple_of (by rfl) T.tuple (by decide +kernel) (pa_cons (pe_lc (own := [("_law_name", 5)]) (g := gName 5) (tt := tYes) rfl scSh.nd (pi_list (pv 1)) (blkOk_by (own := [("_law_name", 5)]) (N := nSh) (sc := defScope sSh) (by decide +kernel)) (fun _ _ _ _ _ => (pg_name (i := 5) scSh.nd rfl (Or.inl rfl))) (fun _ _ _ _ _ => pts_nil) (fun _ _ _ _ _ => (pe_op op_add pe_int (pe_call GTk (hr.mono (by decide)) (by rfl) gTk FTk.kp bTk .nil pass0 (pa_cons (pv 0) (pa_cons pe_int pa_nil)))))) pa_nil)) (pa_cons (pe_callTy call_tuple_of (by rfl) T.tuple (by decide +kernel) (pa_cons (pv 1) pa_nil)) pa_nil)))))) (pss_nil))
      (pss_one (ps_ret (pe_tup (pa_cons pe_str (pa_cons (pe_call GPk (hr.mono (by decide)) (by rfl) gPk FPk.kp bPk .nil pass0 (pa_cons (pv 0) (pa_cons pe_str pa_nil))) (pa_cons (pe_callTy call_tuple_of (by rfl) T.tuple (by decide +kernel) (pa_cons (pv 1) pa_nil)) pa_nil)))))))), ?_⟩
    have g1 : ∀ (z : Str), (∀ c ∈ z.cps.toList, 32 ≤ c ∧ c < 127) → ∀ c ∈ z.cps.toList, Good 1 (⟨#[c]⟩ : Str) := fun z hz c hc => ⟨Nat.le_refl _, fun d hd => by
      have e : d = c := by simpa using hd
      rw [e]
      exact hz c hc⟩
    refine ⟨_, rfl, h, n, 4, rfl, hd, by omega, by decide, by decide, fun r H1 r0 r1 hd1 bt1 => ?_⟩
    have eL1 := bt1 L _ nL eL
    refine gN ?_
    try dsimp only
    refine ⟨_, rfl, _, _, rfl, rfl, _, rfl, ?_⟩
    by_cases c2 : r < 2
    · rw [decide_eq_true c2]
      refine iteT ?_
      refine ⟨_, rfl, pick_str hd1 (by omega) (by decide +kernel) (by decide +kernel) (fun a H2 ha hd2 bt2 => ?_)⟩
      refine ⟨_, rfl, pick_str hd2 (by omega) (by decide +kernel) (by decide +kernel) (fun b H3 hb hd3 bt3 => ?_)⟩
      refine ⟨_, _, rfl, ?_⟩
      unfold tRet
      dsimp only
      have eL3 := bt3 L _ nL (bt2 L _ nL eL1)
      refine ⟨_, rfl, _, rfl, _, rfl, L, _, rfl, .inl ⟨SqL.of eL3, fun t m1 => newO m1 fun H4 s4 e4 => ⟨(show 4 ≤ sizeLine by decide), fun p m2 => newO m2 fun H5 s5 e5 => ?_⟩⟩⟩
      exact q _ H5 ⟨p, t, _, rfl, e5, s5 _ _ e4, .inl ⟨_, _, rfl, g1 _ (by decide +kernel) a ha, g1 _ (by decide +kernel) b hb⟩⟩ ((hd3.mono (s4.trans s5) (Nat.le_refl _)).up (by omega)) (((bt1.trans bt2).trans bt3).trans (But.of (s4.trans s5)))
    · rw [decide_eq_false c2]
      refine iteF ?_
      unfold tNext
      dsimp only
      refine ⟨_, rfl, rfl, _, rfl, ?_⟩
      by_cases c3 : V.int r = V.int 2
      · rw [decide_eq_true c3]
        refine iteT ?_
        unfold tRet
        dsimp only
        refine ⟨_, rfl, L, rfl, ⟨_, SqL.of eL1⟩, fun D nD => ?_⟩
        have ln : (names.map V.str).length = names.length := List.length_map ..
        refine lc_map (walk_list (K := K) (a := L) (xs := names.map V.str)) (h := h) (Z := fun j x => True) (fun j G => HandAt G h (n + 1 + j)) (fun _ y _ => ∃ i : Int, y = V.int i ∧ 0 ≤ i ∧ i < 100) nD (hd1.fresh nD).symm (fun j G x G' e => ⟨e.1, trivial⟩) (fun G bG => bG.seq nL (SqL.of eL1)) (fun _ _ _ _ _ _ e => e) (by omega) (fun _ => rfl) hd1 (fun j G l a => a.old (hd1.fresh nD)) ?_ ?_
        · rintro j x G Q2 hj _ btG hdG _ kk
          refine ⟨_, rfl, h, n + 1 + j, 4, rfl, hdG, by omega, by decide, by decide, fun i G2 i0 i1 hd2 bt2 => ⟨_, _, rfl, rfl, kk _ _ bt2 hd2 ⟨_, rfl, by omega, by omega⟩⟩⟩
        · rintro G ys btG hdG eD ly hw
          have eLG := btG L _ nL eL1
          obtain ⟨ws, rfl, hws⟩ : ∃ ws : List Int, ys = ws.map V.int ∧ ∀ i ∈ ws, 0 ≤ i ∧ i < 100 := by
            have : ∀ ys : List V, (∀ (j : Nat) (y : V), ys[j]? = some y → ∃ i : Int, y = V.int i ∧ 0 ≤ i ∧ i < 100) → ∃ ws : List Int, ys = ws.map V.int ∧ ∀ i ∈ ws, 0 ≤ i ∧ i < 100 := by
              intro ys
              induction ys with
              | nil => intro _; exact ⟨[], rfl, by simp⟩
              | cons y ys ih =>
                intro hh
                obtain ⟨i, rfl, hi⟩ := hh 0 y rfl
                obtain ⟨ws, rfl, hw2⟩ := ih fun j y hy => hh (j + 1) y (by simpa using hy)
                exact ⟨i :: ws, rfl, fun x hx => (List.mem_cons.mp hx).elim (fun e => e ▸ hi) (hw2 x)⟩
            exact this ys hw
          refine ⟨D, _, rfl, .inl ⟨SqL.of eD, fun u m1 => newO m1 fun H4 s4 e4 => ?_⟩⟩
          refine ⟨_, rfl, L, _, rfl, .inl ⟨SqL.of (s4 _ _ eLG), fun t m2 => newO m2 fun H5 s5 e5 => ⟨(show 3 ≤ sizeLine by decide), fun p m3 => newO m3 fun H6 s6 e6 => ?_⟩⟩⟩
          have s46 := (s4.trans s5).trans s6
          exact q _ H6 ⟨p, t, _, rfl, e6, s6 _ _ e5, .inr (.inr ⟨u, ws, rfl, s6 _ _ (s5 _ _ e4), by rw [List.length_map] at ly; omega, hws⟩)⟩ ((hdG.mono s46 (Nat.le_refl _)).up (by omega)) ((bt1.trans btG).trans (But.of s46))
      · rw [decide_eq_false c3]
        refine iteF ?_
        unfold tRet
        dsimp only
        refine ⟨_, rfl, pick_str hd1 (by omega) (by decide +kernel) (by decide +kernel) (fun a H2 ha hd2 bt2 => ?_)⟩
        have eL3 := bt2 L _ nL eL1
        refine ⟨_, rfl, L, _, rfl, .inl ⟨SqL.of eL3, fun t m1 => newO m1 fun H4 s4 e4 => ⟨(show 3 ≤ sizeLine by decide), fun p m2 => newO m2 fun H5 s5 e5 => ?_⟩⟩⟩
        exact q _ H5 ⟨p, t, _, rfl, e5, s5 _ _ e4, .inr (.inl ⟨_, rfl, g1 _ (by decide +kernel) a ha⟩)⟩ ((hd2.mono (s4.trans s5) (Nat.le_refl _)).up (by omega)) ((bt1.trans bt2).trans (But.of (s4.trans s5)))
end
end K86
set_option Elab.async false
set_option linter.all false
set_option pp.maxSteps 4000
set_option maxRecDepth 100000
set_option maxHeartbeats 4000000
/-! k86: worths, forms, wishes, puts, spells -/
namespace K86
open PySem PySem.Spec PyProof.Rows L2 Bs Xg TL Xm Xs Gn
abbrev sWr : Stmt := top 10
abbrev sFo : Stmt := top 11
abbrev sWi : Stmt := top 12
abbrev sPu : Stmt := top 13
abbrev sSp : Stmt := top 14
theorem r80 {k : Nat} {A : Around} (r : Room k A) : A.units + 80 < cLine := by have := r.un; omega
def kw (b : Bool) : Str := if b then Str.ofString "text" else Str.ofString "number"
/-- a list of columns and kinds -/
def KnownAt (H : Hp) (D : Addr) (kn : List (Str × Bool)) : Prop := ∃ ts : List Addr, ts.length = kn.length ∧ H D = some (.lst (ts.map V.ref)) ∧ ∀ (j : Nat) (t : Addr) (c : Str × Bool), ts[j]? = some t → kn[j]? = some c → H t = some (.tup [.str c.1, .str (kw c.2)])
def WorthOk (b : Bool) (v : V) : Prop := if b then ∃ z ∈ cells, v = .str z else ∃ i : Int, v = .int i ∧ i.natAbs < 10 ^ 7
def FormOk (vs : List V) : Prop := vs = [.str "whole"] ∨ (∃ m : Int, vs = [.str "amount", .int m] ∧ 1 ≤ m ∧ m ≤ 4) ∨ ∃ o : Str, vs = [.str "day", .str o] ∧ (o = Str.ofString "ymd" ∨ o = Str.ofString "dmy" ∨ o = Str.ofString "mdy")
inductive Dd where
  | cut (col : Str) (s : Str) (news : List Str)
  | glue (cols : List Str) (s new : Str)
  | spell (col : Str) (ps : List (Str × Option Str))
  | read (col : Str) (fv : List V) (new : Str)
  | put (col : Str) (v : V)
  | within (col : Str) (lo hi : V)
  | among (col : Str) (xs : List V)
  | before (col c2 : Str)
  | given (col : Str)
  | fill (col : Str) (keys : List Str)
def osV : Option Str → V
  | none => .non
  | some z => .str z
def PairsAt (H : Hp) (a : Addr) (ps : List (Str × Option Str)) : Prop := ∃ qs : List Addr, qs.length = ps.length ∧ H a = some (.tup (qs.map V.ref)) ∧ ∀ (j : Nat) (q : Addr) (p : Str × Option Str), qs[j]? = some q → ps[j]? = some p → H q = some (.tup [.str p.1, osV p.2])
/-- what stands behind a step's name -/
def Dd.At (H : Hp) (vs : List V) : Dd → Prop
  | .cut col s news => ∃ t, vs = [.str "cut", .str col, .str s, .ref t] ∧ H t = some (.tup (news.map V.str))
  | .glue cols s new => ∃ t, vs = [.str "glue", .ref t, .str s, .str new] ∧ H t = some (.tup (cols.map V.str))
  | .spell col ps => ∃ t, vs = [.str "spell", .str col, .ref t] ∧ PairsAt H t ps
  | .read col fv new => ∃ t, vs = [.str "read", .str col, .ref t, .str new] ∧ H t = some (.tup fv)
  | .put col v => vs = [.str "put", .str col, v]
  | .within col lo hi => vs = [.str "within", .str col, lo, hi]
  | .among col xs => ∃ t, vs = [.str "among", .str col, .ref t] ∧ H t = some (.tup xs)
  | .before col c2 => vs = [.str "before", .str col, .str c2]
  | .given col => vs = [.str "given", .str col]
  | .fill col keys => ∃ t, vs = [.str "fill", .str col, .ref t] ∧ H t = some (.tup (keys.map V.str))
/-- well typed by these columns, and small -/
def Dd.wt (kn : List (Str × Bool)) : Dd → Prop
  | .cut col s news => (col, true) ∈ kn ∧ Good 1 s ∧ news.length ≤ 4 ∧ 2 ≤ news.length ∧ ∀ z ∈ news, Good 9 z
  | .glue cols s new => (∀ c ∈ cols, (c, true) ∈ kn) ∧ 1 ≤ cols.length ∧ cols.length ≤ 4 ∧ Good 1 s ∧ Good 9 new
  | .spell col ps => (col, true) ∈ kn ∧ ps.length ≤ 4 ∧ ∀ p ∈ ps, Good 12 p.1 ∧ ∀ z, p.2 = some z → Good 12 z
  | .read col fv new => (col, true) ∈ kn ∧ FormOk fv ∧ Good 9 new
  | .put col v => ∃ k, (col, k) ∈ kn ∧ WorthOk k v
  | .within col lo hi => ∃ k, (col, k) ∈ kn ∧ WorthOk k lo ∧ WorthOk k hi
  | .among col xs => ∃ k, (col, k) ∈ kn ∧ xs.length ≤ 3 ∧ ∀ x ∈ xs, WorthOk k x
  | .before col c2 => ∃ k, (col, k) ∈ kn ∧ (c2, k) ∈ kn
  | .given col => ∃ k, (col, k) ∈ kn
  | .fill col keys => (∃ k, (col, k) ∈ kn) ∧ keys.length ≤ 4 ∧ ∀ c ∈ keys, ∃ k, (c, k) ∈ kn
/-- names of columns are short -/
def Short (kn : List (Str × Bool)) : Prop := kn ≠ [] ∧ kn.length ≤ 40 ∧ ∀ c ∈ kn, Good 9 c.1
structure GenF (K : PySem.W.Frag) (mg : Str → Option Value) (fCe fWr fFo : Addr) (dCe dWr dFo : FuncData) : Prop where
  Ce : Fun K "_law_cells" "_law_cells" sCe fCe dCe
  bCe : Binds K dCe [] []
  gCe : mg "_law_cells" = some (.ref fCe)
  Wr : Fun K "_law_worth" "_law_worth" sWr fWr dWr
  bWr : Binds K dWr ["_law_box_here", "_law_kind"] []
  gWr : mg "_law_worth" = some (.ref fWr)
  Fo : Fun K "_law_form" "_law_form" sFo fFo dFo
  bFo : Binds K dFo ["_law_box_here"] []
  gFo : mg "_law_form" = some (.ref fFo)
section
variable {P : Program} {w : World} {K : PySem.W.Frag} {mg : Str → Option Value} {base : Heap} {fTk fPk : Addr} {dTk dPk : FuncData} {fCe fWr fFo : Addr} {dCe dWr dFo : FuncData}
theorem scWr : FnScope ["_law_box_here", "_law_kind"] ["_law_box_here", "_law_kind"] (defScope sWr) := ⟨rfl, rfl, rfl, by decide +kernel, rfl, by decide +kernel, by decide +kernel⟩
def spWr : Sp := fun vs H Q _ => ∃ (h : Addr) (n : Nat) (b : Bool), vs = [.ref h, .str (kw b)] ∧ HandAt H h n ∧ n < 990000 ∧ ∀ (v : V) (H' : Hp), WorthOk b v → HandAt H' h (n + 2) → But h H H' → Q v H'
theorem ok_worth {f : Addr} {fd : FuncData} (F : Fun K "_law_worth" "_law_worth" sWr f fd) (T : Free mg) (W : HandF K mg fTk fPk dTk dPk) (FCe : Fun K "_law_cells" "_law_cells" sCe fCe dCe) (bCe : Binds K dCe [] []) (gCe : mg "_law_cells" = some (.ref fCe)) : FnOk P w K mg base CX0 3 f fd ["_law_box_here", "_law_kind"] spWr := by
  have GTk : FnOk P w K mg base CX0 1 fTk dTk ["_law_box_here", "_law_many"] spTake := ok_take W.Tk
  have GPk : FnOk P w K mg base CX0 2 fPk dPk ["_law_box_here", "_law_some"] (spPk K) := ok_pick W.Pk T W.Tk W.bTk W.gTk
  have GCe : FnOk P w K mg base CX0 1 fCe dCe [] spCe := ok_cells FCe
  have FTk := W.Tk
  have bTk := W.bTk
  have gTk := W.gTk
  have FPk := W.Pk
  have bPk := W.bPk
  have gPk := W.gPk
  refine F.ok scWr (fun vs H Q E h => ?_) (fun cdv A outer s H vs Q E hr h => ?_)
  · obtain ⟨h, n, b, rfl, _⟩ := h
    rfl
  · obtain ⟨h, n, b, rfl, hd, nb, q⟩ := h
    refine ⟨_, pss_cons (ps_if (pt_cmpR op_eq (pv 1) pe_str (nomark _)) (pss_one (ps_ret (pe_call GPk (hr.mono (by decide)) (by rfl) gPk FPk.kp bPk .nil pass0 (pa_cons (pv 0) (pa_cons (pe_call0 GCe (hr.mono (by decide)) (by rfl) gCe FCe.kp bCe .nil pass0) pa_nil))))) (pss_nil))
      (pss_one (ps_ret (pe_call GPk (hr.mono (by decide)) (by rfl) gPk FPk.kp bPk .nil pass0 (pa_cons (pv 0) (pa_cons (pe_lst (pa_cons pe_int (pa_cons pe_int (pa_cons (pe_un un_neg pe_int) (pa_cons pe_int (pa_cons pe_int (pa_cons pe_int (pa_cons pe_int (pa_cons (pe_call GTk (hr.mono (by decide)) (by rfl) gTk FTk.kp bTk .nil pass0 (pa_cons (pv 0) (pa_cons pe_int pa_nil))) pa_nil))))))))) pa_nil))))), ?_⟩
    refine ⟨_, rfl, rfl, _, rfl, ?_⟩
    cases b with
    | true =>
      rw [decide_eq_true (show V.str (kw true) = V.str "text" from rfl)]
      refine iteT ?_
      unfold tRet
      dsimp only
      refine ⟨_, rfl, ⟨rfl, fun D nD => ?_⟩⟩
      refine pick_lst hd (by omega) nD (show 0 < 12 by decide) (show 12 ≤ 1000 by decide) (fun y H1 hy hd1 bt1 => ?_)
      obtain ⟨z, hz, rfl⟩ := List.mem_map.mp hy
      exact q _ _ ⟨z, hz, rfl⟩ (hd1.up (by omega)) bt1
    | false =>
      rw [decide_eq_false (show ¬ V.str (kw false) = V.str "text" from by decide +kernel)]
      refine iteF ?_
      unfold tNext
      dsimp only
      refine ⟨_, rfl, _, rfl, _, rfl, h, n, 1000, rfl, hd, by omega, by decide, by decide, fun r H1 r0 r1 hd1 bt1 => ?_⟩
      refine ⟨(show 8 ≤ sizeLine by decide), fun D nD => ?_⟩
      refine pick_lst hd1 (by omega) nD (show 0 < 8 by decide) (show 8 ≤ 1000 by decide) (fun y H2 hy hd2 bt2 => ?_)
      simp only [List.mem_cons, List.not_mem_nil, or_false] at hy
      refine q _ _ ?_ (hd2.up (by omega)) (bt1.trans bt2)
      rcases hy with rfl | rfl | rfl | rfl | rfl | rfl | rfl | rfl
      all_goals first | exact ⟨_, rfl, by decide⟩ | exact ⟨_, rfl, by omega⟩
theorem scFo : FnScope ["_law_box_here", "_law_lot"] ["_law_box_here"] (defScope sFo) := ⟨rfl, rfl, rfl, by decide +kernel, rfl, by decide +kernel, by decide +kernel⟩
def spFo : Sp := fun vs H Q _ => ∃ (h : Addr) (n : Nat), vs = [.ref h] ∧ HandAt H h n ∧ n < 990000 ∧ ∀ (p : Addr) (fv : List V) (H' : Hp), FormOk fv → H' p = some (.tup fv) → HandAt H' h (n + 1) → But h H H' → Q (.ref p) H'
theorem ok_form {f : Addr} {fd : FuncData} (F : Fun K "_law_form" "_law_form" sFo f fd) (W : HandF K mg fTk fPk dTk dPk) : FnOk P w K mg base CX0 2 f fd ["_law_box_here"] spFo := by
  have GTk : FnOk P w K mg base CX0 1 fTk dTk ["_law_box_here", "_law_many"] spTake := ok_take W.Tk
  have FTk := W.Tk
  have bTk := W.bTk
  have gTk := W.gTk
  refine F.ok scFo (fun vs H Q E h => ?_) (fun cdv A outer s H vs Q E hr h => ?_)
  · obtain ⟨h, n, rfl, _⟩ := h
    rfl
  · obtain ⟨h, n, rfl, hd, nb, q⟩ := h
    refine ⟨_, pss_cons (ps_set (i := 1) scFo.nd rfl (Or.inl rfl) (pe_call GTk (hr.mono (by decide)) (by rfl) gTk FTk.kp bTk .nil pass0 (pa_cons (pv 0) (pa_cons pe_int pa_nil))))
      (pss_cons (ps_if (pt_cmpR op_lt (pv 1) pe_int (nomark _)) (pss_one (ps_ret (pe_tup (pa_cons pe_str pa_nil)))) (pss_nil))
      (pss_one (ps_ret (pe_ifExp (pt_cmpR op_lt (pv 1) pe_int (nomark _)) (pe_tup (pa_cons pe_str (pa_cons (pe_op op_sub (pv 1) pe_int) pa_nil))) (pe_tup (pa_cons pe_str (pa_cons (pe_ix (ix_listK (K := K) rfl) (pe_lst (pa_cons pe_str (pa_cons pe_str (pa_cons pe_str pa_nil)))) (pe_op op_sub (pv 1) pe_int) (fun _ _ => rfl)) pa_nil))))))), ?_⟩
    refine ⟨_, rfl, h, n, 8, rfl, hd, by omega, by decide, by decide, fun r H1 r0 r1 hd1 bt1 => ?_⟩
    refine gN ?_
    try dsimp only
    refine ⟨_, rfl, _, _, rfl, rfl, _, rfl, ?_⟩
    by_cases c3 : r < 3
    · rw [decide_eq_true c3]
      refine iteT ?_
      unfold tRet
      dsimp only
      exact ⟨(show 1 ≤ sizeLine by decide), fun p m1 => newO m1 fun H2 s2 e2 => q p _ H2 (.inl rfl) e2 (hd1.mono s2 (Nat.le_refl _)) (bt1.trans (But.of s2))⟩
    · rw [decide_eq_false c3]
      refine iteF ?_
      unfold tNext
      dsimp only
      refine ⟨_, rfl, _, _, rfl, rfl, _, rfl, ?_⟩
      by_cases c5 : r < 5
      · rw [decide_eq_true c5]
        refine iteT ?_
        exact ⟨_, rfl, _, _, rfl, rfl, (show 2 ≤ sizeLine by decide), fun p m1 => newO m1 fun H2 s2 e2 => q p _ H2 (.inr (.inl ⟨r - 2, rfl, by omega, by omega⟩)) e2 (hd1.mono s2 (Nat.le_refl _)) (bt1.trans (But.of s2))⟩
      · rw [decide_eq_false c5]
        refine iteF ?_
        refine ⟨(show 3 ≤ sizeLine by decide), fun L m0 => newO m0 fun H2 s2 e2 => ?_⟩
        rcases (show r = 5 ∨ r = 6 ∨ r = 7 by omega) with rfl | rfl | rfl
        · exact ⟨_, rfl, _, _, rfl, rfl, L, _, _, V.str "ymd", rfl, rfl, SqL.of e2, rfl, (show 2 ≤ sizeLine by decide), fun p m1 => newO m1 fun H3 s3 e3 => q p _ H3 (.inr (.inr ⟨_, rfl, .inl rfl⟩)) e3 (hd1.mono (s2.trans s3) (Nat.le_refl _)) (bt1.trans (But.of (s2.trans s3)))⟩
        · exact ⟨_, rfl, _, _, rfl, rfl, L, _, _, V.str "dmy", rfl, rfl, SqL.of e2, rfl, (show 2 ≤ sizeLine by decide), fun p m1 => newO m1 fun H3 s3 e3 => q p _ H3 (.inr (.inr ⟨_, rfl, .inr (.inl rfl)⟩)) e3 (hd1.mono (s2.trans s3) (Nat.le_refl _)) (bt1.trans (But.of (s2.trans s3)))⟩
        · exact ⟨_, rfl, _, _, rfl, rfl, L, _, _, V.str "mdy", rfl, rfl, SqL.of e2, rfl, (show 2 ≤ sizeLine by decide), fun p m1 => newO m1 fun H3 s3 e3 => q p _ H3 (.inr (.inr ⟨_, rfl, .inr (.inr rfl)⟩)) e3 (hd1.mono (s2.trans s3) (Nat.le_refl _)) (bt1.trans (But.of (s2.trans s3)))⟩
end
end K86
set_option Elab.async false
set_option linter.all false
set_option pp.maxSteps 4000
set_option maxRecDepth 100000
set_option maxHeartbeats 4000000
/-! k86: wishes -/
namespace K86
open PySem PySem.Spec PyProof.Rows L2 Bs Xg TL Xm Xs Gn
theorem kw_inj {a b : Bool} : V.str (kw a) = V.str (kw b) ↔ a = b := by
  constructor
  · intro h
    cases a <;> cases b <;> first | rfl | (exfalso; revert h; decide +kernel)
  · rintro rfl
    rfl
theorem short_dp {K : PySem.W.Frag} {H : Hp} {a : Addr} {zs : List Str} (e : SqL K H a (zs.map V.str)) : Dp K H (.ref a) (.list (zs.map .str)) := by
  refine .lst e ?_
  clear e
  induction zs with
  | nil => exact .nil
  | cons z zs ih => exact .cons (.str z) ih
theorem short_shaped {zs : List Str} (h : ∀ z ∈ zs, PyData.strOk z = true) : SeqAt.shaped (.list (zs.map .str)) = true := by
  have a : PyData.canLayAll0 (zs.map .str) = true ∧ PyData.depthAll (zs.map .str) ≤ 1 := by
    induction zs with
    | nil => exact ⟨rfl, by simp [PyData.depthAll]⟩
    | cons z zs ih =>
      have q := ih fun x hx => h x (List.mem_cons_of_mem _ hx)
      simp only [List.map_cons, PyData.canLayAll0, PyData.depthAll]
      exact ⟨by rw [q.1, Bool.and_true]; simp [PyData.canLay0, h z List.mem_cons_self], Nat.max_le.mpr ⟨by simp [PyData.depth], q.2⟩⟩
  unfold SeqAt.shaped
  rw [show (PyData.list (zs.map .str)).canLay0 = PyData.canLayAll0 (zs.map .str) by simp only [PyData.canLay0], show (PyData.list (zs.map .str)).depth = PyData.depthAll (zs.map .str) + 1 by simp only [PyData.depth], a.1, Bool.true_and]
  exact decide_eq_true (by omega)
theorem eqv_nil (zs : List Str) : PyData.eqv (.list (zs.map .str)) (.list []) = decide (zs = []) := by
  cases zs with
  | nil => simp [PyData.eqv, PyData.eqvAll]
  | cons z zs => simp [PyData.eqv, PyData.eqvAll]
/-- the columns of a kind but one -/
def likes (kn : List (Str × Bool)) (col : Str) (k : Bool) : List Str := kn.filterMap fun c => if c.2 = k ∧ c.1 ≠ col then some c.1 else none
theorem likes_map (kn : List (Str × Bool)) (col : Str) (k : Bool) : (kn.filterMap fun c => if c.2 = k ∧ c.1 ≠ col then some (V.str c.1) else none) = (likes kn col k).map V.str := by
  unfold likes
  induction kn with
  | nil => rfl
  | cons c kn ih =>
    by_cases q : c.2 = k ∧ c.1 ≠ col
    · simp only [List.filterMap_cons, if_pos q, List.map_cons, ih]
    · simp only [List.filterMap_cons, if_neg q, ih]
theorem likes_mem {kn : List (Str × Bool)} {col : Str} {k : Bool} : ∀ z ∈ likes kn col k, (z, k) ∈ kn := by
  intro z hz
  obtain ⟨c, hc, e⟩ := List.mem_filterMap.mp hz
  by_cases q : c.2 = k ∧ c.1 ≠ col
  · rw [if_pos q] at e
    cases e
    rw [← q.1]
    exact hc
  · rw [if_neg q] at e
    cases e
section
variable {P : Program} {w : World} {K : PySem.W.Frag} {mg : Str → Option Value} {base : Heap} {fTk fPk : Addr} {dTk dPk : FuncData} {fCe fWr fFo : Addr} {dCe dWr dFo : FuncData}
abbrev nWi : List Str := ["_law_box_here", "_law_lot", "_law_known", "_law_column", "_law_kind", "_law_like", "_law_some", "_law_name", "_law_s", "_law_k"]
theorem scWi : FnScope nWi ["_law_box_here", "_law_lot", "_law_known"] (defScope sWi) := ⟨rfl, rfl, rfl, by decide +kernel, rfl, by decide +kernel, by decide +kernel⟩
def spWi : Sp := fun vs H Q _ => ∃ (h L : Addr) (n : Nat) (lot : Int) (kn : List (Str × Bool)), vs = [.ref h, .int lot, .ref L] ∧ HandAt H h n ∧ n < 980000 ∧ KnownAt H L kn ∧ L ≠ h ∧ Short kn ∧
  ∀ (p : Addr) (vs : List V) (dd : Dd) (H' : Hp), H' p = some (.tup vs) → dd.At H' vs → dd.wt kn → HandAt H' h (n + 20) → But h H H' → Q (.ref p) H'
theorem ok_wish {f : Addr} {fd : FuncData} (F : Fun K "_law_wish" "_law_wish" sWi f fd) (T : Free mg) (W : HandF K mg fTk fPk dTk dPk) (G : GenF K mg fCe fWr fFo dCe dWr dFo) : FnOk P w K mg base CX0 4 f fd ["_law_box_here", "_law_lot", "_law_known"] spWi := by
  have GTk : FnOk P w K mg base CX0 1 fTk dTk ["_law_box_here", "_law_many"] spTake := ok_take W.Tk
  have GPk : FnOk P w K mg base CX0 2 fPk dPk ["_law_box_here", "_law_some"] (spPk K) := ok_pick W.Pk T W.Tk W.bTk W.gTk
  have GWr : FnOk P w K mg base CX0 3 fWr dWr ["_law_box_here", "_law_kind"] spWr := ok_worth G.Wr T W G.Ce G.bCe G.gCe
  have FTk := W.Tk
  have bTk := W.bTk
  have gTk := W.gTk
  have FPk := W.Pk
  have bPk := W.bPk
  have gPk := W.gPk
  have FWr := G.Wr
  have bWr := G.bWr
  have gWr := G.gWr
  refine F.ok scWi (fun vs H Q E h => ?_) (fun cdv A outer s H vs Q E hr h => ?_)
  · obtain ⟨h, L, n, lot, kn, rfl, _⟩ := h
    rfl
  · obtain ⟨h, L, n, lot, kn, rfl, hd, nb, ⟨ts, lts, eL, hts⟩, nL, ⟨kn0, kn40, kng⟩, q⟩ := h
    refine ⟨_, pss_cons (ps_asg (pe_call GPk (hr.mono (by decide)) (by rfl) gPk FPk.kp bPk .nil pass0 (pa_cons (pv 0) (pa_cons (pv 2) pa_nil))) (pg_tup rfl (pgs_cons (pg_name (i := 3) scWi.nd rfl (Or.inr rfl)) (pgs_cons (pg_name (i := 4) scWi.nd rfl (Or.inr rfl)) pgs_nil))))
      (pss_cons (ps_setLc (i := 5) (own := [("_law_name", 7), ("_law_s", 8)]) (g := gTup K 2 (gCons (gName 7) (gCons (gName 8) gNil))) (tt := (tAnd (tTest (tOp rEq (tVar 8) (tVar 4))) (tTest (tOp rNe (tVar 7) (tVar 3))))) rfl scWi.nd rfl rfl (sw_true rfl rfl rfl rfl) (pi_list (pv 2)) (blkOk_by (own := [("_law_name", 7), ("_law_s", 8)]) (N := nWi) (sc := defScope sWi) (by decide +kernel)) (fun _ _ _ _ _ => (pg_tup rfl (pgs_cons (pg_name (i := 7) scWi.nd rfl (Or.inl rfl)) (pgs_cons (pg_name (i := 8) scWi.nd rfl (Or.inl rfl)) pgs_nil)))) (fun _ _ _ _ _ => pts_one (PW.pt (pw_and (pt_cmpR op_eq (pv 8) (pv 4) (nomark _)) (pw_and1 (pt_cmpR op_ne (pv 7) (pv 3) (nomark _)))))) (fun _ _ _ _ _ => (pv 7)))
      (pss_cons (ps_if (pt_cmpR op_eq (pv 1) pe_int (nomark _)) (pss_cons (ps_set (i := 6) scWi.nd rfl (Or.inl rfl) (pe_callB (cr_srtD (K := K) rfl (r80 hr)) (by rfl) T.sorted (by decide +kernel) (pa_cons (pe_lst (pa_cons (pe_call GWr (hr.mono (by decide)) (by rfl) gWr FWr.kp bWr .nil pass0 (pa_cons (pv 0) (pa_cons (pv 4) pa_nil))) (pa_cons (pe_call GWr (hr.mono (by decide)) (by rfl) gWr FWr.kp bWr .nil pass0 (pa_cons (pv 0) (pa_cons (pv 4) pa_nil))) pa_nil))) pa_nil)))
      (pss_one (ps_ret (pe_tup (pa_cons pe_str (pa_cons (pv 3) (pa_cons (pe_ix (ix_listK (K := K) rfl) (pv 6) pe_int (fun _ _ => rfl)) (pa_cons (pe_ix (ix_listK (K := K) rfl) (pv 6) pe_int (fun _ _ => rfl)) pa_nil)))))))) (pss_nil))
      (pss_cons (ps_if (pt_cmpR op_eq (pv 1) pe_int (nomark _)) (pss_cons (ps_setLc (i := 6) (own := [("_law_k", 9)]) (g := gName 9) (tt := tYes) rfl scWi.nd rfl rfl (sw_true rfl rfl rfl rfl) (pi_range1 (by rfl) T.range (pa_cons (pe_op op_add pe_int (pe_call GTk (hr.mono (by decide)) (by rfl) gTk FTk.kp bTk .nil pass0 (pa_cons (pv 0) (pa_cons pe_int pa_nil)))) pa_nil)) (blkOk_by (own := [("_law_k", 9)]) (N := nWi) (sc := defScope sWi) (by decide +kernel)) (fun _ _ _ _ _ => (pg_name (i := 9) scWi.nd rfl (Or.inl rfl))) (fun _ _ _ _ _ => pts_nil) (fun _ _ _ _ _ => (pe_call GWr (hr.mono (by decide)) (by rfl) gWr FWr.kp bWr .nil pass0 (pa_cons (pv 0) (pa_cons (pv 4) pa_nil)))))
      (pss_one (ps_ret (pe_tup (pa_cons pe_str (pa_cons (pv 3) (pa_cons (pe_callTy call_tuple_of (by rfl) T.tuple (by decide +kernel) (pa_cons (pe_srtSet (K := K) rfl rfl (r80 hr) (by rfl) T.sorted (by rfl) T.set (pv 6)) pa_nil)) pa_nil))))))) (pss_nil))
      (pss_cons (ps_if (PW.pt (pw_and (pt_cmpR op_eq (pv 1) pe_int (nomark _)) (pw_and1 (pt_cmpR (op_neD hr.units) (pv 5) (pe_lst pa_nil) (nomark _))))) (pss_one (ps_ret (pe_tup (pa_cons pe_str (pa_cons (pv 3) (pa_cons (pe_call GPk (hr.mono (by decide)) (by rfl) gPk FPk.kp bPk .nil pass0 (pa_cons (pv 0) (pa_cons (pv 5) pa_nil))) pa_nil)))))) (pss_nil))
      (pss_one (ps_ret (pe_tup (pa_cons pe_str (pa_cons (pv 3) pa_nil))))))))), ?_⟩
    have ltm : (ts.map V.ref).length = kn.length := by rw [List.length_map, lts]
    have k0 : 0 < kn.length := List.length_pos_iff.mpr kn0
    refine ⟨_, rfl, _, rfl, pick_old hd (by omega) (SqL.of eL) nL (by omega) (by omega) (fun y H1 hy hd1 bt1 => ?_)⟩
    obtain ⟨t, ht, rfl⟩ := List.mem_map.mp hy
    obtain ⟨j0, hj0⟩ := List.mem_iff_getElem?.mp ht
    have jl : j0 < kn.length := by
      rw [← lts]
      exact (List.getElem?_eq_some_iff.mp hj0).1
    obtain ⟨col, k, ec⟩ : ∃ col k, kn[j0]? = some (col, k) := ⟨_, _, List.getElem?_eq_getElem jl⟩
    have et := hts j0 t _ hj0 ec
    have mc : (col, k) ∈ kn := List.mem_of_getElem? ec
    have tn : ∀ {a : Addr} {xs : List V} {G : Hp} {m : Nat}, HandAt G h m → G a = some (.tup xs) → a ≠ h := fun hh e => tup_hand hh e fun l z => by cases z
    have et1 := bt1 t _ (tn hd et) et
    refine ⟨t, _, rfl, SqT.of et1, rfl, _, _, rfl, gN ⟨_, _, rfl, gN ⟨rfl, ?_⟩⟩⟩
    try dsimp only
    have eL1 := bt1 L _ nL eL
    have hts1 : ∀ (j : Nat) (t : Addr) (c : Str × Bool), ts[j]? = some t → kn[j]? = some c → H1 t = some (.tup [.str c.1, .str (kw c.2)]) := fun j t c h1 h2 => bt1 t _ (tn hd (hts j t c h1 h2)) (hts j t c h1 h2)
    refine ⟨_, rfl, L, rfl, ⟨_, SqL.of eL1⟩, fun D nD => ?_⟩
    refine lc_fm (walk_list (K := K) (a := L) (xs := ts.map V.ref)) kn (fun c => if c.2 = k ∧ c.1 ≠ col then some (V.str c.1) else none) ltm.symm nD (fun G sG => SqL.of (sG _ _ eL1)) (by omega) ?_ ?_
    · rintro j c x G G' R N hj sG ⟨rfl, hx⟩ kR kN
      rw [List.getElem?_map] at hx
      obtain ⟨t', ht', rfl⟩ := Option.map_eq_some_iff.mp hx
      refine ⟨t', _, rfl, SqT.of (sG _ _ (hts1 j t' c ht' hj)), rfl, _, _, rfl, gN ⟨_, _, rfl, gN ⟨rfl, rfl, ?_⟩⟩⟩
      refine ⟨_, rfl, _, rfl, rfl, _, rfl, ?_⟩
      by_cases ck : c.2 = k
      · rw [decide_eq_true (show V.str (kw c.2) = V.str (kw k) from kw_inj.mpr ck)]
        refine iteT ?_
        refine ⟨_, rfl, _, rfl, rfl, _, rfl, ?_⟩
        by_cases cc : V.str c.1 = V.str col
        · rw [decide_eq_true cc]
          have ce : c.1 = col := by cases cc; rfl
          exact iteF (kN (if_neg fun z => z.2 ce) _ (Same.refl _))
        · rw [decide_eq_false cc]
          have ce : c.1 ≠ col := fun z => cc (by rw [z])
          exact iteT ⟨_, rfl, kR _ (if_pos ⟨ck, ce⟩) _ (Same.refl _)⟩
      · rw [decide_eq_false (show ¬ V.str (kw c.2) = V.str (kw k) from fun z => ck (kw_inj.mp z))]
        exact iteF (iteF (kN (if_neg fun z => ck z.1) _ (Same.refl _)))
    · intro H2 s2 e2
      rw [likes_map] at e2
      have eL2 := s2 _ _ eL1
      have hd2 := hd1.mono s2 (Nat.le_refl _)
      have b2 := bt1.trans (But.of s2)
      have nDh : D ≠ h := (hd1.fresh nD).symm
      have wdp : ∀ {v : V} (G : Hp), WorthOk k v → ∃ d, Dp K G v d ∧ d.depth ≤ 1 ∧ (if k then ∃ z, d = .str z else ∃ i, d = .int i) := by
        intro v G hv
        cases k with
        | true =>
          obtain ⟨z, _, rfl⟩ := hv
          exact ⟨.str z, .str z, by simp [PyData.depth], z, rfl⟩
        | false =>
          obtain ⟨i, rfl, _⟩ := hv
          exact ⟨.int i, .int i, by simp [PyData.depth], i, rfl⟩
      refine gN ?_
      try dsimp only
      refine ⟨_, rfl, rfl, _, rfl, ?_⟩
      by_cases c7 : V.int lot = V.int 7
      · rw [decide_eq_true c7]
        refine iteT ?_
        refine ⟨_, rfl, _, rfl, h, n + 1, k, rfl, hd2, by omega, fun v1 H3 w1 hd3 bt3 => ?_⟩
        refine ⟨_, rfl, _, rfl, h, n + 1 + 2, k, rfl, hd3, by omega, fun v2 H4 w2 hd4 bt4 => ?_⟩
        refine ⟨(show 2 ≤ sizeLine by decide), fun L1 n1 => newO n1 fun H5 s5 e5 => ?_⟩
        obtain ⟨d1, p1, q1, r1⟩ := wdp H5 w1
        obtain ⟨d2, p2, q2, r2⟩ := wdp H5 w2
        refine ⟨L1, [(v1, d1), (v2, d2)], rfl, SqL.of e5, ?_, ?_, ?_, ?_, fun qs l eqs nl => newO nl fun H6 s6 e6 => ?_⟩
        · intro p hp
          rcases List.mem_cons.mp hp with rfl | hp
          · exact p1
          · rw [List.mem_singleton.mp hp]
            exact p2
        · intro d hd d' hd'
          have e : ∀ d ∈ [d1, d2], if k then ∃ z, d = PyData.str z else ∃ i, d = PyData.int i := by
            intro d hd
            rcases List.mem_cons.mp hd with rfl | hd
            · exact r1
            · rw [List.mem_singleton.mp hd]
              exact r2
          have h1 := e d hd
          have h2 := e d' hd'
          cases k with
          | true =>
            obtain ⟨z, rfl⟩ := h1
            obtain ⟨z', rfl⟩ := h2
            simp [PySem.W.alike]
          | false =>
            obtain ⟨z, rfl⟩ := h1
            obtain ⟨z', rfl⟩ := h2
            simp [PySem.W.alike]
        · right
          intro d hd
          have e : ∀ d ∈ [d1, d2], if k then ∃ z, d = PyData.str z else ∃ i, d = PyData.int i := by
            intro d hd
            rcases List.mem_cons.mp hd with rfl | hd
            · exact r1
            · rw [List.mem_singleton.mp hd]
              exact r2
          have h1 := e d hd
          cases k with
          | true =>
            obtain ⟨z, rfl⟩ := h1
            exact ⟨(fun z => by cases z), (fun xs z => by cases z)⟩
          | false =>
            obtain ⟨z, rfl⟩ := h1
            exact ⟨(fun z => by cases z), (fun xs z => by cases z)⟩
        · intro p hp
          rcases List.mem_cons.mp hp with rfl | hp
          · exact Nat.le_trans q1 (by decide)
          · rw [List.mem_singleton.mp hp]
            exact Nat.le_trans q2 (by decide)
        have pq : qs.Perm [(v1, d1), (v2, d2)] := by rw [eqs]; exact List.mergeSort_perm _ _
        obtain ⟨a1, a2, rfl⟩ : ∃ a1 a2, qs = [a1, a2] := by
          have := pq.length_eq
          match qs, this with
          | [a1, a2], _ => exact ⟨a1, a2, rfl⟩
        have wa : ∀ a ∈ [a1, a2], WorthOk k a.1 := fun a ha => by
          rcases List.mem_cons.mp (pq.mem_iff.mp ha) with rfl | z
          · exact w1
          · rw [List.mem_singleton.mp z]
            exact w2
        refine gN ?_
        try dsimp only
        unfold tRet
        dsimp only
        refine ⟨_, rfl, _, rfl, l, _, _, a1.1, rfl, rfl, SqL.of e6, rfl, _, rfl, l, _, _, a2.1, rfl, rfl, SqL.of e6, rfl, (show 4 ≤ sizeLine by decide), fun p m1 => newO m1 fun H7 s7 e7 => ?_⟩
        have s57 := (s5.trans s6).trans s7
        exact q p _ (.within col a1.1 a2.1) H7 e7 rfl ⟨k, mc, wa a1 (by simp), wa a2 (by simp)⟩ ((hd4.mono s57 (Nat.le_refl _)).up (by omega)) (((b2.trans bt3).trans bt4).trans (But.of s57))
      · rw [decide_eq_false c7]
        refine iteF ?_
        unfold tNext
        dsimp only
        refine ⟨_, rfl, rfl, _, rfl, ?_⟩
        by_cases c8 : V.int lot = V.int 8
        · rw [decide_eq_true c8]
          refine iteT ?_
          refine ⟨_, rfl, h, n + 1, 3, rfl, hd2, by omega, by decide, by decide, fun r H3 r0 r1 hd3 bt3 => ?_⟩
          refine ⟨_, _, rfl, rfl, 1 + r, rfl, by omega, by omega, fun D2 nD2 => ?_⟩
          refine lc_map (walk_range (lo := 0) (n := (1 + r).toNat)) (h := h) (Z := fun j x => True) (fun j G => HandAt G h (n + 1 + 1 + 2 * j)) (fun _ y _ => WorthOk k y) nD2 (hd3.fresh nD2).symm (fun j G x G' e => ⟨e.1, trivial⟩) (fun _ _ => trivial) (fun _ _ _ _ _ _ e => e) (by omega) (fun _ => rfl) hd3 (fun j G l a => a.old (hd3.fresh nD2)) ?_ ?_
          · rintro j x G Q2 hj _ btG hdG _ kk
            exact ⟨_, rfl, _, rfl, h, _, k, rfl, hdG, by omega, fun v G2 wv hd2 bt2 => kk _ _ bt2 (hd2.up (by omega)) wv⟩
          · rintro H4 ys bt4 hd4 eD2 ly hw
            refine gN ?_
            try dsimp only
            unfold tRet
            dsimp only
            have ly3 : ys.length ≤ 3 := by omega
            have bf : But h H H4 := (b2.trans bt3).trans bt4
            cases k with
            | true =>
              obtain ⟨zs, rfl, hz⟩ : ∃ zs : List Str, ys = zs.map V.str ∧ ∀ z ∈ zs, z ∈ cells := strs_of fun j y e => by
                obtain ⟨z, h1, h2⟩ := hw j y e
                exact ⟨z, h2, h1⟩
              rw [List.length_map] at ly3
              refine ⟨_, rfl, _, rfl, Str, kStr, D2, zs, rfl, .inl (SqL.of eD2), by omega, fun ys' l nd mem lel pw nl => newO nl fun H5 s5 e5 => ?_⟩
              refine ⟨l, _, rfl, .inl ⟨SqL.of e5, fun t m => newO m fun H6 s6 e6 => ⟨(show 3 ≤ sizeLine by decide), fun p m1 => newO m1 fun H7 s7 e7 => ?_⟩⟩⟩
              have s57 := (s5.trans s6).trans s7
              refine q p _ (.among col (ys'.map V.str)) H7 e7 ⟨t, rfl, s7 _ _ e6⟩ ⟨true, mc, by rw [List.length_map]; omega, fun x hx => ?_⟩ ((hd4.mono s57 (Nat.le_refl _)).up (by omega)) (bf.trans (But.of s57))
              obtain ⟨z, hz2, rfl⟩ := List.mem_map.mp hx
              exact ⟨z, hz z ((mem z).mp hz2), rfl⟩
            | false =>
              obtain ⟨zs, rfl, hz⟩ : ∃ zs : List Int, ys = zs.map V.int ∧ ∀ z ∈ zs, z.natAbs < 10 ^ 7 := by
                have : ∀ ys : List V, (∀ (j : Nat) (y : V), ys[j]? = some y → WorthOk false y) → ∃ ws : List Int, ys = ws.map V.int ∧ ∀ i ∈ ws, i.natAbs < 10 ^ 7 := by
                  intro ys
                  induction ys with
                  | nil => intro _; exact ⟨[], rfl, by simp⟩
                  | cons y ys ih =>
                    intro hh
                    obtain ⟨i, rfl, hi⟩ := hh 0 y rfl
                    obtain ⟨ws, rfl, hw2⟩ := ih fun j y hy => hh (j + 1) y (by simpa using hy)
                    exact ⟨i :: ws, rfl, fun x hx => (List.mem_cons.mp hx).elim (fun e => e ▸ hi) (hw2 x)⟩
                exact this ys hw
              rw [List.length_map] at ly3
              refine ⟨_, rfl, _, rfl, Int, kInt, D2, zs, rfl, .inl (SqL.of eD2), by omega, fun ys' l nd mem lel pw nl => newO nl fun H5 s5 e5 => ?_⟩
              refine ⟨l, _, rfl, .inl ⟨SqL.of e5, fun t m => newO m fun H6 s6 e6 => ⟨(show 3 ≤ sizeLine by decide), fun p m1 => newO m1 fun H7 s7 e7 => ?_⟩⟩⟩
              have s57 := (s5.trans s6).trans s7
              refine q p _ (.among col (ys'.map V.int)) H7 e7 ⟨t, rfl, s7 _ _ e6⟩ ⟨false, mc, by rw [List.length_map]; omega, fun x hx => ?_⟩ ((hd4.mono s57 (Nat.le_refl _)).up (by omega)) (bf.trans (But.of s57))
              obtain ⟨z, hz2, rfl⟩ := List.mem_map.mp hx
              exact ⟨z, rfl, hz z ((mem z).mp hz2)⟩
        · rw [decide_eq_false c8]
          refine iteF ?_
          dsimp only
          have given : ∀ G : Hp, Same H2 G → tRet (tTup (tCons (tC (V.str "given")) (tCons (tVar 3) tNil))) { nx := fun x H' => Q V.non H', rt := Q } [some (.ref h), some (.int lot), some (.ref L), some (.str col), some (.str (kw k)), some (.ref D), none, none, none, none] G := by
            intro G sG
            unfold tRet
            dsimp only
            exact ⟨_, rfl, (show 2 ≤ sizeLine by decide), fun p m1 => newO m1 fun H7 s7 e7 => q p _ (.given col) H7 e7 rfl ⟨k, mc⟩ ((hd2.mono (sG.trans s7) (Nat.le_refl _)).up (by omega)) (b2.trans (But.of (sG.trans s7)))⟩
          refine ⟨_, rfl, rfl, _, rfl, ?_⟩
          by_cases c9 : V.int lot = V.int 9
          · rw [decide_eq_true c9]
            refine iteT ?_
            refine ⟨_, rfl, (show 0 ≤ sizeLine by decide), fun L0 n0 => newO n0 fun H3 s3 e3 => ⟨_, _, short_dp (SqL.of (s3 _ _ e2)), .lst (SqL.of e3) .nil, short_shaped fun z hz => ?_, by decide +kernel, _, rfl, ?_⟩⟩
            · obtain ⟨c, hc, e⟩ : ∃ c ∈ kn, c.1 = z := ⟨_, likes_mem z hz, rfl⟩
              rw [← e]
              exact (kng c hc).ok
            rw [eqv_nil]
            by_cases ce : likes kn col k = []
            · rw [decide_eq_true ce]
              exact iteF (given H3 s3)
            · rw [decide_eq_false ce]
              refine iteT ?_
              unfold tRet
              dsimp only
              have l0 : 0 < ((likes kn col k).map V.str).length := by rw [List.length_map]; exact List.length_pos_iff.mpr ce
              have l1 : ((likes kn col k).map V.str).length ≤ 1000 := by
                rw [List.length_map]
                have : (likes kn col k).length ≤ kn.length := List.length_filterMap_le _ _
                omega
              refine ⟨_, rfl, _, rfl, _, rfl, pick_old (hd2.mono s3 (Nat.le_refl _)) (by omega) (SqL.of (s3 _ _ e2)) nDh l0 l1 (fun y H4 hy hd4 bt4 => ?_)⟩
              obtain ⟨z, hz, rfl⟩ := List.mem_map.mp hy
              exact ⟨(show 3 ≤ sizeLine by decide), fun p m1 => newO m1 fun H7 s7 e7 => q p _ (.before col z) H7 e7 rfl ⟨k, mc, likes_mem z hz⟩ ((hd4.mono s7 (Nat.le_refl _)).up (by omega)) (((b2.trans (But.of s3)).trans bt4).trans (But.of s7))⟩
          · rw [decide_eq_false c9]
            exact iteF (iteF (given H2 (Same.refl _)))
end
end K86
set_option Elab.async false
set_option linter.all false
set_option pp.maxSteps 4000
set_option maxRecDepth 100000
set_option maxHeartbeats 4000000
/-! k86: puts, spells -/
namespace K86
open PySem PySem.Spec PyProof.Rows L2 Bs Xg TL Xm Xs Gn
theorem known_but {H H' : Hp} {h L : Addr} {n : Nat} {kn : List (Str × Bool)} (hd : HandAt H h n) (k : KnownAt H L kn) (nL : L ≠ h) (b : But h H H') : KnownAt H' L kn := by
  obtain ⟨ts, lts, eL, hts⟩ := k
  exact ⟨ts, lts, b L _ nL eL, fun j t c h1 h2 => b t _ (tup_hand hd (hts j t c h1 h2) fun l z => by cases z) (hts j t c h1 h2)⟩
theorem pick_known {K : PySem.W.Frag} {H : Hp} {h L : Addr} {n : Nat} {kn : List (Str × Bool)} {R : VK} (hd : HandAt H h n) (nb : n < 999999) (k : KnownAt H L kn) (nL : L ≠ h) (sh : Short kn)
    (q : ∀ (t : Addr) (col : Str) (b : Bool) (H1 : Hp), (col, b) ∈ kn → H1 t = some (.tup [.str col, .str (kw b)]) → HandAt H1 h (n + 1) → But h H H1 → R (.ref t) H1) : spPk K [.ref h, .ref L] H R E0 := by
  obtain ⟨ts, lts, eL, hts⟩ := k
  obtain ⟨kn0, kn40, kng⟩ := sh
  have ltm : (ts.map V.ref).length = kn.length := by rw [List.length_map, lts]
  have k0 : 0 < kn.length := List.length_pos_iff.mpr kn0
  refine pick_old hd nb (SqL.of eL) nL (by omega) (by omega) (fun y H1 hy hd1 bt1 => ?_)
  obtain ⟨t, ht, rfl⟩ := List.mem_map.mp hy
  obtain ⟨j0, hj0⟩ := List.mem_iff_getElem?.mp ht
  have jl : j0 < kn.length := by
    rw [← lts]
    exact (List.getElem?_eq_some_iff.mp hj0).1
  obtain ⟨col, b, ec⟩ : ∃ col b, kn[j0]? = some (col, b) := ⟨_, _, List.getElem?_eq_getElem jl⟩
  have et := hts j0 t _ hj0 ec
  exact q t col b H1 (List.mem_of_getElem? ec) (bt1 t _ (tup_hand hd et fun l z => by cases z) et) hd1 bt1
theorem pairs_of {G : Hp} {h : Addr} : ∀ {ys : List V}, (∀ (j : Nat) (y : V), ys[j]? = some y → ∃ (t : Addr) (z : Str) (o : Option Str), y = .ref t ∧ t ≠ h ∧ G t = some (.tup [.str z, osV o]) ∧ Good 12 z ∧ ∀ u, o = some u → Good 12 u) →
    ∃ (qs : List Addr) (ps : List (Str × Option Str)), ys = qs.map V.ref ∧ qs.length = ps.length ∧ (∀ (j : Nat) (q : Addr) (p : Str × Option Str), qs[j]? = some q → ps[j]? = some p → G q = some (.tup [.str p.1, osV p.2])) ∧ ∀ p ∈ ps, Good 12 p.1 ∧ ∀ z, p.2 = some z → Good 12 z
  | [], _ => ⟨[], [], rfl, rfl, fun j q p e => by simp at e, by simp⟩
  | y :: ys, hh => by
    obtain ⟨t, z, o, rfl, _, e, g1, g2⟩ := hh 0 y rfl
    obtain ⟨qs, ps, rfl, l, w, g⟩ := pairs_of (ys := ys) fun j y hy => hh (j + 1) y (by simpa using hy)
    refine ⟨t :: qs, (z, o) :: ps, rfl, by simp [l], fun j q p h1 h2 => ?_, fun p hp => ?_⟩
    · cases j with
      | zero =>
        cases h1
        cases h2
        exact e
      | succ j => exact w j q p (by simpa using h1) (by simpa using h2)
    · rcases List.mem_cons.mp hp with rfl | hp
      · exact ⟨g1, g2⟩
      · exact g p hp
theorem cells_good : ∀ z ∈ cells, Good 12 z := by
  intro z hz
  unfold cells at hz
  simp only [List.mem_cons, List.not_mem_nil, or_false] at hz
  rcases hz with rfl | rfl | rfl | rfl | rfl | rfl | rfl | rfl | rfl | rfl | rfl | rfl <;> constructor <;> decide +kernel
section
variable {P : Program} {w : World} {K : PySem.W.Frag} {mg : Str → Option Value} {base : Heap} {fTk fPk : Addr} {dTk dPk : FuncData} {fCe fWr fFo : Addr} {dCe dWr dFo : FuncData}
theorem scPu : FnScope ["_law_box_here", "_law_known", "_law_column", "_law_kind"] ["_law_box_here", "_law_known"] (defScope sPu) := ⟨rfl, rfl, rfl, by decide +kernel, rfl, by decide +kernel, by decide +kernel⟩
def spPu : Sp := fun vs H Q _ => ∃ (h L : Addr) (n : Nat) (kn : List (Str × Bool)), vs = [.ref h, .ref L] ∧ HandAt H h n ∧ n < 980000 ∧ KnownAt H L kn ∧ L ≠ h ∧ Short kn ∧
  ∀ (p : Addr) (vs : List V) (dd : Dd) (H' : Hp), H' p = some (.tup vs) → dd.At H' vs → dd.wt kn → HandAt H' h (n + 20) → But h H H' → Q (.ref p) H'
theorem ok_put {f : Addr} {fd : FuncData} (F : Fun K "_law_put" "_law_put" sPu f fd) (T : Free mg) (W : HandF K mg fTk fPk dTk dPk) (G : GenF K mg fCe fWr fFo dCe dWr dFo) : FnOk P w K mg base CX0 4 f fd ["_law_box_here", "_law_known"] spPu := by
  have GPk : FnOk P w K mg base CX0 2 fPk dPk ["_law_box_here", "_law_some"] (spPk K) := ok_pick W.Pk T W.Tk W.bTk W.gTk
  have GWr : FnOk P w K mg base CX0 3 fWr dWr ["_law_box_here", "_law_kind"] spWr := ok_worth G.Wr T W G.Ce G.bCe G.gCe
  have FPk := W.Pk
  have bPk := W.bPk
  have gPk := W.gPk
  have FWr := G.Wr
  have bWr := G.bWr
  have gWr := G.gWr
  refine F.ok scPu (fun vs H Q E h => ?_) (fun cdv A outer s H vs Q E hr h => ?_)
  · obtain ⟨h, L, n, kn, rfl, _⟩ := h
    rfl
  · obtain ⟨h, L, n, kn, rfl, hd, nb, kA, nL, sh, q⟩ := h
    refine ⟨_, pss_cons (ps_asg (pe_call GPk (hr.mono (by decide)) (by rfl) gPk FPk.kp bPk .nil pass0 (pa_cons (pv 0) (pa_cons (pv 1) pa_nil))) (pg_tup rfl (pgs_cons (pg_name (i := 2) scPu.nd rfl (Or.inl rfl)) (pgs_cons (pg_name (i := 3) scPu.nd rfl (Or.inl rfl)) pgs_nil))))
      (pss_one (ps_ret (pe_tup (pa_cons pe_str (pa_cons (pv 2) (pa_cons (pe_call GWr (hr.mono (by decide)) (by rfl) gWr FWr.kp bWr .nil pass0 (pa_cons (pv 0) (pa_cons (pv 3) pa_nil))) pa_nil)))))), ?_⟩
    refine ⟨_, rfl, _, rfl, pick_known hd (by omega) kA nL sh (fun t col k H1 mc et1 hd1 bt1 => ?_)⟩
    refine ⟨t, _, rfl, SqT.of et1, rfl, _, _, rfl, gN ⟨_, _, rfl, gN ⟨rfl, ?_⟩⟩⟩
    try dsimp only
    unfold tRet
    dsimp only
    refine ⟨_, rfl, _, rfl, _, rfl, h, n + 1, k, rfl, hd1, by omega, fun v H2 wv hd2 bt2 => ?_⟩
    exact ⟨(show 3 ≤ sizeLine by decide), fun p m1 => newO m1 fun H3 s3 e3 => q p _ (.put col v) H3 e3 rfl ⟨k, mc, wv⟩ ((hd2.mono s3 (Nat.le_refl _)).up (by omega)) ((bt1.trans bt2).trans (But.of s3))⟩
abbrev nSp : List Str := ["_law_box_here", "_law_column", "_law_some", "_law_pairs", "_law_k", "_law_mine"]
theorem scSp : FnScope nSp ["_law_box_here", "_law_column"] (defScope sSp) := ⟨rfl, rfl, rfl, by decide +kernel, rfl, by decide +kernel, by decide +kernel⟩
def spSpl : Sp := fun vs H Q _ => ∃ (h : Addr) (n : Nat) (col : Str) (kn : List (Str × Bool)), vs = [.ref h, .str col] ∧ HandAt H h n ∧ n < 980000 ∧ (col, true) ∈ kn ∧
  ∀ (p : Addr) (vs : List V) (dd : Dd) (H' : Hp), H' p = some (.tup vs) → dd.At H' vs → dd.wt kn → HandAt H' h (n + 20) → But h H H' → Q (.ref p) H'
theorem ok_spell {f : Addr} {fd : FuncData} (F : Fun K "_law_spell" "_law_spell" sSp f fd) (T : Free mg) (W : HandF K mg fTk fPk dTk dPk) (G : GenF K mg fCe fWr fFo dCe dWr dFo) : FnOk P w K mg base CX0 4 f fd ["_law_box_here", "_law_column"] spSpl := by
  have GTk : FnOk P w K mg base CX0 1 fTk dTk ["_law_box_here", "_law_many"] spTake := ok_take W.Tk
  have GPk : FnOk P w K mg base CX0 2 fPk dPk ["_law_box_here", "_law_some"] (spPk K) := ok_pick W.Pk T W.Tk W.bTk W.gTk
  have GCe : FnOk P w K mg base CX0 1 fCe dCe [] spCe := ok_cells G.Ce
  have FTk := W.Tk
  have bTk := W.bTk
  have gTk := W.gTk
  have FPk := W.Pk
  have bPk := W.bPk
  have gPk := W.gPk
  have FCe := G.Ce
  have bCe := G.bCe
  have gCe := G.gCe
  refine F.ok scSp (fun vs H Q E h => ?_) (fun cdv A outer s H vs Q E hr h => ?_)
  · obtain ⟨h, n, col, kn, rfl, _⟩ := h
    rfl
  · obtain ⟨h, n, col, kn, rfl, hd, nb, mc, q⟩ := h
    refine ⟨_, pss_cons (ps_setLc (i := 2) (own := [("_law_k", 4)]) (g := gName 4) (tt := tYes) rfl scSp.nd rfl rfl (sw_true rfl rfl rfl rfl) (pi_range1 (by rfl) T.range (pa_cons (pe_op op_add pe_int (pe_call GTk (hr.mono (by decide)) (by rfl) gTk FTk.kp bTk .nil pass0 (pa_cons (pv 0) (pa_cons pe_int pa_nil)))) pa_nil)) (blkOk_by (own := [("_law_k", 4)]) (N := nSp) (sc := defScope sSp) (by decide +kernel)) (fun _ _ _ _ _ => (pg_name (i := 4) scSp.nd rfl (Or.inl rfl))) (fun _ _ _ _ _ => pts_nil) (fun _ _ _ _ _ => (pe_call GPk (hr.mono (by decide)) (by rfl) gPk FPk.kp bPk .nil pass0 (pa_cons (pv 0) (pa_cons (pe_call0 GCe (hr.mono (by decide)) (by rfl) gCe FCe.kp bCe .nil pass0) pa_nil)))))
      (pss_cons (ps_setLc (i := 3) (own := [("_law_mine", 5)]) (g := gName 5) (tt := tYes) rfl scSp.nd rfl rfl (sw_true rfl rfl rfl rfl) (pi_list (pe_srtSet (K := K) rfl rfl (r80 hr) (by rfl) T.sorted (by rfl) T.set (pv 2))) (blkOk_by (own := [("_law_mine", 5)]) (N := nSp) (sc := defScope sSp) (by decide +kernel)) (fun _ _ _ _ _ => (pg_name (i := 5) scSp.nd rfl (Or.inl rfl))) (fun _ _ _ _ _ => pts_nil) (fun _ _ _ _ _ => (pe_tup (pa_cons (pv 5) (pa_cons (pe_call GPk (hr.mono (by decide)) (by rfl) gPk FPk.kp bPk .nil pass0 (pa_cons (pv 0) (pa_cons (pe_lst (pa_cons pe_non (pa_cons pe_str (pa_cons pe_str (pa_cons pe_str pa_nil))))) pa_nil))) pa_nil)))))
      (pss_one (ps_ret (pe_tup (pa_cons pe_str (pa_cons (pv 1) (pa_cons (pe_callTy call_tuple_of (by rfl) T.tuple (by decide +kernel) (pa_cons (pv 3) pa_nil)) pa_nil))))))), ?_⟩
    refine ⟨_, rfl, h, n, 4, rfl, hd, by omega, by decide, by decide, fun r H3 r0 r1 hd3 bt3 => ?_⟩
    refine ⟨_, _, rfl, rfl, 1 + r, rfl, by omega, by omega, fun D2 nD2 => ?_⟩
    refine lc_map (walk_range (lo := 0) (n := (1 + r).toNat)) (h := h) (Z := fun j x => True) (fun j G => HandAt G h (n + 1 + 1 * j)) (fun _ y _ => ∃ z ∈ cells, y = V.str z) nD2 (hd3.fresh nD2).symm (fun j G x G' e => ⟨e.1, trivial⟩) (fun _ _ => trivial) (fun _ _ _ _ _ _ e => e) (by omega) (fun _ => rfl) hd3 (fun j G l a => a.old (hd3.fresh nD2)) ?_ ?_
    · rintro j x G Q2 hj _ btG hdG _ kk
      refine ⟨_, rfl, rfl, fun D nD => ?_⟩
      refine pick_lst hdG (by omega) nD (show 0 < 12 by decide) (show 12 ≤ 1000 by decide) (fun y H1 hy hd1 bt1 => ?_)
      obtain ⟨z, hz, rfl⟩ := List.mem_map.mp hy
      exact kk _ _ bt1 (hd1.up (by omega)) ⟨z, hz, rfl⟩
    · rintro H4 ys bt4 hd4 eD2 ly hw
      refine gN ?_
      try dsimp only
      have ly3 : ys.length ≤ 4 := by omega
      have bf : But h H H4 := bt3.trans bt4
      obtain ⟨zs, rfl, hz⟩ : ∃ zs : List Str, ys = zs.map V.str ∧ ∀ z ∈ zs, z ∈ cells := strs_of fun j y e => by
        obtain ⟨z, h1, h2⟩ := hw j y e
        exact ⟨z, h2, h1⟩
      rw [List.length_map] at ly3
      refine ⟨_, rfl, Str, kStr, D2, zs, rfl, .inl (SqL.of eD2), by omega, fun ys' l nd mem lel pw nl => newO nl fun H5 s5 e5 => ?_⟩
      have hd5 := hd4.mono s5 (Nat.le_refl _)
      have lh : l ≠ h := (hd4.fresh nl).symm
      refine ⟨l, rfl, ⟨_, SqL.of e5⟩, fun D3 nD3 => ?_⟩
      have e5' : H5 l = some (.lst (ys'.map V.str)) := e5
      refine lc_map (walk_list (K := K) (a := l) (xs := ys'.map V.str)) (h := h) (Z := fun j x => ∃ z ∈ zs, x = V.str z) (fun j G => HandAt G h (n + 1 + 1 * (1 + r).toNat + j)) (fun _ y G => ∃ (t : Addr) (z : Str) (o : Option Str), y = .ref t ∧ t ≠ h ∧ G t = some (.tup [.str z, osV o]) ∧ Good 12 z ∧ ∀ u, o = some u → Good 12 u) nD3 (hd5.fresh nD3).symm (fun j G x G' e => ⟨e.1, ?_⟩) (fun G bG => bG.seq lh (SqL.of e5')) (fun j y G G' keep ⟨l', eD⟩ ⟨t, z, o, ey, ne, e, g⟩ => ⟨t, z, o, ey, ne, keep t _ (fun q => by rw [q, eD] at e; cases e) ne e, g⟩) (by rw [List.length_map]; omega) (fun _ => rfl) hd5 (fun j G l a => a.old (hd5.fresh nD3)) ?_ ?_
      · obtain ⟨z, hz2, e2⟩ := List.mem_map.mp (List.mem_of_getElem? e.2)
        exact ⟨z, (mem z).mp hz2, e2.symm⟩
      · rintro j x G Q2 hj ⟨z, hz2, rfl⟩ btG hdG _ kk
        rw [List.length_map] at hj
        refine ⟨_, rfl, _, rfl, (show 4 ≤ sizeLine by decide), fun D nD => ?_⟩
        refine pick_lst hdG (by omega) nD (show 0 < 4 by decide) (show 4 ≤ 1000 by decide) (fun y H1 hy hd1 bt1 => ?_)
        obtain ⟨o, rfl, ho⟩ : ∃ o : Option Str, y = osV o ∧ ∀ u, o = some u → Good 12 u := by
          simp only [List.mem_cons, List.not_mem_nil, or_false] at hy
          rcases hy with rfl | rfl | rfl | rfl
          · exact ⟨none, rfl, fun u e => by cases e⟩
          all_goals exact ⟨some _, rfl, fun u e => by cases e; constructor <;> decide +kernel⟩
        exact ⟨(show 2 ≤ sizeLine by decide), fun p m1 => newO m1 fun H2 s2 e2 => kk _ _ (bt1.trans (But.of s2)) ((hd1.mono s2 (Nat.le_refl _)).up (by omega)) ⟨p, z, o, rfl, fun q => by rw [← q] at hd1; exact (hd1.fresh m1) rfl, e2, cells_good z (hz z hz2), ho⟩⟩
      · rintro H6 ys6 bt6 hd6 eD3 ly6 hw6
        rw [List.length_map] at ly6 hd6
        obtain ⟨qs, ps, rfl, lq, wq, gp⟩ := pairs_of hw6
        refine gN ?_
        try dsimp only
        unfold tRet
        dsimp only
        rw [List.length_map] at ly6
        refine ⟨_, rfl, _, rfl, D3, _, rfl, .inl ⟨SqL.of eD3, fun t m => newO m fun H7 s7 e7 => ⟨(show 3 ≤ sizeLine by decide), fun p m1 => newO m1 fun H8 s8 e8 => ?_⟩⟩⟩
        have s78 := s7.trans s8
        exact q p _ (.spell col ps) H8 e8 ⟨t, rfl, qs, lq, s8 _ _ e7, fun j q p h1 h2 => s78 _ _ (wq j q p h1 h2)⟩ ⟨mc, by omega, gp⟩ ((hd6.mono s78 (Nat.le_refl _)).up (by omega)) (((bf.trans (But.of s5)).trans bt6).trans (But.of s78))
end
end K86
set_option Elab.async false
set_option linter.all false
set_option pp.maxSteps 4000
set_option maxRecDepth 100000
set_option maxHeartbeats 4000000
/-! k86: deeds -/
namespace K86
open PySem PySem.Spec PyProof.Rows L2 Bs Xg TL Xm Xs Gn
abbrev sDe : Stmt := top 15
section
variable {X : Cx}
theorem pe_bm0Q {K : PySem.W.Frag} (hK : X.K = K) {T id : String} {name : Str} {o : Expr} {r : V → List V → Hp → VK → Prop} {to : TE} {apos cpos : Pos} (pa : PlainAttrs T) (slot : Slot T name id) (hty : typeOf (.builtin id) = pure (.type "method_descriptor")) (hm : MtR X id r) (ho : PE X o to)
    (hbase : attributeBase o name X.env (eval o X.env) = eval o X.env := by rfl) (hline : (apos.endLine == cpos.line) = true := by rfl) : PE X (.Call (.Attribute o name apos) [] [] cpos) (tBM0 K T r to) := hK ▸ pe_bm0 pa slot hty hm ho hbase hline
end
def But3 (h N L : Addr) (H H' : Hp) : Prop := ∀ b o, b ≠ h → b ≠ N → b ≠ L → H b = some o → H' b = some o
theorem But3.trans {h N L : Addr} {H H1 H2 : Hp} (a : But3 h N L H H1) (b : But3 h N L H1 H2) : But3 h N L H H2 := fun c o n1 n2 n3 e => b c o n1 n2 n3 (a c o n1 n2 n3 e)
theorem But3.h {h N L : Addr} {H H' : Hp} (a : But h H H') : But3 h N L H H' := fun c o n1 _ _ e => a c o n1 e
theorem But3.n {h N L : Addr} {H H' : Hp} (a : But N H H') : But3 h N L H H' := fun c o _ n1 _ e => a c o n1 e
theorem But3.l {h N L : Addr} {H H' : Hp} (a : But L H H') : But3 h N L H H' := fun c o _ _ n1 e => a c o n1 e
theorem But3.s {h N L : Addr} {H H' : Hp} (a : Same H H') : But3 h N L H H' := fun c o _ _ _ e => a c o e
theorem hand_but {H H' : Hp} {h N : Addr} {n : Nat} (a : HandAt H h n) (ne : h ≠ N) (b : But N H H') : HandAt H' h n := by
  obtain ⟨g, t, c, e, q⟩ := a
  exact ⟨g, t, c, b _ _ ne e, q⟩
theorem tup_ne {H : Hp} {t a : Addr} {xs ys : List V} (e : H t = some (.tup xs)) (f : H a = some (.lst ys)) : t ≠ a := by
  rintro rfl
  rw [e] at f
  cases f
theorem pop_names {K : PySem.W.Frag} {H : Hp} {N : Addr} {ns : List Str} {R : VK} (e : H N = some (.lst (ns.map V.str))) (l : 0 < ns.length) (k : ∀ (z : Str) (ns' : List Str), z ∈ ns → ns'.length + 1 = ns.length → (∀ x ∈ ns', x ∈ ns) → R (.str z) (upd H N (.lst (ns'.map V.str)))) :
    tyV K "list" (.ref N) H ∧ ∃ l xs y, V.ref N = .ref l ∧ ([] : List V) = [] ∧ H l = some (.lst xs) ∧ xs[xs.length - 1]? = some y ∧ R y (upd H l (.lst xs.dropLast)) := by
  refine ⟨.inl ⟨rfl, _, SqL.of e⟩, N, _, V.str ns[ns.length - 1], rfl, rfl, e, ?_, ?_⟩
  · rw [List.length_map, List.getElem?_map, List.getElem?_eq_getElem (by omega)]
    rfl
  · rw [← List.map_dropLast]
    exact k _ _ (List.getElem_mem _) (by rw [List.length_dropLast]; omega) fun x hx => by rw [List.dropLast_eq_take] at hx; exact List.mem_of_mem_take hx
theorem known_more {G : Hp} {L : Addr} {kn kn2 : List (Str × Bool)} {ts us : List Addr} (lts : ts.length = kn.length) (hts : ∀ (j : Nat) (t : Addr) (c : Str × Bool), ts[j]? = some t → kn[j]? = some c → G t = some (.tup [.str c.1, .str (kw c.2)]))
    (lus : us.length = kn2.length) (hus : ∀ (j : Nat) (t : Addr) (c : Str × Bool), us[j]? = some t → kn2[j]? = some c → G t = some (.tup [.str c.1, .str (kw c.2)])) (eL : G L = some (.lst (ts.map V.ref ++ us.map V.ref))) : KnownAt G L (kn ++ kn2) := by
  refine ⟨ts ++ us, by simp [lts, lus], by rw [List.map_append]; exact eL, fun j t c h1 h2 => ?_⟩
  by_cases hj : j < ts.length
  · rw [List.getElem?_append_left hj] at h1
    rw [List.getElem?_append_left (by omega)] at h2
    exact hts j t c h1 h2
  · rw [List.getElem?_append_right (by omega)] at h1
    rw [List.getElem?_append_right (by omega)] at h2
    rw [← lts] at h2
    exact hus _ t c h1 h2
theorem fit_eq : ∀ kn : List (Str × Bool), (kn.filterMap fun c => if c.2 = true then some (V.str c.1) else none) = ((kn.filter (·.2)).map fun c => V.str c.1)
  | [] => rfl
  | (a, false) :: kn => by simpa using fit_eq kn
  | (a, true) :: kn => by simpa using fit_eq kn
theorem refs_of {G : Hp} {b : Bool} : ∀ {ys : List V} {zs : List Str}, ys.length = zs.length → (∀ (j : Nat) (y : V), ys[j]? = some y → ∃ (t : Addr) (z : Str), y = .ref t ∧ zs[j]? = some z ∧ G t = some (.tup [.str z, .str (kw b)])) →
    ∃ us : List Addr, ys = us.map V.ref ∧ us.length = (zs.map fun z => (z, b)).length ∧ ∀ (j : Nat) (t : Addr) (c : Str × Bool), us[j]? = some t → (zs.map fun z => (z, b))[j]? = some c → G t = some (.tup [.str c.1, .str (kw c.2)])
  | [], [], _, _ => ⟨[], rfl, rfl, fun j t c h => by simp at h⟩
  | y :: ys, z :: zs, l, g => by
    obtain ⟨t, z', rfl, h1, h2⟩ := g 0 y rfl
    cases h1
    obtain ⟨us, rfl, lu, gu⟩ := refs_of (ys := ys) (zs := zs) (by simpa using l) fun j y hy => by
      obtain ⟨t, z, a, b, c⟩ := g (j + 1) y (by simpa using hy)
      exact ⟨t, z, a, by simpa using b, c⟩
    refine ⟨t :: us, rfl, by simp [lu], fun j u c h1 h2 => ?_⟩
    cases j with
    | zero =>
      cases h1
      cases h2
      exact h2
    | succ j => exact gu j u c (by simpa using h1) (by simpa using h2)
  | [], _ :: _, l, _ => by simp at l
  | _ :: _, [], l, _ => by simp at l
theorem one_good {z : Str} (hz : ∀ c ∈ z.cps.toList, 32 ≤ c ∧ c < 127) : ∀ c ∈ z.cps.toList, Good 1 (⟨#[c]⟩ : Str) := fun c hc => ⟨Nat.le_refl _, fun d hd => by
  have e : d = c := by simpa using hd
  rw [e]
  exact hz c hc⟩
theorem cut_to (xs : List V) (i : Nat) : cutV xs none (some (i : Int)) = xs.take i := by
  unfold cutV
  rw [HT.sIx_none, HT.sIx_nat, List.drop_zero, Nat.sub_zero]
  by_cases h : i ≤ xs.length
  · rw [Nat.min_eq_left h]
  · rw [Nat.min_eq_right (by omega), List.take_length, List.take_of_length_le (by omega)]
/-- what a deed leaves -/
def DeAt (h N L : Addr) (n : Nat) (H H' : Hp) (kn : List (Str × Bool)) (p : Addr) : Prop := ∃ (vs : List V) (dd : Dd) (kn' : List (Str × Bool)) (ns' : List Str), H' p = some (.tup vs) ∧ dd.At H' vs ∧ dd.wt kn' ∧ KnownAt H' L kn' ∧ H' N = some (.lst (ns'.map V.str)) ∧
  (∃ e, kn' = kn ++ e) ∧ ns'.length + kn'.length = 24 ∧ kn'.length ≤ 9 ∧ (∀ z ∈ ns', Good 9 z) ∧ (∀ c ∈ kn', Good 9 c.1) ∧ HandAt H' h (n + 40) ∧ But3 h N L H H'
section
variable {P : Program} {w : World} {K : PySem.W.Frag} {mg : Str → Option Value} {base : Heap} {fTk fPk : Addr} {dTk dPk : FuncData} {fCe fWr fFo : Addr} {dCe dWr dFo : FuncData} {fWi fPu fSp : Addr} {dWi dPu dSp : FuncData}
structure DeedF (K : PySem.W.Frag) (mg : Str → Option Value) (fWi fPu fSp : Addr) (dWi dPu dSp : FuncData) : Prop where
  Wi : Fun K "_law_wish" "_law_wish" sWi fWi dWi
  bWi : Binds K dWi ["_law_box_here", "_law_lot", "_law_known"] []
  gWi : mg "_law_wish" = some (.ref fWi)
  Pu : Fun K "_law_put" "_law_put" sPu fPu dPu
  bPu : Binds K dPu ["_law_box_here", "_law_known"] []
  gPu : mg "_law_put" = some (.ref fPu)
  Sp : Fun K "_law_spell" "_law_spell" sSp fSp dSp
  bSp : Binds K dSp ["_law_box_here", "_law_column"] []
  gSp : mg "_law_spell" = some (.ref fSp)
abbrev nDe : List Str := ["_law_box_here", "_law_names", "_law_known", "_law_fit", "_law_lot", "_law_column", "_law_news", "_law_base", "_law_more", "_law_some", "_law_name", "_law_kind", "_law_k", "_law_new"]
theorem scDe : FnScope nDe ["_law_box_here", "_law_names", "_law_known"] (defScope sDe) := ⟨rfl, rfl, rfl, by decide +kernel, rfl, by decide +kernel, by decide +kernel⟩
def spDe : Sp := fun vs H Q _ => ∃ (h N L : Addr) (n : Nat) (kn : List (Str × Bool)) (ns : List Str), vs = [.ref h, .ref N, .ref L] ∧ HandAt H h n ∧ n < 970000 ∧ H N = some (.lst (ns.map V.str)) ∧ KnownAt H L kn ∧ N ≠ h ∧ L ≠ h ∧ N ≠ L ∧
  (∃ c, (c, true) ∈ kn) ∧ ns.length + kn.length = 24 ∧ kn.length ≤ 9 ∧ (∀ z ∈ ns, Good 9 z) ∧ (∀ c ∈ kn, Good 9 c.1) ∧ ∀ (p : Addr) (H' : Hp), DeAt h N L n H H' kn p → Q (.ref p) H'
theorem ok_deed {f : Addr} {fd : FuncData} (F : Fun K "_law_deed" "_law_deed" sDe f fd) (T : Free mg) (W : HandF K mg fTk fPk dTk dPk) (G : GenF K mg fCe fWr fFo dCe dWr dFo) (D : DeedF K mg fWi fPu fSp dWi dPu dSp) : FnOk P w K mg base CX0 5 f fd ["_law_box_here", "_law_names", "_law_known"] spDe := by
  have GTk : FnOk P w K mg base CX0 1 fTk dTk ["_law_box_here", "_law_many"] spTake := ok_take W.Tk
  have GPk : FnOk P w K mg base CX0 2 fPk dPk ["_law_box_here", "_law_some"] (spPk K) := ok_pick W.Pk T W.Tk W.bTk W.gTk
  have GFo : FnOk P w K mg base CX0 2 fFo dFo ["_law_box_here"] spFo := ok_form G.Fo W
  have GWi : FnOk P w K mg base CX0 4 fWi dWi ["_law_box_here", "_law_lot", "_law_known"] spWi := ok_wish D.Wi T W G
  have GPu : FnOk P w K mg base CX0 4 fPu dPu ["_law_box_here", "_law_known"] spPu := ok_put D.Pu T W G
  have GSp : FnOk P w K mg base CX0 4 fSp dSp ["_law_box_here", "_law_column"] spSpl := ok_spell D.Sp T W G
  have FTk := W.Tk
  have bTk := W.bTk
  have gTk := W.gTk
  have FPk := W.Pk
  have bPk := W.bPk
  have gPk := W.gPk
  have FFo := G.Fo
  have bFo := G.bFo
  have gFo := G.gFo
  have FWi := D.Wi
  have bWi := D.bWi
  have gWi := D.gWi
  have FPu := D.Pu
  have bPu := D.bPu
  have gPu := D.gPu
  have FSp := D.Sp
  have bSp := D.bSp
  have gSp := D.gSp
  refine F.ok scDe (fun vs H Q E h => ?_) (fun cdv A outer s H vs Q E hr h => ?_)
  · obtain ⟨h, N, L, n, kn, ns, rfl, _⟩ := h
    rfl
  · obtain ⟨h, N, L, n, kn, ns, rfl, hd, nb, eN, kA, nh, lh, nl, ⟨c0, hc0⟩, l24, l9, gns, gkn, q⟩ := h
    have sh : Short kn := ⟨fun z => by rw [z] at hc0; simp at hc0, by omega, gkn⟩
    obtain ⟨ts, lts, eL, hts⟩ := kA
    have ltm : (ts.map V.ref).length = kn.length := by rw [List.length_map, lts]
    refine ⟨_, pss_cons (ps_setLc (i := 3) (own := [("_law_name", 10), ("_law_kind", 11)]) (g := gTup K 2 (gCons (gName 10) (gCons (gName 11) gNil))) (tt := (tTest (tOp rEq (tVar 11) (tC (.str "text"))))) rfl scDe.nd rfl rfl (sw_true rfl rfl rfl rfl) (pi_list (pv 2)) (blkOk_by (own := [("_law_name", 10), ("_law_kind", 11)]) (N := nDe) (sc := defScope sDe) (by decide +kernel)) (fun _ _ _ _ _ => (pg_tup rfl (pgs_cons (pg_name (i := 10) scDe.nd rfl (Or.inl rfl)) (pgs_cons (pg_name (i := 11) scDe.nd rfl (Or.inl rfl)) pgs_nil)))) (fun _ _ _ _ _ => pts_one (pt_cmpR op_eq (pv 11) pe_str (nomark _))) (fun _ _ _ _ _ => (pv 10)))
      (pss_cons (ps_par (i := 4) (j := 5) rfl scDe.nd rfl rfl (by decide) rfl rfl (pa_cons (pe_call GTk (hr.mono (by decide)) (by rfl) gTk FTk.kp bTk .nil pass0 (pa_cons (pv 0) (pa_cons pe_int pa_nil))) (pa_cons (pe_call GPk (hr.mono (by decide)) (by rfl) gPk FPk.kp bPk .nil pass0 (pa_cons (pv 0) (pa_cons (pv 3) pa_nil))) pa_nil)) (by rfl))
      (pss_cons (ps_if (PW.pt (pw_and (pt_cmpR op_gt (pe_callB (call_len_seqK (K := K) rfl) (by rfl) T.len PySem.boot_len (pa_cons (pv 2) pa_nil)) pe_int (nomark _)) (pw_and1 (pt_cmpR op_lt (pv 4) pe_int (nomark _))))) (pss_one (ps_set (i := 4) scDe.nd rfl (Or.inl rfl) (pe_op op_add pe_int (pv 4)))) (pss_nil))
      (pss_cons (ps_if (pt_cmpR op_eq (pv 4) pe_int (nomark _)) (pss_cons (ps_setLc (i := 6) (own := [("_law_k", 12)]) (g := gName 12) (tt := tYes) rfl scDe.nd rfl rfl (sw_true rfl rfl rfl rfl) (pi_range1 (by rfl) T.range (pa_cons (pe_op op_add pe_int (pe_call GTk (hr.mono (by decide)) (by rfl) gTk FTk.kp bTk .nil pass0 (pa_cons (pv 0) (pa_cons pe_int pa_nil)))) pa_nil)) (blkOk_by (own := [("_law_k", 12)]) (N := nDe) (sc := defScope sDe) (by decide +kernel)) (fun _ _ _ _ _ => (pg_name (i := 12) scDe.nd rfl (Or.inl rfl))) (fun _ _ _ _ _ => pts_nil) (fun _ _ _ _ _ => (pe_bm0Q (K := K) rfl PySem.F.plainAttrs_list PySem.F.slot_list_pop PySem.F.type_list_pop mt_pop (pv 1))))
      (pss_cons (ps_expr (pe_bmK (K := K) rfl PySem.F.plainAttrs_list PySem.F.slot_list_extend PySem.F.type_list_extend mt_extend (pv 2) (pa_cons (pe_lc (own := [("_law_new", 13)]) (g := gName 13) (tt := tYes) rfl scDe.nd (pi_list (pv 6)) (blkOk_by (own := [("_law_new", 13)]) (N := nDe) (sc := defScope sDe) (by decide +kernel)) (fun _ _ _ _ _ => (pg_name (i := 13) scDe.nd rfl (Or.inl rfl))) (fun _ _ _ _ _ => pts_nil) (fun _ _ _ _ _ => (pe_tup (pa_cons (pv 13) (pa_cons pe_str pa_nil))))) pa_nil)))
      (pss_one (ps_ret (pe_tup (pa_cons pe_str (pa_cons (pv 5) (pa_cons (pe_call GPk (hr.mono (by decide)) (by rfl) gPk FPk.kp bPk .nil pass0 (pa_cons (pv 0) (pa_cons pe_str pa_nil))) (pa_cons (pe_callTy call_tuple_of (by rfl) T.tuple (by decide +kernel) (pa_cons (pv 6) pa_nil)) pa_nil))))))))) (pss_nil))
      (pss_cons (ps_if (pt_cmpR op_eq (pv 4) pe_int (nomark _)) (pss_cons (ps_set (i := 7) scDe.nd rfl (Or.inr rfl) (pe_slice sl_list (pv 3) po_none (po_some (pe_op op_add pe_int (pe_call GTk (hr.mono (by decide)) (by rfl) gTk FTk.kp bTk .nil pass0 (pa_cons (pv 0) (pa_cons pe_int pa_nil)))))))
      (pss_cons (ps_set (i := 8) scDe.nd rfl (Or.inl rfl) (pe_op op_add pe_int (pe_call GTk (hr.mono (by decide)) (by rfl) gTk FTk.kp bTk .nil pass0 (pa_cons (pv 0) (pa_cons (pe_ix (ix_listK (K := K) rfl) (pe_lst (pa_cons pe_int (pa_cons pe_int (pa_cons pe_int pa_nil)))) (pe_op op_sub (pe_callB (call_len_seqK (K := K) rfl) (by rfl) T.len PySem.boot_len (pa_cons (pv 7) pa_nil)) pe_int) (fun _ _ => rfl)) pa_nil)))))
      (pss_cons (ps_setLc (i := 9) (own := [("_law_k", 12)]) (g := gName 12) (tt := tYes) rfl scDe.nd rfl rfl (sw_true rfl rfl rfl rfl) (pi_range1 (by rfl) T.range (pa_cons (pv 8) pa_nil)) (blkOk_by (own := [("_law_k", 12)]) (N := nDe) (sc := defScope sDe) (by decide +kernel)) (fun _ _ _ _ _ => (pg_name (i := 12) scDe.nd rfl (Or.inl rfl))) (fun _ _ _ _ _ => pts_nil) (fun _ _ _ _ _ => (pe_call GPk (hr.mono (by decide)) (by rfl) gPk FPk.kp bPk .nil pass0 (pa_cons (pv 0) (pa_cons (pv 7) pa_nil)))))
      (pss_cons (ps_expr (pe_bmK (K := K) rfl PySem.F.plainAttrs_list PySem.F.slot_list_append PySem.F.type_list_append mt_append (pv 2) (pa_cons (pe_tup (pa_cons (pe_bm0Q (K := K) rfl PySem.F.plainAttrs_list PySem.F.slot_list_pop PySem.F.type_list_pop mt_pop (pv 1)) (pa_cons pe_str pa_nil))) pa_nil)))
      (pss_one (ps_ret (pe_tup (pa_cons pe_str (pa_cons (pe_callTy call_tuple_of (by rfl) T.tuple (by decide +kernel) (pa_cons (pv 9) pa_nil)) (pa_cons (pe_call GPk (hr.mono (by decide)) (by rfl) gPk FPk.kp bPk .nil pass0 (pa_cons (pv 0) (pa_cons pe_str pa_nil))) (pa_cons (pe_ix (ix_tupK (K := K) rfl) (pe_ix (ix_listK (K := K) rfl) (pv 2) (pe_un un_neg pe_int) (fun _ _ => rfl)) pe_int (fun _ _ => rfl)) pa_nil))))))))))) (pss_nil))
      (pss_cons (ps_if (pt_cmpR op_eq (pv 4) pe_int (nomark _)) (pss_one (ps_ret (pe_call GSp (hr.mono (by decide)) (by rfl) gSp FSp.kp bSp .nil pass0 (pa_cons (pv 0) (pa_cons (pv 5) pa_nil))))) (pss_nil))
      (pss_cons (ps_if (pt_cmpR op_lt (pv 4) pe_int (nomark _)) (pss_cons (ps_expr (pe_bmK (K := K) rfl PySem.F.plainAttrs_list PySem.F.slot_list_append PySem.F.type_list_append mt_append (pv 2) (pa_cons (pe_tup (pa_cons (pe_bm0Q (K := K) rfl PySem.F.plainAttrs_list PySem.F.slot_list_pop PySem.F.type_list_pop mt_pop (pv 1)) (pa_cons pe_str pa_nil))) pa_nil)))
      (pss_one (ps_ret (pe_tup (pa_cons pe_str (pa_cons (pv 5) (pa_cons (pe_call GFo (hr.mono (by decide)) (by rfl) gFo FFo.kp bFo .nil pass0 (pa_cons (pv 0) pa_nil)) (pa_cons (pe_ix (ix_tupK (K := K) rfl) (pe_ix (ix_listK (K := K) rfl) (pv 2) (pe_un un_neg pe_int) (fun _ _ => rfl)) pe_int (fun _ _ => rfl)) pa_nil)))))))) (pss_nil))
      (pss_cons (ps_if (pt_cmpR op_gt (pv 4) pe_int (nomark _)) (pss_one (ps_ret (pe_tup (pa_cons pe_str (pa_cons (pe_ix (ix_tupK (K := K) rfl) (pe_call GPk (hr.mono (by decide)) (by rfl) gPk FPk.kp bPk .nil pass0 (pa_cons (pv 0) (pa_cons (pv 2) pa_nil))) pe_int (fun _ _ => rfl)) (pa_cons (pe_tup pa_nil) pa_nil)))))) (pss_nil))
      (pss_one (ps_ret (pe_ifExp (pt_cmpR op_eq (pv 4) pe_int (nomark _)) (pe_call GPu (hr.mono (by decide)) (by rfl) gPu FPu.kp bPu .nil pass0 (pa_cons (pv 0) (pa_cons (pv 2) pa_nil))) (pe_call GWi (hr.mono (by decide)) (by rfl) gWi FWi.kp bWi .nil pass0 (pa_cons (pv 0) (pa_cons (pv 4) (pa_cons (pv 2) pa_nil)))))))))))))), ?_⟩
    refine ⟨_, rfl, L, rfl, ⟨_, SqL.of eL⟩, fun D nD => ?_⟩
    refine lc_fm (walk_list (K := K) (a := L) (xs := ts.map V.ref)) kn (fun c => if c.2 = true then some (V.str c.1) else none) ltm.symm nD (fun G sG => SqL.of (sG _ _ eL)) (by omega) ?_ ?_
    · rintro j c x G G' R N hj sG ⟨rfl, hx⟩ kR kN
      rw [List.getElem?_map] at hx
      obtain ⟨t', ht', rfl⟩ := Option.map_eq_some_iff.mp hx
      refine ⟨t', _, rfl, SqT.of (sG _ _ (hts j t' c ht' hj)), rfl, _, _, rfl, gN ⟨_, _, rfl, gN ⟨rfl, rfl, ?_⟩⟩⟩
      refine ⟨_, rfl, rfl, _, rfl, ?_⟩
      cases hk : c.2 with
      | true =>
        rw [decide_eq_true (show V.str (kw true) = V.str "text" from rfl)]
        exact iteT ⟨_, rfl, kR _ (if_pos hk) _ (Same.refl _)⟩
      | false =>
        rw [decide_eq_false (show ¬ V.str (kw false) = V.str "text" from by decide +kernel)]
        exact iteF (kN (if_neg (by rw [hk]; decide)) _ (Same.refl _))
    · intro H1 s1 e1
      rw [fit_eq] at e1
      obtain ⟨fs, hfs, lfs, gfs⟩ : ∃ fs : List Str, ((kn.filter (·.2)).map fun c => V.str c.1) = fs.map V.str ∧ 1 ≤ fs.length ∧ ∀ z ∈ fs, (z, true) ∈ kn := by
        refine ⟨(kn.filter (·.2)).map (·.1), by rw [List.map_map]; rfl, ?_, fun z hz => ?_⟩
        · rw [List.length_map]
          exact List.length_pos_iff.mpr (List.ne_nil_of_mem (List.mem_filter.mpr ⟨hc0, rfl⟩))
        · obtain ⟨c, hc, rfl⟩ := List.mem_map.mp hz
          obtain ⟨h1, h2⟩ := List.mem_filter.mp hc
          obtain ⟨a, b⟩ := c
          cases h2
          exact h1
      rw [hfs] at e1
      have lf9 : fs.length ≤ 9 := by
        have h1 := congrArg List.length hfs
        rw [List.length_map, List.length_map] at h1
        have := List.length_filter_le (·.2) kn
        omega
      have hd1 := hd.mono s1 (Nat.le_refl _)
      have Dh : D ≠ h := (hd.fresh nD).symm
      have eN1 := s1 _ _ eN
      have eL1 := s1 _ _ eL
      have DN : D ≠ N := fun z => by rw [z, eN] at nD; cases nD
      have DL : D ≠ L := fun z => by rw [z, eL] at nD; cases nD
      refine gN ?_
      try dsimp only
      refine ⟨_, rfl, h, n, 13, rfl, hd1, by omega, by decide, by decide, fun r H2 r0 r1 hd2 bt2 => ?_⟩
      refine ⟨_, rfl, _, rfl, pick_old hd2 (by omega) (SqL.of (bt2 D _ Dh e1)) Dh (by rw [List.length_map]; omega) (by rw [List.length_map]; omega) (fun y H3 hy hd3 bt3 => ?_)⟩
      obtain ⟨col, hcol, rfl⟩ := List.mem_map.mp hy
      have mcol := gfs col hcol
      have b13 : But h H1 H3 := bt2.trans bt3
      have e3 := b13 D _ Dh e1
      have eN3 := b13 N _ nh eN1
      have eL3 := b13 L _ lh eL1
      have hts3 : ∀ (j : Nat) (t : Addr) (c : Str × Bool), ts[j]? = some t → kn[j]? = some c → H3 t = some (.tup [.str c.1, .str (kw c.2)]) := fun j t c h1 h2 => b13 t _ (tup_hand hd1 (s1 _ _ (hts j t c h1 h2)) fun l z => by cases z) (s1 _ _ (hts j t c h1 h2))
      have B3 : But3 h N L H H3 := (But3.s s1).trans (But3.h b13)
      refine ⟨_, _, rfl, ?_⟩
      try dsimp only
      refine cutT (fun σ' H' => H' = H3 ∧ ∃ lot : Int, 0 ≤ lot ∧ lot < 13 ∧ (6 < kn.length → 5 ≤ lot) ∧ σ' = [some (.ref h), some (.ref N), some (.ref L), some (.ref D), some (.int lot), some (.str col), none, none, none, none, none, none, none, none]) (fun N' q' => ?_) ?_
      · refine ⟨_, rfl, L, _, rfl, .inl (SqL.of eL3), _, _, rfl, rfl, _, rfl, ?_⟩
        by_cases c6 : (6 : Int) < ((ts.map V.ref).length : Nat)
        · rw [decide_eq_true c6]
          refine iteT ?_
          refine ⟨_, rfl, _, _, rfl, rfl, _, rfl, ?_⟩
          by_cases c5 : r < 5
          · rw [decide_eq_true c5]
            refine iteT ?_
            refine ⟨_, rfl, _, _, rfl, rfl, ?_⟩
            exact q' _ _ ⟨rfl, 8 + r, by omega, by omega, fun _ => by omega, rfl⟩
          · rw [decide_eq_false c5]
            refine iteF ?_
            exact q' _ _ ⟨rfl, r, by omega, by omega, fun _ => by omega, rfl⟩
        · rw [decide_eq_false c6]
          refine iteF ?_
          exact q' _ _ ⟨rfl, r, by omega, by omega, fun z => by omega, rfl⟩
      · rintro σ' H' ⟨rfl, lot, t0, t13, t5, rfl⟩
        try dsimp only
        refine ⟨_, rfl, rfl, _, rfl, ?_⟩
        by_cases e0 : V.int lot = V.int 0
        · rw [decide_eq_true e0]
          refine iteT ?_
          have lot0 : lot = 0 := by cases e0; rfl
          have k6 : kn.length ≤ 6 := by
            by_cases z : 6 < kn.length
            · have := t5 z
              omega
            · omega
          refine ⟨_, rfl, h, n + 1 + 1, 2, rfl, hd3, by omega, by decide, by decide, fun r2 H4 r20 r21 hd4 bt4 => ?_⟩
          have eN4 := bt4 N _ nh eN3
          have eL4 := bt4 L _ lh eL3
          refine ⟨_, _, rfl, rfl, 2 + r2, rfl, by omega, by omega, fun D2 nD2 => ?_⟩
          have D2N : D2 ≠ N := fun z => by rw [z, eN4] at nD2; cases nD2
          have D2L : D2 ≠ L := fun z => by rw [z, eL4] at nD2; cases nD2
          refine lc_map (walk_range (lo := 0) (n := (2 + r2).toNat)) (h := N) (Z := fun j x => True) (fun j G => ∃ ns' : List Str, G N = some (.lst (ns'.map V.str)) ∧ ns'.length + j = ns.length ∧ ∀ z ∈ ns', z ∈ ns) (fun _ y _ => ∃ z ∈ ns, y = V.str z) nD2 D2N (fun j G x G' e => ⟨e.1, trivial⟩) (fun _ _ => trivial) (fun _ _ _ _ _ _ e => e) (by omega) (fun _ => rfl) ⟨ns, eN4, rfl, fun z hz => hz⟩ (fun j G l a => by
            obtain ⟨ns', e, g⟩ := a
            exact ⟨ns', by rw [upd_ne D2N.symm]; exact e, g⟩) ?_ ?_
          · rintro j x G Q2 hj _ btG ⟨ns', eN', ln', mn'⟩ _ kk
            exact ⟨_, rfl, pop_names eN' (by omega) fun z ns2 hz l2 m2 => kk _ _ But.upd ⟨ns2, upd_same, by omega, fun x hx => mn' x (m2 x hx)⟩ ⟨z, mn' z hz, rfl⟩⟩
          · rintro H5 ys bt5 ⟨ns', eN5, ln5, mn5⟩ eD5 ly hw
            obtain ⟨zs, rfl, hz⟩ : ∃ zs : List Str, ys = zs.map V.str ∧ ∀ z ∈ zs, z ∈ ns := strs_of fun j y e => by
              obtain ⟨z, h1, h2⟩ := hw j y e
              exact ⟨z, h2, h1⟩
            rw [List.length_map] at ly
            have eL5 := bt5 L _ nl.symm eL4
            have hd5 := hand_but hd4 nh.symm bt5
            have hts5 : ∀ (j : Nat) (t : Addr) (c : Str × Bool), ts[j]? = some t → kn[j]? = some c → H5 t = some (.tup [.str c.1, .str (kw c.2)]) := fun j t c h1 h2 => by
              have e4 := bt4 t _ (tup_hand hd3 (hts3 j t c h1 h2) fun l z => by cases z) (hts3 j t c h1 h2)
              exact bt5 t _ (tup_ne e4 eN4) e4
            have B5 : But3 h N L H H5 := (B3.trans (But3.h bt4)).trans (But3.n bt5)
            refine gN ?_
            try dsimp only
            refine ⟨_, rfl, .inl ⟨rfl, _, SqL.of eL5⟩, _, rfl, D2, rfl, ⟨_, SqL.of eD5⟩, fun D3 nD3 => ?_⟩
            refine lc_new (walk_list (K := K) (a := D2) (xs := zs.map V.str)) (Z := fun j x => (zs.map V.str)[j]? = some x) (fun j y G => ∃ (t : Addr) (z : Str), y = .ref t ∧ zs[j]? = some z ∧ G t = some (.tup [.str z, .str (kw true)])) nD3 (fun j G x G' e => ⟨e.1, e.2⟩) (fun G sG => SqL.of (sG _ _ eD5)) (fun j y G G' keep ⟨l', eD⟩ ⟨t, z, e1, e2, e3⟩ => ⟨t, z, e1, e2, keep t _ (fun q => by rw [q, eD] at e3; cases e3) e3⟩) (by rw [List.length_map]; omega) (fun _ => rfl) ?_ ?_
            · rintro j x G Q2 hj hx sG kk
              rw [List.getElem?_map] at hx
              obtain ⟨z, hz2, rfl⟩ := Option.map_eq_some_iff.mp hx
              exact ⟨_, rfl, (show 2 ≤ sizeLine by decide), fun p m1 => newO m1 fun G2 s2 e2 => kk _ _ s2 ⟨p, z, rfl, hz2, e2⟩⟩
            · rintro H6 ys6 s6 eD6 ly6 hw6
              rw [List.length_map] at ly6
              obtain ⟨us, rfl, lus, hus⟩ := refs_of ly6 hw6
              have eL6 := s6 _ _ eL5
              refine ⟨L, D3, _, _, rfl, rfl, eL6, eD6, ?_, ?_⟩
              · rw [List.length_map, List.length_map, lts, lus, List.length_map, sizeLine_eq]
                omega
              have b7 : But L H6 (upd H6 L (.lst (ts.map V.ref ++ us.map V.ref))) := But.upd
              have e7 : upd H6 L (.lst (ts.map V.ref ++ us.map V.ref)) L = _ := upd_same
              generalize upd H6 L (.lst (ts.map V.ref ++ us.map V.ref)) = H7 at b7 e7 ⊢
              have kA7 : KnownAt H7 L (kn ++ zs.map fun z => (z, true)) := known_more lts (fun j t c h1 h2 => by
                have e6 := s6 _ _ (hts5 j t c h1 h2)
                exact b7 t _ (tup_ne e6 eL6) e6) lus (fun j t c h1 h2 => by
                have e6 := hus j t c h1 h2
                exact b7 t _ (tup_ne e6 eL6) e6) e7
              have hd7 := hand_but (hd5.mono s6 (Nat.le_refl _)) lh.symm b7
              have eN7 := b7 N _ nl (s6 _ _ eN5)
              have eD7 := b7 D2 _ D2L (s6 _ _ eD5)
              have B7 := (B5.trans (But3.s s6)).trans (But3.l (h := h) (N := N) b7)
              have D2h : D2 ≠ h := (hd4.fresh nD2).symm
              try dsimp only
              unfold tRet
              dsimp only
              refine ⟨_, rfl, _, rfl, pick_str hd7 (by omega) (by decide +kernel) (by decide +kernel) (fun c H8 hc hd8 bt8 => ?_)⟩
              refine ⟨_, rfl, D2, _, rfl, .inl ⟨SqL.of (bt8 D2 _ D2h eD7), fun t m => newO m fun H9 s9 e9 => ⟨(show 4 ≤ sizeLine by decide), fun p m1 => newO m1 fun H10 s10 e10 => ?_⟩⟩⟩
              have s810 := s9.trans s10
              have kA10 := known_but hd7 kA7 lh (bt8.trans (But.of s810))
              refine q p H10 ⟨_, .cut col ⟨#[c]⟩ zs, _, ns', e10, ⟨t, rfl, s10 _ _ e9⟩, ⟨List.mem_append_left _ mcol, one_good (by decide +kernel) c hc, by omega, by omega, fun z h => gns z (hz z h)⟩, kA10, s810 _ _ (bt8 N _ nh eN7), ⟨_, rfl⟩, ?_, ?_, fun z h => gns z (mn5 z h), fun x hx => ?_, (hd8.mono s810 (Nat.le_refl _)).up (by omega), (B7.trans (But3.h bt8)).trans (But3.s s810)⟩
              · rw [List.length_append, List.length_map]
                omega
              · rw [List.length_append, List.length_map]
                omega
              · rcases List.mem_append.mp hx with hx | hx
                · exact gkn x hx
                · obtain ⟨z, hz2, rfl⟩ := List.mem_map.mp hx
                  exact gns z (hz z hz2)
        rw [decide_eq_false e0]
        refine iteF ?_
        unfold tNext
        dsimp only
        refine ⟨_, rfl, rfl, _, rfl, ?_⟩
        by_cases e1 : V.int lot = V.int 1
        · rw [decide_eq_true e1]
          refine iteT ?_
          have lot1 : lot = 1 := by cases e1; rfl
          have k6 : kn.length ≤ 6 := by
            by_cases z : 6 < kn.length
            · have := t5 z
              omega
            · omega
          refine ⟨_, rfl, _, rfl, h, n + 1 + 1, 3, rfl, hd3, by omega, by decide, by decide, fun r2 H4 r20 r21 hd4 bt4 => ?_⟩
          have eN4 := bt4 N _ nh eN3
          have eL4 := bt4 L _ lh eL3
          have eD4 := bt4 D _ Dh e3
          refine ⟨_, _, rfl, rfl, 1 + r2, rfl, D, _, rfl, SqL.of eD4, fun D2 nD2 => newO nD2 fun H5 s5 e5 => ?_⟩
          have D2h : D2 ≠ h := (hd4.fresh nD2).symm
          obtain ⟨bs, hbs, lb1, lb3, gbs⟩ : ∃ bs : List Str, cutV (fs.map V.str) none (some (1 + r2)) = bs.map V.str ∧ 1 ≤ bs.length ∧ bs.length ≤ 3 ∧ ∀ z ∈ bs, (z, true) ∈ kn := by
            have er : ((1 + r2).toNat : Int) = 1 + r2 := Int.toNat_of_nonneg (by omega)
            refine ⟨fs.take (1 + r2).toNat, by rw [← er, cut_to, List.map_take]; rfl, ?_, ?_, fun z hz => gfs z (List.mem_of_mem_take hz)⟩
            · rw [List.length_take]
              omega
            · rw [List.length_take]
              omega
          rw [hbs] at e5
          have hd5 := hd4.mono s5 (Nat.le_refl _)
          have eN5 := s5 _ _ eN4
          have eL5 := s5 _ _ eL4
          refine gN ?_
          try dsimp only
          obtain ⟨m, hm, m1, m4⟩ : ∃ m : Int, atI [V.int 4, V.int 2, V.int 2] ((((bs.map V.str).length : Nat) : Int) - 1) = some (V.int m) ∧ 1 ≤ m ∧ m ≤ 4 := by
            rw [List.length_map]
            rcases (show bs.length = 1 ∨ bs.length = 2 ∨ bs.length = 3 by omega) with z | z | z
            · rw [z]
              exact ⟨4, rfl, by decide, by decide⟩
            · rw [z]
              exact ⟨2, rfl, by decide, by decide⟩
            · rw [z]
              exact ⟨2, rfl, by decide, by decide⟩
          refine ⟨_, rfl, (show 3 ≤ sizeLine by decide), fun L3 n3 => newO n3 fun H6 s6 e6 => ?_⟩
          have hd6 := hd5.mono s6 (Nat.le_refl _)
          refine ⟨_, rfl, D2, _, rfl, .inl (SqL.of (s6 _ _ e5)), _, _, rfl, rfl, L3, _, _, V.int m, rfl, rfl, SqL.of e6, hm, h, n + 1 + 1 + 1, m, rfl, hd6, by omega, by omega, by omega, fun r3 H7 r30 r31 hd7 bt7 => ?_⟩
          refine ⟨_, _, rfl, rfl, ?_⟩
          refine gN ?_
          try dsimp only
          have eN7 := bt7 N _ nh (s6 _ _ eN5)
          have eL7 := bt7 L _ lh (s6 _ _ eL5)
          have eD7 := bt7 D2 _ D2h (s6 _ _ e5)
          refine ⟨_, rfl, 1 + r3, rfl, by omega, by omega, fun D4 nD4 => ?_⟩
          refine lc_map (walk_range (lo := 0) (n := (1 + r3).toNat)) (h := h) (Z := fun j x => True) (fun j G => HandAt G h (n + 1 + 1 + 1 + 1 + j)) (fun _ y _ => ∃ z ∈ bs, y = V.str z) nD4 (hd7.fresh nD4).symm (fun j G x G' e => ⟨e.1, trivial⟩) (fun _ _ => trivial) (fun _ _ _ _ _ _ e => e) (by omega) (fun _ => rfl) hd7 (fun j G l a => a.old (hd7.fresh nD4)) ?_ ?_
          · rintro j x G Q2 hj _ btG hdG _ kk
            refine ⟨_, rfl, _, rfl, pick_old hdG (by omega) (SqL.of (btG D2 _ D2h eD7)) D2h (by rw [List.length_map]; omega) (by rw [List.length_map]; omega) (fun y H1 hy hd1 bt1 => ?_)⟩
            obtain ⟨z, hz, rfl⟩ := List.mem_map.mp hy
            exact kk _ _ bt1 (hd1.up (by omega)) ⟨z, hz, rfl⟩
          · rintro H8 ys bt8 hd8 eD8 ly hw
            obtain ⟨zs, rfl, hz⟩ : ∃ zs : List Str, ys = zs.map V.str ∧ ∀ z ∈ zs, z ∈ bs := strs_of fun j y e => by
              obtain ⟨z, h1, h2⟩ := hw j y e
              exact ⟨z, h2, h1⟩
            rw [List.length_map] at ly
            have eN8 := bt8 N _ nh eN7
            have eL8 := bt8 L _ lh eL7
            have B8 : But3 h N L H H8 := ((((B3.trans (But3.h bt4)).trans (But3.s s5)).trans (But3.s s6)).trans (But3.h bt7)).trans (But3.h bt8)
            have b38 : But h H' H8 := (((bt4.trans (But.of s5)).trans (But.of s6)).trans bt7).trans bt8
            have hts8 : ∀ (j : Nat) (t : Addr) (c : Str × Bool), ts[j]? = some t → kn[j]? = some c → H8 t = some (.tup [.str c.1, .str (kw c.2)]) := fun j t c h1 h2 => b38 t _ (tup_hand hd3 (hts3 j t c h1 h2) fun l z => by cases z) (hts3 j t c h1 h2)
            refine gN ?_
            try dsimp only
            have D4N : D4 ≠ N := fun z => by rw [z, eN7] at nD4; cases nD4
            have D4L : D4 ≠ L := fun z => by rw [z, eL7] at nD4; cases nD4
            refine ⟨_, rfl, .inl ⟨rfl, _, SqL.of eL8⟩, _, rfl, pop_names eN8 (by omega) fun z ns2 hz2 l2 m2 => ?_⟩
            have b9 : But N H8 (upd H8 N (.lst (ns2.map V.str))) := But.upd
            have e9 : upd H8 N (.lst (ns2.map V.str)) N = _ := upd_same
            generalize upd H8 N (.lst (ns2.map V.str)) = H9 at b9 e9 ⊢
            refine ⟨(show 2 ≤ sizeLine by decide), fun t m1 => newO m1 fun H10 s10 e10 => ?_⟩
            have eL10 := s10 _ _ (b9 L _ nl.symm eL8)
            refine ⟨L, _, _, rfl, rfl, eL10, by rw [List.length_map, lts, sizeLine_eq]; omega, ?_⟩
            have b11 : But L H10 (upd H10 L (.lst (ts.map V.ref ++ [V.ref t]))) := But.upd
            have e11 : upd H10 L (.lst (ts.map V.ref ++ [V.ref t])) L = _ := upd_same
            generalize upd H10 L (.lst (ts.map V.ref ++ [V.ref t])) = H11 at b11 e11 ⊢
            have tL : t ≠ L := tup_ne e10 eL10
            have kA11 : KnownAt H11 L (kn ++ [(z, true)]) := known_more (us := [t]) lts (fun j t c h1 h2 => by
              have x8 := hts8 j t c h1 h2
              have x10 := s10 _ _ (b9 t _ (tup_ne x8 eN8) x8)
              exact b11 t _ (tup_ne x10 eL10) x10) rfl (fun j t' c h1 h2 => by
              cases j with
              | zero =>
                cases h1
                cases h2
                exact b11 t _ tL e10
              | succ j => simp at h1) e11
            have hd11 := hand_but ((hand_but hd8 nh.symm b9).mono s10 (Nat.le_refl _)) lh.symm b11
            have eN11 := b11 N _ nl (s10 _ _ e9)
            have eD11 := b11 D4 _ D4L (s10 _ _ (b9 D4 _ D4N eD8))
            have B11 := (((B8.trans (But3.n b9)).trans (But3.s s10))).trans (But3.l (h := h) (N := N) b11)
            have e11t := b11 t _ tL e10
            try dsimp only
            unfold tRet
            dsimp only
            refine ⟨_, rfl, D4, _, rfl, .inl ⟨SqL.of eD11, fun u mu => newO mu fun H12 s12 e12 => ?_⟩⟩
            have hd12 := hd11.mono s12 (Nat.le_refl _)
            refine ⟨_, rfl, pick_str hd12 (by omega) (by decide +kernel) (by decide +kernel) (fun c H13 hc hd13 bt13 => ?_)⟩
            have eL13 := bt13 L _ lh (s12 _ _ e11)
            have e13t := bt13 t _ (tup_hand hd12 (s12 _ _ e11t) fun l z => by cases z) (s12 _ _ e11t)
            refine ⟨_, rfl, _, rfl, L, _, _, V.ref t, rfl, rfl, SqL.of eL13, ?_, ?_⟩
            · exact atI_last _ _
            refine ⟨t, _, _, V.str z, rfl, rfl, SqT.of e13t, rfl, (show 4 ≤ sizeLine by decide), fun p m3 => newO m3 fun H14 s14 e14 => ?_⟩
            have kA14 := known_but hd11 kA11 lh (((But.of s12).trans bt13).trans (But.of s14))
            refine q p H14 ⟨_, .glue zs ⟨#[c]⟩ z, _, ns2, e14, ⟨u, rfl, s14 _ _ (bt13 u _ (tup_hand hd12 e12 fun l z => by cases z) e12)⟩, ⟨fun x hx => List.mem_append_left _ (gbs x (hz x hx)), by omega, by omega, one_good (by decide +kernel) c hc, gns z hz2⟩, kA14, s14 _ _ (bt13 N _ nh (s12 _ _ eN11)), ⟨_, rfl⟩, ?_, ?_, fun x hx => gns x (m2 x hx), fun x hx => ?_, (hd13.mono s14 (Nat.le_refl _)).up (by omega), ((B11.trans (But3.s s12)).trans (But3.h bt13)).trans (But3.s s14)⟩
            · rw [List.length_append]
              show ns2.length + (kn.length + 1) = 24
              omega
            · rw [List.length_append]
              show kn.length + 1 ≤ 9
              omega
            · rcases List.mem_append.mp hx with hx | hx
              · exact gkn x hx
              · rw [List.mem_singleton.mp hx]
                exact gns z hz2
        rw [decide_eq_false e1]
        refine iteF ?_
        dsimp only
        have kA3 : KnownAt H' L kn := ⟨ts, lts, eL3, hts3⟩
        have tail : ∀ (p : Addr) (vs : List V) (dd : Dd) (H4 : Hp), H4 p = some (.tup vs) → dd.At H4 vs → dd.wt kn → HandAt H4 h (n + 30) → But h H' H4 → Q (.ref p) H4 := fun p vs dd H4 e4 at4 wt4 hd4 bt4 =>
          q p H4 ⟨vs, dd, kn, ns, e4, at4, wt4, known_but hd3 kA3 lh bt4, bt4 N _ nh eN3, ⟨[], by simp⟩, l24, l9, gns, gkn, hd4.up (by omega), B3.trans (But3.h bt4)⟩
        refine ⟨_, rfl, rfl, _, rfl, ?_⟩
        by_cases e2 : V.int lot = V.int 2
        · rw [decide_eq_true e2]
          refine iteT ?_
          unfold tRet
          dsimp only
          exact ⟨_, rfl, _, rfl, h, n + 1 + 1, col, kn, rfl, hd3, by omega, mcol, fun p vs dd H4 e4 at4 wt4 hd4 bt4 => tail p vs dd H4 e4 at4 wt4 (hd4.up (by omega)) bt4⟩
        rw [decide_eq_false e2]
        refine iteF ?_
        dsimp only
        refine ⟨_, rfl, _, _, rfl, rfl, _, rfl, ?_⟩
        by_cases c5 : lot < 5
        · rw [decide_eq_true c5]
          refine iteT ?_
          have k6 : kn.length ≤ 6 := by
            by_cases z : 6 < kn.length
            · have := t5 z
              omega
            · omega
          refine ⟨_, rfl, .inl ⟨rfl, _, SqL.of eL3⟩, _, rfl, pop_names eN3 (by omega) fun z ns2 hz2 l2 m2 => ?_⟩
          have b9 : But N H' (upd H' N (.lst (ns2.map V.str))) := But.upd
          have e9 : upd H' N (.lst (ns2.map V.str)) N = _ := upd_same
          generalize upd H' N (.lst (ns2.map V.str)) = H9 at b9 e9 ⊢
          refine ⟨(show 2 ≤ sizeLine by decide), fun t m1 => newO m1 fun H10 s10 e10 => ?_⟩
          have eL10 := s10 _ _ (b9 L _ nl.symm eL3)
          refine ⟨L, _, _, rfl, rfl, eL10, by rw [List.length_map, lts, sizeLine_eq]; omega, ?_⟩
          have b11 : But L H10 (upd H10 L (.lst (ts.map V.ref ++ [V.ref t]))) := But.upd
          have e11 : upd H10 L (.lst (ts.map V.ref ++ [V.ref t])) L = _ := upd_same
          generalize upd H10 L (.lst (ts.map V.ref ++ [V.ref t])) = H11 at b11 e11 ⊢
          have tL : t ≠ L := tup_ne e10 eL10
          have kA11 : KnownAt H11 L (kn ++ [(z, false)]) := known_more (us := [t]) lts (fun j t c h1 h2 => by
            have x8 := hts3 j t c h1 h2
            have x10 := s10 _ _ (b9 t _ (tup_ne x8 eN3) x8)
            exact b11 t _ (tup_ne x10 eL10) x10) rfl (fun j t' c h1 h2 => by
            cases j with
            | zero =>
              cases h1
              cases h2
              exact b11 t _ tL e10
            | succ j => simp at h1) e11
          have hd11 := hand_but ((hand_but hd3 nh.symm b9).mono s10 (Nat.le_refl _)) lh.symm b11
          have eN11 := b11 N _ nl (s10 _ _ e9)
          have B11 := (((B3.trans (But3.n b9)).trans (But3.s s10))).trans (But3.l (h := h) (N := N) b11)
          have e11t := b11 t _ tL e10
          try dsimp only
          unfold tRet
          dsimp only
          refine ⟨_, rfl, _, rfl, h, n + 1 + 1, rfl, hd11, by omega, fun fo fv H13 ffo e13 hd13 bt13 => ?_⟩
          have eL13 := bt13 L _ lh e11
          have e13t := bt13 t _ (tup_hand hd11 e11t fun l z => by cases z) e11t
          refine ⟨_, rfl, _, rfl, L, _, _, V.ref t, rfl, rfl, SqL.of eL13, atI_last _ _, ?_⟩
          refine ⟨t, _, _, V.str z, rfl, rfl, SqT.of e13t, rfl, (show 4 ≤ sizeLine by decide), fun p m3 => newO m3 fun H14 s14 e14 => ?_⟩
          have kA14 := known_but hd11 kA11 lh (bt13.trans (But.of s14))
          refine q p H14 ⟨_, .read col fv z, _, ns2, e14, ⟨fo, rfl, s14 _ _ e13⟩, ⟨List.mem_append_left _ mcol, ffo, gns z hz2⟩, kA14, s14 _ _ (bt13 N _ nh eN11), ⟨_, rfl⟩, ?_, ?_, fun x hx => gns x (m2 x hx), fun x hx => ?_, (hd13.mono s14 (Nat.le_refl _)).up (by omega), (B11.trans (But3.h bt13)).trans (But3.s s14)⟩
          · rw [List.length_append]
            show ns2.length + (kn.length + 1) = 24
            omega
          · rw [List.length_append]
            show kn.length + 1 ≤ 9
            omega
          · rcases List.mem_append.mp hx with hx | hx
            · exact gkn x hx
            · rw [List.mem_singleton.mp hx]
              exact gns z hz2
        rw [decide_eq_false c5]
        refine iteF ?_
        dsimp only
        refine ⟨_, rfl, _, _, rfl, rfl, _, rfl, ?_⟩
        by_cases c9 : 9 < lot
        · rw [decide_eq_true c9]
          refine iteT ?_
          unfold tRet
          dsimp only
          refine ⟨_, rfl, _, rfl, pick_known hd3 (by omega) kA3 lh sh (fun t col2 k H4 mc et4 hd4 bt4 => ?_)⟩
          refine ⟨t, _, _, V.str col2, rfl, rfl, SqT.of et4, rfl, (show 0 ≤ sizeLine by decide), fun u m1 => newO m1 fun H5 s5 e5 => ⟨(show 3 ≤ sizeLine by decide), fun p m2 => newO m2 fun H6 s6 e6 => ?_⟩⟩
          exact tail p _ (.fill col2 []) H6 e6 ⟨u, rfl, s6 _ _ e5⟩ ⟨⟨k, mc⟩, by decide, fun c hc => by cases hc⟩ ((hd4.mono (s5.trans s6) (Nat.le_refl _)).up (by omega)) (bt4.trans (But.of (s5.trans s6)))
        rw [decide_eq_false c9]
        refine iteF ?_
        dsimp only
        unfold tRet
        dsimp only
        refine ⟨_, rfl, rfl, _, rfl, ?_⟩
        by_cases e5 : V.int lot = V.int 5
        · rw [decide_eq_true e5]
          refine iteT ?_
          exact ⟨_, rfl, _, rfl, h, L, n + 1 + 1, kn, rfl, hd3, by omega, kA3, lh, sh, fun p vs dd H4 e4 at4 wt4 hd4 bt4 => tail p vs dd H4 e4 at4 wt4 (hd4.up (by omega)) bt4⟩
        rw [decide_eq_false e5]
        refine iteF ?_
        exact ⟨_, rfl, _, rfl, _, rfl, h, L, n + 1 + 1, lot, kn, rfl, hd3, by omega, kA3, lh, sh, fun p vs dd H4 e4 at4 wt4 hd4 bt4 => tail p vs dd H4 e4 at4 wt4 (hd4.up (by omega)) bt4⟩
end
end K86
set_option Elab.async false
set_option linter.all false
set_option maxRecDepth 100000
set_option maxHeartbeats 4000000
/-! Gd: tuples of tuples of texts and numbers, as data -/
namespace Gd
open PySem PySem.Spec PyProof.Rows L2 Bs Xg TL Xm Gn
inductive TD (H : Hp) : V → PyData → Prop
  | str (z : Str) : TD H (.str z) (.str z)
  | int (i : Int) : TD H (.int i) (.int i)
  | non : TD H .non .none
  | tup {a : Addr} (ps : List (V × PyData)) : H a = some (.tup (ps.map (·.1))) → (∀ p ∈ ps, TD H p.1 p.2) → TD H (.ref a) (.tuple (ps.map (·.2)))
/-- tuples stay -/
def Tst (H H' : Hp) : Prop := ∀ a xs, H a = some (.tup xs) → H' a = some (.tup xs)
theorem Tst.refl (H : Hp) : Tst H H := fun _ _ e => e
theorem Tst.trans {H H1 H2 : Hp} (a : Tst H H1) (b : Tst H1 H2) : Tst H H2 := fun x xs e => b x xs (a x xs e)
theorem Tst.of {H H' : Hp} (s : Same H H') : Tst H H' := fun a xs e => s a _ e
theorem tup_ne {H : Hp} {t a : Addr} {xs ys : List V} (e : H t = some (.tup xs)) (f : H a = some (.lst ys)) : t ≠ a := by
  rintro rfl
  rw [e] at f
  cases f
theorem hand_lst {H : Hp} {h : Addr} {n : Nat} (a : HandAt H h n) : ∃ l, H h = some (.lst l) := by
  obtain ⟨g, t, c, e, _⟩ := a
  exact ⟨_, e⟩
theorem Tst.but {H H' : Hp} {h : Addr} (e : ∃ l, H h = some (.lst l)) (b : But h H H') : Tst H H' := fun a xs f => by
  obtain ⟨l, e⟩ := e
  exact b _ _ (tup_ne f e) f
theorem Tst.hand {H H' : Hp} {h : Addr} {n : Nat} (e : HandAt H h n) (b : But h H H') : Tst H H' := .but (hand_lst e) b
theorem TD.keep {H H' : Hp} {x : V} {d : PyData} (h : TD H x d) (s : Tst H H') : TD H' x d := by
  induction h with
  | str z => exact .str z
  | int i => exact .int i
  | non => exact .non
  | tup ps e _ ih => exact .tup ps (s _ _ e) ih
def TDs (H : Hp) : List V → List PyData → Prop
  | [], [] => True
  | v :: vs, d :: ds => TD H v d ∧ TDs H vs ds
  | _, _ => False
theorem TDs.ps {H : Hp} : ∀ {vs : List V} {ds : List PyData}, TDs H vs ds → ∃ ps : List (V × PyData), ps.map (·.1) = vs ∧ ps.map (·.2) = ds ∧ ∀ p ∈ ps, TD H p.1 p.2
  | [], [], _ => ⟨[], rfl, rfl, by simp⟩
  | v :: vs, d :: ds, h => by
    obtain ⟨ps, e1, e2, g⟩ := TDs.ps h.2
    refine ⟨(v, d) :: ps, by rw [List.map_cons, e1], by rw [List.map_cons, e2], fun p hp => ?_⟩
    rcases List.mem_cons.mp hp with rfl | hp
    · exact h.1
    · exact g p hp
  | [], _ :: _, h => h.elim
  | _ :: _, [], h => h.elim
theorem TDs.of {H : Hp} : ∀ {ps : List (V × PyData)}, (∀ p ∈ ps, TD H p.1 p.2) → TDs H (ps.map (·.1)) (ps.map (·.2))
  | [], _ => trivial
  | p :: ps, h => ⟨h p List.mem_cons_self, TDs.of fun q hq => h q (List.mem_cons_of_mem _ hq)⟩
theorem TDs.keep {H H' : Hp} {vs : List V} {ds : List PyData} (h : TDs H vs ds) (s : Tst H H') : TDs H' vs ds := by
  obtain ⟨ps, rfl, rfl, g⟩ := h.ps
  exact TDs.of fun p hp => (g p hp).keep s
theorem TDs.app {H : Hp} {vs us : List V} {ds es : List PyData} (h : TDs H vs ds) (g : TDs H us es) : TDs H (vs ++ us) (ds ++ es) := by
  obtain ⟨ps, rfl, rfl, g1⟩ := h.ps
  obtain ⟨qs, rfl, rfl, g2⟩ := g.ps
  rw [← List.map_append, ← List.map_append]
  exact TDs.of fun p hp => (List.mem_append.mp hp).elim (g1 p) (g2 p)
theorem TDs.len {H : Hp} {vs : List V} {ds : List PyData} (h : TDs H vs ds) : vs.length = ds.length := by
  obtain ⟨ps, rfl, rfl, g⟩ := h.ps
  rw [List.length_map, List.length_map]
theorem TDs.at {H : Hp} {vs : List V} {ds : List PyData} (h : TDs H vs ds) {j : Nat} {v : V} (e : vs[j]? = some v) : ∃ d, ds[j]? = some d ∧ TD H v d := by
  obtain ⟨ps, rfl, rfl, g⟩ := h.ps
  rw [List.getElem?_map] at e
  obtain ⟨p, hp, rfl⟩ := Option.map_eq_some_iff.mp e
  exact ⟨p.2, by rw [List.getElem?_map, hp]; rfl, g p (List.mem_of_getElem? hp)⟩
theorem TDs.strs {H : Hp} : ∀ zs : List Str, TDs H (zs.map V.str) (zs.map PyData.str)
  | [] => trivial
  | z :: zs => ⟨.str z, TDs.strs zs⟩
theorem TDs.ints {H : Hp} : ∀ zs : List Int, TDs H (zs.map V.int) (zs.map PyData.int)
  | [] => trivial
  | z :: zs => ⟨.int z, TDs.ints zs⟩
theorem TDs.refs {H : Hp} {α : Type} {f : α → PyData} {R : Addr → α → Prop} (hR : ∀ a x, R a x → TD H (.ref a) (f x)) : ∀ {as : List Addr} {xs : List α}, as.length = xs.length → (∀ (j : Nat) (a : Addr) (x : α), as[j]? = some a → xs[j]? = some x → R a x) → TDs H (as.map V.ref) (xs.map f)
  | [], [], _, _ => trivial
  | a :: as, x :: xs, l, g => ⟨hR a x (g 0 a x rfl rfl), TDs.refs hR (by simpa using l) fun j a x h1 h2 => g (j + 1) a x (by simpa using h1) (by simpa using h2)⟩
  | [], _ :: _, l, _ => by simp at l
  | _ :: _, [], l, _ => by simp at l
theorem TD.mk {H : Hp} {a : Addr} {vs : List V} {ds : List PyData} (e : H a = some (.tup vs)) (h : TDs H vs ds) : TD H (.ref a) (.tuple ds) := by
  obtain ⟨ps, rfl, rfl, g⟩ := h.ps
  exact .tup ps e g
theorem TD.inv {H : Hp} {x : V} {ds : List PyData} (h : TD H x (.tuple ds)) : ∃ a vs, x = .ref a ∧ H a = some (.tup vs) ∧ TDs H vs ds := by
  generalize e : PyData.tuple ds = d at h
  cases h with
  | tup ps e1 g =>
    cases e
    exact ⟨_, _, rfl, e1, TDs.of g⟩
  | _ => cases e
theorem TD.invS {H : Hp} {x : V} {z : Str} (h : TD H x (.str z)) : x = .str z := by
  cases h
  rfl
theorem TDs.c {H : Hp} {vs : List V} {d : PyData} {ds : List PyData} (h : TDs H vs (d :: ds)) : ∃ v us, vs = v :: us ∧ TD H v d ∧ TDs H us ds := by
  cases vs with
  | nil => exact h.elim
  | cons v us => exact ⟨v, us, rfl, h.1, h.2⟩
theorem TDs.n {H : Hp} {vs : List V} (h : TDs H vs []) : vs = [] := by
  cases vs with
  | nil => rfl
  | cons v us => exact h.elim
theorem TDs.invS {H : Hp} : ∀ {vs : List V} {zs : List Str}, TDs H vs (zs.map PyData.str) → vs = zs.map V.str
  | [], [], _ => rfl
  | v :: vs, z :: zs, h => by
    have h1 := TD.invS h.1
    subst h1
    rw [List.map_cons, TDs.invS h.2]
  | [], _ :: _, h => h.elim
  | _ :: _, [], h => h.elim
theorem TD.dr {K : PySem.W.Frag} {H : Hp} {x : V} {d : PyData} (h : TD H x d) : Dr K H x d := by
  induction h with
  | str z => exact .q (.str z)
  | int i => exact .q (.int i)
  | non => exact .q .non
  | tup ps e _ ih => exact .tup ps (SqT.of e) ih
theorem dpAll_of {K : PySem.W.Frag} {H : Hp} : ∀ {ps : List (V × PyData)}, (∀ p ∈ ps, Dp K H p.1 p.2) → DpAll K H (ps.map (·.1)) (ps.map (·.2))
  | [], _ => .nil
  | p :: ps, h => .cons (h p List.mem_cons_self) (dpAll_of fun q hq => h q (List.mem_cons_of_mem _ hq))
theorem TD.dp {K : PySem.W.Frag} {H : Hp} {x : V} {d : PyData} (h : TD H x d) : Dp K H x d := by
  induction h with
  | str z => exact .str z
  | int i => exact .int i
  | non => exact .non
  | tup ps e _ ih => exact .tup (SqT.of e) (dpAll_of ih)
/-! ### a comprehension with a test of which nothing is known -/
section
variable {J : It} {n : Nat} {Gd : Hp → Prop} {Y : Nat → Hp → V → Hp → Prop}
theorem lc_some {α : Type} (w : Walk J n Gd Y) {g : TG} {tt : TT} {te : TE} {vs : List Nat} {σ : L2.St} {H : Hp} {D : Addr} {Q : Hp → Prop} (xs : List α) (f : α → V) (len : xs.length = n) (nD : H D = none) (hG : ∀ G, Same H G → Gd G) (small : n < 100000)
    (turn : ∀ j a x G G' (R : V → Hp → Prop) (N : Hp → Prop), xs[j]? = some a → Same H G → Y j G x G' → (∀ G2, Same G G2 → R (f a) G2) → (∀ G2, Same G G2 → N G2) → g x (wipe σ vs) G' fun σ2 H2 => wipe σ2 vs = wipe σ vs ∧ tt σ2 H2 fun b H3 =>
      if b = true then te σ2 H3 R else N H3)
    (fin : ∀ (G : Hp) (ys : List α), Same H G → G D = some (.lst (ys.map f)) → ys.Sublist xs → Q G) :
    ∃ W : Nat → Nat → Hp → Prop, (∃ m, W 0 m (upd H D (.lst []))) ∧ ∀ i m G, W i m G →
      (J.stop i G ∧ Q G) ∨ (J.go i G ∧ ∃ Nx : Hp → Prop, (∀ H', Nx H' → ∃ m', m' < m ∧ W (i + 1) m' H') ∧ ∀ x H', J.yld i G x H' → g x (wipe σ vs) H' fun σ2 H2 => wipe σ2 vs = wipe σ vs ∧ tt σ2 H2 fun b H3 =>
        if b = true then te σ2 H3 fun y H4 => ∃ acc, H4 D = some (.lst acc) ∧ acc.length < sizeLine ∧ Nx (upd H4 D (.lst (acc ++ [y]))) else Nx H3) := by
  refine lc_it w (fun j G => Same H G ∧ ∃ ys : List α, ys.Sublist (xs.take j) ∧ G D = some (.lst (ys.map f))) ⟨Same.new nD, [], List.nil_sublist _, upd_same⟩ (fun j G _ q => hG G q.1) ?_ ?_
  · rintro j x G G' hj ⟨sG, ys, sb, eD⟩ hy
    have hk : xs[j]? = some xs[j] := List.getElem?_eq_getElem (by omega)
    have tk : xs.take (j + 1) = xs.take j ++ [xs[j]] := by rw [List.take_succ, hk]; rfl
    have lb := sb.length_le
    rw [List.length_take] at lb
    refine turn j xs[j] x G G' _ _ hk sG hy (fun G2 s2 => ⟨_, s2 _ _ eD, ?_, fun b o e => ?_, ys ++ [xs[j]], ?_, ?_⟩) (fun G2 s2 => ⟨sG.trans s2, ys, ?_, s2 _ _ eD⟩)
    · rw [List.length_map, sizeLine_eq]
      omega
    · rw [upd_ne (ne_of_none e nD)]
      exact s2 _ _ (sG b o e)
    · rw [tk]
      exact sb.append (List.Sublist.refl _)
    · rw [upd_same, List.map_append]
      rfl
    · rw [tk]
      exact sb.trans (List.sublist_append_left _ _)
  · rintro G ⟨sG, ys, sb, eD⟩
    rw [List.take_of_length_le (by omega)] at sb
    exact fin G ys sG eD sb
end
end Gd
set_option Elab.async false
set_option linter.all false
set_option pp.maxSteps 4000
set_option maxRecDepth 100000
set_option maxHeartbeats 4000000
/-! k86: what steps touch -/
namespace K86
open PySem PySem.Spec PyProof.Rows L2 Bs Xg TL Xm Xs Gn Gd
abbrev sTo : Stmt := top 16
theorem iteNo {p : Prop} [Decidable p] {A B : Prop} (n : ¬ p) (h : B) : if decide p = true then A else B := by
  rw [decide_eq_false n]
  exact iteF h
theorem iteYe {p : Prop} [Decidable p] {A B : Prop} (n : p) (h : A) : if decide p = true then A else B := by
  rw [decide_eq_true n]
  exact iteT h
theorem iteB0 {b : Bool} {A B : Prop} (n : b = false) (h : B) : if b = true then A else B := by
  rw [n]
  exact iteF h
theorem iteB1 {b : Bool} {A B : Prop} (n : b = true) (h : A) : if b = true then A else B := by
  rw [n]
  exact iteT h
section
variable {X : Cx}
theorem op_in_seqK {K : PySem.W.Frag} (hK : X.K = K) : OpR X (compareOp .In) (rIn K false) := hK ▸ op_in_seq
theorem op_notIn_seqK {K : PySem.W.Frag} (hK : X.K = K) : OpR X (compareOp .NotIn) (rIn K true) := hK ▸ op_notIn_seq
end
/-- a step -/
def StAt (H : Hp) (p : Addr) (nm : Str) (dd : Dd) (kn : List (Str × Bool)) : Prop := ∃ vs, H p = some (.tup (.str nm :: vs)) ∧ dd.At H vs ∧ dd.wt kn
theorem Dd.At.keep {H H' : Hp} {vs : List V} {dd : Dd} (h : dd.At H vs) (s : Tst H H') : dd.At H' vs := by
  cases dd with
  | spell col ps =>
    obtain ⟨t, e, qs, l, e1, g⟩ := h
    exact ⟨t, e, qs, l, s _ _ e1, fun j q p h1 h2 => s _ _ (g j q p h1 h2)⟩
  | cut | glue | read | among | fill =>
    obtain ⟨t, e, e1⟩ := h
    exact ⟨t, e, s _ _ e1⟩
  | put | within | before | given => exact h
theorem StAt.keep {H H' : Hp} {p : Addr} {nm : Str} {dd : Dd} {kn : List (Str × Bool)} (h : StAt H p nm dd kn) (s : Tst H H') : StAt H' p nm dd kn := by
  obtain ⟨vs, e, a, w⟩ := h
  exact ⟨vs, s _ _ e, a.keep s, w⟩
/-- two lists of words -/
def ToAt (H : Hp) (L : Addr) : Prop := ∃ (A B : Addr) (xs ys : List Str), H L = some (.lst [.ref A, .ref B]) ∧ H A = some (.lst (xs.map V.str)) ∧ H B = some (.lst (ys.map V.str)) ∧ xs.length ≤ 9 ∧ ys.length ≤ 9
theorem to_mk {H : Hp} {L A B : Addr} (xs ys : List Str) (e : H L = some (.lst [.ref A, .ref B])) (e1 : H A = some (.lst (xs.map V.str))) (e2 : H B = some (.lst (ys.map V.str))) (l : xs.length ≤ 9) (m : ys.length ≤ 9) : ToAt H L := ⟨A, B, xs, ys, e, e1, e2, l, m⟩
section
variable {P : Program} {w : World} {K : PySem.W.Frag} {mg : Str → Option Value} {base : Heap}
theorem scTo : FnScope ["_law_step", "_law_word"] ["_law_step"] (defScope sTo) := ⟨rfl, rfl, rfl, by decide +kernel, rfl, by decide +kernel, by decide +kernel⟩
def spTo : Sp := fun vs H Q _ => ∃ (p : Addr) (nm : Str) (dd : Dd) (kn : List (Str × Bool)), vs = [.ref p] ∧ StAt H p nm dd kn ∧ ∀ (L : Addr) (H' : Hp), ToAt H' L → Same H H' → Q (.ref L) H'
theorem ok_touches {f : Addr} {fd : FuncData} (F : Fun K "_law_touches" "_law_touches" sTo f fd) (T : Free mg) : FnOk P w K mg base CX0 1 f fd ["_law_step"] spTo := by
  refine F.ok scTo (fun vs H Q E h => ?_) (fun cdv A outer s H vs Q E hr h => ?_)
  · obtain ⟨p, nm, dd, kn, rfl, _⟩ := h
    rfl
  · obtain ⟨p, nm, dd, kn, rfl, ⟨vs, e, da, dw⟩, k⟩ := h
    refine ⟨_, pss_cons (ps_set (i := 1) scTo.nd rfl (Or.inl rfl) (pe_ix (ix_tupK (K := K) rfl) (pv 0) pe_int (fun _ _ => rfl)))
      (pss_cons (ps_if (pt_cmpR op_eq (pv 1) pe_str (nomark _)) (pss_one (ps_ret (pe_lst (pa_cons (pe_lst (pa_cons (pe_ix (ix_tupK (K := K) rfl) (pv 0) pe_int (fun _ _ => rfl)) pa_nil)) (pa_cons (pe_op op_cat (pe_callTy call_list_of (by rfl) T.list (by decide +kernel) (pa_cons (pe_ix (ix_tupK (K := K) rfl) (pv 0) pe_int (fun _ _ => rfl)) pa_nil)) (pe_lst (pa_cons pe_str pa_nil))) pa_nil))))) (pss_nil))
      (pss_cons (ps_if (pt_cmpR op_eq (pv 1) pe_str (nomark _)) (pss_one (ps_ret (pe_lst (pa_cons (pe_callTy call_list_of (by rfl) T.list (by decide +kernel) (pa_cons (pe_ix (ix_tupK (K := K) rfl) (pv 0) pe_int (fun _ _ => rfl)) pa_nil)) (pa_cons (pe_lst (pa_cons (pe_ix (ix_tupK (K := K) rfl) (pv 0) pe_int (fun _ _ => rfl)) pa_nil)) pa_nil))))) (pss_nil))
      (pss_cons (ps_if (pt_cmpR op_eq (pv 1) pe_str (nomark _)) (pss_one (ps_ret (pe_lst (pa_cons (pe_lst (pa_cons (pe_ix (ix_tupK (K := K) rfl) (pv 0) pe_int (fun _ _ => rfl)) pa_nil)) (pa_cons (pe_lst (pa_cons (pe_ix (ix_tupK (K := K) rfl) (pv 0) pe_int (fun _ _ => rfl)) (pa_cons pe_str pa_nil))) pa_nil))))) (pss_nil))
      (pss_cons (ps_if (pt_cmpR (op_in_seqK (K := K) rfl) (pv 1) (pe_tup (pa_cons pe_str (pa_cons pe_str pa_nil))) rfl) (pss_one (ps_ret (pe_lst (pa_cons (pe_lst (pa_cons (pe_ix (ix_tupK (K := K) rfl) (pv 0) pe_int (fun _ _ => rfl)) pa_nil)) (pa_cons (pe_lst (pa_cons (pe_ix (ix_tupK (K := K) rfl) (pv 0) pe_int (fun _ _ => rfl)) pa_nil)) pa_nil))))) (pss_nil))
      (pss_cons (ps_if (pt_cmpR op_eq (pv 1) pe_str (nomark _)) (pss_one (ps_ret (pe_lst (pa_cons (pe_op op_cat (pe_lst (pa_cons (pe_ix (ix_tupK (K := K) rfl) (pv 0) pe_int (fun _ _ => rfl)) (pa_cons pe_str pa_nil))) (pe_callTy call_list_of (by rfl) T.list (by decide +kernel) (pa_cons (pe_ix (ix_tupK (K := K) rfl) (pv 0) pe_int (fun _ _ => rfl)) pa_nil))) (pa_cons (pe_lst (pa_cons (pe_ix (ix_tupK (K := K) rfl) (pv 0) pe_int (fun _ _ => rfl)) pa_nil)) pa_nil))))) (pss_nil))
      (pss_one (ps_ret (pe_lst (pa_cons (pe_ifExp (pt_cmpR op_eq (pv 1) pe_str (nomark _)) (pe_lst (pa_cons (pe_ix (ix_tupK (K := K) rfl) (pv 0) pe_int (fun _ _ => rfl)) (pa_cons (pe_ix (ix_tupK (K := K) rfl) (pv 0) pe_int (fun _ _ => rfl)) pa_nil))) (pe_lst (pa_cons (pe_ix (ix_tupK (K := K) rfl) (pv 0) pe_int (fun _ _ => rfl)) pa_nil))) (pa_cons (pe_lst (pa_cons pe_str pa_nil)) pa_nil)))))))))), ?_⟩
    cases dd with
    | cut col s news =>
      obtain ⟨t, rfl, et⟩ := da
      refine ⟨_, rfl, p, _, _, V.str "cut", rfl, rfl, SqT.of e, rfl, ?_⟩
      refine gN ?_
      try dsimp only
      refine ⟨_, rfl, rfl, _, rfl, iteYe rfl ?_⟩
      try unfold tRet
      try dsimp only
      refine ⟨_, rfl, p, _, _, V.str col, rfl, rfl, SqT.of (e), rfl, (show 1 ≤ sizeLine by decide), fun A nA => newO nA fun H1 s1 e1 => ?_⟩
      refine ⟨_, rfl, p, _, _, V.ref t, rfl, rfl, SqT.of (s1 _ _ e), rfl, t, news.map V.str, rfl, .inr (SqT.of (s1 _ _ et)), fun l nl => newO nl fun H2 s2 e2 => ?_⟩
      refine ⟨(show 1 ≤ sizeLine by decide), fun m nm => newO nm fun H3 s3 e3 => ?_⟩
      refine ⟨l, m, news.map V.str, _, rfl, rfl, s3 _ _ e2, e3, ?_, fun B nB => newO nB fun H4 s4 e4 => ?_⟩
      · rw [List.length_map, sizeLine_eq]
        have := dw.2.2.1
        exact Nat.le_trans (Nat.add_le_add_right this 1) (by decide)
      refine ⟨(show 2 ≤ sizeLine by decide), fun L nL => newO nL fun H5 s5 e5 => ?_⟩
      exact k L H5 (to_mk [col] (news ++ [(Str.ofString "!")]) e5 (s5 _ _ (s4 _ _ (s3 _ _ (s2 _ _ e1)))) (by rw [List.map_append]; exact s5 _ _ e4) (Nat.le_of_ble_eq_true rfl) (by have := dw.2.2.1; rw [List.length_append]; exact Nat.le_trans (Nat.add_le_add_right this 1) (by decide))) ((((s1.trans s2).trans s3).trans s4).trans s5)
    | glue cols s new =>
      obtain ⟨t, rfl, et⟩ := da
      refine ⟨_, rfl, p, _, _, V.str "glue", rfl, rfl, SqT.of e, rfl, ?_⟩
      refine gN ?_
      try dsimp only
      refine ⟨_, rfl, rfl, _, rfl, iteNo (by decide +kernel) ?_⟩
      try unfold tNext
      try dsimp only
      refine ⟨_, rfl, rfl, _, rfl, iteYe rfl ?_⟩
      try unfold tRet
      try dsimp only
      refine ⟨_, rfl, p, _, _, V.ref t, rfl, rfl, SqT.of (e), rfl, t, cols.map V.str, rfl, .inr (SqT.of et), fun A nA => newO nA fun H1 s1 e1 => ?_⟩
      refine ⟨_, rfl, p, _, _, V.str new, rfl, rfl, SqT.of (s1 _ _ e), rfl, (show 1 ≤ sizeLine by decide), fun B nB => newO nB fun H2 s2 e2 => ?_⟩
      refine ⟨(show 2 ≤ sizeLine by decide), fun L nL => newO nL fun H3 s3 e3 => ?_⟩
      exact k L H3 (to_mk cols [new] e3 (s3 _ _ (s2 _ _ e1)) (s3 _ _ e2) (Nat.le_trans dw.2.2.1 (by decide)) (Nat.le_of_ble_eq_true rfl)) ((s1.trans s2).trans s3)
    | read col fv new =>
      obtain ⟨t, rfl, et⟩ := da
      refine ⟨_, rfl, p, _, _, V.str "read", rfl, rfl, SqT.of e, rfl, ?_⟩
      refine gN ?_
      try dsimp only
      refine ⟨_, rfl, rfl, _, rfl, iteNo (by decide +kernel) ?_⟩
      try unfold tNext
      try dsimp only
      refine ⟨_, rfl, rfl, _, rfl, iteNo (by decide +kernel) ?_⟩
      try unfold tNext
      try dsimp only
      refine ⟨_, rfl, rfl, _, rfl, iteYe rfl ?_⟩
      try unfold tRet
      try dsimp only
      refine ⟨_, rfl, p, _, _, V.str col, rfl, rfl, SqT.of (e), rfl, (show 1 ≤ sizeLine by decide), fun A nA => newO nA fun H1 s1 e1 => ?_⟩
      refine ⟨_, rfl, p, _, _, V.str new, rfl, rfl, SqT.of (s1 _ _ e), rfl, (show 2 ≤ sizeLine by decide), fun B nB => newO nB fun H2 s2 e2 => ?_⟩
      refine ⟨(show 2 ≤ sizeLine by decide), fun L nL => newO nL fun H3 s3 e3 => ?_⟩
      exact k L H3 (to_mk [col] [new, "!"] e3 (s3 _ _ (s2 _ _ e1)) (s3 _ _ e2) (Nat.le_of_ble_eq_true rfl) (Nat.le_of_ble_eq_true rfl)) ((s1.trans s2).trans s3)
    | spell col ps =>
      obtain ⟨t, rfl, et⟩ := da
      refine ⟨_, rfl, p, _, _, V.str "spell", rfl, rfl, SqT.of e, rfl, ?_⟩
      refine gN ?_
      try dsimp only
      refine ⟨_, rfl, rfl, _, rfl, iteNo (by decide +kernel) ?_⟩
      try unfold tNext
      try dsimp only
      refine ⟨_, rfl, rfl, _, rfl, iteNo (by decide +kernel) ?_⟩
      try unfold tNext
      try dsimp only
      refine ⟨_, rfl, rfl, _, rfl, iteNo (by decide +kernel) ?_⟩
      try unfold tNext
      try dsimp only
      refine ⟨_, rfl, (show 2 ≤ sizeLine by decide), fun u nu => newO nu fun H0 s0 e0 => ⟨u, _, rfl, .inr (SqT.of e0), rfl, rfl, _, rfl, iteB1 (by decide +kernel) ?_⟩⟩
      try unfold tRet
      try dsimp only
      replace e := s0 _ _ e
      refine ⟨_, rfl, p, _, _, V.str col, rfl, rfl, SqT.of (e), rfl, (show 1 ≤ sizeLine by decide), fun A nA => newO nA fun H1 s1 e1 => ?_⟩
      refine ⟨_, rfl, p, _, _, V.str col, rfl, rfl, SqT.of (s1 _ _ e), rfl, (show 1 ≤ sizeLine by decide), fun B nB => newO nB fun H2 s2 e2 => ?_⟩
      refine ⟨(show 2 ≤ sizeLine by decide), fun L nL => newO nL fun H3 s3 e3 => ?_⟩
      exact k L H3 (to_mk [col] [col] e3 (s3 _ _ (s2 _ _ e1)) (s3 _ _ e2) (Nat.le_of_ble_eq_true rfl) (Nat.le_of_ble_eq_true rfl)) (((s0.trans s1).trans s2).trans s3)
    | put col v =>
      cases da
      refine ⟨_, rfl, p, _, _, V.str "put", rfl, rfl, SqT.of e, rfl, ?_⟩
      refine gN ?_
      try dsimp only
      refine ⟨_, rfl, rfl, _, rfl, iteNo (by decide +kernel) ?_⟩
      try unfold tNext
      try dsimp only
      refine ⟨_, rfl, rfl, _, rfl, iteNo (by decide +kernel) ?_⟩
      try unfold tNext
      try dsimp only
      refine ⟨_, rfl, rfl, _, rfl, iteNo (by decide +kernel) ?_⟩
      try unfold tNext
      try dsimp only
      refine ⟨_, rfl, (show 2 ≤ sizeLine by decide), fun u nu => newO nu fun H0 s0 e0 => ⟨u, _, rfl, .inr (SqT.of e0), rfl, rfl, _, rfl, iteB1 (by decide +kernel) ?_⟩⟩
      try unfold tRet
      try dsimp only
      replace e := s0 _ _ e
      refine ⟨_, rfl, p, _, _, V.str col, rfl, rfl, SqT.of (e), rfl, (show 1 ≤ sizeLine by decide), fun A nA => newO nA fun H1 s1 e1 => ?_⟩
      refine ⟨_, rfl, p, _, _, V.str col, rfl, rfl, SqT.of (s1 _ _ e), rfl, (show 1 ≤ sizeLine by decide), fun B nB => newO nB fun H2 s2 e2 => ?_⟩
      refine ⟨(show 2 ≤ sizeLine by decide), fun L nL => newO nL fun H3 s3 e3 => ?_⟩
      exact k L H3 (to_mk [col] [col] e3 (s3 _ _ (s2 _ _ e1)) (s3 _ _ e2) (Nat.le_of_ble_eq_true rfl) (Nat.le_of_ble_eq_true rfl)) (((s0.trans s1).trans s2).trans s3)
    | fill col keys =>
      obtain ⟨t, rfl, et⟩ := da
      refine ⟨_, rfl, p, _, _, V.str "fill", rfl, rfl, SqT.of e, rfl, ?_⟩
      refine gN ?_
      try dsimp only
      refine ⟨_, rfl, rfl, _, rfl, iteNo (by decide +kernel) ?_⟩
      try unfold tNext
      try dsimp only
      refine ⟨_, rfl, rfl, _, rfl, iteNo (by decide +kernel) ?_⟩
      try unfold tNext
      try dsimp only
      refine ⟨_, rfl, rfl, _, rfl, iteNo (by decide +kernel) ?_⟩
      try unfold tNext
      try dsimp only
      refine ⟨_, rfl, (show 2 ≤ sizeLine by decide), fun u nu => newO nu fun H0 s0 e0 => ⟨u, _, rfl, .inr (SqT.of e0), rfl, rfl, _, rfl, iteB0 (by decide +kernel) ?_⟩⟩
      try dsimp only
      replace e := s0 _ _ e
      refine ⟨_, rfl, rfl, _, rfl, iteYe rfl ?_⟩
      try unfold tRet
      try dsimp only
      refine ⟨_, rfl, p, _, _, V.str col, rfl, rfl, SqT.of (e), rfl, (show 2 ≤ sizeLine by decide), fun A nA => newO nA fun H1 s1 e1 => ?_⟩
      refine ⟨_, rfl, p, _, _, V.ref t, rfl, rfl, SqT.of (s1 _ _ e), rfl, t, keys.map V.str, rfl, .inr (SqT.of (s1 _ _ (s0 _ _ et))), fun l nl => newO nl fun H2 s2 e2 => ?_⟩
      refine ⟨A, l, _, keys.map V.str, rfl, rfl, s2 _ _ e1, e2, ?_, fun B nB => newO nB fun H3 s3 e3 => ?_⟩
      · rw [List.length_map, sizeLine_eq]
        have := dw.2.1
        exact Nat.le_trans (Nat.add_le_add_left this 2) (by decide)
      refine ⟨_, rfl, p, _, _, V.str col, rfl, rfl, SqT.of (s3 _ _ (s2 _ _ (s1 _ _ e))), rfl, (show 1 ≤ sizeLine by decide), fun C nC => newO nC fun H4 s4 e4 => ?_⟩
      refine ⟨(show 2 ≤ sizeLine by decide), fun L nL => newO nL fun H5 s5 e5 => ?_⟩
      exact k L H5 (to_mk (col :: "!" :: keys) [col] e5 (s5 _ _ (s4 _ _ e3)) (s5 _ _ e4) (by have := dw.2.1; exact Nat.le_trans (Nat.add_le_add_right this 2) (by decide)) (Nat.le_of_ble_eq_true rfl)) (((((s0.trans s1).trans s2).trans s3).trans s4).trans s5)
    | within col lo hi =>
      cases da
      refine ⟨_, rfl, p, _, _, V.str "within", rfl, rfl, SqT.of e, rfl, ?_⟩
      refine gN ?_
      try dsimp only
      refine ⟨_, rfl, rfl, _, rfl, iteNo (by decide +kernel) ?_⟩
      try unfold tNext
      try dsimp only
      refine ⟨_, rfl, rfl, _, rfl, iteNo (by decide +kernel) ?_⟩
      try unfold tNext
      try dsimp only
      refine ⟨_, rfl, rfl, _, rfl, iteNo (by decide +kernel) ?_⟩
      try unfold tNext
      try dsimp only
      refine ⟨_, rfl, (show 2 ≤ sizeLine by decide), fun u nu => newO nu fun H0 s0 e0 => ⟨u, _, rfl, .inr (SqT.of e0), rfl, rfl, _, rfl, iteB0 (by decide +kernel) ?_⟩⟩
      try dsimp only
      replace e := s0 _ _ e
      refine ⟨_, rfl, rfl, _, rfl, iteNo (by decide +kernel) ?_⟩
      try unfold tNext
      try dsimp only
      unfold tRet
      dsimp only
      refine ⟨_, rfl, rfl, _, rfl, iteNo (by decide +kernel) ?_⟩
      refine ⟨_, rfl, p, _, _, V.str col, rfl, rfl, SqT.of (e), rfl, (show 1 ≤ sizeLine by decide), fun A nA => newO nA fun H1 s1 e1 => ?_⟩
      refine ⟨(show 1 ≤ sizeLine by decide), fun B nB => newO nB fun H2 s2 e2 => ?_⟩
      refine ⟨(show 2 ≤ sizeLine by decide), fun L nL => newO nL fun H3 s3 e3 => ?_⟩
      exact k L H3 (to_mk [col] ["!"] e3 (s3 _ _ (s2 _ _ e1)) (s3 _ _ e2) (Nat.le_of_ble_eq_true rfl) (Nat.le_of_ble_eq_true rfl)) (((s0.trans s1).trans s2).trans s3)
    | among col xs =>
      obtain ⟨t, rfl, et⟩ := da
      refine ⟨_, rfl, p, _, _, V.str "among", rfl, rfl, SqT.of e, rfl, ?_⟩
      refine gN ?_
      try dsimp only
      refine ⟨_, rfl, rfl, _, rfl, iteNo (by decide +kernel) ?_⟩
      try unfold tNext
      try dsimp only
      refine ⟨_, rfl, rfl, _, rfl, iteNo (by decide +kernel) ?_⟩
      try unfold tNext
      try dsimp only
      refine ⟨_, rfl, rfl, _, rfl, iteNo (by decide +kernel) ?_⟩
      try unfold tNext
      try dsimp only
      refine ⟨_, rfl, (show 2 ≤ sizeLine by decide), fun u nu => newO nu fun H0 s0 e0 => ⟨u, _, rfl, .inr (SqT.of e0), rfl, rfl, _, rfl, iteB0 (by decide +kernel) ?_⟩⟩
      try dsimp only
      replace e := s0 _ _ e
      refine ⟨_, rfl, rfl, _, rfl, iteNo (by decide +kernel) ?_⟩
      try unfold tNext
      try dsimp only
      unfold tRet
      dsimp only
      refine ⟨_, rfl, rfl, _, rfl, iteNo (by decide +kernel) ?_⟩
      refine ⟨_, rfl, p, _, _, V.str col, rfl, rfl, SqT.of (e), rfl, (show 1 ≤ sizeLine by decide), fun A nA => newO nA fun H1 s1 e1 => ?_⟩
      refine ⟨(show 1 ≤ sizeLine by decide), fun B nB => newO nB fun H2 s2 e2 => ?_⟩
      refine ⟨(show 2 ≤ sizeLine by decide), fun L nL => newO nL fun H3 s3 e3 => ?_⟩
      exact k L H3 (to_mk [col] ["!"] e3 (s3 _ _ (s2 _ _ e1)) (s3 _ _ e2) (Nat.le_of_ble_eq_true rfl) (Nat.le_of_ble_eq_true rfl)) (((s0.trans s1).trans s2).trans s3)
    | before col c2 =>
      cases da
      refine ⟨_, rfl, p, _, _, V.str "before", rfl, rfl, SqT.of e, rfl, ?_⟩
      refine gN ?_
      try dsimp only
      refine ⟨_, rfl, rfl, _, rfl, iteNo (by decide +kernel) ?_⟩
      try unfold tNext
      try dsimp only
      refine ⟨_, rfl, rfl, _, rfl, iteNo (by decide +kernel) ?_⟩
      try unfold tNext
      try dsimp only
      refine ⟨_, rfl, rfl, _, rfl, iteNo (by decide +kernel) ?_⟩
      try unfold tNext
      try dsimp only
      refine ⟨_, rfl, (show 2 ≤ sizeLine by decide), fun u nu => newO nu fun H0 s0 e0 => ⟨u, _, rfl, .inr (SqT.of e0), rfl, rfl, _, rfl, iteB0 (by decide +kernel) ?_⟩⟩
      try dsimp only
      replace e := s0 _ _ e
      refine ⟨_, rfl, rfl, _, rfl, iteNo (by decide +kernel) ?_⟩
      try unfold tNext
      try dsimp only
      unfold tRet
      dsimp only
      refine ⟨_, rfl, rfl, _, rfl, iteYe rfl ?_⟩
      refine ⟨_, rfl, p, _, _, V.str col, rfl, rfl, SqT.of (e), rfl, _, rfl, p, _, _, V.str c2, rfl, rfl, SqT.of e, rfl, (show 2 ≤ sizeLine by decide), fun A nA => newO nA fun H1 s1 e1 => ?_⟩
      refine ⟨(show 1 ≤ sizeLine by decide), fun B nB => newO nB fun H2 s2 e2 => ?_⟩
      refine ⟨(show 2 ≤ sizeLine by decide), fun L nL => newO nL fun H3 s3 e3 => ?_⟩
      exact k L H3 (to_mk [col, c2] ["!"] e3 (s3 _ _ (s2 _ _ e1)) (s3 _ _ e2) (Nat.le_of_ble_eq_true rfl) (Nat.le_of_ble_eq_true rfl)) (((s0.trans s1).trans s2).trans s3)
    | given col =>
      cases da
      refine ⟨_, rfl, p, _, _, V.str "given", rfl, rfl, SqT.of e, rfl, ?_⟩
      refine gN ?_
      try dsimp only
      refine ⟨_, rfl, rfl, _, rfl, iteNo (by decide +kernel) ?_⟩
      try unfold tNext
      try dsimp only
      refine ⟨_, rfl, rfl, _, rfl, iteNo (by decide +kernel) ?_⟩
      try unfold tNext
      try dsimp only
      refine ⟨_, rfl, rfl, _, rfl, iteNo (by decide +kernel) ?_⟩
      try unfold tNext
      try dsimp only
      refine ⟨_, rfl, (show 2 ≤ sizeLine by decide), fun u nu => newO nu fun H0 s0 e0 => ⟨u, _, rfl, .inr (SqT.of e0), rfl, rfl, _, rfl, iteB0 (by decide +kernel) ?_⟩⟩
      try dsimp only
      replace e := s0 _ _ e
      refine ⟨_, rfl, rfl, _, rfl, iteNo (by decide +kernel) ?_⟩
      try unfold tNext
      try dsimp only
      unfold tRet
      dsimp only
      refine ⟨_, rfl, rfl, _, rfl, iteNo (by decide +kernel) ?_⟩
      refine ⟨_, rfl, p, _, _, V.str col, rfl, rfl, SqT.of (e), rfl, (show 1 ≤ sizeLine by decide), fun A nA => newO nA fun H1 s1 e1 => ?_⟩
      refine ⟨(show 1 ≤ sizeLine by decide), fun B nB => newO nB fun H2 s2 e2 => ?_⟩
      refine ⟨(show 2 ≤ sizeLine by decide), fun L nL => newO nL fun H3 s3 e3 => ?_⟩
      exact k L H3 (to_mk [col] ["!"] e3 (s3 _ _ (s2 _ _ e1)) (s3 _ _ e2) (Nat.le_of_ble_eq_true rfl) (Nat.le_of_ble_eq_true rfl)) (((s0.trans s1).trans s2).trans s3)
end
end K86
set_option Elab.async false
set_option linter.all false
set_option pp.maxSteps 4000
set_option maxRecDepth 100000
set_option maxHeartbeats 4000000
/-! k86: steps apart -/
namespace K86
open PySem PySem.Spec PyProof.Rows L2 Bs Xg TL Xm Xs Gn Gd
abbrev sAp : Stmt := top 17
theorem bls_of {ys : List V} : (∀ (j : Nat) (y : V), ys[j]? = some y → ∃ b : Bool, y = .bl b) → ∃ bs : List Bool, ys = bs.map V.bl := by
  induction ys with
  | nil => intro _; exact ⟨[], rfl⟩
  | cons y ys ih =>
    intro h
    obtain ⟨b, rfl⟩ := h 0 y rfl
    obtain ⟨bs, rfl⟩ := ih fun j y hy => h (j + 1) y (by simpa using hy)
    exact ⟨b :: bs, rfl⟩
theorem all_flat (xs : List Str) : (xs.map V.str).all flatV = true := by
  rw [List.all_eq_true]
  intro x hx
  obtain ⟨z, _, rfl⟩ := List.mem_map.mp hx
  rfl
structure TouchF (K : PySem.W.Frag) (mg : Str → Option Value) (fTo : Addr) (dTo : FuncData) : Prop where
  To : Fun K "_law_touches" "_law_touches" sTo fTo dTo
  bTo : Binds K dTo ["_law_step"] []
  gTo : mg "_law_touches" = some (.ref fTo)
section
variable {P : Program} {w : World} {K : PySem.W.Frag} {mg : Str → Option Value} {base : Heap} {fTo : Addr} {dTo : FuncData}
abbrev nAp : List Str := ["_law_step", "_law_later", "_law_mine", "_law_its", "_law_what"]
theorem scAp : FnScope nAp ["_law_step", "_law_later"] (defScope sAp) := ⟨rfl, rfl, rfl, by decide +kernel, rfl, by decide +kernel, by decide +kernel⟩
def spAp : Sp := fun vs H Q _ => ∃ (p q : Addr) (nm nm2 : Str) (dd dd2 : Dd) (kn kn2 : List (Str × Bool)), vs = [.ref p, .ref q] ∧ StAt H p nm dd kn ∧ StAt H q nm2 dd2 kn2 ∧ ∀ (b : Bool) (H' : Hp), Same H H' → Q (.bl b) H'
theorem ok_apart {f : Addr} {fd : FuncData} (F : Fun K "_law_apart" "_law_apart" sAp f fd) (T : Free mg) (W : TouchF K mg fTo dTo) : FnOk P w K mg base CX0 2 f fd ["_law_step", "_law_later"] spAp := by
  have GTo : FnOk P w K mg base CX0 1 fTo dTo ["_law_step"] spTo := ok_touches W.To T
  have FTo := W.To
  have bTo := W.bTo
  have gTo := W.gTo
  refine F.ok scAp (fun vs H Q E h => ?_) (fun cdv A outer s H vs Q E hr h => ?_)
  · obtain ⟨p, q, nm, nm2, dd, dd2, kn, kn2, rfl, _⟩ := h
    rfl
  · obtain ⟨p, q, nm, nm2, dd, dd2, kn, kn2, rfl, st, st2, k⟩ := h
    refine ⟨_, pss_cons (ps_asg (pe_tup (pa_cons (pe_call GTo (hr.mono (by decide)) (by rfl) gTo FTo.kp bTo .nil pass0 (pa_cons (pv 0) pa_nil)) (pa_cons (pe_call GTo (hr.mono (by decide)) (by rfl) gTo FTo.kp bTo .nil pass0 (pa_cons (pv 1) pa_nil)) pa_nil))) (pg_tup rfl (pgs_cons (pg_name (i := 2) scAp.nd rfl (Or.inr rfl)) (pgs_cons (pg_name (i := 3) scAp.nd rfl (Or.inr rfl)) pgs_nil))))
      (pss_cons (ps_if (pt_val (pe_callB (cr_any rfl) (by rfl) T.any (by decide +kernel) (pa_cons (pe_lc (own := [("_law_what", 4)]) (g := gName 4) (tt := tYes) rfl scAp.nd (pi_list (pe_ix (ix_listK (K := K) rfl) (pv 2) pe_int (fun _ _ => rfl))) (blkOk_by (own := [("_law_what", 4)]) (N := nAp) (sc := defScope sAp) (by decide +kernel)) (fun _ _ _ _ _ => (pg_name (i := 4) scAp.nd rfl (Or.inl rfl))) (fun _ _ _ _ _ => pts_nil) (fun _ _ _ _ _ => (pe_or (pe_cmpR (op_in_seqK (K := K) rfl) (pv 4) (pe_ix (ix_listK (K := K) rfl) (pv 3) pe_int (fun _ _ => rfl)) rfl) (pe_one (pe_and (pe_cmpR (op_in_seqK (K := K) rfl) (pv 4) (pe_ix (ix_listK (K := K) rfl) (pv 3) pe_int (fun _ _ => rfl)) rfl) (pe_one (pe_cmpR op_ne (pv 4) pe_str (nomark _)))))))) pa_nil))) (pss_one (ps_ret pe_bl)) (pss_nil))
      (pss_one (ps_ret (pe_not (pe_callB (cr_any rfl) (by rfl) T.any (by decide +kernel) (pa_cons (pe_lc (own := [("_law_what", 4)]) (g := gName 4) (tt := tYes) rfl scAp.nd (pi_list (pe_ix (ix_listK (K := K) rfl) (pv 3) pe_int (fun _ _ => rfl))) (blkOk_by (own := [("_law_what", 4)]) (N := nAp) (sc := defScope sAp) (by decide +kernel)) (fun _ _ _ _ _ => (pg_name (i := 4) scAp.nd rfl (Or.inl rfl))) (fun _ _ _ _ _ => pts_nil) (fun _ _ _ _ _ => (pe_cmpR (op_in_seqK (K := K) rfl) (pv 4) (pe_ix (ix_listK (K := K) rfl) (pv 2) pe_int (fun _ _ => rfl)) rfl))) pa_nil)))))), ?_⟩
    refine ⟨_, rfl, p, nm, dd, kn, rfl, st, fun L H1 ⟨A, B, xs, ys, eL, eA, eB, lx, ly⟩ s1 => ?_⟩
    refine ⟨_, rfl, q, nm2, dd2, kn2, rfl, st2.keep (Tst.of s1), fun L2 H2 ⟨A2, B2, xs2, ys2, eL2, eA2, eB2, lx2, ly2⟩ s2 => ?_⟩
    have eL1 := s2 _ _ eL
    have eA1 := s2 _ _ eA
    have eB1 := s2 _ _ eB
    refine ⟨(show 2 ≤ sizeLine by decide), fun t nt => newO nt fun H3 s3 e3 => ⟨t, _, rfl, SqT.of e3, rfl, _, _, rfl, gN ⟨_, _, rfl, gN ⟨rfl, ?_⟩⟩⟩⟩
    try dsimp only
    refine ⟨_, rfl, L, _, _, V.ref B, rfl, rfl, SqL.of (s3 _ _ eL1), rfl, B, rfl, ⟨_, SqL.of (s3 _ _ eB1)⟩, fun D nD => ?_⟩
    refine lc_new (walk_list (K := K) (a := B) (xs := ys.map V.str)) (Z := fun j x => (ys.map V.str)[j]? = some x) (fun _ y _ => ∃ b : Bool, y = .bl b) nD (fun j G x G' e => ⟨e.1, e.2⟩) (fun G sG => SqL.of (sG _ _ (s3 _ _ eB1))) (fun _ _ _ _ _ _ e => e) (by rw [List.length_map]; omega) (fun _ => rfl) ?_ ?_
    · rintro j x G Q2 hj hx sG kk
      rw [List.getElem?_map] at hx
      obtain ⟨z, hz, rfl⟩ := Option.map_eq_some_iff.mp hx
      have sg := s3.trans sG
      refine ⟨_, rfl, _, rfl, L2, _, _, V.ref A2, rfl, rfl, SqL.of (sg _ _ eL2), rfl, A2, _, rfl, .inl (SqL.of (sg _ _ eA2)), rfl, all_flat _, ?_⟩
      refine ⟨_, rfl, ?_⟩
      generalize inV (V.str z) (xs2.map V.str) = c1
      cases c1 with
      | true => exact iteB1 rfl (kk _ _ (Same.refl _) ⟨_, rfl⟩)
      | false =>
        refine iteB0 rfl ?_
        refine ⟨_, rfl, _, rfl, L2, _, _, V.ref B2, rfl, rfl, SqL.of (sg _ _ eL2), rfl, B2, _, rfl, .inl (SqL.of (sg _ _ eB2)), rfl, all_flat _, ?_⟩
        refine ⟨_, rfl, ?_⟩
        generalize inV (V.str z) (ys2.map V.str) = c2
        cases c2 with
        | true => exact iteB1 rfl ⟨_, rfl, rfl, kk _ _ (Same.refl _) ⟨_, rfl⟩⟩
        | false => exact iteB0 rfl (kk _ _ (Same.refl _) ⟨_, rfl⟩)
    · rintro H4 ys4 s4 eD ly hw
      obtain ⟨bs, rfl⟩ := bls_of hw
      refine ⟨D, bs, rfl, SqL.of eD, ?_⟩
      refine ⟨_, rfl, ?_⟩
      have s04 := ((s1.trans s2).trans s3).trans s4
      have sg := s3.trans s4
      generalize bs.any id = c1
      cases c1 with
      | true => exact iteB1 rfl (k false H4 s04)
      | false =>
        refine iteB0 rfl ?_
        unfold tNext
        dsimp only
        unfold tRet
        dsimp only
        refine ⟨_, rfl, L2, _, _, V.ref B2, rfl, rfl, SqL.of (sg _ _ eL2), rfl, B2, rfl, ⟨_, SqL.of (sg _ _ eB2)⟩, fun D2 nD2 => ?_⟩
        refine lc_new (walk_list (K := K) (a := B2) (xs := ys2.map V.str)) (Z := fun j x => (ys2.map V.str)[j]? = some x) (fun _ y _ => ∃ b : Bool, y = .bl b) nD2 (fun j G x G' e => ⟨e.1, e.2⟩) (fun G sG => SqL.of (sG _ _ (sg _ _ eB2))) (fun _ _ _ _ _ _ e => e) (by rw [List.length_map]; omega) (fun _ => rfl) ?_ ?_
        · rintro j x G Q2 hj hx sG kk
          rw [List.getElem?_map] at hx
          obtain ⟨z, hz, rfl⟩ := Option.map_eq_some_iff.mp hx
          have sg := sg.trans sG
          exact ⟨_, rfl, _, rfl, L, _, _, V.ref A, rfl, rfl, SqL.of (sg _ _ eL1), rfl, A, _, rfl, .inl (SqL.of (sg _ _ eA1)), rfl, all_flat _, kk _ _ (Same.refl _) ⟨_, rfl⟩⟩
        · rintro H5 ys5 s5 eD5 ly5 hw5
          obtain ⟨bs5, rfl⟩ := bls_of hw5
          exact ⟨D2, bs5, rfl, SqL.of eD5, _, rfl, k _ H5 (s04.trans s5)⟩
end
end K86
set_option Elab.async false
set_option linter.all false
set_option pp.maxSteps 4000
set_option maxRecDepth 100000
set_option maxHeartbeats 4000000
/-! k86: what stands behind what -/
namespace K86
open PySem PySem.Spec PyProof.Rows L2 Bs Xg TL Xm Xs Gn Gd
abbrev sBe : Stmt := top 18
/-- a pair of names -/
def PairD (d : PyData) : Prop := ∃ a b : Str, d = .tuple [.str a, .str b] ∧ Good 9 a ∧ Good 9 b
theorem pairs_alike {ds : List PyData} (h : ∀ d ∈ ds, PairD d) : PySem.W.AllAlike ds := by
  intro d hd d' hd'
  obtain ⟨a, b, rfl, _⟩ := h d hd
  obtain ⟨a', b', rfl, _⟩ := h d' hd'
  simp [PySem.W.alike, PySem.W.alikeAll]
theorem pairs_sortable {ds : List PyData} (h : ∀ d ∈ ds, PairD d) : PySem.W.Sortable ds := .inl fun d hd => by
  obtain ⟨a, b, rfl, _⟩ := h d hd
  exact ⟨_, _, rfl⟩
theorem pair_depth {d : PyData} (h : PairD d) : d.depth ≤ 10 := by
  obtain ⟨a, b, rfl, _⟩ := h
  simp [PyData.depth, PyData.depthAll]
theorem tds_pairs {G : Hp} : ∀ {ys : List V}, (∀ (j : Nat) (y : V), ys[j]? = some y → ∃ d, TD G y d ∧ PairD d) → ∃ ds, TDs G ys ds ∧ ∀ d ∈ ds, PairD d
  | [], _ => ⟨[], trivial, fun d hd => nomatch hd⟩
  | y :: ys, h => by
    obtain ⟨d, t, g⟩ := h 0 y rfl
    obtain ⟨ds, ts, gs⟩ := tds_pairs (ys := ys) fun j y hy => h (j + 1) y (by simpa using hy)
    exact ⟨d :: ds, ⟨t, ts⟩, fun x hx => (List.mem_cons.mp hx).elim (fun e => e ▸ g) (gs x)⟩
/-- sorted pairs -/
theorem sort_pairs {K : PySem.W.Frag} {H : Hp} {a : Addr} {vs : List V} {ds : List PyData} {Q : VK} (e : SqL K H a vs) (h : TDs H vs ds) (g : ∀ d ∈ ds, PairD d)
    (q : ∀ (l : Addr) (ws : List V) (es : List PyData), H l = none → TDs H ws es → es.length = ds.length → (∀ d ∈ es, PairD d) → Q (.ref l) (upd H l (.lst ws))) : rSrtD K [.ref a] H Q := by
  obtain ⟨ps, rfl, rfl, t⟩ := h.ps
  refine ⟨a, ps, rfl, e, fun p hp => (t p hp).dp, pairs_alike g, pairs_sortable g, fun p hp => pair_depth (g p.2 (List.mem_map_of_mem hp)), fun qs l eq nl => ?_⟩
  have pm : qs.Perm ps := by rw [eq]; exact List.mergeSort_perm _ _
  refine q l _ (qs.map (·.2)) nl (TDs.of fun p hp => t p (pm.mem_iff.mp hp)) (by rw [List.length_map, List.length_map, pm.length_eq]) fun d hd => ?_
  obtain ⟨p, hp, rfl⟩ := List.mem_map.mp hd
  exact g _ (List.mem_map_of_mem (pm.mem_iff.mp hp))
theorem cut_from (xs : List V) (i : Nat) : cutV xs (some ((i : Int) + 1)) none = xs.drop (i + 1) := by
  unfold cutV
  rw [show ((i : Int) + 1) = ((i + 1 : Nat) : Int) from rfl, HT.sIx_none, HT.sIx_nat]
  by_cases h : i + 1 ≤ xs.length
  · rw [Nat.min_eq_left h, List.take_of_length_le (by rw [List.length_drop]; exact Nat.le_refl _)]
  · rw [Nat.min_eq_right (by omega), List.drop_of_length_le (by omega : xs.length ≤ xs.length), List.drop_of_length_le (by omega), List.take_nil]
structure ApartF (K : PySem.W.Frag) (mg : Str → Option Value) (fAp : Addr) (dAp : FuncData) : Prop where
  Ap : Fun K "_law_apart" "_law_apart" sAp fAp dAp
  bAp : Binds K dAp ["_law_step", "_law_later"] []
  gAp : mg "_law_apart" = some (.ref fAp)
section
variable {P : Program} {w : World} {K : PySem.W.Frag} {mg : Str → Option Value} {base : Heap} {fTo fAp : Addr} {dTo dAp : FuncData}
abbrev nBe : List Str := ["_law_steps", "_law_found", "_law_k", "_law_step", "_law_rest", "_law_later"]
theorem scBe : FnScope nBe ["_law_steps"] (defScope sBe) := ⟨rfl, rfl, rfl, by decide +kernel, rfl, by decide +kernel, by decide +kernel⟩
def spBe : Sp := fun vs H Q _ => ∃ (S : Addr) (ps : List Addr), vs = [.ref S] ∧ H S = some (.lst (ps.map V.ref)) ∧ ps.length ≤ 6 ∧ (∀ p ∈ ps, ∃ nm dd kn, StAt H p nm dd kn ∧ Good 9 nm) ∧
  ∀ (t : Addr) (ds : List PyData) (H' : Hp), TD H' (.ref t) (.tuple ds) → ds.length ≤ 36 → (∀ d ∈ ds, PairD d) → Same H H' → Q (.ref t) H'
theorem ok_behinds {f : Addr} {fd : FuncData} (F : Fun K "_law_behinds" "_law_behinds" sBe f fd) (T : Free mg) (W : TouchF K mg fTo dTo) (A : ApartF K mg fAp dAp) : FnOk P w K mg base CX0 3 f fd ["_law_steps"] spBe := by
  have GAp : FnOk P w K mg base CX0 2 fAp dAp ["_law_step", "_law_later"] spAp := ok_apart A.Ap T W
  have FAp := A.Ap
  have bAp := A.bAp
  have gAp := A.gAp
  refine F.ok scBe (fun vs H Q E h => ?_) (fun cdv A outer s H vs Q E hr h => ?_)
  · obtain ⟨S, ps, rfl, _⟩ := h
    rfl
  · obtain ⟨S, ps, rfl, eS, l6, hst, q⟩ := h
    refine ⟨_, pss_cons (ps_set (i := 1) scBe.nd rfl (Or.inl rfl) (pe_lst pa_nil))
      (pss_cons (ps_for PassesOwn.never rfl (pi_enum (by rfl) T.enumerate (pa_cons (pv 0) pa_nil)) (pg_tup rfl (pgs_cons (pg_name (i := 2) scBe.nd rfl (Or.inl rfl)) (pgs_cons (pg_name (i := 3) scBe.nd rfl (Or.inr rfl)) pgs_nil))) (pss_cons (ps_setLc (i := 4) (own := [("_law_later", 5)]) (g := gName 5) (tt := (tNot (tB (tCall spAp [] E0 (tCons (tVar 3) (tCons (tVar 5) tNil)))))) rfl scBe.nd rfl rfl (sw_true rfl rfl rfl rfl) (pi_list (pe_slice sl_list (pv 0) (po_some (pe_op op_add (pv 2) pe_int)) po_none)) (blkOk_by (own := [("_law_later", 5)]) (N := nBe) (sc := defScope sBe) (by decide +kernel)) (fun _ _ _ _ _ => (pg_name (i := 5) scBe.nd rfl (Or.inl rfl))) (fun _ _ _ _ _ => pts_one (pt_not (pt_val (pe_call GAp (hr.mono (by decide)) (by rfl) gAp FAp.kp bAp .nil pass0 (pa_cons (pv 3) (pa_cons (pv 5) pa_nil)))))) (fun _ _ _ _ _ => (pv 5)))
      (pss_one (ps_expr (pe_bmK (K := K) rfl PySem.F.plainAttrs_list PySem.F.slot_list_extend PySem.F.type_list_extend mt_extend (pv 1) (pa_cons (pe_lc (own := [("_law_later", 5)]) (g := gName 5) (tt := tYes) rfl scBe.nd (pi_list (pv 4)) (blkOk_by (own := [("_law_later", 5)]) (N := nBe) (sc := defScope sBe) (by decide +kernel)) (fun _ _ _ _ _ => (pg_name (i := 5) scBe.nd rfl (Or.inl rfl))) (fun _ _ _ _ _ => pts_nil) (fun _ _ _ _ _ => (pe_tup (pa_cons (pe_ix (ix_tupK (K := K) rfl) (pv 3) pe_int (fun _ _ => rfl)) (pa_cons (pe_ix (ix_tupK (K := K) rfl) (pv 5) pe_int (fun _ _ => rfl)) pa_nil))))) pa_nil))))))
      (pss_one (ps_ret (pe_callTy call_tuple_of (by rfl) T.tuple (by decide +kernel) (pa_cons (pe_callB (cr_srtD (K := K) rfl (r80 hr)) (by rfl) T.sorted (by decide +kernel) (pa_cons (pv 1) pa_nil)) pa_nil))))), ?_⟩
    refine ⟨(show 0 ≤ sizeLine by decide), fun F nF => newO nF fun H1 s1 e1 => ?_⟩
    refine gN ?_
    try dsimp only
    have eS1 := s1 _ _ eS
    have SF : S ≠ F := fun z => by rw [z, nF] at eS; cases eS
    have hst1 : ∀ p ∈ ps, ∃ nm dd kn, StAt H1 p nm dd kn ∧ Good 9 nm := fun p hp => by
      obtain ⟨nm, dd, kn, a, g⟩ := hst p hp
      exact ⟨nm, dd, kn, a.keep (Tst.of s1), g⟩
    refine ⟨_, rfl, S, ps.map V.ref, rfl, SqL.of eS1, for_it (walk_enum (xs := ps.map V.ref)) (fun j σ G => But F H1 G ∧ (∃ vs ds, G F = some (.lst vs) ∧ TDs G vs ds ∧ ds.length ≤ 6 * j ∧ ∀ d ∈ ds, PairD d) ∧ ∃ u2 u3 u4 u5, σ = [some (.ref S), some (.ref F), u2, u3, u4, u5]) ⟨But.refl _ _, ⟨[], [], e1, trivial, Nat.zero_le _, fun d hd => nomatch hd⟩, _, _, _, _, rfl⟩ (fun j σ G _ pv => SqL.of (pv.1 _ _ SF eS1)) ?_ ?_⟩
    · rintro i v σ K1 K2 hi ⟨bF, ⟨vs, ds, eF, td, ld, gd⟩, w2, w3, w4, w5, rfl⟩ ⟨T0, v1, v2, rfl, nT, rfl, e1, e2⟩
      cases e1
      rw [List.length_map] at hi
      dsimp only at e2
      rw [List.getElem?_map] at e2
      obtain ⟨p, ip, rfl⟩ := Option.map_eq_some_iff.mp e2
      have mp := List.mem_of_getElem? ip
      refine newO nT fun K3 sT eT => ?_
      have b3 : But F H1 K3 := bF.trans (But.of sT)
      have t3 : Tst H1 K3 := Tst.but ⟨_, e1⟩ b3
      have eF3 := sT _ _ eF
      have eS3 := b3 S _ SF eS1
      have td3 := td.keep (Tst.of sT)
      have hst3 : ∀ p ∈ ps, ∃ nm dd kn, StAt K3 p nm dd kn ∧ Good 9 nm := fun p hp => by
        obtain ⟨nm, dd, kn, a, g⟩ := hst1 p hp
        exact ⟨nm, dd, kn, a.keep t3, g⟩
      obtain ⟨nm, dd, kn, st, gnm⟩ := hst3 p mp
      refine ⟨T0, _, rfl, SqT.of eT, rfl, _, _, rfl, gN ⟨_, _, rfl, gN ⟨rfl, ?_⟩⟩⟩
      try dsimp only
      refine ⟨_, rfl, _, rfl, _, _, rfl, rfl, (i : Int) + 1, rfl, S, _, rfl, SqL.of eS3, fun D nD => newO nD fun K4 s4 e4 => ?_⟩
      have ecut : cutV (ps.map V.ref) (some ((i : Int) + 1)) none = (ps.drop (i + 1)).map V.ref := by
        rw [cut_from, List.map_drop]
      rw [ecut] at e4
      have ll : (ps.drop (i + 1)).length ≤ 6 := by rw [List.length_drop]; omega
      refine ⟨D, rfl, ⟨_, SqL.of e4⟩, fun D2 nD2 => ?_⟩
      refine lc_some (walk_list (K := K) (a := D) (xs := (ps.drop (i + 1)).map V.ref)) (ps.drop (i + 1)) V.ref (List.length_map ..).symm nD2 (fun G sG => SqL.of (sG _ _ e4)) (by rw [List.length_map]; omega) ?_ ?_
      · rintro j a x G G' R N hj sG ⟨rfl, hx⟩ kR kN
        rw [List.getElem?_map, hj] at hx
        cases hx
        obtain ⟨nm2, dd2, kn2, st2, gnm2⟩ := hst3 a (List.mem_of_mem_drop (List.mem_of_getElem? hj))
        have sg := s4.trans sG
        refine gN ⟨rfl, ?_⟩
        refine ⟨_, rfl, _, rfl, p, a, nm, nm2, dd, dd2, kn, kn2, rfl, st.keep (Tst.of sg), st2.keep (Tst.of sg), fun b H' s' => ?_⟩
        refine ⟨_, rfl, ?_⟩
        cases b with
        | true => exact iteB0 rfl (kN _ s')
        | false => exact iteB1 rfl ⟨_, rfl, kR _ s'⟩
      · rintro K5 qs s5 e5 sb
        have lq := sb.length_le
        refine gN ?_
        try dsimp only
        refine ⟨_, rfl, .inl ⟨rfl, _, SqL.of (s5 _ _ (s4 _ _ eF3))⟩, _, rfl, D2, rfl, ⟨_, SqL.of e5⟩, fun D3 nD3 => ?_⟩
        have s45 := s4.trans s5
        refine lc_new (walk_list (K := K) (a := D2) (xs := qs.map V.ref)) (Z := fun j x => (qs.map V.ref)[j]? = some x) (fun _ y G => ∃ d, TD G y d ∧ PairD d) nD3 (fun j G x G' e => ⟨e.1, e.2⟩) (fun G sG => SqL.of (sG _ _ e5)) (fun j y G G' keep ⟨l', eD⟩ ⟨d, t, g⟩ => ⟨d, t.keep (fun a xs e => keep a _ (tup_ne e eD) e), g⟩) (by rw [List.length_map]; omega) (fun _ => rfl) ?_ ?_
        · rintro j x G Q2 hj hx sG kk
          rw [List.getElem?_map] at hx
          obtain ⟨a, ha, rfl⟩ := Option.map_eq_some_iff.mp hx
          have ma := List.mem_of_mem_drop (sb.subset (List.mem_of_getElem? ha))
          obtain ⟨nm2, dd2, kn2, ⟨vs2, ea, _⟩, gnm2⟩ := hst3 a ma
          have sg := s45.trans sG
          obtain ⟨vs1, ep, _⟩ := id st
          refine ⟨_, rfl, p, _, _, V.str nm, rfl, rfl, SqT.of (sg _ _ ep), atI_nat (j := 0) rfl, _, rfl, a, _, _, V.str nm2, rfl, rfl, SqT.of (sg _ _ ea), atI_nat (j := 0) rfl, (show 2 ≤ sizeLine by decide), fun t nt => newO nt fun G2 s2 e2 => ?_⟩
          exact kk _ _ s2 ⟨.tuple [.str nm, .str nm2], TD.mk e2 ⟨.str nm, .str nm2, trivial⟩, nm, nm2, rfl, gnm, gnm2⟩
        · rintro K6 ys s6 e6 ly hw
          obtain ⟨es, tes, ges⟩ := tds_pairs hw
          have s46 := s45.trans s6
          rw [List.length_map] at ly
          have eF6 := s46 _ _ eF3
          have td6 := td3.keep (Tst.of s46)
          have lv := td.len
          have le := tes.len
          refine ⟨F, D3, vs, ys, rfl, rfl, eF6, e6, by rw [sizeLine_eq]; omega, ?_⟩
          have b7 : But F K6 (upd K6 F (.lst (vs ++ ys))) := But.upd
          have e7 : upd K6 F (.lst (vs ++ ys)) F = _ := upd_same
          generalize upd K6 F (.lst (vs ++ ys)) = K7 at b7 e7 ⊢
          have t67 : Tst K6 K7 := Tst.but ⟨_, eF6⟩ b7
          refine ⟨(b3.trans (But.of s46)).trans b7, ⟨vs ++ ys, ds ++ es, e7, (td6.app tes).keep t67, ?_, fun d hd => (List.mem_append.mp hd).elim (gd d) (ges d)⟩, _, _, _, _, rfl⟩
          rw [List.length_append]
          omega
    · rintro σ H2 ⟨bF, ⟨vs, ds, eF, td, ld, gd⟩, w2, w3, w4, w5, rfl⟩
      try dsimp only
      unfold tRet
      dsimp only
      rw [List.length_map] at ld
      refine ⟨_, rfl, ?_⟩
      unfold tNil
      dsimp only
      refine sort_pairs (SqL.of eF) td gd fun l ws es nl tw le ge => ?_
      refine newO nl fun H3 s3 e3 => ?_
      have tw3 := tw.keep (Tst.of s3)
      refine ⟨l, _, rfl, .inl ⟨SqL.of e3, fun t nt => newO nt fun H4 s4 e4 => ?_⟩⟩
      exact q t es H4 (TD.mk e4 (tw3.keep (Tst.of s4))) (by omega) ge fun b o e => s4 _ _ (s3 _ _ (bF b o (ne_of_none e nF) (s1 _ _ e)))
end
end K86
set_option Elab.async false
set_option linter.all false
set_option pp.maxSteps 4000
set_option maxRecDepth 100000
set_option maxHeartbeats 4000000
/-! k86: programs as data -/
namespace K86
open PySem PySem.Spec PyProof.Rows L2 Bs Xg TL Xm Xs Gn Gd
def vd : V → PyData
  | .str z => .str z
  | .int i => .int i
  | _ => .none
theorem worth_td {H : Hp} {b : Bool} {v : V} (h : WorthOk b v) : TD H v (vd v) ∧ Sh (vd v) 41 1 := by
  unfold WorthOk at h
  cases b with
  | true =>
    rw [if_pos rfl] at h
    obtain ⟨z, hz, rfl⟩ := h
    exact ⟨.str z, (sh_str (cells_good z hz)).up (by decide) (by decide)⟩
  | false =>
    rw [if_neg (by decide)] at h
    obtain ⟨i, rfl, hi⟩ := h
    exact ⟨.int i, sh_int (Nat.lt_trans hi (by decide))⟩
theorem tds_map {H : Hp} : ∀ {vs : List V}, (∀ v ∈ vs, TD H v (vd v)) → TDs H vs (vs.map vd)
  | [], _ => trivial
  | v :: vs, h => ⟨h v List.mem_cons_self, tds_map fun x hx => h x (List.mem_cons_of_mem _ hx)⟩
theorem form_td {H : Hp} {fv : List V} (h : FormOk fv) : TDs H fv (fv.map vd) ∧ (∀ d ∈ fv.map vd, Sh d 41 1) ∧ fv.length ≤ 2 := by
  have gd : ∀ z : Str, Good 9 z → Sh (PyData.str z) 41 1 := fun z g => (sh_str g).up (by decide) (by decide)
  rcases h with rfl | ⟨m, rfl, m1, m4⟩ | ⟨o, rfl, ho⟩
  · exact ⟨⟨.str _, trivial⟩, fun d hd => by rw [List.mem_singleton.mp hd]; exact gd _ (by constructor <;> decide +kernel), by decide⟩
  · refine ⟨⟨.str _, .int _, trivial⟩, fun d hd => ?_, Nat.le_of_ble_eq_true rfl⟩
    simp only [List.map_cons, List.map_nil, List.mem_cons, List.not_mem_nil, or_false] at hd
    rcases hd with rfl | rfl
    · exact gd _ (by constructor <;> decide +kernel)
    · exact sh_int (by omega)
  · refine ⟨⟨.str _, .str _, trivial⟩, fun d hd => ?_, Nat.le_of_ble_eq_true rfl⟩
    simp only [List.map_cons, List.map_nil, List.mem_cons, List.not_mem_nil, or_false] at hd
    rcases hd with rfl | rfl
    · exact gd _ (by constructor <;> decide +kernel)
    · rcases ho with rfl | rfl | rfl <;> exact gd _ (by constructor <;> decide +kernel)
def osD : Option Str → PyData
  | none => .none
  | some z => .str z
theorem os_td {H : Hp} (o : Option Str) : TD H (osV o) (osD o) := by
  cases o with
  | none => exact .non
  | some z => exact .str z
def pairD (p : Str × Option Str) : PyData := .tuple [.str p.1, osD p.2]
/-- a step, as data -/
structure StepD where
  nm : Str
  w : Str
  rest : List PyData
  ks : List PyData
  ok : w = "fill" → ∃ (c : PyData) (zs : List Str), rest = [c, .tuple ks] ∧ ks = zs.map .str
def StepD.data (s : StepD) : PyData := .tuple (.str s.nm :: .str s.w :: s.rest)
def Dd.step (nm : Str) : Dd → StepD
  | .cut col s news => ⟨nm, "cut", [.str col, .str s, .tuple (news.map .str)], [], fun e => absurd e (by decide +kernel)⟩
  | .glue cols s new => ⟨nm, "glue", [.tuple (cols.map .str), .str s, .str new], [], fun e => absurd e (by decide +kernel)⟩
  | .spell col ps => ⟨nm, "spell", [.str col, .tuple (ps.map pairD)], [], fun e => absurd e (by decide +kernel)⟩
  | .read col fv new => ⟨nm, "read", [.str col, .tuple (fv.map vd), .str new], [], fun e => absurd e (by decide +kernel)⟩
  | .put col v => ⟨nm, "put", [.str col, vd v], [], fun e => absurd e (by decide +kernel)⟩
  | .within col lo hi => ⟨nm, "within", [.str col, vd lo, vd hi], [], fun e => absurd e (by decide +kernel)⟩
  | .among col xs => ⟨nm, "among", [.str col, .tuple (xs.map vd)], [], fun e => absurd e (by decide +kernel)⟩
  | .before col c2 => ⟨nm, "before", [.str col, .str c2], [], fun e => absurd e (by decide +kernel)⟩
  | .given col => ⟨nm, "given", [.str col], [], fun e => absurd e (by decide +kernel)⟩
  | .fill col keys => ⟨nm, "fill", [.str col, .tuple (keys.map .str)], keys.map .str, fun _ => ⟨_, keys, rfl, rfl⟩⟩
theorem Dd.step_nm (nm : Str) (dd : Dd) : (dd.step nm).nm = nm := by cases dd <;> rfl
theorem mem_map_td {α : Type} {f : α → PyData} {w k : Nat} {xs : List α} (h : ∀ x ∈ xs, Sh (f x) w k) : ∀ d ∈ xs.map f, Sh d w k := fun d hd => by
  obtain ⟨x, hx, rfl⟩ := List.mem_map.mp hd
  exact h x hx
theorem gsh {z : Str} {n : Nat} (g : Good n z) (l : n ≤ 12) : Sh (PyData.str z) 41 1 := (sh_str g).up (by omega) (by decide)
theorem strs_sh {zs : List Str} {n m : Nat} (g : ∀ z ∈ zs, Good n z) (l : n ≤ 12) (lm : zs.length ≤ m) : Sh (.tuple (zs.map PyData.str)) (m * 42 + 1) 2 := sh_tuple (mem_map_td fun z hz => gsh (g z hz) l) (by rw [List.length_map]; exact lm)
theorem sha {d : PyData} {w k : Nat} (h : Sh d w k) (a : w ≤ 345) (b : k ≤ 3) : Sh d 345 3 := Sh.up h a b
theorem list_sh {w k : Nat} {d : PyData} {ds : List PyData} (h : Sh d w k) (g : ∀ x ∈ ds, Sh x w k) : ∀ x ∈ d :: ds, Sh x w k := fun x hx => (List.mem_cons.mp hx).elim (fun e => e ▸ h) (g x)
theorem nil_sh {w k : Nat} : ∀ x ∈ ([] : List PyData), Sh x w k := fun x hx => nomatch hx
theorem Dd.td {H : Hp} {vs : List V} {dd : Dd} {kn : List (Str × Bool)} (h : dd.At H vs) (w : dd.wt kn) (nm : Str) : TDs H (.str nm :: vs) (.str nm :: .str (dd.step nm).w :: (dd.step nm).rest) := by
  refine ⟨.str nm, ?_⟩
  cases dd with
  | cut col s news =>
    obtain ⟨t, rfl, e⟩ := h
    exact ⟨.str _, .str _, .str _, .mk e (.strs _), trivial⟩
  | glue cols s new =>
    obtain ⟨t, rfl, e⟩ := h
    exact ⟨.str _, .mk e (.strs _), .str _, .str _, trivial⟩
  | spell col ps =>
    obtain ⟨t, rfl, qs, l, e, g⟩ := h
    exact ⟨.str _, .str _, .mk e (TDs.refs (R := fun q p => H q = some (.tup [.str p.1, osV p.2])) (f := pairD) (fun q p hq => TD.mk (ds := [.str p.1, osD p.2]) hq ⟨.str _, os_td _, trivial⟩) l g), trivial⟩
  | read col fv new =>
    obtain ⟨t, rfl, e⟩ := h
    exact ⟨.str _, .str _, .mk e (form_td w.2.1).1, .str _, trivial⟩
  | put col v =>
    obtain ⟨k, _, wk⟩ := w
    cases h
    exact ⟨.str _, .str _, (worth_td wk).1, trivial⟩
  | within col lo hi =>
    obtain ⟨k, _, wk, wk2⟩ := w
    cases h
    exact ⟨.str _, .str _, (worth_td wk).1, (worth_td wk2).1, trivial⟩
  | among col xs =>
    obtain ⟨k, _, _, wk⟩ := w
    obtain ⟨t, rfl, e⟩ := h
    exact ⟨.str _, .str _, .mk e (tds_map fun x hx => (worth_td (wk x hx)).1), trivial⟩
  | before col c2 =>
    cases h
    exact ⟨.str _, .str _, .str _, trivial⟩
  | given col =>
    cases h
    exact ⟨.str _, .str _, trivial⟩
  | fill col keys =>
    obtain ⟨t, rfl, e⟩ := h
    exact ⟨.str _, .str _, .mk e (.strs _), trivial⟩
theorem Dd.tds {H : Hp} {vs : List V} {dd : Dd} {kn : List (Str × Bool)} {nm : Str} {p : Addr} (e : H p = some (.tup (.str nm :: vs))) (h : dd.At H vs) (w : dd.wt kn) : TD H (.ref p) (dd.step nm).data := by
  have t := TD.mk e (Dd.td h w nm)
  unfold StepD.data
  rw [Dd.step_nm]
  exact t
theorem Dd.sh {dd : Dd} {kn : List (Str × Bool)} (w : dd.wt kn) (gk : ∀ c ∈ kn, Good 9 c.1) {nm : Str} (gn : Good 9 nm) : Sh (dd.step nm).data 1731 4 := by
  have gc : ∀ {col : Str} {b : Bool}, (col, b) ∈ kn → Good 9 col := fun h => gk _ h
  have s : ∀ {z : Str} {n : Nat}, Good n z → n ≤ 12 → Sh (PyData.str z) 345 3 := fun g l => sha (gsh g l) (by decide) (by decide)
  have key : ∀ ds : List PyData, (∀ d ∈ ds, Sh d 345 3) → ds.length ≤ 5 → Sh (.tuple ds) 1731 4 := fun ds h l => sh_tuple h l
  have sw : ∀ {z : Str}, Good 12 z → Sh (PyData.str z) 345 3 := fun g => s g (by decide)
  refine key _ ?_ ?_
  · refine list_sh (s (z := (dd.step nm).nm) (n := 9) (by rw [Dd.step_nm]; exact gn) (by decide)) (list_sh (sw ?_) ?_)
    · have gw : ∀ z ∈ (["cut", "glue", "spell", "read", "put", "within", "among", "before", "given", "fill"] : List Str), Good 12 z := by
        have : ((["cut", "glue", "spell", "read", "put", "within", "among", "before", "given", "fill"] : List Str).all fun z => decide (z.length ≤ 12) && z.cps.toList.all fun c => decide (32 ≤ c ∧ c < 127)) = true := by decide +kernel
        intro z hz
        have := List.all_eq_true.mp this z hz
        rw [Bool.and_eq_true, decide_eq_true_eq, List.all_eq_true] at this
        exact ⟨this.1, fun c hc => by simpa using this.2 c hc⟩
      exact gw _ (by cases dd <;> simp [Dd.step])
    · cases dd with
      | cut col c news => exact list_sh (s (gc w.1) (by decide)) (list_sh (s w.2.1 (by decide)) (list_sh (sha (strs_sh w.2.2.2.2 (by decide) w.2.2.1) (by decide) (by decide)) nil_sh))
      | glue cols c new => exact list_sh (sha (strs_sh (fun z hz => gc (w.1 z hz)) (by decide) w.2.2.1) (by decide) (by decide)) (list_sh (s w.2.2.2.1 (by decide)) (list_sh (s w.2.2.2.2 (by decide)) nil_sh))
      | spell col ps =>
        refine list_sh (s (gc w.1) (by decide)) (list_sh ?_ nil_sh)
        have h : Sh (.tuple (ps.map pairD)) (4 * 86 + 1) 3 := by
          refine sh_tuple (w := 85) (k := 2) (mem_map_td fun p hp => ?_) (by rw [List.length_map]; exact w.2.1)
          obtain ⟨g1, g2⟩ := w.2.2 p hp
          refine sh_tuple (w := 41) (k := 1) (n := 2) (list_sh (gsh g1 (by decide)) (list_sh ?_ nil_sh)) (Nat.le_of_ble_eq_true rfl)
          cases ho : p.2 with
          | none => exact sh_non.up (by decide) (by decide)
          | some z => exact gsh (g2 z ho) (by decide)
        exact h
      | read col fv new =>
        obtain ⟨_, h2, h3⟩ := form_td (H := fun _ => none) w.2.1
        exact list_sh (s (gc w.1) (by decide)) (list_sh (sha (sh_tuple h2 (by rw [List.length_map]; exact h3)) (by decide) (by decide)) (list_sh (s w.2.2 (by decide)) nil_sh))
      | put col v =>
        obtain ⟨k, c, wk⟩ := w
        exact list_sh (s (gc c) (by decide)) (list_sh (sha (worth_td (H := fun _ => none) wk).2 (by decide) (by decide)) nil_sh)
      | within col lo hi =>
        obtain ⟨k, c, wk, wk2⟩ := w
        exact list_sh (s (gc c) (by decide)) (list_sh (sha (worth_td (H := fun _ => none) wk).2 (by decide) (by decide)) (list_sh (sha (worth_td (H := fun _ => none) wk2).2 (by decide) (by decide)) nil_sh))
      | among col xs =>
        obtain ⟨k, c, l, wk⟩ := w
        exact list_sh (s (gc c) (by decide)) (list_sh (sha (sh_tuple (mem_map_td fun x hx => (worth_td (H := fun _ => none) (wk x hx)).2) (by rw [List.length_map]; exact l)) (by decide) (by decide)) nil_sh)
      | before col c2 =>
        obtain ⟨k, c, c'⟩ := w
        exact list_sh (s (gc c) (by decide)) (list_sh (s (gc c') (by decide)) nil_sh)
      | given col =>
        obtain ⟨k, c⟩ := w
        exact list_sh (s (gc c) (by decide)) nil_sh
      | fill col keys =>
        obtain ⟨⟨k, c⟩, l, hk⟩ := w
        exact list_sh (s (gc c) (by decide)) (list_sh (sha (strs_sh (fun z hz => (hk z hz).elim fun _ h => gc h) (by decide) l) (by decide) (by decide)) nil_sh)
  · cases dd <;> exact Nat.le_of_ble_eq_true rfl
/-- a fill's keys are texts that can be laid out -/
def StepD.fine (s : StepD) : Prop := PyData.canLayAll0 s.ks = true
theorem lay_strs : ∀ {zs : List Str}, (∀ z ∈ zs, Good 9 z) → PyData.canLayAll0 (zs.map PyData.str) = true
  | [], _ => rfl
  | z :: zs, h => by
    rw [List.map_cons]
    simp only [PyData.canLayAll0, PyData.canLay0]
    rw [(h z List.mem_cons_self).ok, lay_strs fun x hx => h x (List.mem_cons_of_mem _ hx)]
    rfl
theorem Dd.fine {dd : Dd} {kn : List (Str × Bool)} (w : dd.wt kn) (gk : ∀ c ∈ kn, Good 9 c.1) (nm : Str) : (dd.step nm).fine := by
  cases dd with
  | fill col keys => exact lay_strs fun z hz => (w.2.2 z hz).elim fun k hk => gk _ hk
  | _ => rfl
/-- does a step go row by row -/
def StepD.go (s : StepD) : Bool := if s.w = "fill" then s.ks.isEmpty else !(decide (s.w = "unlike") || decide (s.w = "look"))
/-- a program, as data -/
structure ProgD where
  srcs : List PyData
  nm : Str
  ow : Str
  orest : List PyData
  steps : List StepD
  bs : List PyData
  more : List PyData
def ProgD.tab (p : ProgD) : PyData := .tuple [.str p.nm, .tuple (.str p.ow :: p.orest), .tuple (p.steps.map StepD.data), .tuple p.bs]
def ProgD.data (p : ProgD) : PyData := .tuple [.tuple p.srcs, .tuple (p.tab :: p.more)]
def ProgD.go (p : ProgD) : Bool := p.more.isEmpty && decide (p.ow = "of") && p.steps.all StepD.go
/-- one source, one table -/
structure PlanD where
  sn : Str
  pre : List PyData
  cols : List Str
  nm : Str
  steps : List StepD
  bs : List PyData
def PlanD.src (p : PlanD) : PyData := .tuple [.str p.sn, .tuple (p.pre ++ [.tuple (p.cols.map .str)])]
def PlanD.prog (p : PlanD) : ProgD := ⟨[p.src], p.nm, "of", [.str p.sn], p.steps, p.bs, []⟩
structure PlanD.ok (p : PlanD) (m b : Nat) : Prop where
  sn : Good 9 p.sn
  nm : Good 9 p.nm
  pre : p.pre.length ≤ 3 ∧ ∀ d ∈ p.pre, Sh d 300 2
  c1 : 1 ≤ p.cols.length
  c3 : p.cols.length ≤ 3
  cg : ∀ z ∈ p.cols, Good 9 z
  sl : p.steps.length ≤ m
  ss : ∀ s ∈ p.steps, Good 9 s.nm ∧ Sh s.data 1731 4 ∧ s.fine
  bl : p.bs.length ≤ b
  bg : ∀ d ∈ p.bs, PairD d
theorem pair_sh {d : PyData} (h : PairD d) : Sh d 85 2 := by
  obtain ⟨a, b, rfl, g, g'⟩ := h
  exact sh_tuple (w := 41) (k := 1) (n := 2) (list_sh (gsh g (by decide)) (list_sh (gsh g' (by decide)) nil_sh)) (Nat.le_of_ble_eq_true rfl)
/-- a program is small -/
structure ProgD.ok (p : ProgD) : Prop where
  src : p.srcs.length ≤ 3 ∧ ∀ d ∈ p.srcs, Sh d 3000 5
  nm : Good 9 p.nm
  ow : Good 9 p.ow
  ol : p.orest.length ≤ 4 ∧ ∀ d ∈ p.orest, Sh d 1000 4
  sl : p.steps.length ≤ 10
  ss : ∀ s ∈ p.steps, Sh s.data 1731 4 ∧ s.fine
  bl : p.bs.length ≤ 60
  bg : ∀ d ∈ p.bs, PairD d
  mo : p.more.length ≤ 2 ∧ ∀ d ∈ p.more, Sh d 20000 6
theorem ProgD.sh {p : ProgD} (h : p.ok) : Sh p.data 600000 9 := by
  have h1 : Sh (.tuple p.srcs) 100000 8 := (sh_tuple h.src.2 h.src.1).up (by decide) (by decide)
  have h2 : Sh (.tuple (.str p.ow :: p.orest)) 20000 6 := (sh_tuple (w := 1000) (k := 4) (n := 5) (list_sh ((gsh h.ow (by decide)).up (by decide) (by decide)) h.ol.2) (by have := h.ol.1; rw [List.length_cons]; omega)).up (by decide) (by decide)
  have h3 : Sh (.tuple (p.steps.map StepD.data)) 20000 6 := (sh_tuple (n := 10) (mem_map_td fun s hs => (h.ss s hs).1) (by rw [List.length_map]; exact h.sl)).up (by decide) (by decide)
  have h4 : Sh (.tuple p.bs) 20000 6 := (sh_tuple (fun d hd => pair_sh (h.bg d hd)) h.bl).up (by decide) (by decide)
  have h5 : Sh p.tab (4 * 20001 + 1) 7 := sh_tuple (list_sh ((gsh h.nm (by decide)).up (by decide) (by decide)) (list_sh h2 (list_sh h3 (list_sh h4 nil_sh)))) (Nat.le_of_ble_eq_true rfl)
  have h6 : Sh (.tuple (p.tab :: p.more)) 290000 8 := (sh_tuple (n := 3) (list_sh h5 fun d hd => (h.mo.2 d hd).up (by decide) (by decide)) (by have := h.mo.1; rw [List.length_cons]; omega)).up (by decide) (by decide)
  exact (sh_tuple (w := 290000) (k := 8) (n := 2) (list_sh (h1.up (by decide) (by decide)) (list_sh h6 nil_sh)) (Nat.le_of_ble_eq_true rfl)).up (by decide) (by decide)
/-- the data of a shape -/
theorem shape_td {K : PySem.W.Frag} {H : Hp} {v : V} {names : List Str} (h : IsShape K H v names) (l6 : names.length ≤ 6) : ∃ (a : Addr) (pre : List PyData), v = .ref a ∧ TD H v (.tuple (pre ++ [.tuple (names.map .str)])) ∧ pre.length ≤ 3 ∧ ∀ d ∈ pre, Sh d 300 2 := by
  have s9 : ∀ {z : Str}, Good 9 z → Sh (PyData.str z) 300 2 := fun g => (gsh g (by decide)).up (by decide) (by decide)
  have s1 : ∀ {z : Str}, Good 1 z → Sh (PyData.str z) 300 2 := fun g => (gsh g (by decide)).up (by decide) (by decide)
  obtain ⟨a, t, pre, rfl, ea, et, hp⟩ := h
  have tt : TD H (.ref t) (.tuple (names.map .str)) := .mk et (.strs _)
  rcases hp with ⟨s, q, rfl, g1, g2⟩ | ⟨s, rfl, g1⟩ | ⟨u, ws, rfl, eu, lw, hw⟩
  · exact ⟨a, [.str "signs", .str s, .str q], rfl, .mk ea (ds := [.str "signs", .str s, .str q, .tuple (names.map .str)]) ⟨.str _, .str _, .str _, tt, trivial⟩, Nat.le_of_ble_eq_true rfl, list_sh (s9 (by constructor <;> decide +kernel)) (list_sh (s1 g1) (list_sh (s1 g2) nil_sh))⟩
  · exact ⟨a, [.str "named", .str s], rfl, .mk ea (ds := [.str "named", .str s, .tuple (names.map .str)]) ⟨.str _, .str _, tt, trivial⟩, Nat.le_of_ble_eq_true rfl, list_sh (s9 (by constructor <;> decide +kernel)) (list_sh (s1 g1) nil_sh)⟩
  · refine ⟨a, [.str "places", .tuple (ws.map .int)], rfl, .mk ea (ds := [.str "places", .tuple (ws.map .int), .tuple (names.map .str)]) ⟨.str _, .mk eu (.ints _), tt, trivial⟩, Nat.le_of_ble_eq_true rfl, list_sh (s9 (by constructor <;> decide +kernel)) (list_sh ?_ nil_sh)⟩
    exact (sh_tuple (n := 6) (mem_map_td fun i hi => sh_int (by have := hw i hi; omega)) (by rw [List.length_map]; omega)).up (by decide) (by decide)
theorem steps_td {H : Hp} : ∀ {ps : List Addr}, (∀ p ∈ ps, ∃ nm dd kn, StAt H p nm dd kn ∧ Good 9 nm ∧ ∀ c ∈ kn, Good 9 c.1) → ∃ ss : List StepD, TDs H (ps.map V.ref) (ss.map StepD.data) ∧ ss.length = ps.length ∧ ∀ s ∈ ss, Good 9 s.nm ∧ Sh s.data 1731 4 ∧ s.fine
  | [], _ => ⟨[], trivial, rfl, fun s hs => nomatch hs⟩
  | p :: ps, h => by
    obtain ⟨nm, dd, kn, ⟨vs, e, da, dw⟩, g, gk⟩ := h p List.mem_cons_self
    obtain ⟨ss, t, l, q⟩ := steps_td (ps := ps) fun x hx => h x (List.mem_cons_of_mem _ hx)
    refine ⟨dd.step nm :: ss, ⟨Dd.tds e da dw, t⟩, by rw [List.length_cons, List.length_cons, l], fun s hs => ?_⟩
    rcases List.mem_cons.mp hs with rfl | hs
    · exact ⟨by rw [Dd.step_nm]; exact g, Dd.sh dw gk g, Dd.fine dw gk nm⟩
    · exact q s hs
theorem PlanD.src_sh {p : PlanD} {m b : Nat} (h : p.ok m b) : Sh p.src 3000 5 := by
  have h1 : Sh (.tuple (p.cols.map PyData.str)) 300 2 := (strs_sh h.cg (by decide) h.c3).up (by decide) (by decide)
  have h2 : Sh (.tuple (p.pre ++ [.tuple (p.cols.map .str)])) 1205 3 := sh_tuple (n := 4) (fun d hd => (List.mem_append.mp hd).elim (h.pre.2 d) fun z => by rw [List.mem_singleton.mp z]; exact h1) (by rw [List.length_append]; exact Nat.add_le_add_right h.pre.1 1)
  exact (sh_tuple (w := 1205) (k := 3) (n := 2) (list_sh ((gsh h.sn (by decide)).up (by decide) (by decide)) (list_sh h2 nil_sh)) (Nat.le_of_ble_eq_true rfl)).up (by decide) (by decide)
theorem PlanD.prog_ok {p : PlanD} {m b : Nat} (h : p.ok m b) (hm : m ≤ 10) (hb : b ≤ 60) : p.prog.ok where
  src := ⟨Nat.le_of_ble_eq_true rfl, list_sh (PlanD.src_sh h) nil_sh⟩
  nm := h.nm
  ow := show Good 9 (Str.ofString "of") by constructor <;> decide +kernel
  ol := ⟨Nat.le_of_ble_eq_true rfl, list_sh ((gsh h.sn (by decide)).up (by decide) (by decide)) nil_sh⟩
  sl := Nat.le_trans h.sl hm
  ss := fun s hs => (h.ss s hs).2
  bl := Nat.le_trans h.bl hb
  bg := h.bg
  mo := ⟨Nat.le_of_ble_eq_true rfl, nil_sh⟩
end K86
set_option Elab.async false
set_option linter.all false
set_option pp.maxSteps 4000
set_option maxRecDepth 100000
set_option maxHeartbeats 4000000
/-! k86: a plan -/
namespace K86
open PySem PySem.Spec PyProof.Rows L2 Bs Xg TL Xm Xs Gn Gd
abbrev sPl : Stmt := top 19
def But4 (h N L S : Addr) (H H' : Hp) : Prop := ∀ b o, b ≠ h → b ≠ N → b ≠ L → b ≠ S → H b = some o → H' b = some o
theorem But4.refl (h N L S : Addr) (H : Hp) : But4 h N L S H H := fun _ _ _ _ _ _ e => e
theorem But4.trans {h N L S : Addr} {H H1 H2 : Hp} (a : But4 h N L S H H1) (b : But4 h N L S H1 H2) : But4 h N L S H H2 := fun c o n1 n2 n3 n4 e => b c o n1 n2 n3 n4 (a c o n1 n2 n3 n4 e)
theorem But4.t {h N L S : Addr} {H H' : Hp} (a : But3 h N L H H') : But4 h N L S H H' := fun c o n1 n2 n3 _ e => a c o n1 n2 n3 e
theorem But4.s {h N L S : Addr} {H H' : Hp} (a : Same H H') : But4 h N L S H H' := fun c o _ _ _ _ e => a c o e
theorem But4.u {h N L S : Addr} {H H' : Hp} (a : But S H H') : But4 h N L S H H' := fun c o _ _ _ n e => a c o n e
theorem tup_ne2 {H : Hp} {t a : Addr} {xs ys : List V} (e : H t = some (.tup xs)) (f : H a = some (.lst ys)) : t ≠ a := by
  rintro rfl
  rw [e] at f
  cases f
theorem Tst.b3 {h N L : Addr} {H H' : Hp} (b : But3 h N L H H') (eh : ∃ l, H h = some (.lst l)) (eN : ∃ l, H N = some (.lst l)) (eL : ∃ l, H L = some (.lst l)) : Tst H H' := fun a xs e => by
  obtain ⟨_, eh⟩ := eh
  obtain ⟨_, eN⟩ := eN
  obtain ⟨_, eL⟩ := eL
  exact b a _ (tup_ne2 e eh) (tup_ne2 e eN) (tup_ne2 e eL) e
/-- a plan's steps under way -/
def PlAt (h N L S : Addr) (n0 : Nat) (H0 G : Hp) (j : Nat) : Prop := ∃ (kn : List (Str × Bool)) (ns' : List Str) (ps : List Addr), G N = some (.lst (ns'.map V.str)) ∧ KnownAt G L kn ∧ G S = some (.lst (ps.map V.ref)) ∧ ps.length = j ∧
  (∀ p ∈ ps, ∃ nm dd kn, StAt G p nm dd kn ∧ Good 9 nm ∧ ∀ c ∈ kn, Good 9 c.1) ∧ (∃ c, (c, true) ∈ kn) ∧ ns'.length + kn.length = 24 ∧ kn.length ≤ 9 ∧ (∀ z ∈ ns', Good 9 z) ∧ (∀ c ∈ kn, Good 9 c.1) ∧ HandAt G h (n0 + 40 * j) ∧ But4 h N L S H0 G
theorem Dd.At.ne {H : Hp} {vs : List V} {dd : Dd} (h : dd.At H vs) : vs ≠ [] := by
  cases dd with
  | put | within | before | given =>
    cases h
    simp
  | _ =>
    obtain ⟨t, rfl, _⟩ := h
    simp
theorem Dd.At.len {H : Hp} {vs : List V} {dd : Dd} (h : dd.At H vs) : vs.length ≤ 4 := by
  cases dd with
  | put | within | before | given =>
    cases h
    exact Nat.le_of_ble_eq_true rfl
  | _ =>
    obtain ⟨t, rfl, _⟩ := h
    exact Nat.le_of_ble_eq_true rfl
theorem Tst.b4 {h N L S : Addr} {H H' : Hp} (b : But4 h N L S H H') (eh : ∃ l, H h = some (.lst l)) (eN : ∃ l, H N = some (.lst l)) (eL : ∃ l, H L = some (.lst l)) (eS : ∃ l, H S = some (.lst l)) : Tst H H' := fun a xs e => by
  obtain ⟨_, eh⟩ := eh
  obtain ⟨_, eN⟩ := eN
  obtain ⟨_, eL⟩ := eL
  obtain ⟨_, eS⟩ := eS
  exact b a _ (tup_ne2 e eh) (tup_ne2 e eN) (tup_ne2 e eL) (tup_ne2 e eS) e
structure PlanF (K : PySem.W.Frag) (mg : Str → Option Value) (fWo fSh fDe fBe : Addr) (dWo dSh dDe dBe : FuncData) : Prop where
  Wo : Fun K "_law_words" "_law_words" sWo fWo dWo
  bWo : Binds K dWo ["_law_box_here", "_law_many"] []
  gWo : mg "_law_words" = some (.ref fWo)
  Sh : Fun K "_law_shape" "_law_shape" sSh fSh dSh
  bSh : Binds K dSh ["_law_box_here", "_law_names"] []
  gSh : mg "_law_shape" = some (.ref fSh)
  De : Fun K "_law_deed" "_law_deed" sDe fDe dDe
  bDe : Binds K dDe ["_law_box_here", "_law_names", "_law_known"] []
  gDe : mg "_law_deed" = some (.ref fDe)
  Be : Fun K "_law_behinds" "_law_behinds" sBe fBe dBe
  bBe : Binds K dBe ["_law_steps"] []
  gBe : mg "_law_behinds" = some (.ref fBe)
section
variable {P : Program} {w : World} {K : PySem.W.Frag} {mg : Str → Option Value} {base : Heap} {fTk fPk : Addr} {dTk dPk : FuncData} {fCe fWr fFo : Addr} {dCe dWr dFo : FuncData} {fWi fPu fSp : Addr} {dWi dPu dSp : FuncData} {fTo fAp : Addr} {dTo dAp : FuncData} {fWo fSh fDe fBe : Addr} {dWo dSh dDe dBe : FuncData}
abbrev nPl : List Str := ["_law_box_here", "_law_most", "_law_names", "_law_calls", "_law_k", "_law_columns", "_law_known", "_law_steps", "_law_shape_here", "_law_its", "_law_column"]
theorem scPl : FnScope nPl ["_law_box_here", "_law_most"] (defScope sPl) := ⟨rfl, rfl, rfl, by decide +kernel, rfl, by decide +kernel, by decide +kernel⟩
def spPl : Sp := fun vs H Q _ => ∃ (h : Addr) (n : Nat) (m : Int), vs = [.ref h, .int m] ∧ HandAt H h n ∧ n < 960000 ∧ 0 ≤ m ∧ m ≤ 6 ∧
  ∀ (a : Addr) (p : PlanD) (H' : Hp), TD H' (.ref a) p.prog.data → p.ok 6 36 → HandAt H' h (n + 400) → But h H H' → Q (.ref a) H'
theorem ok_plan {f : Addr} {fd : FuncData} (F : Fun K "_law_plan" "_law_plan" sPl f fd) (T : Free mg) (W : HandF K mg fTk fPk dTk dPk) (G : GenF K mg fCe fWr fFo dCe dWr dFo) (D : DeedF K mg fWi fPu fSp dWi dPu dSp) (U : TouchF K mg fTo dTo) (A : ApartF K mg fAp dAp) (Z : PlanF K mg fWo fSh fDe fBe dWo dSh dDe dBe) : FnOk P w K mg base CX0 6 f fd ["_law_box_here", "_law_most"] spPl := by
  have GTk : FnOk P w K mg base CX0 1 fTk dTk ["_law_box_here", "_law_many"] spTake := ok_take W.Tk
  have GWo : FnOk P w K mg base CX0 3 fWo dWo ["_law_box_here", "_law_many"] spWo := ok_words Z.Wo T W
  have GSh : FnOk P w K mg base CX0 3 fSh dSh ["_law_box_here", "_law_names"] (spSh K) := ok_shape Z.Sh T W
  have GDe : FnOk P w K mg base CX0 5 fDe dDe ["_law_box_here", "_law_names", "_law_known"] spDe := ok_deed Z.De T W G D
  have GBe : FnOk P w K mg base CX0 3 fBe dBe ["_law_steps"] spBe := ok_behinds Z.Be T U A
  have FTk := W.Tk
  have bTk := W.bTk
  have gTk := W.gTk
  have FWo := Z.Wo
  have bWo := Z.bWo
  have gWo := Z.gWo
  have FSh := Z.Sh
  have bSh := Z.bSh
  have gSh := Z.gSh
  have FDe := Z.De
  have bDe := Z.bDe
  have gDe := Z.gDe
  have FBe := Z.Be
  have bBe := Z.bBe
  have gBe := Z.gBe
  refine F.ok scPl (fun vs H Q E h => ?_) (fun cdv A outer s H vs Q E hr h => ?_)
  · obtain ⟨h, n, m, rfl, _⟩ := h
    rfl
  · obtain ⟨h, n, m, rfl, hd, nb, m0, m6, q⟩ := h
    refine ⟨_, pss_cons (ps_asg (pe_tup (pa_cons (pe_call GWo (hr.mono (by decide)) (by rfl) gWo FWo.kp bWo .nil pass0 (pa_cons (pv 0) (pa_cons pe_int pa_nil))) (pa_cons (pe_call GWo (hr.mono (by decide)) (by rfl) gWo FWo.kp bWo .nil pass0 (pa_cons (pv 0) (pa_cons pe_int pa_nil))) pa_nil))) (pg_tup rfl (pgs_cons (pg_name (i := 2) scPl.nd rfl (Or.inr rfl)) (pgs_cons (pg_name (i := 3) scPl.nd rfl (Or.inl rfl)) pgs_nil))))
      (pss_cons (ps_setLc (i := 5) (own := [("_law_k", 4)]) (g := gName 4) (tt := tYes) rfl scPl.nd rfl rfl (sw_true rfl rfl rfl rfl) (pi_range1 (by rfl) T.range (pa_cons (pe_op op_add pe_int (pe_call GTk (hr.mono (by decide)) (by rfl) gTk FTk.kp bTk .nil pass0 (pa_cons (pv 0) (pa_cons pe_int pa_nil)))) pa_nil)) (blkOk_by (own := [("_law_k", 4)]) (N := nPl) (sc := defScope sPl) (by decide +kernel)) (fun _ _ _ _ _ => (pg_name (i := 4) scPl.nd rfl (Or.inl rfl))) (fun _ _ _ _ _ => pts_nil) (fun _ _ _ _ _ => (pe_bm0Q (K := K) rfl PySem.F.plainAttrs_list PySem.F.slot_list_pop PySem.F.type_list_pop mt_pop (pv 2))))
      (pss_cons (ps_par (i := 6) (j := 7) rfl scPl.nd rfl rfl (by decide) rfl rfl (pa_cons (pe_lc (own := [("_law_column", 10)]) (g := gName 10) (tt := tYes) rfl scPl.nd (pi_list (pv 5)) (blkOk_by (own := [("_law_column", 10)]) (N := nPl) (sc := defScope sPl) (by decide +kernel)) (fun _ _ _ _ _ => (pg_name (i := 10) scPl.nd rfl (Or.inl rfl))) (fun _ _ _ _ _ => pts_nil) (fun _ _ _ _ _ => (pe_tup (pa_cons (pv 10) (pa_cons pe_str pa_nil))))) (pa_cons (pe_lst pa_nil) pa_nil)) (by rfl))
      (pss_cons (ps_set (i := 8) scPl.nd rfl (Or.inl rfl) (pe_call GSh (hr.mono (by decide)) (by rfl) gSh FSh.kp bSh .nil pass0 (pa_cons (pv 0) (pa_cons (pv 5) pa_nil))))
      (pss_cons (ps_for PassesOwn.never rfl (pi_range1 (by rfl) T.range (pa_cons (pe_call GTk (hr.mono (by decide)) (by rfl) gTk FTk.kp bTk .nil pass0 (pa_cons (pv 0) (pa_cons (pe_op op_add (pv 1) pe_int) pa_nil))) pa_nil)) (pg_name (i := 4) scPl.nd rfl (Or.inl rfl)) (pss_one (ps_expr (pe_bmK (K := K) rfl PySem.F.plainAttrs_list PySem.F.slot_list_append PySem.F.type_list_append mt_append (pv 7) (pa_cons (pe_op op_catT (pe_tup (pa_cons (pe_ix (ix_listK (K := K) rfl) (pv 3) (pv 4) (fun _ _ => rfl)) pa_nil)) (pe_call GDe (hr.mono (by decide)) (by rfl) gDe FDe.kp bDe .nil pass0 (pa_cons (pv 0) (pa_cons (pv 2) (pa_cons (pv 6) pa_nil))))) pa_nil)))))
      (pss_cons (ps_set (i := 9) scPl.nd rfl (Or.inl rfl) (pe_tup (pa_cons (pe_ix (ix_listK (K := K) rfl) (pv 3) pe_int (fun _ _ => rfl)) (pa_cons (pe_tup (pa_cons pe_str (pa_cons (pe_ix (ix_listK (K := K) rfl) (pv 3) pe_int (fun _ _ => rfl)) pa_nil))) (pa_cons (pe_callTy call_tuple_of (by rfl) T.tuple (by decide +kernel) (pa_cons (pv 7) pa_nil)) (pa_cons (pe_call GBe (hr.mono (by decide)) (by rfl) gBe FBe.kp bBe .nil pass0 (pa_cons (pv 7) pa_nil)) pa_nil))))))
      (pss_one (ps_ret (pe_tup (pa_cons (pe_tup (pa_cons (pe_tup (pa_cons (pe_ix (ix_listK (K := K) rfl) (pv 3) pe_int (fun _ _ => rfl)) (pa_cons (pv 8) pa_nil))) pa_nil)) (pa_cons (pe_tup (pa_cons (pv 9) pa_nil)) pa_nil)))))))))), ?_⟩
    refine ⟨_, rfl, h, n, 24, rfl, hd, by omega, by decide, fun N ns H1 nN iwN eN hd1 bt1 => ?_⟩
    have Nh : N ≠ h := (hd.fresh nN).symm
    refine ⟨_, rfl, h, n + 4, 12, rfl, hd1, by omega, by decide, fun C cs H2 nC iwC eC hd2 bt2 => ?_⟩
    have Ch : C ≠ h := (hd1.fresh nC).symm
    have CN : C ≠ N := fun z => by rw [z, eN] at nC; cases nC
    have eN2 := bt2 N _ Nh eN
    have lcs := words_len iwC
    have gcs := words_good iwC
    have lns := words_len iwN
    have gns := words_good iwN
    refine ⟨(show 2 ≤ sizeLine by decide), fun t0 n0 => newO n0 fun H3 s3 e3 => ⟨t0, _, rfl, SqT.of e3, rfl, _, _, rfl, gN ⟨_, _, rfl, gN ⟨rfl, ?_⟩⟩⟩⟩
    try dsimp only
    have hd3 := hd2.mono s3 (Nat.le_refl _)
    have eN3 := s3 _ _ eN2
    have eC3 := s3 _ _ eC
    refine ⟨_, rfl, h, n + 4 + 4, 3, rfl, hd3, by omega, by decide, by decide, fun r2 H4 r20 r21 hd4 bt4 => ?_⟩
    have eN4 := bt4 N _ Nh eN3
    have eC4 := bt4 C _ Ch eC3
    refine ⟨_, _, rfl, rfl, 1 + r2, rfl, by omega, by omega, fun D2 nD2 => ?_⟩
    have D2N : D2 ≠ N := fun z => by rw [z, eN4] at nD2; cases nD2
    have D2C : D2 ≠ C := fun z => by rw [z, eC4] at nD2; cases nD2
    have D2h : D2 ≠ h := (hd4.fresh nD2).symm
    refine lc_map (walk_range (lo := 0) (n := (1 + r2).toNat)) (h := N) (Z := fun j x => True) (fun j G => ∃ ns' : List Str, G N = some (.lst (ns'.map V.str)) ∧ ns'.length + j = ns.length ∧ ∀ z ∈ ns', z ∈ ns) (fun _ y _ => ∃ z ∈ ns, y = V.str z) nD2 D2N (fun j G x G' e => ⟨e.1, trivial⟩) (fun _ _ => trivial) (fun _ _ _ _ _ _ e => e) (by omega) (fun _ => rfl) ⟨ns, eN4, rfl, fun z hz => hz⟩ (fun j G l a => by
      obtain ⟨ns', e, g⟩ := a
      exact ⟨ns', by rw [upd_ne D2N.symm]; exact e, g⟩) ?_ ?_
    · rintro j x G Q2 hj _ btG ⟨ns', eN', ln', mn'⟩ _ kk
      exact ⟨_, rfl, pop_names eN' (by omega) fun z ns2 hz l2 m2 => kk _ _ But.upd ⟨ns2, upd_same, by omega, fun x hx => mn' x (m2 x hx)⟩ ⟨z, mn' z hz, rfl⟩⟩
    · rintro H5 ys bt5 ⟨ns5, eN5, ln5, mn5⟩ eD5 ly hw
      obtain ⟨zs, rfl, hz⟩ : ∃ zs : List Str, ys = zs.map V.str ∧ ∀ z ∈ zs, z ∈ ns := strs_of fun j y e => by
        obtain ⟨z, h1, h2⟩ := hw j y e
        exact ⟨z, h2, h1⟩
      rw [List.length_map] at ly
      have hd5 := hand_but hd4 Nh.symm bt5
      have eC5 := bt5 C _ CN eC4
      refine gN ?_
      try dsimp only
      refine ⟨_, rfl, D2, rfl, ⟨_, SqL.of eD5⟩, fun D3 nD3 => ?_⟩
      refine lc_new (walk_list (K := K) (a := D2) (xs := zs.map V.str)) (Z := fun j x => (zs.map V.str)[j]? = some x) (fun j y G => ∃ (t : Addr) (z : Str), y = .ref t ∧ zs[j]? = some z ∧ G t = some (.tup [.str z, .str (kw true)])) nD3 (fun j G x G' e => ⟨e.1, e.2⟩) (fun G sG => SqL.of (sG _ _ eD5)) (fun j y G G' keep ⟨l', eD⟩ ⟨t, z, e1, e2, e3⟩ => ⟨t, z, e1, e2, keep t _ (fun q => by rw [q, eD] at e3; cases e3) e3⟩) (by rw [List.length_map]; omega) (fun _ => rfl) ?_ ?_
      · rintro j x G Q2 hj hx sG kk
        rw [List.getElem?_map] at hx
        obtain ⟨z, hz2, rfl⟩ := Option.map_eq_some_iff.mp hx
        exact ⟨_, rfl, (show 2 ≤ sizeLine by decide), fun p m1 => newO m1 fun G2 s2 e2 => kk _ _ s2 ⟨p, z, rfl, hz2, e2⟩⟩
      · rintro H6 ys6 s6 eD6 ly6 hw6
        rw [List.length_map] at ly6
        obtain ⟨us, rfl, lus, hus⟩ := refs_of ly6 hw6
        have kA6 : KnownAt H6 D3 (zs.map fun z => (z, true)) := ⟨us, lus, eD6, hus⟩
        have hd6 := hd5.mono s6 (Nat.le_refl _)
        have eN6 := s6 _ _ eN5
        have eC6 := s6 _ _ eC5
        have eD26 := s6 _ _ eD5
        have D3N : D3 ≠ N := fun z => by rw [z, eN5] at nD3; cases nD3
        have D3C : D3 ≠ C := fun z => by rw [z, eC5] at nD3; cases nD3
        have D3h : D3 ≠ h := (hd5.fresh nD3).symm
        have gzs : ∀ z ∈ zs, Good 9 z := fun z h => gns z (hz z h)
        refine ⟨(show 0 ≤ sizeLine by decide), fun S nS => newO nS fun H7 s7 e7 => ?_⟩
        have hd7 := hd6.mono s7 (Nat.le_refl _)
        have eN7 := s7 _ _ eN6
        have eC7 := s7 _ _ eC6
        have eD27 := s7 _ _ eD26
        have SN : S ≠ N := fun z => by rw [z, eN6] at nS; cases nS
        have SC : S ≠ C := fun z => by rw [z, eC6] at nS; cases nS
        have SD3 : S ≠ D3 := fun z => by rw [z, eD6] at nS; cases nS
        have Sh : S ≠ h := (hd6.fresh nS).symm
        have kA7 : KnownAt H7 D3 (zs.map fun z => (z, true)) := ⟨us, lus, s7 _ _ eD6, fun j t c h1 h2 => s7 _ _ (hus j t c h1 h2)⟩
        refine ⟨_, _, rfl, ?_⟩
        try dsimp only
        refine ⟨_, rfl, _, rfl, h, D2, n + 4 + 4 + 1, zs, rfl, hd7, by omega, eD27, D2h, by omega, by omega, fun v H8 ish hd8 bt8 => ?_⟩
        obtain ⟨va, pre, rfl, tdv, lpre, gpre⟩ := shape_td ish (by omega)
        have eN8 := bt8 N _ Nh eN7
        have eC8 := bt8 C _ Ch eC7
        have eS8 := bt8 S _ Sh e7
        have kA8 := known_but hd7 kA7 D3h bt8
        refine gN ?_
        try dsimp only
        refine ⟨_, rfl, _, rfl, _, _, rfl, rfl, h, n + 4 + 4 + 1 + 10, m + 1, rfl, hd8, by omega, by omega, by omega, fun r3 H9 r30 r31 hd9 bt9 => ?_⟩
        have eN9 := bt9 N _ Nh eN8
        have eC9 := bt9 C _ Ch eC8
        have eS9 := bt9 S _ Sh eS8
        have kA9 := known_but hd8 kA8 D3h bt9
        have tdv9 := tdv.keep (Tst.hand hd8 bt9)
        have c9 : ∀ b o, b ≠ h → H b = some o → H9 b = some o ∧ b ≠ N ∧ b ≠ D3 ∧ b ≠ S := fun b o nb e => by
          have bN := ne_of_none e nN
          have e5 := bt5 b o bN (bt4 b o nb (s3 _ _ (bt2 b o nb (bt1 b o nb e))))
          have bD3 := ne_of_none e5 nD3
          have e6 := s6 _ _ e5
          exact ⟨bt9 b o nb (bt8 b o nb (s7 _ _ e6)), bN, bD3, ne_of_none e6 nS⟩
        have p0 : PlAt h N D3 S (n + 24) H9 H9 0 := by
          refine ⟨_, ns5, [], eN9, kA9, eS9, rfl, (fun p hp => nomatch hp), ?_, ?_, ?_, fun z hz => gns z (mn5 z hz), fun c hc => ?_, hd9.up (by omega), But4.refl _ _ _ _ _⟩
          · cases zs with
            | nil => exact absurd ly (by simp; omega)
            | cons z zs => exact ⟨z, List.mem_cons_self⟩
          · rw [List.length_map]
            omega
          · rw [List.length_map]
            omega
          · obtain ⟨z, hz2, rfl⟩ := List.mem_map.mp hc
            exact gzs z hz2
        refine ⟨r3, rfl, by omega, by omega, for_it (walk_range (lo := 0) (n := r3.toNat)) (fun j σ G => PlAt h N D3 S (n + 24) H9 G j ∧ ∃ u4, σ = [some (.ref h), some (.int m), some (.ref N), some (.ref C), u4, some (.ref D2), some (.ref D3), some (.ref S), some (.ref va), none, none]) ⟨p0, _, rfl⟩ (fun _ _ _ _ _ => trivial) ?_ ?_⟩
        · rintro i x σ G G' hi ⟨⟨kn, ns', ps, eN', kA', eS', lps, hps, hc, l24, l9, gn', gk', hdG, b4⟩, u4, rfl⟩ ⟨rfl, rfl⟩
          refine gN ?_
          dsimp only
          rw [Int.zero_add]
          have il : i < cs.length := by omega
          have eCi : (cs.map V.str)[i]? = some (V.str cs[i]) := by rw [List.getElem?_map, List.getElem?_eq_getElem il]; rfl
          have eC' : G' C = some (.lst (cs.map V.str)) := b4 C _ Ch CN D3C.symm SC.symm eC9
          have Gh : HandAt G' h (n + 24 + 40 * i) := hdG
          refine ⟨_, rfl, .inl ⟨rfl, _, SqL.of eS'⟩, _, rfl, _, rfl, C, _, _, V.str cs[i], rfl, rfl, SqL.of eC', atI_nat eCi, (show 1 ≤ sizeLine by decide), fun u nu => newO nu fun G1 sg eu => ?_⟩
          have kA1 : KnownAt G1 D3 kn := known_but hdG kA' D3h (But.of sg)
          refine ⟨_, rfl, _, rfl, _, rfl, h, N, D3, n + 24 + 40 * i, kn, ns', rfl, hdG.mono sg (Nat.le_refl _), by omega, sg _ _ eN', kA1, Nh, D3h, D3N.symm, hc, l24, l9, gn', gk', fun p G2 de => ?_⟩
          obtain ⟨vs, dd, kn2, ns2, ep, da, dw, kA2, eN2, ⟨ee, he⟩, l242, l92, gn2, gk2, hdG2, b3⟩ := de
          have tt1 : Tst G' G1 := Tst.of sg
          have tt2 : Tst G1 G2 := Tst.b3 b3 (hand_lst (hdG.mono sg (Nat.le_refl _))) ⟨_, sg _ _ eN'⟩ (kA1.elim fun ts q => ⟨_, q.2.1⟩)
          have eS2 := b3 S _ Sh SN SD3 (sg _ _ eS')
          refine ⟨u, p, [V.str cs[i]], vs, rfl, rfl, SqT.of (tt2 _ _ eu), SqT.of ep, by simp, ?_, fun z => absurd z da.ne, fun _ t nt => newO nt fun G3 s3' et => ?_⟩
          · have := da.len
            rw [sizeLine_eq, List.length_singleton]
            omega
          have eS3 := s3' _ _ eS2
          refine ⟨S, _, _, rfl, rfl, eS3, by rw [List.length_map, sizeLine_eq]; omega, ?_⟩
          have b5 : But S G3 (upd G3 S (.lst (ps.map V.ref ++ [V.ref t]))) := But.upd
          have e5 : upd G3 S (.lst (ps.map V.ref ++ [V.ref t])) S = _ := upd_same
          generalize upd G3 S (.lst (ps.map V.ref ++ [V.ref t])) = G4 at b5 e5 ⊢
          have tt3 : Tst G2 G3 := Tst.of s3'
          have tt4 : Tst G3 G4 := Tst.but ⟨_, eS3⟩ b5
          have tt14 := ((tt1.trans tt2).trans tt3).trans tt4
          obtain ⟨c, hcc⟩ := hc
          obtain ⟨ts2, lts2, eL2, hts2⟩ := kA2
          refine ⟨⟨kn2, ns2, ps ++ [t], b5 N _ SN.symm (s3' _ _ eN2), ⟨ts2, lts2, b5 D3 _ SD3.symm (s3' _ _ eL2), fun j t c h1 h2 => tt4 _ _ (s3' _ _ (hts2 j t c h1 h2))⟩, by rw [List.map_append]; exact e5, by rw [List.length_append, lps]; rfl, fun x hx => ?_, ⟨c, by rw [he]; exact List.mem_append_left _ hcc⟩, l242, l92, gn2, gk2, ?_, ?_⟩, _, rfl⟩
          · rcases List.mem_append.mp hx with hx | hx
            · obtain ⟨nm, dd', kn', a, g⟩ := hps x hx
              exact ⟨nm, dd', kn', a.keep tt14, g⟩
            · rw [List.mem_singleton.mp hx]
              exact ⟨cs[i], dd, kn2, ⟨vs, tt4 _ _ et, da.keep (tt3.trans tt4), dw⟩, gcs _ (List.getElem_mem il), gk2⟩
          · exact (hand_but (hdG2.mono s3' (Nat.le_refl _)) Sh.symm b5).up (by omega)
          · exact ((((b4.trans (But4.s sg)).trans (But4.t b3)).trans (But4.s s3'))).trans (But4.u b5)
        · rintro σ G ⟨⟨kn, ns', ps, eN', kA', eS', lps, hps, hc, l24, l9, gn', gk', hdG, b4⟩, u4, rfl⟩
          try dsimp only
          have eC' : G C = some (.lst (cs.map V.str)) := b4 C _ Ch CN D3C.symm SC.symm eC9
          have at10 : atI (cs.map V.str) 10 = some (V.str cs[10]) := atI_nat (j := 10) (by rw [List.getElem?_map, List.getElem?_eq_getElem (by omega)]; rfl)
          have at11 : atI (cs.map V.str) 11 = some (V.str cs[11]) := atI_nat (j := 11) (by rw [List.getElem?_map, List.getElem?_eq_getElem (by omega)]; rfl)
          refine ⟨_, rfl, C, _, _, V.str cs[11], rfl, rfl, SqL.of eC', at11, _, rfl, C, _, _, V.str cs[10], rfl, rfl, SqL.of eC', at10, (show 2 ≤ sizeLine by decide), fun o no => newO no fun G1 z1 eo => ?_⟩
          refine ⟨_, rfl, S, _, rfl, .inl ⟨SqL.of (z1 _ _ eS'), fun t1 n1 => newO n1 fun G2 z2 et1 => ?_⟩⟩
          have z12 := z1.trans z2
          have hps2 : ∀ p ∈ ps, ∃ nm dd kn, StAt G2 p nm dd kn ∧ Good 9 nm ∧ ∀ c ∈ kn, Good 9 c.1 := fun p hp => by
            obtain ⟨nm, dd, kn, a, g⟩ := hps p hp
            exact ⟨nm, dd, kn, a.keep (Tst.of z12), g⟩
          refine ⟨_, rfl, S, ps, rfl, z12 _ _ eS', by omega, (fun p hp => by
            obtain ⟨nm, dd, kn, a, g⟩ := hps2 p hp
            exact ⟨nm, dd, kn, a, g.1⟩), fun t2 bs G3 tb lb gb z3 => ?_⟩
          refine ⟨(show 4 ≤ sizeLine by decide), fun i4 n4 => newO n4 fun G4 z4 ei4 => ?_⟩
          refine gN ?_
          dsimp only
          have z14 := (z12.trans z3).trans z4
          unfold tRet
          dsimp only
          refine ⟨_, rfl, C, _, _, V.str cs[10], rfl, rfl, SqL.of (z14 _ _ eC'), at10, _, rfl, (show 2 ≤ sizeLine by decide), fun a1 m1 => newO m1 fun G5 z5 e5 => ⟨(show 1 ≤ sizeLine by decide), fun a2 m2 => newO m2 fun G6 z6 e6 => ?_⟩⟩
          refine ⟨_, rfl, (show 1 ≤ sizeLine by decide), fun a3 m3 => newO m3 fun G7 z7 e7 => ⟨(show 2 ≤ sizeLine by decide), fun a4 m4 => newO m4 fun G8 z8 e8 => ?_⟩⟩
          obtain ⟨ss, tss, lss, gss⟩ := steps_td hps2
          have z58 := ((z6.trans z7).trans z8)
          have z48 := z5.trans z58
          have z38 := z4.trans z48
          have z28 := z3.trans z38
          have z18 := z2.trans z28
          have z08 := z1.trans z18
          have t9 : Tst H9 G := Tst.b4 b4 (hand_lst hd9) ⟨_, eN9⟩ (kA9.elim fun ts q => ⟨_, q.2.1⟩) ⟨_, eS9⟩
          have tv : TD G8 (.ref va) (.tuple (pre ++ [.tuple (zs.map .str)])) := tdv9.keep (t9.trans (Tst.of z08))
          have ts1 : TD G8 (.ref a1) (.tuple [.str cs[10], .tuple (pre ++ [.tuple (zs.map .str)])]) := .mk (z58 _ _ e5) ⟨.str _, tv, trivial⟩
          have ts2 : TD G8 (.ref a2) (.tuple [.tuple [.str cs[10], .tuple (pre ++ [.tuple (zs.map .str)])]]) := .mk (z8 _ _ (z7 _ _ e6)) ⟨ts1, trivial⟩
          have to : TD G8 (.ref o) (.tuple [.str "of", .str cs[10]]) := .mk (z18 _ _ eo) ⟨.str _, .str _, trivial⟩
          have tt : TD G8 (.ref t1) (.tuple (ss.map StepD.data)) := .mk (z28 _ _ et1) (tss.keep (Tst.of z28))
          have ti : TD G8 (.ref i4) (.tuple [.str cs[11], .tuple [.str "of", .str cs[10]], .tuple (ss.map StepD.data), .tuple bs]) := .mk (z48 _ _ ei4) ⟨.str _, to, tt, tb.keep (Tst.of z38), trivial⟩
          have t3 : TD G8 (.ref a3) (.tuple [.tuple [.str cs[11], .tuple [.str "of", .str cs[10]], .tuple (ss.map StepD.data), .tuple bs]]) := .mk (z8 _ _ e7) ⟨ti, trivial⟩
          refine q a4 ⟨cs[10], pre, zs, cs[11], ss, bs⟩ G8 (TD.mk e8 ⟨ts2, t3, trivial⟩) ⟨gcs _ (List.getElem_mem _), gcs _ (List.getElem_mem _), ⟨lpre, gpre⟩, ?_, ?_, gzs, ?_, gss, lb, gb⟩ ((hdG.mono z08 (Nat.le_refl _)).up (by omega)) fun b o nb e => ?_
          · show 1 ≤ zs.length
            omega
          · show zs.length ≤ 3
            omega
          · show ss.length ≤ 6
            omega
          · obtain ⟨e9, nN, nD, nS⟩ := c9 b o nb e
            exact z08 _ _ (b4 b o nb nN nD nS e9)
end
end K86
set_option Elab.async false
set_option linter.all false
set_option pp.maxSteps 4000
set_option maxRecDepth 100000
set_option maxHeartbeats 4000000
/-! k86: a step more -/
namespace K86
open PySem PySem.Spec PyProof.Rows L2 Bs Xg TL Xm Xs Gn Gd
abbrev sMs : Stmt := top 20
theorem cat_tup {K : PySem.W.Frag} {H : Hp} {a b : Addr} {xs ys : List V} {Q : VK} (ea : SqT K H a xs) (eb : SqT K H b ys) (nx : xs ≠ []) (l : xs.length + ys.length ≤ 1000) (ea' : H a = some (.tup xs))
    (q : ∀ (p : Addr) (H' : Hp), Same H H' → H' p = some (.tup (xs ++ ys)) → Q (.ref p) H') : rCatT K (.ref a) (.ref b) H Q := by
  refine ⟨a, b, xs, ys, rfl, rfl, ea, eb, nx, Nat.le_trans l (show 1000 ≤ sizeLine by decide), fun z => ?_, fun _ p np => newO np fun H' s e => q p H' s e⟩
  exact q a H (Same.refl _) (by rw [z, List.append_nil]; exact ea')
theorem cat_any {K : PySem.W.Frag} {H : Hp} {a b : Addr} {xs ys : List V} {Q : VK} (ea : H a = some (.tup xs)) (eb : H b = some (.tup ys)) (l : xs.length + ys.length ≤ 1000)
    (q : ∀ (p : Addr) (H' : Hp), Same H H' → H' p = some (.tup (xs ++ ys)) → Q (.ref p) H') : rCatA K (.ref a) (.ref b) H Q := by
  refine ⟨a, b, xs, ys, rfl, rfl, SqT.of ea, SqT.of eb, Nat.le_trans l (show 1000 ≤ sizeLine by decide), fun z => ?_, fun _ z => ?_, fun _ _ p np => newO np fun H' s e => q p H' s e⟩
  · exact q b H (Same.refl _) (by rw [z]; exact eb)
  · exact q a H (Same.refl _) (by rw [z, List.append_nil]; exact ea)
/-- a plan's parts -/
structure PlanAt (H : Hp) (a : Addr) (p : PlanD) (aS aT aI aO aP aB aR aH aC : Addr) (pv sv bv : List V) : Prop where
  e0 : H a = some (.tup [.ref aS, .ref aT])
  eS : H aS = some (.tup [.ref aR])
  eR : H aR = some (.tup [.str p.sn, .ref aH])
  eH : H aH = some (.tup (pv ++ [.ref aC]))
  eC : H aC = some (.tup (p.cols.map V.str))
  eT : H aT = some (.tup [.ref aI])
  eI : H aI = some (.tup [.str p.nm, .ref aO, .ref aP, .ref aB])
  eO : H aO = some (.tup [.str "of", .str p.sn])
  eP : H aP = some (.tup sv)
  eB : H aB = some (.tup bv)
  dP : TDs H sv (p.steps.map StepD.data)
  dB : TDs H bv p.bs
  dpre : TDs H pv p.pre
theorem tds_snoc {H : Hp} {d : PyData} : ∀ {ds : List PyData} {vs : List V}, TDs H vs (ds ++ [d]) → ∃ us v, vs = us ++ [v] ∧ TDs H us ds ∧ TD H v d
  | [], vs, h => by
    obtain ⟨v, us, rfl, h1, h2⟩ := h.c
    cases h2.n
    exact ⟨[], v, rfl, trivial, h1⟩
  | x :: ds, vs, h => by
    obtain ⟨v, us, rfl, h1, h2⟩ := TDs.c h
    obtain ⟨us', v', rfl, h3, h4⟩ := tds_snoc h2
    exact ⟨v :: us', v', rfl, ⟨h1, h3⟩, h4⟩
theorem td_strs {H : Hp} {x : V} {zs : List Str} (h : TD H x (.tuple (zs.map PyData.str))) : ∃ a, x = .ref a ∧ H a = some (.tup (zs.map V.str)) := by
  obtain ⟨a, vs, rfl, e, t⟩ := h.inv
  cases TDs.invS t
  exact ⟨a, rfl, e⟩
theorem plan_inv {H : Hp} {a : Addr} {p : PlanD} (t : TD H (.ref a) p.prog.data) : ∃ aS aT aI aO aP aB aR aH aC pv sv bv, PlanAt H a p aS aT aI aO aP aB aR aH aC pv sv bv := by
  obtain ⟨_, v0, e, e0, t0⟩ := t.inv
  cases e
  obtain ⟨vS, v1, rfl, tS, t1⟩ := t0.c
  obtain ⟨vT, v2, rfl, tT, t2⟩ := t1.c
  cases t2.n
  obtain ⟨aS, w0, rfl, eS, u0⟩ := tS.inv
  obtain ⟨vR, w1, rfl, tR, u1⟩ := u0.c
  cases u1.n
  obtain ⟨aR, w2, rfl, eR, u2⟩ := TD.inv tR
  obtain ⟨vn, w3, rfl, tn, u3⟩ := u2.c
  cases tn.invS
  obtain ⟨vH, w4, rfl, tH, u4⟩ := u3.c
  cases u4.n
  obtain ⟨aH, w5, rfl, eH, u5⟩ := tH.inv
  obtain ⟨pv, vC, rfl, dpre, tC⟩ := tds_snoc u5
  obtain ⟨aC, rfl, eC⟩ := td_strs tC
  obtain ⟨aT, x0, rfl, eT, y0⟩ := tT.inv
  obtain ⟨vI, x1, rfl, tI, y1⟩ := y0.c
  cases y1.n
  obtain ⟨aI, x2, rfl, eI, y2⟩ := TD.inv tI
  obtain ⟨vm, x3, rfl, tm, y3⟩ := y2.c
  cases tm.invS
  obtain ⟨vO, x4, rfl, tO, y4⟩ := y3.c
  obtain ⟨vP, x5, rfl, tP, y5⟩ := y4.c
  obtain ⟨vB, x6, rfl, tB, y6⟩ := y5.c
  cases y6.n
  obtain ⟨aO, rfl, eO⟩ := td_strs (zs := ["of", p.sn]) tO
  obtain ⟨aP, sv, rfl, eP, dP⟩ := tP.inv
  obtain ⟨aB, bv, rfl, eB, dB⟩ := tB.inv
  exact ⟨aS, aT, aI, aO, aP, aB, aR, aH, aC, pv, sv, bv, e0, eS, eR, eH, eC, eT, eI, eO, eP, eB, dP, dB, dpre⟩
theorem PlanAt.keep {H H' : Hp} {a : Addr} {p : PlanD} {aS aT aI aO aP aB aR aH aC : Addr} {pv sv bv : List V} (A : PlanAt H a p aS aT aI aO aP aB aR aH aC pv sv bv) (s : Tst H H') : PlanAt H' a p aS aT aI aO aP aB aR aH aC pv sv bv :=
  ⟨s _ _ A.e0, s _ _ A.eS, s _ _ A.eR, s _ _ A.eH, s _ _ A.eC, s _ _ A.eT, s _ _ A.eI, s _ _ A.eO, s _ _ A.eP, s _ _ A.eB, A.dP.keep s, A.dB.keep s, A.dpre.keep s⟩
theorem PlanAt.tdS {H : Hp} {a : Addr} {p : PlanD} {aS aT aI aO aP aB aR aH aC : Addr} {pv sv bv : List V} (A : PlanAt H a p aS aT aI aO aP aB aR aH aC pv sv bv) : TD H (.ref aS) (.tuple [p.src]) :=
  .mk A.eS ⟨.mk A.eR ⟨.str _, .mk A.eH (A.dpre.app ⟨.mk A.eC (.strs _), trivial⟩), trivial⟩, trivial⟩
theorem PlanAt.tdR {H : Hp} {a : Addr} {p : PlanD} {aS aT aI aO aP aB aR aH aC : Addr} {pv sv bv : List V} (A : PlanAt H a p aS aT aI aO aP aB aR aH aC pv sv bv) : TD H (.ref aR) p.src :=
  .mk A.eR ⟨.str _, .mk A.eH (A.dpre.app ⟨.mk A.eC (.strs _), trivial⟩), trivial⟩
theorem PlanAt.tdO {H : Hp} {a : Addr} {p : PlanD} {aS aT aI aO aP aB aR aH aC : Addr} {pv sv bv : List V} (A : PlanAt H a p aS aT aI aO aP aB aR aH aC pv sv bv) : TD H (.ref aO) (.tuple [.str "of", .str p.sn]) :=
  .mk A.eO ⟨.str _, .str _, trivial⟩
theorem PlanAt.tdI {H : Hp} {a : Addr} {p : PlanD} {aS aT aI aO aP aB aR aH aC : Addr} {pv sv bv : List V} (A : PlanAt H a p aS aT aI aO aP aB aR aH aC pv sv bv) : TD H (.ref aI) p.prog.tab :=
  .mk A.eI ⟨.str _, A.tdO, .mk A.eP A.dP, .mk A.eB A.dB, trivial⟩
theorem fm_ne (col : Str) : ∀ cols : List Str, cols.filterMap (fun z => if z ≠ col then some (V.str z) else none) = (cols.filter fun z => decide (z ≠ col)).map V.str
  | [] => rfl
  | c :: cs => by
    by_cases h : c = col
    · rw [List.filterMap_cons, if_neg (by simpa using h), List.filter_cons_of_neg (by simpa using h), fm_ne]
    · rw [List.filterMap_cons, if_pos h, List.filter_cons_of_pos (by simpa using h), fm_ne, List.map_cons]
def StepIs (G : Hp) (q : Addr) : Prop := ∃ s : StepD, TD G (.ref q) s.data ∧ Good 9 s.nm ∧ Sh s.data 1731 4 ∧ s.fine
theorem step_head {G : Hp} {x : V} {s : StepD} (h : TD G x s.data) : ∃ q vs, x = .ref q ∧ G q = some (.tup (.str s.nm :: vs)) := by
  obtain ⟨q, vs, rfl, e, t⟩ := TD.inv h
  obtain ⟨v, us, rfl, t1, _⟩ := t.c
  cases t1.invS
  exact ⟨q, us, rfl, e⟩
theorem str_dec (a b : Str) : decide (V.str a = V.str b) = decide (a = b) := by
  by_cases h : a = b
  · rw [h, decide_eq_true rfl, decide_eq_true rfl]
  · rw [decide_eq_false (fun e => h (by cases e; rfl)), decide_eq_false h]
theorem good_z : Good 9 (Str.ofString "zzzzzzzz") := by constructor <;> decide +kernel
def unlikeD (cs : List Str) : StepD := ⟨"zzzzzzzz", "unlike", [.tuple (cs.map .str)], [], fun e => absurd e (by decide +kernel)⟩
theorem unlike_is {G : Hp} {q t : Addr} {cs : List Str} (e : G q = some (.tup [.str "zzzzzzzz", .str "unlike", .ref t])) (et : G t = some (.tup (cs.map V.str))) (g : ∀ z ∈ cs, Good 9 z) (l : cs.length ≤ 4) : StepIs G q := by
  refine ⟨unlikeD cs, .mk e ⟨.str _, .str _, .mk et (.strs _), trivial⟩, good_z, ?_, rfl⟩
  have gu : Good 9 (Str.ofString "unlike") := by constructor <;> decide +kernel
  exact sh_tuple (w := 345) (k := 3) (n := 5) (list_sh (sha (gsh good_z (by decide)) (by decide) (by decide)) (list_sh (sha (gsh gu (by decide)) (by decide) (by decide)) (list_sh (sha (strs_sh g (by decide) l) (by decide) (by decide)) nil_sh))) (Nat.le_of_ble_eq_true rfl)
theorem deed_is {G : Hp} {q : Addr} {vs : List V} {dd : Dd} {cols : List Str} (e : G q = some (.tup (.str "zzzzzzzz" :: vs))) (h : dd.At G vs) (w : dd.wt (cols.map fun z => (z, true))) (g : ∀ z ∈ cols, Good 9 z) : StepIs G q :=
  have gk : ∀ c ∈ cols.map fun z => (z, true), Good 9 c.1 := fun c hc => by
    obtain ⟨z, hz, rfl⟩ := List.mem_map.mp hc
    exact g z hz
  ⟨dd.step "zzzzzzzz", Dd.tds e h w, by rw [Dd.step_nm]; exact good_z, Dd.sh w gk good_z, Dd.fine w gk _⟩
theorem StepIs.keep {G G' : Hp} {q : Addr} (h : StepIs G q) (t : Tst G G') : StepIs G' q := by
  obtain ⟨s, a, b⟩ := h
  exact ⟨s, a.keep t, b⟩
section
variable {P : Program} {w : World} {K : PySem.W.Frag} {mg : Str → Option Value} {base : Heap} {fTk fPk : Addr} {dTk dPk : FuncData}
abbrev nMs : List Str := ["_law_box_here", "_law_plan_here", "_law_name", "_law_origin", "_law_steps", "_law_behinds_here", "_law_columns", "_law_lot", "_law_column", "_law_rest", "_law_step", "_law_more", "_law_later", "_law_its", "_law_ahead"]
theorem scMs : FnScope nMs ["_law_box_here", "_law_plan_here"] (defScope sMs) := ⟨rfl, rfl, rfl, by decide +kernel, rfl, by decide +kernel, by decide +kernel⟩
def spMs : Sp := fun vs H Q _ => ∃ (h a : Addr) (n : Nat) (p : PlanD), vs = [.ref h, .ref a] ∧ HandAt H h n ∧ n < 980000 ∧ TD H (.ref a) p.prog.data ∧ p.ok 6 36 ∧
  ∀ (a' : Addr) (p' : PlanD) (H' : Hp), TD H' (.ref a') p'.prog.data → p'.ok 7 42 → HandAt H' h (n + 10) → But h H H' → Q (.ref a') H'
theorem ok_more_step {f : Addr} {fd : FuncData} (F : Fun K "_law_more_step" "_law_more_step" sMs f fd) (T : Free mg) (W : HandF K mg fTk fPk dTk dPk) : FnOk P w K mg base CX0 3 f fd ["_law_box_here", "_law_plan_here"] spMs := by
  have GTk : FnOk P w K mg base CX0 1 fTk dTk ["_law_box_here", "_law_many"] spTake := ok_take W.Tk
  have GPk : FnOk P w K mg base CX0 2 fPk dPk ["_law_box_here", "_law_some"] (spPk K) := ok_pick W.Pk T W.Tk W.bTk W.gTk
  have FTk := W.Tk
  have bTk := W.bTk
  have gTk := W.gTk
  have FPk := W.Pk
  have bPk := W.bPk
  have gPk := W.gPk
  refine F.ok scMs (fun vs H Q E h => ?_) (fun cdv A outer s H vs Q E hr h => ?_)
  · obtain ⟨h, a, n, p, rfl, _⟩ := h
    rfl
  · obtain ⟨h, a, n, p, rfl, hd, nb, tp, ok, q⟩ := h
    obtain ⟨aS, aT, aI, aO, aP, aB, aR, aH, aC, pw, sv, bv, A⟩ := plan_inv tp
    refine ⟨_, pss_cons (ps_asg (pe_ix (ix_tupK (K := K) rfl) (pe_ix (ix_tupK (K := K) rfl) (pv 1) pe_int (fun _ _ => rfl)) pe_int (fun _ _ => rfl)) (pg_tup rfl (pgs_cons (pg_name (i := 2) scMs.nd rfl (Or.inl rfl)) (pgs_cons (pg_name (i := 3) scMs.nd rfl (Or.inl rfl)) (pgs_cons (pg_name (i := 4) scMs.nd rfl (Or.inl rfl)) (pgs_cons (pg_name (i := 5) scMs.nd rfl (Or.inl rfl)) pgs_nil))))))
      (pss_cons (ps_set (i := 6) scMs.nd rfl (Or.inl rfl) (pe_ix (ix_tupK (K := K) rfl) (pe_ix (ix_tupK (K := K) rfl) (pe_ix (ix_tupK (K := K) rfl) (pe_ix (ix_tupK (K := K) rfl) (pv 1) pe_int (fun _ _ => rfl)) pe_int (fun _ _ => rfl)) pe_int (fun _ _ => rfl)) (pe_un un_neg pe_int) (fun _ _ => rfl)))
      (pss_cons (ps_asg (pe_tup (pa_cons (pe_call GTk (hr.mono (by decide)) (by rfl) gTk FTk.kp bTk .nil pass0 (pa_cons (pv 0) (pa_cons pe_int pa_nil))) (pa_cons (pe_call GPk (hr.mono (by decide)) (by rfl) gPk FPk.kp bPk .nil pass0 (pa_cons (pv 0) (pa_cons (pv 6) pa_nil))) pa_nil))) (pg_tup rfl (pgs_cons (pg_name (i := 7) scMs.nd rfl (Or.inl rfl)) (pgs_cons (pg_name (i := 8) scMs.nd rfl (Or.inr rfl)) pgs_nil))))
      (pss_cons (ps_setLc (i := 9) (own := [("_law_its", 13)]) (g := gName 13) (tt := (tTest (tOp rNe (tVar 13) (tVar 8)))) rfl scMs.nd rfl rfl (sw_true rfl rfl rfl rfl) (pi_tup (pv 6)) (blkOk_by (own := [("_law_its", 13)]) (N := nMs) (sc := defScope sMs) (by decide +kernel)) (fun _ _ _ _ _ => (pg_name (i := 13) scMs.nd rfl (Or.inl rfl))) (fun _ _ _ _ _ => pts_one (pt_cmpR op_ne (pv 13) (pv 8) (nomark _))) (fun _ _ _ _ _ => (pv 13)))
      (pss_cons (ps_set (i := 10) scMs.nd rfl (Or.inr rfl) (pe_tup (pa_cons pe_str (pa_cons pe_str (pa_cons (pe_op op_catT (pe_tup (pa_cons (pv 8) pa_nil)) (pe_callTy call_tuple_of (by rfl) T.tuple (by decide +kernel) (pa_cons (pe_slice sl_list (pv 9) po_none (po_some (pe_call GTk (hr.mono (by decide)) (by rfl) gTk FTk.kp bTk .nil pass0 (pa_cons (pv 0) (pa_cons pe_int pa_nil))))) pa_nil))) pa_nil)))))
      (pss_cons (ps_if (pt_cmpR op_eq (pv 7) pe_int (nomark _)) (pss_one (ps_set (i := 10) scMs.nd rfl (Or.inr rfl) (pe_tup (pa_cons pe_str (pa_cons pe_str (pa_cons (pv 8) (pa_cons (pe_callTy call_tuple_of (by rfl) T.tuple (by decide +kernel) (pa_cons (pe_slice sl_list (pv 9) po_none (po_some (pe_op op_add pe_int (pe_call GTk (hr.mono (by decide)) (by rfl) gTk FTk.kp bTk .nil pass0 (pa_cons (pv 0) (pa_cons pe_int pa_nil)))))) pa_nil)) pa_nil))))))) (pss_nil))
      (pss_cons (ps_if (pt_cmpR op_gt (pv 7) pe_int (nomark _)) (pss_one (ps_set (i := 10) scMs.nd rfl (Or.inr rfl) (pe_op op_catT (pe_tup (pa_cons pe_str pa_nil)) (pe_ix (ix_listK (K := K) rfl) (pe_lst (pa_cons (pe_tup (pa_cons pe_str (pa_cons (pv 8) pa_nil))) (pa_cons (pe_tup (pa_cons pe_str (pa_cons (pv 8) (pa_cons (pe_tup pa_nil) pa_nil)))) pa_nil))) (pe_op op_sub (pv 7) pe_int) (fun _ _ => rfl))))) (pss_nil))
      (pss_cons (ps_set (i := 11) scMs.nd rfl (Or.inl rfl) (pe_op op_catA (pv 4) (pe_tup (pa_cons (pv 10) pa_nil))))
      (pss_cons (ps_setLc (i := 12) (own := [("_law_ahead", 14)]) (g := gName 14) (tt := tYes) rfl scMs.nd rfl rfl (sw_true rfl rfl rfl rfl) (pi_tup (pv 4)) (blkOk_by (own := [("_law_ahead", 14)]) (N := nMs) (sc := defScope sMs) (by decide +kernel)) (fun _ _ _ _ _ => (pg_name (i := 14) scMs.nd rfl (Or.inl rfl))) (fun _ _ _ _ _ => pts_nil) (fun _ _ _ _ _ => (pe_tup (pa_cons (pe_ix (ix_tupK (K := K) rfl) (pv 14) pe_int (fun _ _ => rfl)) (pa_cons (pe_ix (ix_tupK (K := K) rfl) (pv 10) pe_int (fun _ _ => rfl)) pa_nil)))))
      (pss_one (ps_ret (pe_tup (pa_cons (pe_ix (ix_tupK (K := K) rfl) (pv 1) pe_int (fun _ _ => rfl)) (pa_cons (pe_tup (pa_cons (pe_tup (pa_cons (pv 2) (pa_cons (pv 3) (pa_cons (pv 11) (pa_cons (pe_callTy call_tuple_of (by rfl) T.tuple (by decide +kernel) (pa_cons (pe_callB (cr_srtD (K := K) rfl (r80 hr)) (by rfl) T.sorted (by decide +kernel) (pa_cons (pe_op op_cat (pe_callTy call_list_of (by rfl) T.list (by decide +kernel) (pa_cons (pv 5) pa_nil)) (pv 12)) pa_nil)) pa_nil)) pa_nil))))) pa_nil)) pa_nil))))))))))))), ?_⟩
    refine ⟨_, rfl, a, _, _, .ref aT, rfl, rfl, SqT.of A.e0, atI_nat (j := 1) rfl, aT, _, _, .ref aI, rfl, rfl, SqT.of A.eT, atI_nat (j := 0) rfl, ?_⟩
    refine ⟨aI, _, rfl, SqT.of A.eI, rfl, _, _, rfl, gN ⟨_, _, rfl, gN ⟨_, _, rfl, gN ⟨_, _, rfl, gN ⟨rfl, ?_⟩⟩⟩⟩⟩
    try dsimp only
    refine ⟨_, rfl, a, _, _, .ref aS, rfl, rfl, SqT.of A.e0, atI_nat (j := 0) rfl, aS, _, _, .ref aR, rfl, rfl, SqT.of A.eS, atI_nat (j := 0) rfl, aR, _, _, .ref aH, rfl, rfl, SqT.of A.eR, atI_nat (j := 1) rfl, _, rfl, aH, _, _, .ref aC, rfl, rfl, SqT.of A.eH, atI_last _ _, ?_⟩
    refine gN ?_
    try dsimp only
    have c1 := ok.c1
    have c3 := ok.c3
    refine ⟨_, rfl, h, n, 4, rfl, hd, by omega, by decide, by decide, fun lot H1 r0 r1 hd1 bt1 => ?_⟩
    have A1 := A.keep (Tst.hand hd bt1)
    refine ⟨_, rfl, _, rfl, pick_tup hd1 (by omega) (SqT.of A1.eC) (by rw [List.length_map]; omega) (by rw [List.length_map]; omega) (fun y H2 hy hd2 bt2 => ?_)⟩
    have A2 := A1.keep (Tst.hand hd1 bt2)
    obtain ⟨col, mcol, rfl⟩ := List.mem_map.mp hy
    refine ⟨(show 2 ≤ sizeLine by decide), fun t0 n0 => newO n0 fun H3 s3 e3 => ⟨t0, _, rfl, SqT.of e3, rfl, _, _, rfl, gN ⟨_, _, rfl, gN ⟨rfl, ?_⟩⟩⟩⟩
    try dsimp only
    have A3 := A2.keep (Tst.of s3)
    have hd3 := hd2.mono s3 (Nat.le_refl _)
    have b3 : But h H H3 := (bt1.trans bt2).trans (But.of s3)
    refine ⟨_, rfl, aC, rfl, ⟨_, SqT.of A3.eC⟩, fun D nD => ?_⟩
    refine lc_fm (walk_tup (K := K) (a := aC) (xs := p.cols.map V.str)) p.cols (fun z => if z ≠ col then some (V.str z) else none) (by simp) nD (fun G s => SqT.of (s _ _ A3.eC)) (by simp; omega) ?_ ?_
    · rintro j z x G G' R N hk sG ⟨rfl, hx⟩ keep drop
      rw [List.getElem?_map, hk] at hx
      cases hx
      refine gN ⟨rfl, ?_⟩
      refine ⟨_, rfl, _, rfl, rfl, _, rfl, ?_⟩
      rw [str_dec]
      by_cases hz : z = col
      · rw [decide_eq_true hz]
        exact iteB0 rfl (drop (by rw [if_neg (by simpa using hz)]) _ (Same.refl _))
      · rw [decide_eq_false hz]
        exact iteB1 rfl ⟨_, rfl, keep _ (by rw [if_pos hz]) _ (Same.refl _)⟩
    · intro H4 s4 e4
      rw [fm_ne] at e4
      have hrs : ∀ z ∈ (p.cols.filter fun z => decide (z ≠ col)), z ∈ p.cols := fun z hz => (List.mem_filter.mp hz).1
      have lrs : (p.cols.filter fun z => decide (z ≠ col)).length ≤ 3 := Nat.le_trans (List.length_filter_le _ _) c3
      generalize p.cols.filter (fun z => decide (z ≠ col)) = rs at e4 hrs lrs
      refine gN ?_
      try dsimp only
      have A4 := A3.keep (Tst.of s4)
      have hd4 := hd3.mono s4 (Nat.le_refl _)
      have b4 : But h H H4 := b3.trans (But.of s4)
      have Dh : D ≠ h := (hd3.fresh nD).symm
      refine ⟨_, rfl, (show 1 ≤ sizeLine by decide), fun x1 m1 => newO m1 fun G1 z1 f1 => ?_⟩
      refine ⟨_, rfl, _, rfl, h, n + 2, 2, rfl, hd4.mono z1 (Nat.le_refl _), by omega, by decide, by decide, fun r2 G2 r20 r21 hdG2 bG2 => ?_⟩
      have eD2 := bG2 D _ Dh (z1 _ _ e4)
      refine ⟨r2, rfl, D, _, rfl, SqL.of eD2, fun D2 nD2 => newO nD2 fun G3 z3 f3 => ?_⟩
      have ec : cutV (rs.map V.str) none (some r2) = (rs.take r2.toNat).map V.str := by
        have er : (r2.toNat : Int) = r2 := Int.toNat_of_nonneg (by omega)
        rw [← er, cut_to, List.map_take]
        rfl
      rw [ec] at f3
      refine ⟨D2, _, rfl, .inl ⟨SqL.of f3, fun t nt => newO nt fun G4 z4 f4 => ?_⟩⟩
      have f1' := z4 _ _ (z3 _ _ (Tst.hand (hd4.mono z1 (Nat.le_refl _)) bG2 _ _ f1))
      have lt : (rs.take r2.toNat).length ≤ 3 := by rw [List.length_take]; omega
      refine cat_tup (SqT.of f1') (SqT.of f4) (by simp) (by rw [List.length_map, List.length_singleton]; omega) f1' fun t2 G5 z5 f5 => ?_
      refine ⟨(show 3 ≤ sizeLine by decide), fun q1 n1 => newO n1 fun G6 z6 f6 => ?_⟩
      refine gN ?_
      try dsimp only
      have z36 := ((z3.trans z4).trans z5).trans z6
      have hdG6 : HandAt G6 h (n + 4) := (hdG2.mono z36 (Nat.le_refl _)).up (by omega)
      have bG6 : But h H4 G6 := ((But.of z1).trans bG2).trans (But.of z36)
      have st6 : StepIs G6 q1 := by
        refine unlike_is (cs := col :: rs.take r2.toNat) f6 (by rw [z6 _ _ f5]; rfl) (fun z hz => ?_) (by rw [List.length_cons]; omega)
        rcases List.mem_cons.mp hz with rfl | hz
        · exact ok.cg _ mcol
        · exact ok.cg _ (hrs _ (List.mem_of_mem_take hz))
      have wcol : (col, true) ∈ p.cols.map fun z => (z, true) := List.mem_map_of_mem mcol
      refine cutT (fun σ' G => ∃ q2, StepIs G q2 ∧ HandAt G h (n + 6) ∧ But h H4 G ∧ σ' = [some (.ref h), some (.ref a), some (.str p.nm), some (.ref aO), some (.ref aP), some (.ref aB), some (.ref aC), some (.int lot), some (.str col), some (.ref D), some (.ref q2), none, none, none, none]) (fun N' q' => ?_) ?_
      · refine ⟨_, rfl, rfl, _, rfl, ?_⟩
        by_cases e0 : V.int lot = V.int 1
        · rw [decide_eq_true e0]
          refine iteT ?_
          have eD6 := bG6 D _ Dh e4
          refine ⟨_, rfl, _, rfl, _, rfl, h, n + 4, 2, rfl, hdG6, by omega, by decide, by decide, fun r3 G7 r30 r31 hdG7 bG7 => ?_⟩
          have eD7 := bG7 D _ Dh eD6
          refine ⟨_, _, rfl, rfl, 1 + r3, rfl, D, _, rfl, SqL.of eD7, fun D3 nD3 => newO nD3 fun G8 z8 f8 => ?_⟩
          have ec2 : cutV (rs.map V.str) none (some (1 + r3)) = (rs.take (1 + r3).toNat).map V.str := by
            have er : ((1 + r3).toNat : Int) = 1 + r3 := Int.toNat_of_nonneg (by omega)
            rw [← er, cut_to, List.map_take]
            rfl
          rw [ec2] at f8
          refine ⟨D3, _, rfl, .inl ⟨SqL.of f8, fun t3 nt3 => newO nt3 fun G9 z9 f9 => ?_⟩⟩
          refine ⟨(show 4 ≤ sizeLine by decide), fun q2 n2 => newO n2 fun G10 z10 f10 => ?_⟩
          have z810 := (z8.trans z9).trans z10
          refine q' _ _ ⟨q2, ?_, (hdG7.mono z810 (Nat.le_refl _)).up (by omega), (bG6.trans bG7).trans (But.of z810), rfl⟩
          refine deed_is (dd := .fill col (rs.take (1 + r3).toNat)) (cols := p.cols) f10 ⟨t3, rfl, z10 _ _ f9⟩ ⟨⟨true, wcol⟩, by rw [List.length_take]; omega, fun c hc => ⟨true, List.mem_map_of_mem (hrs _ (List.mem_of_mem_take hc))⟩⟩ ok.cg
        · rw [decide_eq_false e0]
          refine iteF ?_
          exact q' _ _ ⟨q1, st6, hdG6.up (by omega), bG6, rfl⟩
      rintro σ' G7 ⟨q2, st7, hdG7, bG7, rfl⟩
      try dsimp only
      refine cutT (fun σ' G => ∃ q2, StepIs G q2 ∧ HandAt G h (n + 6) ∧ But h H4 G ∧ σ' = [some (.ref h), some (.ref a), some (.str p.nm), some (.ref aO), some (.ref aP), some (.ref aB), some (.ref aC), some (.int lot), some (.str col), some (.ref D), some (.ref q2), none, none, none, none]) (fun N' q' => ?_) ?_
      · refine ⟨_, rfl, _, _, rfl, rfl, _, rfl, ?_⟩
        by_cases c1 : (1 : Int) < lot
        · rw [decide_eq_true c1]
          refine iteT ?_
          refine ⟨(show 1 ≤ sizeLine by decide), fun y1 m1 => newO m1 fun K1 w1 g1 => ?_⟩
          refine ⟨_, rfl, (show 2 ≤ sizeLine by decide), fun y2 m2 => newO m2 fun K2 w2 g2 => ?_⟩
          refine ⟨_, rfl, (show 0 ≤ sizeLine by decide), fun y3 m3 => newO m3 fun K3 w3 g3 => ⟨(show 3 ≤ sizeLine by decide), fun y4 m4 => newO m4 fun K4 w4 g4 => ?_⟩⟩
          refine ⟨(show 2 ≤ sizeLine by decide), fun y5 m5 => newO m5 fun K5 w5 g5 => ?_⟩
          have w15 := (((w1.trans w2).trans w3).trans w4).trans w5
          have w25 := ((w2.trans w3).trans w4).trans w5
          have w35 := (w3.trans w4).trans w5
          rcases (show lot = 2 ∨ lot = 3 by omega) with rfl | rfl
          · refine ⟨_, rfl, _, _, rfl, rfl, y5, _, _, V.ref y2, rfl, rfl, SqL.of g5, rfl, ?_⟩
            refine cat_tup (SqT.of (w25 _ _ g1)) (SqT.of (w35 _ _ g2)) (by simp) (Nat.le_of_ble_eq_true rfl) (w25 _ _ g1) fun q3 K6 w6 g6 => ?_
            refine q' _ _ ⟨q3, ?_, hdG7.mono (w15.trans w6) (Nat.le_refl _), bG7.trans (But.of (w15.trans w6)), rfl⟩
            exact deed_is (dd := .given col) (cols := p.cols) g6 rfl ⟨true, wcol⟩ ok.cg
          · refine ⟨_, rfl, _, _, rfl, rfl, y5, _, _, V.ref y4, rfl, rfl, SqL.of g5, rfl, ?_⟩
            refine cat_tup (SqT.of (w25 _ _ g1)) (SqT.of (w5 _ _ g4)) (by simp) (Nat.le_of_ble_eq_true rfl) (w25 _ _ g1) fun q3 K6 w6 g6 => ?_
            refine q' _ _ ⟨q3, ?_, hdG7.mono (w15.trans w6) (Nat.le_refl _), bG7.trans (But.of (w15.trans w6)), rfl⟩
            exact deed_is (dd := .fill col []) (cols := p.cols) g6 ⟨y3, rfl, w6 _ _ (w5 _ _ (w4 _ _ g3))⟩ ⟨⟨true, wcol⟩, by decide, fun c hc => nomatch hc⟩ ok.cg
        · rw [decide_eq_false c1]
          refine iteF ?_
          exact q' _ _ ⟨q2, st7, hdG7, bG7, rfl⟩
      clear st7 hdG7 bG7
      rintro σ' G7 ⟨q2, st7, hdG7, bG7, rfl⟩
      try dsimp only
      have A7 := A4.keep (Tst.hand hd4 bG7)
      have lsv := A7.dP.len
      rw [List.length_map] at lsv
      have sl := ok.sl
      obtain ⟨sd, tsd, gsd, shd⟩ := st7
      refine ⟨_, rfl, _, rfl, (show 1 ≤ sizeLine by decide), fun x1 m1 => newO m1 fun G8 z8 f8 => ?_⟩
      have A8 := A7.keep (Tst.of z8)
      refine cat_any A8.eP f8 (by rw [List.length_singleton]; omega) fun mo G9 z9 f9 => ?_
      refine gN ?_
      try dsimp only
      have A9 := A8.keep (Tst.of z9)
      have tsd9 := tsd.keep (Tst.of (z8.trans z9))
      refine ⟨_, rfl, aP, rfl, ⟨_, SqT.of A9.eP⟩, fun D4 nD4 => ?_⟩
      refine lc_new (walk_tup (K := K) (a := aP) (xs := sv)) (Z := fun j x => sv[j]? = some x) (fun _ y G => ∃ d, TD G y d ∧ PairD d) nD4 (fun j G x G' e => ⟨e.1, e.2⟩) (fun G sG => SqT.of (sG _ _ A9.eP)) (fun j y G G' keep ⟨l', eD⟩ ⟨d, t, g⟩ => ⟨d, t.keep (fun a xs e => keep a _ (tup_ne e eD) e), g⟩) (by omega) (fun _ => rfl) ?_ ?_
      · rintro j x G Q2 hj hx sG kk
        obtain ⟨d, hd, td⟩ := A9.dP.at hx
        rw [List.getElem?_map] at hd
        obtain ⟨s, hs, rfl⟩ := Option.map_eq_some_iff.mp hd
        obtain ⟨qa, va, rfl, ea⟩ := step_head (td.keep (Tst.of sG))
        obtain ⟨qb, vb, eqb, eb⟩ := step_head (tsd9.keep (Tst.of sG))
        cases eqb
        refine ⟨_, rfl, qa, _, _, V.str s.nm, rfl, rfl, SqT.of ea, atI_nat (j := 0) rfl, _, rfl, q2, _, _, V.str sd.nm, rfl, rfl, SqT.of eb, atI_nat (j := 0) rfl, (show 2 ≤ sizeLine by decide), fun t nt => newO nt fun G2 s2 e2 => ?_⟩
        exact kk _ _ s2 ⟨.tuple [.str s.nm, .str sd.nm], TD.mk e2 ⟨.str _, .str _, trivial⟩, s.nm, sd.nm, rfl, (ok.ss s (List.mem_of_getElem? hs)).1, gsd⟩
      · rintro G10 ys z10 f10 ly hw
        obtain ⟨es, tes, ges⟩ := tds_pairs hw
        have A10 := A9.keep (Tst.of z10)
        have bl := ok.bl
        have lbv := A10.dB.len
        have les := tes.len
        refine gN ?_
        try dsimp only
        unfold tRet
        dsimp only
        refine ⟨_, rfl, a, _, _, .ref aS, rfl, rfl, SqT.of A10.e0, atI_nat (j := 0) rfl, _, rfl, _, rfl, _, rfl, _, rfl, aB, _, rfl, .inr (SqT.of A10.eB), fun l1 n1 => newO n1 fun G11 z11 f11 => ?_⟩
        refine ⟨_, rfl, l1, D4, _, _, rfl, rfl, f11, z11 _ _ f10, by rw [sizeLine_eq]; omega, fun l2 n2 => newO n2 fun G12 z12 f12 => ?_⟩
        have td12 : TDs G12 (bv ++ ys) (p.bs ++ es) := (A10.dB.app tes).keep (Tst.of (z11.trans z12))
        unfold tNil
        dsimp only
        refine sort_pairs (SqL.of f12) td12 (fun d hd => (List.mem_append.mp hd).elim (ok.bg d) (ges d)) fun l3 ws us n3 tw le gw => ?_
        refine newO n3 fun G13 z13 f13 => ?_
        refine ⟨l3, _, rfl, .inl ⟨SqL.of f13, fun t1 k1 => newO k1 fun G14 z14 f14 => ?_⟩⟩
        refine ⟨(show 4 ≤ sizeLine by decide), fun i4 k2 => newO k2 fun G15 z15 f15 => ⟨(show 1 ≤ sizeLine by decide), fun t3 k3 => newO k3 fun G16 z16 f16 => ⟨(show 2 ≤ sizeLine by decide), fun t4 k4 => newO k4 fun G17 z17 f17 => ?_⟩⟩⟩
        have y15 := (z15.trans z16).trans z17
        have y14 := z14.trans y15
        have y13 := z13.trans y14
        have y11 := (z11.trans z12).trans y13
        have y10 := z10.trans y11
        have A17 := A10.keep (Tst.of y11)
        have tm : TD G17 (.ref mo) (.tuple ((p.steps ++ [sd]).map StepD.data)) := by
          rw [List.map_append]
          exact .mk (y10 _ _ f9) (A17.dP.app ⟨tsd9.keep (Tst.of y10), trivial⟩)
        have tb : TD G17 (.ref t1) (.tuple us) := .mk (y15 _ _ f14) (tw.keep (Tst.of y13))
        refine q t4 ⟨p.sn, p.pre, p.cols, p.nm, p.steps ++ [sd], us⟩ G17 (.mk f17 ⟨A17.tdS, .mk (z17 _ _ f16) ⟨.mk (z17 _ _ (z16 _ _ f15)) ⟨.str _, A17.tdO, tm, tb, trivial⟩, trivial⟩, trivial⟩) ⟨ok.sn, ok.nm, ok.pre, ok.c1, ok.c3, ok.cg, ?_, fun s hs => ?_, ?_, gw⟩ ((hdG7.mono ((z8.trans z9).trans y10) (Nat.le_refl _)).up (by omega)) ((b4.trans bG7).trans (But.of ((z8.trans z9).trans y10)))
        · show (p.steps ++ [sd]).length ≤ 7
          rw [List.length_append, List.length_singleton]
          omega
        · rcases List.mem_append.mp hs with hs | hs
          · exact ok.ss s hs
          · rw [List.mem_singleton.mp hs]
            exact ⟨gsd, shd⟩
        · show us.length ≤ 42
          rw [List.length_append] at le
          omega
end
end K86
set_option Elab.async false
set_option linter.all false
set_option pp.maxSteps 4000
set_option maxRecDepth 100000
set_option maxHeartbeats 4000000
/-! k86: a table more, a source more -/
namespace K86
open PySem PySem.Spec PyProof.Rows L2 Bs Xg TL Xm Xs Gn Gd
abbrev sMt : Stmt := top 21
abbrev sMo : Stmt := top 22
theorem PlanD.ok.up {p : PlanD} {m b m' b' : Nat} (h : p.ok m b) (l : m ≤ m') (l' : b ≤ b') : p.ok m' b' := ⟨h.sn, h.nm, h.pre, h.c1, h.c3, h.cg, Nat.le_trans h.sl l, h.ss, Nat.le_trans h.bl l', h.bg⟩
theorem src_sh {z : Str} {pre : List PyData} {cols : List Str} (g : Good 9 z) (hp : pre.length ≤ 3 ∧ ∀ d ∈ pre, Sh d 300 2) (gc : ∀ c ∈ cols, Good 9 c) (l3 : cols.length ≤ 3) : Sh (.tuple [.str z, .tuple (pre ++ [.tuple (cols.map .str)])]) 3000 5 := by
  have h1 : Sh (.tuple (cols.map PyData.str)) 300 2 := (strs_sh gc (by decide) l3).up (by decide) (by decide)
  have h2 : Sh (.tuple (pre ++ [.tuple (cols.map .str)])) 1205 3 := sh_tuple (n := 4) (fun d hd => (List.mem_append.mp hd).elim (hp.2 d) fun z => by rw [List.mem_singleton.mp z]; exact h1) (by rw [List.length_append]; exact Nat.add_le_add_right hp.1 1)
  exact (sh_tuple (w := 1205) (k := 3) (n := 2) (list_sh ((gsh g (by decide)).up (by decide) (by decide)) (list_sh h2 nil_sh)) (Nat.le_of_ble_eq_true rfl)).up (by decide) (by decide)
section
variable {P : Program} {w : World} {K : PySem.W.Frag} {mg : Str → Option Value} {base : Heap} {fTk fPk : Addr} {dTk dPk : FuncData} {fSh : Addr} {dSh : FuncData}
theorem scMt : FnScope ["_law_box_here", "_law_plan_here", "_law_name", "_law_origin", "_law_steps", "_law_behinds_here", "_law_column", "_law_some"] ["_law_box_here", "_law_plan_here"] (defScope sMt) := ⟨rfl, rfl, rfl, by decide +kernel, rfl, by decide +kernel, by decide +kernel⟩
def spMt : Sp := fun vs H Q _ => ∃ (h a : Addr) (n : Nat) (p : PlanD), vs = [.ref h, .ref a] ∧ HandAt H h n ∧ n < 980000 ∧ TD H (.ref a) p.prog.data ∧ p.ok 7 42 ∧
  ∀ (a' : Addr) (d : ProgD) (H' : Hp), TD H' (.ref a') d.data → d.ok → HandAt H' h (n + 20) → But h H H' → Q (.ref a') H'
theorem ok_more_table {f : Addr} {fd : FuncData} (F : Fun K "_law_more_table" "_law_more_table" sMt f fd) (T : Free mg) (W : HandF K mg fTk fPk dTk dPk) : FnOk P w K mg base CX0 3 f fd ["_law_box_here", "_law_plan_here"] spMt := by
  have GPk : FnOk P w K mg base CX0 2 fPk dPk ["_law_box_here", "_law_some"] (spPk K) := ok_pick W.Pk T W.Tk W.bTk W.gTk
  have FPk := W.Pk
  have bPk := W.bPk
  have gPk := W.gPk
  refine F.ok scMt (fun vs H Q E h => ?_) (fun cdv A outer s H vs Q E hr h => ?_)
  · obtain ⟨h, a, n, p, rfl, _⟩ := h
    rfl
  · obtain ⟨h, a, n, p, rfl, hd, nb, tp, ok, q⟩ := h
    obtain ⟨aS, aT, aI, aO, aP, aB, aR, aH, aC, pw, sv, bv, A⟩ := plan_inv tp
    have c1 := ok.c1
    obtain ⟨col, hcol⟩ : ∃ z, p.cols[0]? = some z := ⟨_, List.getElem?_eq_getElem (by omega)⟩
    have ecol : (p.cols.map V.str)[0]? = some (V.str col) := by rw [List.getElem?_map, hcol]; rfl
    have gcol : Good 9 col := ok.cg _ (List.mem_of_getElem? hcol)
    refine ⟨_, pss_cons (ps_asg (pe_ix (ix_tupK (K := K) rfl) (pe_ix (ix_tupK (K := K) rfl) (pv 1) pe_int (fun _ _ => rfl)) pe_int (fun _ _ => rfl)) (pg_tup rfl (pgs_cons (pg_name (i := 2) scMt.nd rfl (Or.inl rfl)) (pgs_cons (pg_name (i := 3) scMt.nd rfl (Or.inl rfl)) (pgs_cons (pg_name (i := 4) scMt.nd rfl (Or.inl rfl)) (pgs_cons (pg_name (i := 5) scMt.nd rfl (Or.inl rfl)) pgs_nil))))))
      (pss_cons (ps_set (i := 6) scMt.nd rfl (Or.inl rfl) (pe_ix (ix_tupK (K := K) rfl) (pe_ix (ix_tupK (K := K) rfl) (pe_ix (ix_tupK (K := K) rfl) (pe_ix (ix_tupK (K := K) rfl) (pe_ix (ix_tupK (K := K) rfl) (pv 1) pe_int (fun _ _ => rfl)) pe_int (fun _ _ => rfl)) pe_int (fun _ _ => rfl)) (pe_un un_neg pe_int) (fun _ _ => rfl)) pe_int (fun _ _ => rfl)))
      (pss_cons (ps_set (i := 7) scMt.nd rfl (Or.inl rfl) (pe_lst (pa_cons (pv 3) (pa_cons (pe_tup (pa_cons pe_str (pa_cons (pv 2) (pa_cons (pe_tup (pa_cons (pv 6) pa_nil)) (pa_cons (pe_tup (pa_cons (pe_tup (pa_cons pe_str (pa_cons pe_str (pa_cons pe_non pa_nil)))) pa_nil)) pa_nil))))) pa_nil))))
      (pss_cons (ps_expr (pe_bmK (K := K) rfl PySem.F.plainAttrs_list PySem.F.slot_list_append PySem.F.type_list_append mt_append (pv 7) (pa_cons (pe_tup (pa_cons pe_str (pa_cons (pv 2) (pa_cons (pe_tup (pa_cons (pv 6) pa_nil)) (pa_cons pe_str (pa_cons pe_str pa_nil)))))) pa_nil)))
      (pss_one (ps_ret (pe_tup (pa_cons (pe_ix (ix_tupK (K := K) rfl) (pv 1) pe_int (fun _ _ => rfl)) (pa_cons (pe_op op_catT (pe_ix (ix_tupK (K := K) rfl) (pv 1) pe_int (fun _ _ => rfl)) (pe_tup (pa_cons (pe_tup (pa_cons pe_str (pa_cons (pe_call GPk (hr.mono (by decide)) (by rfl) gPk FPk.kp bPk .nil pass0 (pa_cons (pv 0) (pa_cons (pv 7) pa_nil))) (pa_cons (pe_tup pa_nil) (pa_cons (pe_tup pa_nil) pa_nil))))) pa_nil))) pa_nil)))))))), ?_⟩
    refine ⟨_, rfl, a, _, _, .ref aT, rfl, rfl, SqT.of A.e0, atI_nat (j := 1) rfl, aT, _, _, .ref aI, rfl, rfl, SqT.of A.eT, atI_nat (j := 0) rfl, ?_⟩
    refine ⟨aI, _, rfl, SqT.of A.eI, rfl, _, _, rfl, gN ⟨_, _, rfl, gN ⟨_, _, rfl, gN ⟨_, _, rfl, gN ⟨rfl, ?_⟩⟩⟩⟩⟩
    try dsimp only
    refine ⟨_, rfl, a, _, _, .ref aS, rfl, rfl, SqT.of A.e0, atI_nat (j := 0) rfl, aS, _, _, .ref aR, rfl, rfl, SqT.of A.eS, atI_nat (j := 0) rfl, aR, _, _, .ref aH, rfl, rfl, SqT.of A.eR, atI_nat (j := 1) rfl, _, rfl, aH, _, _, .ref aC, rfl, rfl, SqT.of A.eH, atI_last _ _, aC, _, _, .str col, rfl, rfl, SqT.of A.eC, atI_nat (j := 0) ecol, ?_⟩
    refine gN ?_
    try dsimp only
    refine ⟨_, rfl, _, rfl, _, rfl, (show 1 ≤ sizeLine by decide), fun x1 m1 => newO m1 fun G1 z1 e1 => ?_⟩
    refine ⟨(show 3 ≤ sizeLine by decide), fun x2 m2 => newO m2 fun G2 z2 e2 => ⟨(show 1 ≤ sizeLine by decide), fun x3 m3 => newO m3 fun G3 z3 e3 => ?_⟩⟩
    refine ⟨(show 4 ≤ sizeLine by decide), fun x4 m4 => newO m4 fun G4 z4 e4 => ⟨(show 2 ≤ sizeLine by decide), fun D m5 => newO m5 fun G5 z5 e5 => ?_⟩⟩
    refine gN ?_
    try dsimp only
    refine ⟨_, rfl, .inl ⟨rfl, _, SqL.of e5⟩, ?_⟩
    refine ⟨_, rfl, _, rfl, (show 1 ≤ sizeLine by decide), fun x6 m6 => newO m6 fun G6 z6 e6 => ?_⟩
    refine ⟨(show 5 ≤ sizeLine by decide), fun x7 m7 => newO m7 fun G7 z7 e7 => ?_⟩
    have z57 := z6.trans z7
    refine ⟨D, _, _, rfl, rfl, z57 _ _ e5, Nat.le_of_ble_eq_true rfl, ?_⟩
    have b8 : But D G7 (upd G7 D (.lst ([.ref aO, .ref x4] ++ [.ref x7]))) := But.upd
    have e8 : upd G7 D (.lst ([.ref aO, .ref x4] ++ [.ref x7])) D = _ := upd_same
    generalize upd G7 D (.lst ([.ref aO, .ref x4] ++ [.ref x7])) = G8 at b8 e8 ⊢
    try dsimp only
    unfold tRet
    dsimp only
    have z15 := (((z1.trans z2).trans z3).trans z4).trans z5
    have z17 := z15.trans z57
    have t8 : Tst G7 G8 := Tst.but ⟨_, z57 _ _ e5⟩ b8
    have A8 := A.keep ((Tst.of z17).trans t8)
    have Dn : H D = none := by
      cases e : H D with
      | none => rfl
      | some o =>
        rw [((((z1.trans z2).trans z3).trans z4)) _ _ e] at m5
        cases m5
    have Dh : D ≠ h := (hd.fresh Dn).symm
    have hd8 : HandAt G8 h n := hand_but (hd.mono z17 (Nat.le_refl _)) Dh.symm b8
    have B8 : But h H G8 := fun b o nb e => b8 b o (ne_of_none e Dn) (z17 _ _ e)
    have d1 : TD G8 (.ref x1) (.tuple [.str col]) := .mk (t8 _ _ (z57 _ _ (z5 _ _ (z4 _ _ (z3 _ _ (z2 _ _ e1)))))) ⟨.str _, trivial⟩
    have d2 : TD G8 (.ref x2) (.tuple [.str "zzzzzzza", .str "count", .none]) := .mk (t8 _ _ (z57 _ _ (z5 _ _ (z4 _ _ (z3 _ _ e2))))) ⟨.str _, .str _, .non, trivial⟩
    have d3 : TD G8 (.ref x3) (.tuple [.tuple [.str "zzzzzzza", .str "count", .none]]) := .mk (t8 _ _ (z57 _ _ (z5 _ _ (z4 _ _ e3)))) ⟨d2, trivial⟩
    have d4 : TD G8 (.ref x4) (.tuple [.str "group", .str p.nm, .tuple [.str col], .tuple [.tuple [.str "zzzzzzza", .str "count", .none]]]) := .mk (t8 _ _ (z57 _ _ (z5 _ _ e4))) ⟨.str _, .str _, d1, d3, trivial⟩
    have d6 : TD G8 (.ref x6) (.tuple [.str col]) := .mk (t8 _ _ (z7 _ _ e6)) ⟨.str _, trivial⟩
    have d7 : TD G8 (.ref x7) (.tuple [.str "long", .str p.nm, .tuple [.str col], .str "zzzzzzza", .str "zzzzzzzb"]) := .mk (t8 _ _ e7) ⟨.str _, .str _, d6, .str _, .str _, trivial⟩
    have ga : Good 9 (Str.ofString "zzzzzzza") := by constructor <;> decide +kernel
    have gb : Good 9 (Str.ofString "zzzzzzzb") := by constructor <;> decide +kernel
    have gc : Good 9 (Str.ofString "count") := by constructor <;> decide +kernel
    have gg : Good 9 (Str.ofString "group") := by constructor <;> decide +kernel
    have gl : Good 9 (Str.ofString "long") := by constructor <;> decide +kernel
    have go : Good 9 (Str.ofString "of") := by constructor <;> decide +kernel
    have s9 : ∀ {z : Str}, Good 9 z → Sh (PyData.str z) 200 3 := fun g => (gsh g (by decide)).up (by decide) (by decide)
    have sc : Sh (.tuple [.str col]) 200 3 := (sh_tuple (w := 41) (k := 1) (n := 1) (list_sh (gsh gcol (by decide)) nil_sh) (Nat.le_of_ble_eq_true rfl)).up (by decide) (by decide)
    have so1 : Sh (.tuple [.str "of", .str p.sn]) 1010 4 := (sh_tuple (w := 200) (k := 3) (n := 5) (list_sh (s9 go) (list_sh (s9 ok.sn) nil_sh)) (Nat.le_of_ble_eq_true rfl)).up (by decide) (by decide)
    have s2 : Sh (.tuple [.str "zzzzzzza", .str "count", .none]) 127 2 := sh_tuple (w := 41) (k := 1) (n := 3) (list_sh (gsh ga (by decide)) (list_sh (gsh gc (by decide)) (list_sh (sh_non.up (by decide) (by decide)) nil_sh))) (Nat.le_of_ble_eq_true rfl)
    have s3 : Sh (.tuple [.tuple [.str "zzzzzzza", .str "count", .none]]) 200 3 := (sh_tuple (w := 127) (k := 2) (n := 1) (list_sh s2 nil_sh) (Nat.le_of_ble_eq_true rfl)).up (by decide) (by decide)
    have so4 : Sh (.tuple [.str "group", .str p.nm, .tuple [.str col], .tuple [.tuple [.str "zzzzzzza", .str "count", .none]]]) 1010 4 := (sh_tuple (w := 200) (k := 3) (n := 5) (list_sh (s9 gg) (list_sh (s9 ok.nm) (list_sh sc (list_sh s3 nil_sh)))) (Nat.le_of_ble_eq_true rfl)).up (by decide) (by decide)
    have so7 : Sh (.tuple [.str "long", .str p.nm, .tuple [.str col], .str "zzzzzzza", .str "zzzzzzzb"]) 1010 4 := (sh_tuple (w := 200) (k := 3) (n := 5) (list_sh (s9 gl) (list_sh (s9 ok.nm) (list_sh sc (list_sh (s9 ga) (list_sh (s9 gb) nil_sh))))) (Nat.le_of_ble_eq_true rfl)).up (by decide) (by decide)
    refine ⟨_, rfl, a, _, _, .ref aS, rfl, rfl, SqT.of A8.e0, atI_nat (j := 0) rfl, _, rfl, a, _, _, .ref aT, rfl, rfl, SqT.of A8.e0, atI_nat (j := 1) rfl, ?_⟩
    refine ⟨_, rfl, _, rfl, pick_old hd8 (by omega) (SqL.of e8) Dh (show 0 < 3 by decide) (show 3 ≤ 1000 by decide) (fun y K1 hy hd9 bt9 => ?_)⟩
    have t9 := Tst.hand hd8 bt9
    obtain ⟨o, to, so⟩ : ∃ o, TD K1 y o ∧ Sh o 1010 4 := by
      simp only [List.cons_append, List.nil_append, List.mem_cons, List.not_mem_nil, or_false] at hy
      rcases hy with rfl | rfl | rfl
      · exact ⟨_, A8.tdO.keep t9, so1⟩
      · exact ⟨_, d4.keep t9, so4⟩
      · exact ⟨_, d7.keep t9, so7⟩
    refine ⟨(show 0 ≤ sizeLine by decide), fun u1 k1 => newO k1 fun K2 w2 g2 => ⟨(show 0 ≤ sizeLine by decide), fun u2 k2 => newO k2 fun K3 w3 g3 => ⟨(show 4 ≤ sizeLine by decide), fun u3 k3 => newO k3 fun K4 w4 g4 => ⟨(show 1 ≤ sizeLine by decide), fun u4 k4 => newO k4 fun K5 w5 g5 => ?_⟩⟩⟩⟩
    have w25 := ((w2.trans w3).trans w4).trans w5
    have A5 := A8.keep (t9.trans (Tst.of w25))
    refine cat_tup (SqT.of A5.eT) (SqT.of g5) (by simp) (Nat.le_of_ble_eq_true rfl) A5.eT fun u6 K6 w6 g6 => ?_
    refine ⟨(show 2 ≤ sizeLine by decide), fun u7 k7 => newO k7 fun K7 w7 g7 => ?_⟩
    have A7 := A5.keep (Tst.of (w6.trans w7))
    have w27 := (w25.trans w6).trans w7
    have em : TD K7 (.ref u3) (.tuple [.str "zzzzzzzz", o, .tuple [], .tuple []]) := .mk (w7 _ _ (w6 _ _ (w5 _ _ g4))) ⟨.str _, to.keep (Tst.of w27), .mk (w7 _ _ (w6 _ _ (w5 _ _ (w4 _ _ (w3 _ _ g2))))) trivial, .mk (w7 _ _ (w6 _ _ (w5 _ _ (w4 _ _ g3)))) trivial, trivial⟩
    have P0 := PlanD.prog_ok ok (by decide) (by decide)
    have sn : Sh (.tuple []) 1010 4 := (sh_tuple (w := 1) (k := 1) (n := 1) nil_sh (by decide)).up (by decide) (by decide)
    have sm : Sh (.tuple [.str "zzzzzzzz", o, .tuple [], .tuple []]) 20000 6 := (sh_tuple (w := 1010) (k := 4) (n := 4) (list_sh ((gsh good_z (by decide)).up (by decide) (by decide)) (list_sh so (list_sh sn (list_sh sn nil_sh)))) (Nat.le_of_ble_eq_true rfl)).up (by decide) (by decide)
    refine q u7 ⟨[p.src], p.nm, "of", [.str p.sn], p.steps, p.bs, [.tuple [.str "zzzzzzzz", o, .tuple [], .tuple []]]⟩ K7 (.mk g7 ⟨A7.tdS, .mk (w7 _ _ g6) ⟨A7.tdI, em, trivial⟩, trivial⟩) ⟨P0.src, P0.nm, P0.ow, P0.ol, P0.sl, P0.ss, P0.bl, P0.bg, Nat.le_of_ble_eq_true rfl, list_sh sm nil_sh⟩ ((hd9.mono w27 (Nat.le_refl _)).up (by omega)) ((B8.trans bt9).trans (But.of w27))
theorem scMo : FnScope ["_law_box_here", "_law_plan_here", "_law_more"] ["_law_box_here", "_law_plan_here"] (defScope sMo) := ⟨rfl, rfl, rfl, by decide +kernel, rfl, by decide +kernel, by decide +kernel⟩
theorem ok_more_source {f : Addr} {fd : FuncData} (F : Fun K "_law_more_source" "_law_more_source" sMo f fd) (T : Free mg) (W : HandF K mg fTk fPk dTk dPk) (FSh : Fun K "_law_shape" "_law_shape" sSh fSh dSh) (bSh : Binds K dSh ["_law_box_here", "_law_names"] []) (gSh : mg "_law_shape" = some (.ref fSh)) : FnOk P w K mg base CX0 4 f fd ["_law_box_here", "_law_plan_here"] spMt := by
  have GTk : FnOk P w K mg base CX0 1 fTk dTk ["_law_box_here", "_law_many"] spTake := ok_take W.Tk
  have GSh : FnOk P w K mg base CX0 3 fSh dSh ["_law_box_here", "_law_names"] (spSh K) := ok_shape FSh T W
  have FTk := W.Tk
  have bTk := W.bTk
  have gTk := W.gTk
  refine F.ok scMo (fun vs H Q E h => ?_) (fun cdv A outer s H vs Q E hr h => ?_)
  · obtain ⟨h, a, n, p, rfl, _⟩ := h
    rfl
  · obtain ⟨h, a, n, p, rfl, hd, nb, tp, ok, q⟩ := h
    obtain ⟨aS, aT, aI, aO, aP, aB, aR, aH, aC, pw, sv, bv, A⟩ := plan_inv tp
    refine ⟨_, pss_cons (ps_set (i := 2) scMo.nd rfl (Or.inl rfl) (pe_tup (pa_cons pe_str (pa_cons (pe_call GSh (hr.mono (by decide)) (by rfl) gSh FSh.kp bSh .nil pass0 (pa_cons (pv 0) (pa_cons (pe_lst (pa_cons pe_str (pa_cons pe_str pa_nil))) pa_nil))) pa_nil))))
      (pss_one (ps_ret (pe_tup (pa_cons (pe_ifExp (pt_cmpR op_eq (pe_call GTk (hr.mono (by decide)) (by rfl) gTk FTk.kp bTk .nil pass0 (pa_cons (pv 0) (pa_cons pe_int pa_nil))) pe_int (nomark _)) (pe_op op_catT (pe_tup (pa_cons (pv 2) pa_nil)) (pe_ix (ix_tupK (K := K) rfl) (pv 1) pe_int (fun _ _ => rfl))) (pe_op op_catT (pe_ix (ix_tupK (K := K) rfl) (pv 1) pe_int (fun _ _ => rfl)) (pe_tup (pa_cons (pv 2) pa_nil)))) (pa_cons (pe_ix (ix_tupK (K := K) rfl) (pv 1) pe_int (fun _ _ => rfl)) pa_nil))))), ?_⟩
    refine ⟨_, rfl, (show 2 ≤ sizeLine by decide), fun L m0 => newO m0 fun G1 z1 e1 => ?_⟩
    have Lh : L ≠ h := (hd.fresh m0).symm
    refine ⟨h, L, n, ["zza", "zzb"], rfl, hd.mono z1 (Nat.le_refl _), by omega, e1, Lh, by decide, by decide, fun v G2 ish hd2 bt2 => ?_⟩
    obtain ⟨va, pre, rfl, tdv, lpre, gpre⟩ := shape_td ish (by decide)
    refine ⟨(show 2 ≤ sizeLine by decide), fun x m1 => newO m1 fun G3 z3 e3 => ?_⟩
    refine gN ?_
    try dsimp only
    unfold tRet
    dsimp only
    have A3 := A.keep (((Tst.of z1).trans (Tst.hand (hd.mono z1 (Nat.le_refl _)) bt2)).trans (Tst.of z3))
    have hd3 := hd2.mono z3 (Nat.le_refl _)
    have tx : TD G3 (.ref x) (.tuple [.str "zzzzzzzs", .tuple (pre ++ [.tuple ((["zza", "zzb"] : List Str).map .str)])]) := .mk e3 ⟨.str _, tdv.keep (Tst.of z3), trivial⟩
    have sx : Sh (.tuple [.str "zzzzzzzs", .tuple (pre ++ [.tuple ((["zza", "zzb"] : List Str).map .str)])]) 3000 5 := src_sh (by constructor <;> decide +kernel) ⟨lpre, gpre⟩ (fun c hc => by
      simp only [List.mem_cons, List.not_mem_nil, or_false] at hc
      rcases hc with rfl | rfl <;> constructor <;> decide +kernel) (by decide)
    have P0 := PlanD.prog_ok ok (by decide) (by decide)
    have s0 := P0.src.2 _ List.mem_cons_self
    refine ⟨_, rfl, h, n + 10, 2, rfl, hd3, by omega, by decide, by decide, fun r G4 r0 r1 hd4 bt4 => ?_⟩
    have t4 := Tst.hand hd3 bt4
    have A4 := A3.keep t4
    have tx4 := tx.keep t4
    have B4 : But h H G4 := (((But.of z1).trans bt2).trans (But.of z3)).trans bt4
    refine ⟨rfl, _, rfl, ?_⟩
    by_cases r00 : V.int r = V.int 0
    · rw [decide_eq_true r00]
      refine iteT ?_
      refine ⟨_, rfl, (show 1 ≤ sizeLine by decide), fun y1 m1 => newO m1 fun G5 z5 e5 => ?_⟩
      have A5 := A4.keep (Tst.of z5)
      refine ⟨_, rfl, a, _, _, .ref aS, rfl, rfl, SqT.of A5.e0, atI_nat (j := 0) rfl, ?_⟩
      refine cat_tup (SqT.of e5) (SqT.of A5.eS) (by simp) (Nat.le_of_ble_eq_true rfl) e5 fun y2 G6 z6 e6 => ?_
      have A6 := A5.keep (Tst.of z6)
      refine ⟨_, rfl, a, _, _, .ref aT, rfl, rfl, SqT.of A6.e0, atI_nat (j := 1) rfl, (show 2 ≤ sizeLine by decide), fun y3 m3 => newO m3 fun G7 z7 e7 => ?_⟩
      have A7 := A6.keep (Tst.of z7)
      have z57 := (z5.trans z6).trans z7
      have tS : TD G7 (.ref y2) (.tuple [.tuple [.str "zzzzzzzs", .tuple (pre ++ [.tuple ((["zza", "zzb"] : List Str).map .str)])], p.src]) := .mk (z7 _ _ e6) ⟨tx4.keep (Tst.of z57), (A7.tdR), trivial⟩
      exact q y3 ⟨[.tuple [.str "zzzzzzzs", .tuple (pre ++ [.tuple ((["zza", "zzb"] : List Str).map .str)])], p.src], p.nm, "of", [.str p.sn], p.steps, p.bs, []⟩ G7 (.mk e7 ⟨tS, .mk A7.eT ⟨A7.tdI, trivial⟩, trivial⟩) ⟨⟨Nat.le_of_ble_eq_true rfl, list_sh sx (list_sh s0 nil_sh)⟩, P0.nm, P0.ow, P0.ol, P0.sl, P0.ss, P0.bl, P0.bg, P0.mo⟩ ((hd4.mono z57 (Nat.le_refl _)).up (by omega)) (B4.trans (But.of z57))
    · rw [decide_eq_false r00]
      refine iteF ?_
      refine ⟨_, rfl, a, _, _, .ref aS, rfl, rfl, SqT.of A4.e0, atI_nat (j := 0) rfl, ?_⟩
      refine ⟨_, rfl, (show 1 ≤ sizeLine by decide), fun y1 m1 => newO m1 fun G5 z5 e5 => ?_⟩
      have A5 := A4.keep (Tst.of z5)
      refine cat_tup (SqT.of A5.eS) (SqT.of e5) (by simp) (Nat.le_of_ble_eq_true rfl) A5.eS fun y2 G6 z6 e6 => ?_
      have A6 := A5.keep (Tst.of z6)
      refine ⟨_, rfl, a, _, _, .ref aT, rfl, rfl, SqT.of A6.e0, atI_nat (j := 1) rfl, (show 2 ≤ sizeLine by decide), fun y3 m3 => newO m3 fun G7 z7 e7 => ?_⟩
      have A7 := A6.keep (Tst.of z7)
      have z57 := (z5.trans z6).trans z7
      have tS : TD G7 (.ref y2) (.tuple [p.src, .tuple [.str "zzzzzzzs", .tuple (pre ++ [.tuple ((["zza", "zzb"] : List Str).map .str)])]]) := .mk (z7 _ _ e6) ⟨A7.tdR, tx4.keep (Tst.of z57), trivial⟩
      exact q y3 ⟨[p.src, .tuple [.str "zzzzzzzs", .tuple (pre ++ [.tuple ((["zza", "zzb"] : List Str).map .str)])]], p.nm, "of", [.str p.sn], p.steps, p.bs, []⟩ G7 (.mk e7 ⟨tS, .mk A7.eT ⟨A7.tdI, trivial⟩, trivial⟩) ⟨⟨Nat.le_of_ble_eq_true rfl, list_sh s0 (list_sh sx nil_sh)⟩, P0.nm, P0.ow, P0.ol, P0.sl, P0.ss, P0.bl, P0.bg, P0.mo⟩ ((hd4.mono z57 (Nat.le_refl _)).up (by omega)) (B4.trans (But.of z57))
end
end K86
set_option Elab.async false
set_option linter.all false
set_option pp.maxSteps 4000
set_option maxRecDepth 100000
set_option maxHeartbeats 4000000
/-! k86: goes row by row, the program's and the law's -/
namespace K86
open PySem PySem.Spec PyProof.Rows L2 Bs Xg TL Xm Xs Gn Gd
abbrev sGb : Stmt := top 1
abbrev sIb : Stmt := top 2
abbrev sGo : Stmt := top 23
theorem step_parts {G : Hp} {x : V} {s : StepD} (h : TD G x s.data) : ∃ q rs, x = .ref q ∧ G q = some (.tup (.str s.nm :: .str s.w :: rs)) ∧ TDs G rs s.rest := by
  obtain ⟨q, vs, rfl, e, t⟩ := TD.inv h
  obtain ⟨v, us, rfl, t1, t2⟩ := t.c
  cases t1.invS
  obtain ⟨v, us, rfl, t3, t4⟩ := t2.c
  cases t3.invS
  exact ⟨q, us, rfl, e, t4⟩
theorem fill_parts {G : Hp} {rs : List V} {s : StepD} (h : TDs G rs s.rest) (hw : s.w = "fill") : ∃ (v : V) (t : Addr) (us : List V) (zs : List Str), rs = [v, .ref t] ∧ G t = some (.tup us) ∧ us = zs.map V.str ∧ s.ks = zs.map .str := by
  obtain ⟨c, zs, er, ek⟩ := s.ok hw
  rw [er] at h
  obtain ⟨v, u1, rfl, _, t1⟩ := h.c
  obtain ⟨v2, u2, rfl, t2, t3⟩ := t1.c
  cases t3.n
  rw [ek] at t2
  obtain ⟨t, rfl, e⟩ := td_strs t2
  exact ⟨v, t, _, zs, rfl, e, rfl, ek⟩
/-- a program's parts -/
structure ProgAt (H : Hp) (a : Addr) (d : ProgD) (aS aT aI aO aP aB : Addr) (ov mv sv : List V) : Prop where
  e0 : H a = some (.tup [.ref aS, .ref aT])
  eT : H aT = some (.tup (.ref aI :: mv))
  eI : H aI = some (.tup [.str d.nm, .ref aO, .ref aP, .ref aB])
  eO : H aO = some (.tup (.str d.ow :: ov))
  eP : H aP = some (.tup sv)
  dP : TDs H sv (d.steps.map StepD.data)
  dM : TDs H mv d.more
theorem prog_inv {H : Hp} {x : V} {d : ProgD} (t : TD H x d.data) : ∃ a aS aT aI aO aP aB ov mv sv, x = .ref a ∧ ProgAt H a d aS aT aI aO aP aB ov mv sv := by
  obtain ⟨a, v0, rfl, e0, t0⟩ := t.inv
  obtain ⟨vS, v1, rfl, tS, t1⟩ := t0.c
  obtain ⟨vT, v2, rfl, tT, t2⟩ := t1.c
  cases t2.n
  obtain ⟨aS, w0, rfl, _, _⟩ := tS.inv
  obtain ⟨aT, x0, rfl, eT, y0⟩ := tT.inv
  obtain ⟨vI, mv, rfl, tI, dM⟩ := y0.c
  obtain ⟨aI, x2, rfl, eI, y2⟩ := TD.inv tI
  obtain ⟨vm, x3, rfl, tm, y3⟩ := y2.c
  cases tm.invS
  obtain ⟨vO, x4, rfl, tO, y4⟩ := y3.c
  obtain ⟨vP, x5, rfl, tP, y5⟩ := y4.c
  obtain ⟨vB, x6, rfl, tB, y6⟩ := y5.c
  cases y6.n
  obtain ⟨aO, o0, rfl, eO, o1⟩ := tO.inv
  obtain ⟨vw, ov, rfl, tw, _⟩ := o1.c
  cases tw.invS
  obtain ⟨aP, sv, rfl, eP, dP⟩ := tP.inv
  obtain ⟨aB, bv, rfl, eB, dB⟩ := tB.inv
  exact ⟨a, aS, aT, aI, aO, aP, aB, ov, mv, sv, rfl, e0, eT, eI, eO, eP, dP, dM⟩
theorem ProgAt.keep {H H' : Hp} {a : Addr} {d : ProgD} {aS aT aI aO aP aB : Addr} {ov mv sv : List V} (A : ProgAt H a d aS aT aI aO aP aB ov mv sv) (s : Tst H H') : ProgAt H' a d aS aT aI aO aP aB ov mv sv :=
  ⟨s _ _ A.e0, s _ _ A.eT, s _ _ A.eI, s _ _ A.eO, s _ _ A.eP, A.dP.keep s, A.dM.keep s⟩
theorem in2 (w : Str) : inV (V.str w) [V.str "unlike", V.str "look"] = (decide (w = "unlike") || decide (w = "look")) := by
  have bd : ∀ a b : Str, (a == b) = decide (b = a) := fun a b => by
    by_cases h : b = a
    · subst h
      simp
    · rw [decide_eq_false h]
      exact beq_eq_false_iff_ne.mpr fun e => h e.symm
  unfold inV
  rw [List.any_cons, List.any_cons, List.any_nil, Bool.or_false]
  show ((Str.ofString "unlike" == w) || (Str.ofString "look" == w)) = _
  rw [bd, bd]
theorem len_nil (zs : List Str) : decide (V.int (((zs.map V.str).length : Nat) : Int) = V.int 0) = (zs.map PyData.str).isEmpty := by
  cases zs with
  | nil => rfl
  | cons z zs =>
    rw [decide_eq_false (fun e => by
      have := V.int.inj e
      rw [List.length_map, List.length_cons] at this
      omega)]
    rfl
section
variable {P : Program} {w : World} {K : PySem.W.Frag} {mg : Str → Option Value} {base : Heap}
theorem scIb : FnScope ["step"] ["step"] (defScope sIb) := ⟨rfl, rfl, rfl, by decide +kernel, rfl, by decide +kernel, by decide +kernel⟩
def spIb : Sp := fun vs H Q _ => ∃ (x : V) (s : StepD), vs = [x] ∧ TD H x s.data ∧ ∀ H', Same H H' → Q (.bl s.go) H'
theorem ok_is {f : Addr} {fd : FuncData} (F : Fun K "is_by_rows" "is_by_rows" sIb f fd) (T : Free mg) : FnOk P w K mg base CX0 1 f fd ["step"] spIb := by
  refine F.ok scIb (fun vs H Q E h => ?_) (fun cdv A outer s H vs Q E hr h => ?_)
  · obtain ⟨x, s, rfl, _⟩ := h
    rfl
  · obtain ⟨x, s, rfl, t, q⟩ := h
    obtain ⟨qa, rs, rfl, e, tr⟩ := step_parts t
    refine ⟨_, pss_cons (ps_if (pt_cmpR op_eq (pe_ix (ix_tupK (K := K) rfl) (pv 0) pe_int (fun _ _ => rfl)) pe_str (nomark _)) (pss_one (ps_ret (pe_cmpR op_eq (pe_callB (call_len_seqK (K := K) rfl) (by rfl) T.len PySem.boot_len (pa_cons (pe_ix (ix_tupK (K := K) rfl) (pv 0) pe_int (fun _ _ => rfl)) pa_nil)) pe_int (nomark _)))) (pss_nil))
      (pss_one (ps_ret (pe_cmpR (op_notIn_seqK (K := K) rfl) (pe_ix (ix_tupK (K := K) rfl) (pv 0) pe_int (fun _ _ => rfl)) (pe_tup (pa_cons pe_str (pa_cons pe_str pa_nil))) rfl))), ?_⟩
    refine ⟨_, rfl, qa, _, _, .str s.w, rfl, rfl, SqT.of e, atI_nat (j := 1) rfl, rfl, _, rfl, ?_⟩
    rw [str_dec]
    by_cases hw : s.w = "fill"
    · rw [decide_eq_true hw]
      refine iteT ?_
      unfold tRet
      dsimp only
      obtain ⟨v, u, us, zs, rfl, eu, rfl, ek⟩ := fill_parts tr hw
      refine ⟨_, rfl, qa, _, _, .ref u, rfl, rfl, SqT.of e, atI_nat (j := 3) rfl, u, _, rfl, .inr (SqT.of eu), rfl, ?_⟩
      have z := q H (Same.refl H)
      unfold StepD.go at z
      rw [if_pos hw, ek] at z
      rw [len_nil]
      exact z
    · rw [decide_eq_false hw]
      refine iteF ?_
      unfold tNext
      dsimp only
      unfold tRet
      dsimp only
      refine ⟨_, rfl, qa, _, _, .str s.w, rfl, rfl, SqT.of e, atI_nat (j := 1) rfl, (show 2 ≤ sizeLine by decide), fun t2 n2 => newO n2 fun H2 s2 e2 => ?_⟩
      refine ⟨t2, _, rfl, .inr (SqT.of e2), rfl, rfl, ?_⟩
      have z := q H2 s2
      unfold StepD.go at z
      rw [if_neg hw] at z
      rw [if_pos rfl, in2]
      exact z
def spGo : Sp := fun vs H Q _ => ∃ (x : V) (d : ProgD), vs = [x] ∧ TD H x d.data ∧ d.ok ∧ ∀ H', Same H H' → Q (.bl d.go) H'
abbrev nGb : List Str := ["program", "_", "origin", "steps", "step"]
theorem scGb : FnScope nGb ["program"] (defScope sGb) := ⟨rfl, rfl, rfl, by decide +kernel, rfl, by decide +kernel, by decide +kernel⟩
theorem len_one {mv : List V} {ds : List PyData} (h : mv.length = ds.length) : decide (V.int (((mv.length + 1 : Nat) : Int)) = V.int 1) = ds.isEmpty := by
  cases ds with
  | nil =>
    rw [h]
    rfl
  | cons d ds =>
    rw [List.length_cons] at h
    rw [h, decide_eq_false (fun e => by
      have := V.int.inj e
      omega)]
    rfl
theorem ok_goes {f fIb : Addr} {fd dIb : FuncData} (F : Fun K "goes_by_rows" "goes_by_rows" sGb f fd) (T : Free mg) (FIb : Fun K "is_by_rows" "is_by_rows" sIb fIb dIb) (bIb : Binds K dIb ["step"] []) (gIb : mg "is_by_rows" = some (.ref fIb)) : FnOk P w K mg base CX0 2 f fd ["program"] spGo := by
  have GIb : FnOk P w K mg base CX0 1 fIb dIb ["step"] spIb := ok_is FIb T
  refine F.ok scGb (fun vs H Q E h => ?_) (fun cdv A outer s H vs Q E hr h => ?_)
  · obtain ⟨x, d, rfl, _⟩ := h
    rfl
  · obtain ⟨x, d, rfl, t, ok, q⟩ := h
    obtain ⟨a, aS, aT, aI, aO, aP, aB, ov, mv, sv, rfl, A⟩ := prog_inv t
    unfold ProgD.go at q
    have lM := A.dM.len
    have lS := A.dP.len
    rw [List.length_map] at lS
    refine ⟨_, pss_cons (ps_if (pt_cmpR op_ne (pe_callB (call_len_seqK (K := K) rfl) (by rfl) T.len PySem.boot_len (pa_cons (pe_ix (ix_tupK (K := K) rfl) (pv 0) pe_int (fun _ _ => rfl)) pa_nil)) pe_int (nomark _)) (pss_one (ps_ret pe_bl)) (pss_nil))
      (pss_cons (ps_asg (pe_ix (ix_tupK (K := K) rfl) (pe_ix (ix_tupK (K := K) rfl) (pv 0) pe_int (fun _ _ => rfl)) pe_int (fun _ _ => rfl)) (pg_tup rfl (pgs_cons (pg_name (i := 1) scGb.nd rfl (Or.inl rfl)) (pgs_cons (pg_name (i := 2) scGb.nd rfl (Or.inl rfl)) (pgs_cons (pg_name (i := 3) scGb.nd rfl (Or.inl rfl)) (pgs_cons (pg_name (i := 1) scGb.nd rfl (Or.inl rfl)) pgs_nil))))))
      (pss_cons (ps_if (pt_cmpR op_ne (pe_ix (ix_tupK (K := K) rfl) (pv 2) pe_int (fun _ _ => rfl)) pe_str (nomark _)) (pss_one (ps_ret pe_bl)) (pss_nil))
      (pss_one (ps_ret (pe_callB (cr_all rfl) (by rfl) T.all (by decide +kernel) (pa_cons (pe_lc (own := [("step", 4)]) (g := gName 4) (tt := tYes) rfl scGb.nd (pi_tup (pv 3)) (blkOk_by (own := [("step", 4)]) (N := nGb) (sc := defScope sGb) (by decide +kernel)) (fun _ _ _ _ _ => (pg_name (i := 4) scGb.nd rfl (Or.inl rfl))) (fun _ _ _ _ _ => pts_nil) (fun _ _ _ _ _ => (pe_call GIb (hr.mono (by decide)) (by rfl) gIb FIb.kp bIb .nil pass0 (pa_cons (pv 4) pa_nil)))) pa_nil)))))), ?_⟩
    refine ⟨_, rfl, a, _, _, .ref aT, rfl, rfl, SqT.of A.e0, atI_nat (j := 1) rfl, aT, _, rfl, .inr (SqT.of A.eT), ?_⟩
    refine ⟨rfl, _, rfl, ?_⟩
    rw [List.length_cons, len_one lM]
    cases hm : d.more.isEmpty with
    | false =>
      refine iteT ?_
      unfold tRet
      dsimp only
      have z := q H (Same.refl H)
      rw [hm] at z
      exact z
    | true =>
      refine iteF ?_
      unfold tNext
      dsimp only
      refine ⟨_, rfl, a, _, _, .ref aT, rfl, rfl, SqT.of A.e0, atI_nat (j := 1) rfl, aT, _, _, .ref aI, rfl, rfl, SqT.of A.eT, atI_nat (j := 0) rfl, ?_⟩
      refine ⟨aI, _, rfl, SqT.of A.eI, rfl, _, _, rfl, gN ⟨_, _, rfl, gN ⟨_, _, rfl, gN ⟨_, _, rfl, gN ⟨rfl, ?_⟩⟩⟩⟩⟩
      try dsimp only
      refine ⟨_, rfl, aO, _, _, .str d.ow, rfl, rfl, SqT.of A.eO, atI_nat (j := 0) rfl, rfl, _, rfl, ?_⟩
      rw [str_dec]
      by_cases ho : d.ow = "of"
      · rw [decide_eq_true ho]
        refine iteF ?_
        refine ⟨_, rfl, aP, rfl, ⟨_, SqT.of A.eP⟩, fun D nD => ?_⟩
        refine lc_val (walk_tup (K := K) (a := aP) (xs := sv)) (Z := fun j x => sv[j]? = some x) (fun j => match d.steps[j]? with | some s => V.bl s.go | none => .non) nD (fun j G x G' e => ⟨e.1, e.2⟩) (fun G sG => SqT.of (sG _ _ A.eP)) (by have := ok.sl; omega) (fun _ => rfl) ?_ ?_
        · rintro j x G Q2 hj hx sG kk
          obtain ⟨dd, hd, td⟩ := A.dP.at hx
          rw [List.getElem?_map] at hd
          obtain ⟨s, hs, rfl⟩ := Option.map_eq_some_iff.mp hd
          refine ⟨_, rfl, x, s, rfl, td.keep (Tst.of sG), fun G2 s2 => ?_⟩
          have z := kk G2 s2
          rw [hs] at z
          exact z
        · intro G sG eD
          rw [lS, range_at d.steps (fun s => V.bl s.go) _ (fun j s hs => by rw [hs])] at eD
          refine ⟨D, d.steps.map StepD.go, rfl, SqL.of (by rw [eD, List.map_map]; rfl), ?_⟩
          dsimp only
          have z := q G sG
          rw [hm, decide_eq_true ho] at z
          rw [List.all_map]
          exact z
      · rw [decide_eq_false ho]
        refine iteT ?_
        unfold tRet
        dsimp only
        have z := q H (Same.refl H)
        rw [hm, decide_eq_false ho] at z
        exact z
theorem scGo : FnScope ["_law_plan_here", "_law_step"] ["_law_plan_here"] (defScope sGo) := ⟨rfl, rfl, rfl, by decide +kernel, rfl, by decide +kernel, by decide +kernel⟩
theorem all_take {α : Type} (f : α → Bool) {xs : List α} {j : Nat} {x : α} (h : xs[j]? = some x) (g : (xs.take j).all f = true) (gx : f x = true) : (xs.take (j + 1)).all f = true := by
  rw [List.take_succ, h, List.all_append, g]
  simp [gx]
theorem go_bad {ss : List StepD} {s : StepD} (m : s ∈ ss) (h : s.go = false) : ss.all StepD.go = false := by
  cases e : ss.all StepD.go with
  | false => rfl
  | true =>
    have := List.all_eq_true.mp e s m
    rw [h] at this
    cases this
theorem depth_strs (zs : List Str) : PyData.depthAll (zs.map PyData.str) ≤ 1 := by
  induction zs with
  | nil => simp [PyData.depthAll]
  | cons z zs ih =>
    rw [List.map_cons]
    simp only [PyData.depthAll, PyData.depth]
    exact Nat.max_le.mpr ⟨by decide, ih⟩
theorem eqv_tn (ks : List PyData) : PyData.eqv (.tuple ks) (.tuple []) = ks.isEmpty := by
  cases ks <;> simp [PyData.eqv, PyData.eqvAll]
theorem fine_shaped {s : StepD} {zs : List Str} (h : s.fine) (e : s.ks = zs.map .str) : SeqAt.shaped (.tuple s.ks) = true := by
  unfold SeqAt.shaped
  have e1 : (PyData.tuple s.ks).canLay0 = PyData.canLayAll0 s.ks := by simp only [PyData.canLay0]
  have e2 : (PyData.tuple s.ks).depth = PyData.depthAll s.ks + 1 := by simp only [PyData.depth]
  rw [e1, e2, show PyData.canLayAll0 s.ks = true from h, e, Bool.true_and]
  have := depth_strs zs
  exact decide_eq_true (by omega)
theorem len_more {mv : List V} {ds : List PyData} (h : mv.length = ds.length) : decide ((1 : Int) < ((mv.length + 1 : Nat) : Int)) = !ds.isEmpty := by
  cases ds with
  | nil =>
    rw [h]
    rfl
  | cons d ds =>
    rw [List.length_cons] at h
    rw [h, decide_eq_true (by omega)]
    rfl
theorem ok_lgoes {f : Addr} {fd : FuncData} (F : Fun K "_law_goes" "_law_goes" sGo f fd) (T : Free mg) : FnOk P w K mg base CX0 1 f fd ["_law_plan_here"] spGo := by
  refine F.ok scGo (fun vs H Q E h => ?_) (fun cdv A outer s H vs Q E hr h => ?_)
  · obtain ⟨x, d, rfl, _⟩ := h
    rfl
  · obtain ⟨x, d, rfl, t, ok, q⟩ := h
    obtain ⟨a, aS, aT, aI, aO, aP, aB, ov, mv, sv, rfl, A⟩ := prog_inv t
    unfold ProgD.go at q
    have lM := A.dM.len
    have lS := A.dP.len
    rw [List.length_map] at lS
    refine ⟨_, pss_cons (ps_if (PW.pt (pw_or (pt_cmpR op_gt (pe_callB (call_len_seqK (K := K) rfl) (by rfl) T.len PySem.boot_len (pa_cons (pe_ix (ix_tupK (K := K) rfl) (pv 0) pe_int (fun _ _ => rfl)) pa_nil)) pe_int (nomark _)) (pw_or1 (pt_cmpR op_ne (pe_ix (ix_tupK (K := K) rfl) (pe_ix (ix_tupK (K := K) rfl) (pe_ix (ix_tupK (K := K) rfl) (pe_ix (ix_tupK (K := K) rfl) (pv 0) pe_int (fun _ _ => rfl)) pe_int (fun _ _ => rfl)) pe_int (fun _ _ => rfl)) pe_int (fun _ _ => rfl)) pe_str (nomark _))))) (pss_one (ps_ret pe_bl)) (pss_nil))
      (pss_cons (ps_for PassesOwn.never rfl (pi_tup (pe_ix (ix_tupK (K := K) rfl) (pe_ix (ix_tupK (K := K) rfl) (pe_ix (ix_tupK (K := K) rfl) (pv 0) pe_int (fun _ _ => rfl)) pe_int (fun _ _ => rfl)) pe_int (fun _ _ => rfl))) (pg_name (i := 1) scGo.nd rfl (Or.inl rfl)) (pss_one (ps_if (PW.pt (pw_or (pt_cmpR (op_in_seqK (K := K) rfl) (pe_ix (ix_tupK (K := K) rfl) (pv 1) pe_int (fun _ _ => rfl)) (pe_tup (pa_cons pe_str (pa_cons pe_str pa_nil))) rfl) (pw_or1 (PW.pt (pw_and (pt_cmpR op_eq (pe_ix (ix_tupK (K := K) rfl) (pv 1) pe_int (fun _ _ => rfl)) pe_str (nomark _)) (pw_and1 (pt_cmpR (op_neD hr.units) (pe_ix (ix_tupK (K := K) rfl) (pv 1) pe_int (fun _ _ => rfl)) (pe_tup pa_nil) (nomark _)))))))) (pss_one (ps_ret pe_bl)) (pss_nil))))
      (pss_one (ps_ret pe_bl))), ?_⟩
    refine ⟨_, rfl, a, _, _, .ref aT, rfl, rfl, SqT.of A.e0, atI_nat (j := 1) rfl, aT, _, rfl, .inr (SqT.of A.eT), ?_⟩
    refine ⟨_, _, rfl, rfl, _, rfl, ?_⟩
    rw [List.length_cons, len_more lM]
    cases hm : d.more.isEmpty with
    | false =>
      refine iteT ?_
      refine iteT ?_
      unfold tRet
      dsimp only
      have z := q H (Same.refl H)
      rw [hm] at z
      exact z
    | true =>
      refine iteF ?_
      try dsimp only
      refine ⟨_, rfl, a, _, _, .ref aT, rfl, rfl, SqT.of A.e0, atI_nat (j := 1) rfl, aT, _, _, .ref aI, rfl, rfl, SqT.of A.eT, atI_nat (j := 0) rfl, aI, _, _, .ref aO, rfl, rfl, SqT.of A.eI, atI_nat (j := 1) rfl, aO, _, _, .str d.ow, rfl, rfl, SqT.of A.eO, atI_nat (j := 0) rfl, rfl, _, rfl, ?_⟩
      rw [str_dec]
      by_cases ho : d.ow = "of"
      · rw [decide_eq_true ho]
        refine iteF ?_
        unfold tNext
        dsimp only
        refine ⟨_, rfl, a, _, _, .ref aT, rfl, rfl, SqT.of A.e0, atI_nat (j := 1) rfl, aT, _, _, .ref aI, rfl, rfl, SqT.of A.eT, atI_nat (j := 0) rfl, aI, _, _, .ref aP, rfl, rfl, SqT.of A.eI, atI_nat (j := 2) rfl, aP, rfl, ⟨_, SqT.of A.eP⟩, ?_⟩
        refine for_it (walk_tup (K := K) (a := aP) (xs := sv)) (fun j σ G => Same H G ∧ (d.steps.take j).all StepD.go = true ∧ ∃ u, σ = [some (.ref a), u]) ⟨Same.refl H, rfl, none, rfl⟩ (fun j σ G _ p => SqT.of (p.1 _ _ A.eP)) ?_ ?_
        · rintro j x σ G G' hj ⟨sG, al, u, rfl⟩ ⟨rfl, hx⟩
          obtain ⟨dd, hd, td⟩ := A.dP.at hx
          rw [List.getElem?_map] at hd
          obtain ⟨s, hs, rfl⟩ := Option.map_eq_some_iff.mp hd
          obtain ⟨qa, rs, rfl, e, tr⟩ := step_parts (td.keep (Tst.of sG))
          have ms := List.mem_of_getElem? hs
          refine gN ?_
          dsimp only
          refine ⟨_, rfl, qa, _, _, .str s.w, rfl, rfl, SqT.of e, atI_nat (j := 1) rfl, (show 2 ≤ sizeLine by decide), fun t2 n2 => newO n2 fun G2 s2 e2 => ⟨t2, _, rfl, .inr (SqT.of e2), rfl, rfl, _, rfl, ?_⟩⟩
          rw [if_neg (by decide), in2]
          have bad : s.go = false → Q (.bl false) G2 := fun hg => by
            have z := q G2 (sG.trans s2)
            rw [hm, decide_eq_true ho, go_bad ms hg] at z
            exact z
          cases hin : (decide (s.w = "unlike") || decide (s.w = "look")) with
          | true =>
            refine iteT ?_
            refine iteT ?_
            unfold tRet
            dsimp only
            refine bad ?_
            unfold StepD.go
            by_cases hw : s.w = "fill"
            · rw [hw] at hin
              exact absurd hin (by decide +kernel)
            · rw [if_neg hw, hin]
              rfl
          | false =>
            refine iteF ?_
            refine ⟨_, rfl, qa, _, _, .str s.w, rfl, rfl, SqT.of (s2 _ _ e), atI_nat (j := 1) rfl, rfl, _, rfl, ?_⟩
            rw [str_dec]
            by_cases hw : s.w = "fill"
            · rw [decide_eq_true hw]
              refine iteT ?_
              obtain ⟨v, u2, us, zs, rfl, eu, rfl, ek⟩ := fill_parts tr hw
              refine ⟨_, rfl, qa, _, _, .ref u2, rfl, rfl, SqT.of (s2 _ _ e), atI_nat (j := 3) rfl, (show 0 ≤ sizeLine by decide), fun t3 n3 => newO n3 fun G3 s3 e3 => ?_⟩
              have du : TD G3 (.ref u2) (.tuple s.ks) := by
                rw [ek]
                exact .mk (s3 _ _ (s2 _ _ eu)) (.strs _)
              refine ⟨.tuple s.ks, .tuple [], du.dp, (TD.mk (ds := []) e3 trivial).dp, fine_shaped (ok.ss s ms).2 ek, by decide, _, rfl, ?_⟩
              rw [eqv_tn]
              cases hk : s.ks.isEmpty with
              | false =>
                refine iteT ?_
                unfold tRet
                dsimp only
                have hg : s.go = false := by
                  unfold StepD.go
                  rw [if_pos hw, hk]
                have z := q G3 ((sG.trans s2).trans s3)
                rw [hm, decide_eq_true ho, go_bad ms hg] at z
                exact z
              | true =>
                refine iteF ?_
                dsimp only
                refine ⟨(sG.trans s2).trans s3, all_take _ hs al ?_, _, rfl⟩
                unfold StepD.go
                rw [if_pos hw, hk]
            · rw [decide_eq_false hw]
              refine iteF ?_
              refine iteF ?_
              dsimp only
              refine ⟨sG.trans s2, all_take _ hs al ?_, _, rfl⟩
              unfold StepD.go
              rw [if_neg hw, hin]
              rfl
        · rintro σ G ⟨sG, al, u, rfl⟩
          rw [List.take_of_length_le (by omega)] at al
          try dsimp only
          unfold tRet
          dsimp only
          have z := q G sG
          rw [hm, decide_eq_true ho, al] at z
          exact z
      · rw [decide_eq_false ho]
        refine iteT ?_
        unfold tRet
        dsimp only
        have z := q H (Same.refl H)
        rw [hm, decide_eq_false ho] at z
        exact z
end
end K86
set_option Elab.async false
set_option linter.all false
set_option pp.maxSteps 4000
set_option maxRecDepth 100000
set_option maxHeartbeats 4000000
/-! k86: the law's look -/
namespace K86
open PySem PySem.Spec PyProof.Rows L2 Bs Xg TL Xm Xs Gn Gd
abbrev sRi : Stmt := top 24
def one {α : Type} : List α → List α → List α
  | [], [a] => [a]
  | _, _ => []
theorem kb_one {K : PySem.W.Frag} {x qual : Str} {st : Stmt} {f : Addr} {fd : FuncData} {p : Str} (F : Fun K x qual st f fd)
    (h : ∀ (kV doc pm : Value) (an : Option Addr) (cdv ct : Value) (a : Value), bindArgs (PySem.W.fnOf x qual (defArgs st) (defBody st) (defScope st) .none kV doc pm an cdv ct) ⟨[], [(p, a)]⟩ = pure [(p, a)]) :
    KBinds K fd [p] [p] one one := by
  obtain ⟨oc, od, kV, doc, pm, an, cdv, ct, osl, rfl, lk, hcd⟩ := F.ex
  constructor
  · intro s us ws _ hl
    match us, ws, hl with
    | [], [a], _ => exact .of_eq (h kV doc pm an cdv ct a)
    | [], [], hl => exact absurd hl (by simp [one])
    | [], _ :: _ :: _, hl => exact absurd hl (by simp [one])
    | _ :: _, _, hl => exact absurd hl (by simp [one])
  · intro vs us zs ws h1 h2
    cases h1 with
    | nil =>
      cases h2 with
      | nil => exact .nil
      | cons a h2 =>
        cases h2 with
        | nil => exact .cons a .nil
        | cons b h2 => exact .nil
    | cons a h1 =>
      cases h2 with
      | nil => exact .nil
      | cons b h2 => exact .nil
theorem three_rp : ∀ b : Bool, (PyData.list [.bool b, .bool b, .bool b]).showable = true ∧ (PyData.list [.bool b, .bool b, .bool b]).depth < 60 ∧ (PyData.list [.bool b, .bool b, .bool b]).shown.length ≤ sizeLine := by decide +kernel
theorem three_dr {K : PySem.W.Frag} {H : Hp} {l : Addr} {b : Bool} (e : H l = some (.lst [.bl b, .bl b, .bl b])) : Dr K H (.ref l) (.list [.bool b, .bool b, .bool b]) :=
  .q (Dq.lst [(.bl b, .bool b), (.bl b, .bool b), (.bl b, .bool b)] (SqL.of e) fun p hp => by
    simp only [List.mem_cons, List.not_mem_nil, or_false, or_self] at hp
    rw [hp]
    exact .bl b)
structure GoF (K : PySem.W.Frag) (mg : Str → Option Value) (fIb fGb fGo : Addr) (dIb dGb dGo : FuncData) : Prop where
  Ib : Fun K "is_by_rows" "is_by_rows" sIb fIb dIb
  bIb : Binds K dIb ["step"] []
  gIb : mg "is_by_rows" = some (.ref fIb)
  Gb : Fun K "goes_by_rows" "goes_by_rows" sGb fGb dGb
  bGb : Binds K dGb ["program"] []
  kGb : KBinds K dGb ["program"] ["program"] one one
  gGb : mg "goes_by_rows" = some (.ref fGb)
  Go : Fun K "_law_goes" "_law_goes" sGo fGo dGo
  bGo : Binds K dGo ["_law_plan_here"] []
  gGo : mg "_law_goes" = some (.ref fGo)
section
variable {P : Program} {w : World} {K : PySem.W.Frag} {mg : Str → Option Value} {base : Heap} {fIb fGb fGo : Addr} {dIb dGb dGo : FuncData}
theorem scRi : FnScope ["_law_plan_here", "_law_kept", "_law_due", "_law_told"] ["_law_plan_here"] (defScope sRi) := ⟨rfl, rfl, rfl, by decide +kernel, rfl, by decide +kernel, by decide +kernel⟩
def spRi : Sp := fun vs H Q _ => ∃ (x : V) (d : ProgD), vs = [x] ∧ TD H x d.data ∧ d.ok ∧ ∀ H', Same H H' → Q (.bl true) H'
theorem ok_right {f : Addr} {fd : FuncData} (F : Fun K "_law_right" "_law_right" sRi f fd) (T : Free mg) (sm : ∃ mm, base.Ns sysModules mm) (D : GoF K mg fIb fGb fGo dIb dGb dGo) : FG P w K mg base 3 f fd ["_law_plan_here"] spRi := by
  have GGb : FnOk P w K mg base CX0 2 fGb dGb ["program"] spGo := ok_goes D.Gb T D.Ib D.bIb D.gIb
  have GGo : FnOk P w K mg base CX0 1 fGo dGo ["_law_plan_here"] spGo := ok_lgoes D.Go T
  have FGb := D.Gb
  have bGb := D.bGb
  have kGb := D.kGb
  have gGb := D.gGb
  have FGo := D.Go
  have bGo := D.bGo
  have gGo := D.gGo
  refine okG F scRi (fun vs H Q E h => ?_) (fun cdv A outer s H vs Q E ng hr h => ?_)
  · obtain ⟨x, d, rfl, _⟩ := h
    rfl
  · obtain ⟨x, d, rfl, t, ok, q⟩ := h
    have sh := ProgD.sh ok
    have dep : d.data.depth < 60 := Nat.lt_of_le_of_lt sh.2.2.1 (by decide)
    have len : d.data.shown.length ≤ sizeLine := PyData.shown_fits (by decide) (by decide) sh.1 (Nat.le_trans sh.2.2.2 (by decide))
    refine ⟨_, pss_cons (ps_par (i := 1) (j := 2) rfl scRi.nd rfl rfl (by decide) rfl rfl (pa_cons (pe_callB (call_reprZ (K := K) rfl ng hr.units sm) (by rfl) T.repr (by decide +kernel) (pa_cons (pv 0) pa_nil)) (pa_cons (pe_call GGo (hr.mono (by decide)) (by rfl) gGo FGo.kp bGo .nil pass0 (pa_cons (pv 0) pa_nil)) pa_nil)) (by rfl))
      (pss_cons (ps_set (i := 3) scRi.nd rfl (Or.inl rfl) (pe_lst (pa_cons (pe_call GGb (hr.mono (by decide)) (by rfl) gGb FGb.kp bGb .nil pass0 (pa_cons (pv 0) pa_nil)) (pa_cons (callK0 GGb (hr.mono (by decide)) (by rfl) gGb FGb.kp kGb pass0 (pk_cons (pv 0) pk_nil)) (pa_cons (pe_call GGb (hr.mono (by decide)) (by rfl) gGb FGb.kp bGb .nil pass0 (pa_cons (pv 0) pa_nil)) pa_nil)))))
      (pss_one (ps_ret (pe_and (pe_cmpR op_eq (pe_callB (call_reprZ (K := K) rfl ng hr.units sm) (by rfl) T.repr (by decide +kernel) (pa_cons (pv 3) pa_nil)) (pe_callB (call_reprZ (K := K) rfl ng hr.units sm) (by rfl) T.repr (by decide +kernel) (pa_cons (pe_lst (pa_cons (pv 2) (pa_cons (pv 2) (pa_cons (pv 2) pa_nil)))) pa_nil)) (nomark _)) (pe_one (pe_cmpR op_eq (pe_callB (call_reprZ (K := K) rfl ng hr.units sm) (by rfl) T.repr (by decide +kernel) (pa_cons (pv 0) pa_nil)) (pv 1) (nomark _))))))), ?_⟩
    refine ⟨_, rfl, x, _, rfl, t.dr, rfl, sh.2.1, dep, len, _, rfl, x, d, rfl, t, ok, fun H1 s1 => ⟨_, _, rfl, ?_⟩⟩
    try dsimp only
    refine ⟨_, rfl, x, d, rfl, t.keep (Tst.of s1), ok, fun H2 s2 => ?_⟩
    refine ⟨_, rfl, x, d, rfl, t.keep (Tst.of (s1.trans s2)), ok, fun H3 s3 => ?_⟩
    refine ⟨_, rfl, x, d, rfl, t.keep (Tst.of ((s1.trans s2).trans s3)), ok, fun H4 s4 => ?_⟩
    refine ⟨(show 3 ≤ sizeLine by decide), fun L m => newO m fun H5 s5 e5 => ?_⟩
    refine gN ?_
    try dsimp only
    unfold tRet
    dsimp only
    have r3 := three_rp d.go
    have s15 := (((s1.trans s2).trans s3).trans s4).trans s5
    refine ⟨_, rfl, .ref L, _, rfl, three_dr e5, rfl, r3.1, r3.2.1, r3.2.2, ?_⟩
    refine ⟨_, rfl, _, rfl, _, rfl, (show 3 ≤ sizeLine by decide), fun L2 m2 => newO m2 fun H6 s6 e6 => ?_⟩
    refine ⟨.ref L2, _, rfl, three_dr e6, rfl, r3.1, r3.2.1, r3.2.2, ?_⟩
    refine ⟨rfl, _, rfl, ?_⟩
    rw [decide_eq_true rfl]
    refine iteT ?_
    have s16 := s15.trans s6
    refine ⟨_, rfl, x, _, rfl, (t.keep (Tst.of s16)).dr, rfl, sh.2.1, dep, len, _, rfl, rfl, ?_⟩
    rw [decide_eq_true rfl]
    exact q _ s16
end
end K86
set_option Elab.async false
set_option linter.all false
set_option pp.maxSteps 4000
set_option maxRecDepth 100000
set_option maxHeartbeats 4000000
/-! k86: the law -/
namespace K86
open PySem PySem.Spec PyProof.Rows L2 Bs Xg TL Xm Xs Gn Gd
abbrev sLaw : Stmt := top 25
structure LawF (K : PySem.W.Frag) (mg : Str → Option Value) (fBx fPl fMs fMt fMo fRi : Addr) (dBx dPl dMs dMt dMo dRi : FuncData) : Prop where
  Bx : Fun K "_law_box" "_law_box" sBx fBx dBx
  bBx : Binds K dBx ["_law_script", "_law_k"] []
  gBx : mg "_law_box" = some (.ref fBx)
  Pl : Fun K "_law_plan" "_law_plan" sPl fPl dPl
  bPl : Binds K dPl ["_law_box_here", "_law_most"] []
  gPl : mg "_law_plan" = some (.ref fPl)
  Ms : Fun K "_law_more_step" "_law_more_step" sMs fMs dMs
  bMs : Binds K dMs ["_law_box_here", "_law_plan_here"] []
  gMs : mg "_law_more_step" = some (.ref fMs)
  Mt : Fun K "_law_more_table" "_law_more_table" sMt fMt dMt
  bMt : Binds K dMt ["_law_box_here", "_law_plan_here"] []
  gMt : mg "_law_more_table" = some (.ref fMt)
  Mo : Fun K "_law_more_source" "_law_more_source" sMo fMo dMo
  bMo : Binds K dMo ["_law_box_here", "_law_plan_here"] []
  gMo : mg "_law_more_source" = some (.ref fMo)
  Ri : Fun K "_law_right" "_law_right" sRi fRi dRi
  bRi : Binds K dRi ["_law_plan_here"] []
  gRi : mg "_law_right" = some (.ref fRi)
section
variable {P : Program} {w : World} {K : PySem.W.Frag} {mg : Str → Option Value} {base : Heap}
variable {fBx fPl fMs fMt fMo fRi : Addr} {dBx dPl dMs dMt dMo dRi : FuncData}
abbrev nLaw : List Str := ["_law_script", "_law_k", "_law_box_here", "_law_turn", "_law_plan_here", "_law_some", "_law_its"]
theorem scLaw : FnScope nLaw ["_law_script"] (defScope sLaw) := ⟨rfl, rfl, rfl, by decide +kernel, rfl, by decide +kernel, by decide +kernel⟩
def spLaw (K : PySem.W.Frag) : Sp := fun vs H Q _ => ∃ (a : Addr) (ns : List Int), vs = [.ref a] ∧ SqL K H a (ns.map V.int) ∧ ns.length ≤ 63 ∧ ∀ H', Q (.bl true) H'
theorem ok_law {f : Addr} {fd : FuncData} (F : Fun K "law" "law" sLaw f fd) (T : Free mg) (D : LawF K mg fBx fPl fMs fMt fMo fRi dBx dPl dMs dMt dMo dRi)
    (GPl : FnOk P w K mg base CX0 6 fPl dPl ["_law_box_here", "_law_most"] spPl) (GMs : FnOk P w K mg base CX0 3 fMs dMs ["_law_box_here", "_law_plan_here"] spMs) (GMt : FnOk P w K mg base CX0 3 fMt dMt ["_law_box_here", "_law_plan_here"] spMt) (GMo : FnOk P w K mg base CX0 4 fMo dMo ["_law_box_here", "_law_plan_here"] spMt) (GRi : FG P w K mg base 3 fRi dRi ["_law_plan_here"] spRi) :
    FG P w K mg base 7 f fd ["_law_script"] (spLaw K) := by
  have GBx : FnOk P w K mg base CX0 1 fBx dBx ["_law_script", "_law_k"] (spHand K) := ok_box D.Bx T
  have FBx := D.Bx
  have bBx := D.bBx
  have gBx := D.gBx
  have FPl := D.Pl
  have bPl := D.bPl
  have gPl := D.gPl
  have FMs := D.Ms
  have bMs := D.bMs
  have gMs := D.gMs
  have FMt := D.Mt
  have bMt := D.bMt
  have gMt := D.gMt
  have FMo := D.Mo
  have bMo := D.bMo
  have gMo := D.gMo
  have FRi := D.Ri
  have bRi := D.bRi
  have gRi := D.gRi
  refine okG F scLaw (fun vs H Q E h => ?_) (fun cdv A outer s H vs Q E ng hr h => ?_)
  · obtain ⟨a, ns, rfl, _⟩ := h
    rfl
  · obtain ⟨a, ns, rfl, hS, hl, q⟩ := h
    refine ⟨_, pss_cons (ps_for PassesOwn.never rfl (pi_range1 (by rfl) T.range (pa_cons (pe_op op_add pe_int (pe_callB (call_len_seqK (K := K) rfl) (by rfl) T.len PySem.boot_len (pa_cons (pe_slice sl_list (pv 0) po_none (po_some pe_int)) pa_nil))) pa_nil)) (pg_name (i := 1) scLaw.nd rfl (Or.inl rfl)) (pss_cons (ps_set (i := 2) scLaw.nd rfl (Or.inl rfl) (pe_call GBx (hr.mono (by decide)) (by rfl) gBx FBx.kp bBx .nil pass0 (pa_cons (pv 0) (pa_cons (pv 1) pa_nil))))
      (pss_one (ps_for PassesOwn.never rfl (pi_range1 (by rfl) T.range (pa_cons pe_int pa_nil)) (pg_name (i := 3) scLaw.nd rfl (Or.inl rfl)) (pss_cons (ps_set (i := 4) scLaw.nd rfl (Or.inl rfl) (pe_call GPl (hr.mono (by decide)) (by rfl) gPl FPl.kp bPl .nil pass0 (pa_cons (pv 2) (pa_cons pe_int pa_nil))))
      (pss_cons (ps_set (i := 5) scLaw.nd rfl (Or.inl rfl) (pe_lst (pa_cons (pv 4) (pa_cons (pe_call GMs (hr.mono (by decide)) (by rfl) gMs FMs.kp bMs .nil pass0 (pa_cons (pv 2) (pa_cons (pv 4) pa_nil))) (pa_cons (pe_call GMs (hr.mono (by decide)) (by rfl) gMs FMs.kp bMs .nil pass0 (pa_cons (pv 2) (pa_cons (pv 4) pa_nil))) pa_nil)))))
      (pss_cons (ps_set (i := 5) scLaw.nd rfl (Or.inl rfl) (pe_op op_cat (pv 5) (pe_lst (pa_cons (pe_call GMt (hr.mono (by decide)) (by rfl) gMt FMt.kp bMt .nil pass0 (pa_cons (pv 2) (pa_cons (pv 4) pa_nil))) (pa_cons (pe_call GMt (hr.mono (by decide)) (by rfl) gMt FMt.kp bMt .nil pass0 (pa_cons (pv 2) (pa_cons (pe_ix (ix_listK (K := K) rfl) (pv 5) pe_int (fun _ _ => rfl)) pa_nil))) pa_nil)))))
      (pss_cons (ps_set (i := 5) scLaw.nd rfl (Or.inl rfl) (pe_op op_cat (pv 5) (pe_lst (pa_cons (pe_call GMo (hr.mono (by decide)) (by rfl) gMo FMo.kp bMo .nil pass0 (pa_cons (pv 2) (pa_cons (pv 4) pa_nil))) (pa_cons (pe_call GMo (hr.mono (by decide)) (by rfl) gMo FMo.kp bMo .nil pass0 (pa_cons (pv 2) (pa_cons (pe_ix (ix_listK (K := K) rfl) (pv 5) pe_int (fun _ _ => rfl)) pa_nil))) pa_nil)))))
      (pss_one (ps_if (pt_not (pt_val (pe_callB (cr_all rfl) (by rfl) T.all (by decide +kernel) (pa_cons (pe_lc (own := [("_law_its", 6)]) (g := gName 6) (tt := tYes) rfl scLaw.nd (pi_list (pv 5)) (blkOk_by (own := [("_law_its", 6)]) (N := nLaw) (sc := defScope sLaw) (by decide +kernel)) (fun _ _ _ _ _ => (pg_name (i := 6) scLaw.nd rfl (Or.inl rfl))) (fun _ _ _ _ _ => pts_nil) (fun _ _ _ _ _ => (callG GRi ng (hr.mono (by decide)) (by rfl) gRi FRi.kp bRi .nil (pa_cons (pv 6) pa_nil)))) pa_nil)))) (pss_one (ps_ret pe_bl)) (pss_nil)))))))))))
      (pss_one (ps_ret pe_bl)), ?_⟩
    refine ⟨_, rfl, 4, rfl, a, _, rfl, hS, fun D0 n0 => newO n0 fun H0 s0 e0 => ?_⟩
    have l4 : (cutV (ns.map V.int) none (some 4)).length ≤ 4 := by
      rw [show (4 : Int) = ((4 : Nat) : Int) from rfl, cut_to, List.length_take]
      omega
    refine ⟨D0, _, rfl, .inl (SqL.of e0), _, _, rfl, rfl, ?_⟩
    refine ⟨_, rfl, by omega, by omega, for_it (walk_range (lo := 0) (n := Int.toNat _)) (fun i σ G => SqL K G a (ns.map V.int) ∧ ∃ u1 u2 u3 u4 u5, σ = [some (.ref a), u1, u2, u3, u4, u5, none]) ⟨sameL s0 hS, none, none, none, none, none, rfl⟩ (fun _ _ _ _ _ => trivial) ?_ ?_⟩
    · rintro i x σ G H1 hi ⟨hS1, u1, u2, u3, u4, u5, rfl⟩ ⟨rfl, rfl⟩
      have i4 : i < 64 := by omega
      refine gN ?_
      dsimp only
      rw [Int.zero_add]
      refine ⟨_, rfl, _, rfl, a, ns, i, rfl, hS1, hl, i4, fun h H2 nh s2 hd2 => ?_⟩
      refine gN ?_
      try dsimp only
      refine ⟨4, rfl, by decide, by decide, for_it (walk_range (lo := 0) (n := 4)) (fun j σ G => HandAt G h (500 * j) ∧ Same H1 G ∧ ∃ u3 u4 u5, σ = [some (.ref a), some (.int (i : Int)), some (.ref h), u3, u4, u5, none]) ⟨hd2, s2, _, _, _, rfl⟩ (fun _ _ _ _ _ => trivial) ?_ ?_⟩
      · rintro j x σ G1 G hj ⟨hd, sG, v3, v4, v5, rfl⟩ ⟨rfl, rfl⟩
        refine gN ?_
        dsimp only
        refine ⟨_, rfl, h, 500 * j, 6, rfl, hd, by omega, by decide, by decide, fun a1 p1 G1 t1 ok1 hd1 b1 => ?_⟩
        refine gN ?_
        try dsimp only
        have ok7 : p1.ok 7 42 := ok1.up (by decide) (by decide)
        refine ⟨_, rfl, _, rfl, _, rfl, h, a1, _, p1, rfl, hd1, by omega, t1, ok1, fun a2 p2 G2 t2 ok2 hd2 b2 => ?_⟩
        have k2 := Tst.hand hd1 b2
        refine ⟨_, rfl, _, rfl, h, a1, _, p1, rfl, hd2, by omega, t1.keep k2, ok1, fun a3 p3 G3 t3 ok3 hd3 b3 => ?_⟩
        have k3 := Tst.hand hd2 b3
        refine ⟨(show 3 ≤ sizeLine by decide), fun L1 m1 => newO m1 fun G4 s4 e4 => ?_⟩
        have k4 := Tst.of s4
        have hd4 := hd3.mono s4 (Nat.le_refl _)
        have L1h : L1 ≠ h := (hd3.fresh m1).symm
        refine gN ?_
        try dsimp only
        refine ⟨_, rfl, _, rfl, _, rfl, h, a1, _, p1, rfl, hd4, by omega, t1.keep ((k2.trans k3).trans k4), ok7, fun a4 d4 G5 t4 ok4 hd5 b5 => ?_⟩
        have k5 := Tst.hand hd4 b5
        have e5 := b5 L1 _ L1h e4
        refine ⟨_, rfl, _, rfl, L1, _, _, .ref a2, rfl, rfl, SqL.of e5, atI_nat (j := 1) rfl, h, a2, _, p2, rfl, hd5, by omega, t2.keep ((k3.trans k4).trans k5), ok2, fun a5 d5 G6 t5 ok5 hd6 b6 => ?_⟩
        have k6 := Tst.hand hd5 b6
        have e6 := b6 L1 _ L1h e5
        refine ⟨(show 2 ≤ sizeLine by decide), fun L2 m2 => newO m2 fun G7 s7 e7 => ?_⟩
        refine ⟨L1, L2, _, _, rfl, rfl, s7 _ _ e6, e7, (show 5 ≤ sizeLine by decide), fun L3 m3 => newO m3 fun G8 s8 e8 => ?_⟩
        have k8 := Tst.of (s7.trans s8)
        have hd8 := hd6.mono (s7.trans s8) (Nat.le_refl _)
        have L3h : L3 ≠ h := ((hd6.mono s7 (Nat.le_refl _)).fresh m3).symm
        refine gN ?_
        try dsimp only
        refine ⟨_, rfl, _, rfl, _, rfl, h, a1, _, p1, rfl, hd8, by omega, t1.keep (((((k2.trans k3).trans k4).trans k5).trans k6).trans k8), ok7, fun a6 d6 G9 t6 ok6 hd9 b9 => ?_⟩
        have k9 := Tst.hand hd8 b9
        have e9 := b9 L3 _ L3h e8
        refine ⟨_, rfl, _, rfl, L3, _, _, .ref a2, rfl, rfl, SqL.of e9, atI_nat (j := 1) rfl, h, a2, _, p2, rfl, hd9, by omega, t2.keep (((((k3.trans k4).trans k5).trans k6).trans k8).trans k9), ok2, fun a7 d7 G10 t7 okk7 hd10 b10 => ?_⟩
        have k10 := Tst.hand hd9 b10
        have e10 := b10 L3 _ L3h e9
        refine ⟨(show 2 ≤ sizeLine by decide), fun L4 m4 => newO m4 fun G11 s11 e11 => ?_⟩
        refine ⟨L3, L4, _, _, rfl, rfl, s11 _ _ e10, e11, (show 7 ≤ sizeLine by decide), fun L5 m5 => newO m5 fun G12 s12 e12 => ?_⟩
        have k12 := Tst.of (s11.trans s12)
        refine gN ?_
        try dsimp only
        have k1012 := k10.trans k12
        have k912 := k9.trans k1012
        have k812 := k8.trans k912
        have k612 := k6.trans k812
        have k512 := k5.trans k612
        have k412 := k4.trans k512
        have k312 := k3.trans k412
        have k212 := k2.trans k312
        have f1 : ∃ d : ProgD, TD G12 (.ref a1) d.data ∧ d.ok := ⟨_, t1.keep k212, PlanD.prog_ok ok1 (by decide) (by decide)⟩
        have f2 : ∃ d : ProgD, TD G12 (.ref a2) d.data ∧ d.ok := ⟨_, t2.keep k312, PlanD.prog_ok ok2 (by decide) (by decide)⟩
        have f3 : ∃ d : ProgD, TD G12 (.ref a3) d.data ∧ d.ok := ⟨_, t3.keep k412, PlanD.prog_ok ok3 (by decide) (by decide)⟩
        have f4 : ∃ d : ProgD, TD G12 (.ref a4) d.data ∧ d.ok := ⟨_, t4.keep k612, ok4⟩
        have f5 : ∃ d : ProgD, TD G12 (.ref a5) d.data ∧ d.ok := ⟨_, t5.keep k812, ok5⟩
        have f6 : ∃ d : ProgD, TD G12 (.ref a6) d.data ∧ d.ok := ⟨_, t6.keep k1012, ok6⟩
        have f7 : ∃ d : ProgD, TD G12 (.ref a7) d.data ∧ d.ok := ⟨_, t7.keep k12, okk7⟩
        have e12' : G12 L5 = some (.lst [.ref a1, .ref a2, .ref a3, .ref a4, .ref a5, .ref a6, .ref a7]) := e12
        refine ⟨_, rfl, L5, rfl, ⟨_, SqL.of e12'⟩, fun D nD => ?_⟩
        refine lc_val (walk_list (K := K) (a := L5) (xs := [.ref a1, .ref a2, .ref a3, .ref a4, .ref a5, .ref a6, .ref a7])) (fun _ => .bl true) nD yat (fun G s => SqL.of (s _ _ e12')) (show 7 < 100000 by decide) (fun _ => rfl) ?_ ?_
        · rintro jj x G' Q2 hjj hx sG' kk
          have mx := List.mem_of_getElem? hx
          simp only [List.mem_cons, List.not_mem_nil, or_false] at mx
          obtain ⟨d, td, okd⟩ : ∃ d : ProgD, TD G12 x d.data ∧ d.ok := by
            rcases mx with rfl | rfl | rfl | rfl | rfl | rfl | rfl
            · exact f1
            · exact f2
            · exact f3
            · exact f4
            · exact f5
            · exact f6
            · exact f7
          exact ⟨_, rfl, x, d, rfl, td.keep (Tst.of sG'), okd, fun G2 s2 => kk G2 s2⟩
        · intro G13 s13 e13
          refine ⟨D, [true, true, true, true, true, true, true], rfl, SqL.of (by rw [e13]; rfl), true, rfl, ?_⟩
          refine iteF ?_
          unfold tNext
          dsimp only
          have B : But h G G13 := (((((((b1.trans b2).trans b3).trans (But.of s4)).trans b5).trans b6).trans (But.of (s7.trans s8))).trans b9).trans (b10.trans (But.of ((s11.trans s12).trans s13)))
          refine ⟨(hd10.mono ((s11.trans s12).trans s13) (Nat.le_refl _)).up (by omega), fun b o e => B b o (ne_of_none e nh) (sG b o e), _, _, _, rfl⟩
      · rintro σ G ⟨hd, sG, v3, v4, v5, rfl⟩
        exact ⟨sameL sG hS1, _, _, _, _, _, rfl⟩
    · rintro σ G _
      exact q _
end
end K86
set_option Elab.async false
set_option linter.all false
set_option maxRecDepth 100000
set_option maxHeartbeats 8000000
namespace K86
open PySem PySem.Spec PyProof.Rows L2 Bs Xg TL Xm Xs Gn Gd
theorem all_mk {l : PySem.W.OpenLaw} {w : World} {K : PySem.W.Frag} {h : Heap} {mg : Str → Option Value} {fa f1 f2 f3 f4 f5 f6 f7 f8 f9 f10 f11 f12 f13 f14 f15 f16 f17 f18 f19 f20 f21 f22 f23 f24 : Addr} (X : K.In h) (G : h.Ns mainGlobals mg) (hfa : mg "law" = some (.ref fa))
    {od1 an1 od2 an2 od3 an3 od4 an4 od5 an5 od6 an6 od7 an7 od8 an8 od9 an9 od10 an10 od11 an11 od12 an12 od13 an13 od14 an14 od15 an15 od16 an16 od17 an17 od18 an18 od19 an19 od20 an20 od21 an21 od22 an22 od23 an23 od24 an24 : Option Addr} {sl1 sl2 sl3 sl4 sl5 sl6 sl7 sl8 sl9 sl10 sl11 sl12 sl13 sl14 sl15 sl16 sl17 sl18 sl19 sl20 sl21 sl22 sl23 sl24 : Array (Option Value)}
    {oc1 kV1 dc1 pm1 cd1 ct1 oc2 kV2 dc2 pm2 cd2 ct2 oc3 kV3 dc3 pm3 cd3 ct3 oc4 kV4 dc4 pm4 cd4 ct4 oc5 kV5 dc5 pm5 cd5 ct5 oc6 kV6 dc6 pm6 cd6 ct6 oc7 kV7 dc7 pm7 cd7 ct7 oc8 kV8 dc8 pm8 cd8 ct8 oc9 kV9 dc9 pm9 cd9 ct9 oc10 kV10 dc10 pm10 cd10 ct10 oc11 kV11 dc11 pm11 cd11 ct11 oc12 kV12 dc12 pm12 cd12 ct12 oc13 kV13 dc13 pm13 cd13 ct13 oc14 kV14 dc14 pm14 cd14 ct14 oc15 kV15 dc15 pm15 cd15 ct15 oc16 kV16 dc16 pm16 cd16 ct16 oc17 kV17 dc17 pm17 cd17 ct17 oc18 kV18 dc18 pm18 cd18 ct18 oc19 kV19 dc19 pm19 cd19 ct19 oc20 kV20 dc20 pm20 cd20 ct20 oc21 kV21 dc21 pm21 cd21 ct21 oc22 kV22 dc22 pm22 cd22 ct22 oc23 kV23 dc23 pm23 cd23 ct23 oc24 kV24 dc24 pm24 cd24 ct24 : Value}
    (a1 : PySem.W.nsIn K mainGlobals "goes_by_rows" = some (some (.ref f1)))
    (l1 : K.lookup f1 = some ⟨oc1, od1, .func (PySem.W.fnOf "goes_by_rows" "goes_by_rows" (defArgs sGb) (defBody sGb) (defScope sGb) .none kV1 dc1 pm1 an1 cd1 ct1), sl1⟩)
    (c1 : PySem.W.codeIn K cd1 "goes_by_rows" = true)
    (k1 : PySem.W.keepIn K (.ref f1) = true)
    (a2 : PySem.W.nsIn K mainGlobals "is_by_rows" = some (some (.ref f2)))
    (l2 : K.lookup f2 = some ⟨oc2, od2, .func (PySem.W.fnOf "is_by_rows" "is_by_rows" (defArgs sIb) (defBody sIb) (defScope sIb) .none kV2 dc2 pm2 an2 cd2 ct2), sl2⟩)
    (c2 : PySem.W.codeIn K cd2 "is_by_rows" = true)
    (k2 : PySem.W.keepIn K (.ref f2) = true)
    (a3 : PySem.W.nsIn K mainGlobals "_law_box" = some (some (.ref f3)))
    (l3 : K.lookup f3 = some ⟨oc3, od3, .func (PySem.W.fnOf "_law_box" "_law_box" (defArgs sBx) (defBody sBx) (defScope sBx) .none kV3 dc3 pm3 an3 cd3 ct3), sl3⟩)
    (c3 : PySem.W.codeIn K cd3 "_law_box" = true)
    (k3 : PySem.W.keepIn K (.ref f3) = true)
    (a4 : PySem.W.nsIn K mainGlobals "_law_take" = some (some (.ref f4)))
    (l4 : K.lookup f4 = some ⟨oc4, od4, .func (PySem.W.fnOf "_law_take" "_law_take" (defArgs sTk) (defBody sTk) (defScope sTk) .none kV4 dc4 pm4 an4 cd4 ct4), sl4⟩)
    (c4 : PySem.W.codeIn K cd4 "_law_take" = true)
    (k4 : PySem.W.keepIn K (.ref f4) = true)
    (a5 : PySem.W.nsIn K mainGlobals "_law_pick" = some (some (.ref f5)))
    (l5 : K.lookup f5 = some ⟨oc5, od5, .func (PySem.W.fnOf "_law_pick" "_law_pick" (defArgs sPk) (defBody sPk) (defScope sPk) .none kV5 dc5 pm5 an5 cd5 ct5), sl5⟩)
    (c5 : PySem.W.codeIn K cd5 "_law_pick" = true)
    (k5 : PySem.W.keepIn K (.ref f5) = true)
    (a6 : PySem.W.nsIn K mainGlobals "_law_words" = some (some (.ref f6)))
    (l6 : K.lookup f6 = some ⟨oc6, od6, .func (PySem.W.fnOf "_law_words" "_law_words" (defArgs sWo) (defBody sWo) (defScope sWo) .none kV6 dc6 pm6 an6 cd6 ct6), sl6⟩)
    (c6 : PySem.W.codeIn K cd6 "_law_words" = true)
    (k6 : PySem.W.keepIn K (.ref f6) = true)
    (a7 : PySem.W.nsIn K mainGlobals "_law_cells" = some (some (.ref f7)))
    (l7 : K.lookup f7 = some ⟨oc7, od7, .func (PySem.W.fnOf "_law_cells" "_law_cells" (defArgs sCe) (defBody sCe) (defScope sCe) .none kV7 dc7 pm7 an7 cd7 ct7), sl7⟩)
    (c7 : PySem.W.codeIn K cd7 "_law_cells" = true)
    (k7 : PySem.W.keepIn K (.ref f7) = true)
    (a8 : PySem.W.nsIn K mainGlobals "_law_shape" = some (some (.ref f8)))
    (l8 : K.lookup f8 = some ⟨oc8, od8, .func (PySem.W.fnOf "_law_shape" "_law_shape" (defArgs sSh) (defBody sSh) (defScope sSh) .none kV8 dc8 pm8 an8 cd8 ct8), sl8⟩)
    (c8 : PySem.W.codeIn K cd8 "_law_shape" = true)
    (k8 : PySem.W.keepIn K (.ref f8) = true)
    (a9 : PySem.W.nsIn K mainGlobals "_law_worth" = some (some (.ref f9)))
    (l9 : K.lookup f9 = some ⟨oc9, od9, .func (PySem.W.fnOf "_law_worth" "_law_worth" (defArgs sWr) (defBody sWr) (defScope sWr) .none kV9 dc9 pm9 an9 cd9 ct9), sl9⟩)
    (c9 : PySem.W.codeIn K cd9 "_law_worth" = true)
    (k9 : PySem.W.keepIn K (.ref f9) = true)
    (a10 : PySem.W.nsIn K mainGlobals "_law_form" = some (some (.ref f10)))
    (l10 : K.lookup f10 = some ⟨oc10, od10, .func (PySem.W.fnOf "_law_form" "_law_form" (defArgs sFo) (defBody sFo) (defScope sFo) .none kV10 dc10 pm10 an10 cd10 ct10), sl10⟩)
    (c10 : PySem.W.codeIn K cd10 "_law_form" = true)
    (k10 : PySem.W.keepIn K (.ref f10) = true)
    (a11 : PySem.W.nsIn K mainGlobals "_law_wish" = some (some (.ref f11)))
    (l11 : K.lookup f11 = some ⟨oc11, od11, .func (PySem.W.fnOf "_law_wish" "_law_wish" (defArgs sWi) (defBody sWi) (defScope sWi) .none kV11 dc11 pm11 an11 cd11 ct11), sl11⟩)
    (c11 : PySem.W.codeIn K cd11 "_law_wish" = true)
    (k11 : PySem.W.keepIn K (.ref f11) = true)
    (a12 : PySem.W.nsIn K mainGlobals "_law_put" = some (some (.ref f12)))
    (l12 : K.lookup f12 = some ⟨oc12, od12, .func (PySem.W.fnOf "_law_put" "_law_put" (defArgs sPu) (defBody sPu) (defScope sPu) .none kV12 dc12 pm12 an12 cd12 ct12), sl12⟩)
    (c12 : PySem.W.codeIn K cd12 "_law_put" = true)
    (k12 : PySem.W.keepIn K (.ref f12) = true)
    (a13 : PySem.W.nsIn K mainGlobals "_law_spell" = some (some (.ref f13)))
    (l13 : K.lookup f13 = some ⟨oc13, od13, .func (PySem.W.fnOf "_law_spell" "_law_spell" (defArgs sSp) (defBody sSp) (defScope sSp) .none kV13 dc13 pm13 an13 cd13 ct13), sl13⟩)
    (c13 : PySem.W.codeIn K cd13 "_law_spell" = true)
    (k13 : PySem.W.keepIn K (.ref f13) = true)
    (a14 : PySem.W.nsIn K mainGlobals "_law_deed" = some (some (.ref f14)))
    (l14 : K.lookup f14 = some ⟨oc14, od14, .func (PySem.W.fnOf "_law_deed" "_law_deed" (defArgs sDe) (defBody sDe) (defScope sDe) .none kV14 dc14 pm14 an14 cd14 ct14), sl14⟩)
    (c14 : PySem.W.codeIn K cd14 "_law_deed" = true)
    (k14 : PySem.W.keepIn K (.ref f14) = true)
    (a15 : PySem.W.nsIn K mainGlobals "_law_touches" = some (some (.ref f15)))
    (l15 : K.lookup f15 = some ⟨oc15, od15, .func (PySem.W.fnOf "_law_touches" "_law_touches" (defArgs sTo) (defBody sTo) (defScope sTo) .none kV15 dc15 pm15 an15 cd15 ct15), sl15⟩)
    (c15 : PySem.W.codeIn K cd15 "_law_touches" = true)
    (k15 : PySem.W.keepIn K (.ref f15) = true)
    (a16 : PySem.W.nsIn K mainGlobals "_law_apart" = some (some (.ref f16)))
    (l16 : K.lookup f16 = some ⟨oc16, od16, .func (PySem.W.fnOf "_law_apart" "_law_apart" (defArgs sAp) (defBody sAp) (defScope sAp) .none kV16 dc16 pm16 an16 cd16 ct16), sl16⟩)
    (c16 : PySem.W.codeIn K cd16 "_law_apart" = true)
    (k16 : PySem.W.keepIn K (.ref f16) = true)
    (a17 : PySem.W.nsIn K mainGlobals "_law_behinds" = some (some (.ref f17)))
    (l17 : K.lookup f17 = some ⟨oc17, od17, .func (PySem.W.fnOf "_law_behinds" "_law_behinds" (defArgs sBe) (defBody sBe) (defScope sBe) .none kV17 dc17 pm17 an17 cd17 ct17), sl17⟩)
    (c17 : PySem.W.codeIn K cd17 "_law_behinds" = true)
    (k17 : PySem.W.keepIn K (.ref f17) = true)
    (a18 : PySem.W.nsIn K mainGlobals "_law_plan" = some (some (.ref f18)))
    (l18 : K.lookup f18 = some ⟨oc18, od18, .func (PySem.W.fnOf "_law_plan" "_law_plan" (defArgs sPl) (defBody sPl) (defScope sPl) .none kV18 dc18 pm18 an18 cd18 ct18), sl18⟩)
    (c18 : PySem.W.codeIn K cd18 "_law_plan" = true)
    (k18 : PySem.W.keepIn K (.ref f18) = true)
    (a19 : PySem.W.nsIn K mainGlobals "_law_more_step" = some (some (.ref f19)))
    (l19 : K.lookup f19 = some ⟨oc19, od19, .func (PySem.W.fnOf "_law_more_step" "_law_more_step" (defArgs sMs) (defBody sMs) (defScope sMs) .none kV19 dc19 pm19 an19 cd19 ct19), sl19⟩)
    (c19 : PySem.W.codeIn K cd19 "_law_more_step" = true)
    (k19 : PySem.W.keepIn K (.ref f19) = true)
    (a20 : PySem.W.nsIn K mainGlobals "_law_more_table" = some (some (.ref f20)))
    (l20 : K.lookup f20 = some ⟨oc20, od20, .func (PySem.W.fnOf "_law_more_table" "_law_more_table" (defArgs sMt) (defBody sMt) (defScope sMt) .none kV20 dc20 pm20 an20 cd20 ct20), sl20⟩)
    (c20 : PySem.W.codeIn K cd20 "_law_more_table" = true)
    (k20 : PySem.W.keepIn K (.ref f20) = true)
    (a21 : PySem.W.nsIn K mainGlobals "_law_more_source" = some (some (.ref f21)))
    (l21 : K.lookup f21 = some ⟨oc21, od21, .func (PySem.W.fnOf "_law_more_source" "_law_more_source" (defArgs sMo) (defBody sMo) (defScope sMo) .none kV21 dc21 pm21 an21 cd21 ct21), sl21⟩)
    (c21 : PySem.W.codeIn K cd21 "_law_more_source" = true)
    (k21 : PySem.W.keepIn K (.ref f21) = true)
    (a22 : PySem.W.nsIn K mainGlobals "_law_goes" = some (some (.ref f22)))
    (l22 : K.lookup f22 = some ⟨oc22, od22, .func (PySem.W.fnOf "_law_goes" "_law_goes" (defArgs sGo) (defBody sGo) (defScope sGo) .none kV22 dc22 pm22 an22 cd22 ct22), sl22⟩)
    (c22 : PySem.W.codeIn K cd22 "_law_goes" = true)
    (k22 : PySem.W.keepIn K (.ref f22) = true)
    (a23 : PySem.W.nsIn K mainGlobals "_law_right" = some (some (.ref f23)))
    (l23 : K.lookup f23 = some ⟨oc23, od23, .func (PySem.W.fnOf "_law_right" "_law_right" (defArgs sRi) (defBody sRi) (defScope sRi) .none kV23 dc23 pm23 an23 cd23 ct23), sl23⟩)
    (c23 : PySem.W.codeIn K cd23 "_law_right" = true)
    (k23 : PySem.W.keepIn K (.ref f23) = true)
    (a24 : PySem.W.nsIn K mainGlobals "law" = some (some (.ref f24)))
    (l24 : K.lookup f24 = some ⟨oc24, od24, .func (PySem.W.fnOf "law" "law" (defArgs sLaw) (defBody sLaw) (defScope sLaw) .none kV24 dc24 pm24 an24 cd24 ct24), sl24⟩)
    (c24 : PySem.W.codeIn K cd24 "law" = true)
    (k24 : PySem.W.keepIn K (.ref f24) = true)
    (z_isinstance : PySem.W.nsIn K mainGlobals "isinstance" = some none)
    (z_int : PySem.W.nsIn K mainGlobals "int" = some none)
    (z_bool : PySem.W.nsIn K mainGlobals "bool" = some none)
    (z_str : PySem.W.nsIn K mainGlobals "str" = some none)
    (z_tuple : PySem.W.nsIn K mainGlobals "tuple" = some none)
    (z_dict : PySem.W.nsIn K mainGlobals "dict" = some none)
    (z_len : PySem.W.nsIn K mainGlobals "len" = some none)
    (z_abs : PySem.W.nsIn K mainGlobals "abs" = some none)
    (z_range : PySem.W.nsIn K mainGlobals "range" = some none)
    (z_all : PySem.W.nsIn K mainGlobals "all" = some none)
    (z_sum : PySem.W.nsIn K mainGlobals "sum" = some none)
    (z_zip : PySem.W.nsIn K mainGlobals "zip" = some none)
    (z_list : PySem.W.nsIn K mainGlobals "list" = some none)
    (z_sorted : PySem.W.nsIn K mainGlobals "sorted" = some none)
    (z_repr : PySem.W.nsIn K mainGlobals "repr" = some none)
    (z_max : PySem.W.nsIn K mainGlobals "max" = some none)
    (z_min : PySem.W.nsIn K mainGlobals "min" = some none)
    (z_set : PySem.W.nsIn K mainGlobals "set" = some none)
    (z_any : PySem.W.nsIn K mainGlobals "any" = some none)
    (z_enumerate : PySem.W.nsIn K mainGlobals "enumerate" = some none) :
    ∃ fd : FuncData, (∀ (s : Shared) (v : Value), BindsTo s fd ⟨[v], []⟩ [("_law_script", v)]) ∧ ∀ base : Heap, K.In base → base.Ns mainGlobals mg → (∃ mm, base.Ns sysModules mm) → FG l.prog w K mg base 7 fa fd ["_law_script"] (spLaw K) := by
  have e := hfa.symm.trans (PySem.W.mg_of X G a24)
  cases e
  have FGb := fun_mk (st := sGb) l1 c1 k1
  have FIb := fun_mk (st := sIb) l2 c2 k2
  have FBx := fun_mk (st := sBx) l3 c3 k3
  have FTk := fun_mk (st := sTk) l4 c4 k4
  have FPk := fun_mk (st := sPk) l5 c5 k5
  have FWo := fun_mk (st := sWo) l6 c6 k6
  have FCe := fun_mk (st := sCe) l7 c7 k7
  have FSh := fun_mk (st := sSh) l8 c8 k8
  have FWr := fun_mk (st := sWr) l9 c9 k9
  have FFo := fun_mk (st := sFo) l10 c10 k10
  have FWi := fun_mk (st := sWi) l11 c11 k11
  have FPu := fun_mk (st := sPu) l12 c12 k12
  have FSp := fun_mk (st := sSp) l13 c13 k13
  have FDe := fun_mk (st := sDe) l14 c14 k14
  have FTo := fun_mk (st := sTo) l15 c15 k15
  have FAp := fun_mk (st := sAp) l16 c16 k16
  have FBe := fun_mk (st := sBe) l17 c17 k17
  have FPl := fun_mk (st := sPl) l18 c18 k18
  have FMs := fun_mk (st := sMs) l19 c19 k19
  have FMt := fun_mk (st := sMt) l20 c20 k20
  have FMo := fun_mk (st := sMo) l21 c21 k21
  have FGo := fun_mk (st := sGo) l22 c22 k22
  have FRi := fun_mk (st := sRi) l23 c23 k23
  have Flaw := fun_mk (st := sLaw) l24 c24 k24
  have bGb := FGb.binds (ps := ["program"]) fun _ _ _ _ _ _ us hl => match us, hl with | [_], _ => rfl
  have gGb := PySem.W.mg_of X G a1
  have bIb := FIb.binds (ps := ["step"]) fun _ _ _ _ _ _ us hl => match us, hl with | [_], _ => rfl
  have gIb := PySem.W.mg_of X G a2
  have bBx := FBx.binds (ps := ["_law_script", "_law_k"]) fun _ _ _ _ _ _ us hl => match us, hl with | [_, _], _ => rfl
  have gBx := PySem.W.mg_of X G a3
  have bTk := FTk.binds (ps := ["_law_box_here", "_law_many"]) fun _ _ _ _ _ _ us hl => match us, hl with | [_, _], _ => rfl
  have gTk := PySem.W.mg_of X G a4
  have bPk := FPk.binds (ps := ["_law_box_here", "_law_some"]) fun _ _ _ _ _ _ us hl => match us, hl with | [_, _], _ => rfl
  have gPk := PySem.W.mg_of X G a5
  have bWo := FWo.binds (ps := ["_law_box_here", "_law_many"]) fun _ _ _ _ _ _ us hl => match us, hl with | [_, _], _ => rfl
  have gWo := PySem.W.mg_of X G a6
  have bCe := FCe.binds (ps := []) fun _ _ _ _ _ _ us hl => match us, hl with | [], _ => rfl
  have gCe := PySem.W.mg_of X G a7
  have bSh := FSh.binds (ps := ["_law_box_here", "_law_names"]) fun _ _ _ _ _ _ us hl => match us, hl with | [_, _], _ => rfl
  have gSh := PySem.W.mg_of X G a8
  have bWr := FWr.binds (ps := ["_law_box_here", "_law_kind"]) fun _ _ _ _ _ _ us hl => match us, hl with | [_, _], _ => rfl
  have gWr := PySem.W.mg_of X G a9
  have bFo := FFo.binds (ps := ["_law_box_here"]) fun _ _ _ _ _ _ us hl => match us, hl with | [_], _ => rfl
  have gFo := PySem.W.mg_of X G a10
  have bWi := FWi.binds (ps := ["_law_box_here", "_law_lot", "_law_known"]) fun _ _ _ _ _ _ us hl => match us, hl with | [_, _, _], _ => rfl
  have gWi := PySem.W.mg_of X G a11
  have bPu := FPu.binds (ps := ["_law_box_here", "_law_known"]) fun _ _ _ _ _ _ us hl => match us, hl with | [_, _], _ => rfl
  have gPu := PySem.W.mg_of X G a12
  have bSp := FSp.binds (ps := ["_law_box_here", "_law_column"]) fun _ _ _ _ _ _ us hl => match us, hl with | [_, _], _ => rfl
  have gSp := PySem.W.mg_of X G a13
  have bDe := FDe.binds (ps := ["_law_box_here", "_law_names", "_law_known"]) fun _ _ _ _ _ _ us hl => match us, hl with | [_, _, _], _ => rfl
  have gDe := PySem.W.mg_of X G a14
  have bTo := FTo.binds (ps := ["_law_step"]) fun _ _ _ _ _ _ us hl => match us, hl with | [_], _ => rfl
  have gTo := PySem.W.mg_of X G a15
  have bAp := FAp.binds (ps := ["_law_step", "_law_later"]) fun _ _ _ _ _ _ us hl => match us, hl with | [_, _], _ => rfl
  have gAp := PySem.W.mg_of X G a16
  have bBe := FBe.binds (ps := ["_law_steps"]) fun _ _ _ _ _ _ us hl => match us, hl with | [_], _ => rfl
  have gBe := PySem.W.mg_of X G a17
  have bPl := FPl.binds (ps := ["_law_box_here", "_law_most"]) fun _ _ _ _ _ _ us hl => match us, hl with | [_, _], _ => rfl
  have gPl := PySem.W.mg_of X G a18
  have bMs := FMs.binds (ps := ["_law_box_here", "_law_plan_here"]) fun _ _ _ _ _ _ us hl => match us, hl with | [_, _], _ => rfl
  have gMs := PySem.W.mg_of X G a19
  have bMt := FMt.binds (ps := ["_law_box_here", "_law_plan_here"]) fun _ _ _ _ _ _ us hl => match us, hl with | [_, _], _ => rfl
  have gMt := PySem.W.mg_of X G a20
  have bMo := FMo.binds (ps := ["_law_box_here", "_law_plan_here"]) fun _ _ _ _ _ _ us hl => match us, hl with | [_, _], _ => rfl
  have gMo := PySem.W.mg_of X G a21
  have bGo := FGo.binds (ps := ["_law_plan_here"]) fun _ _ _ _ _ _ us hl => match us, hl with | [_], _ => rfl
  have gGo := PySem.W.mg_of X G a22
  have bRi := FRi.binds (ps := ["_law_plan_here"]) fun _ _ _ _ _ _ us hl => match us, hl with | [_], _ => rfl
  have gRi := PySem.W.mg_of X G a23
  refine ⟨PySem.W.fnOf "law" "law" (defArgs sLaw) (defBody sLaw) (defScope sLaw) .none kV24 dc24 pm24 an24 cd24 ct24, fun s v => .of_eq rfl, fun base _ _ sm => ?_⟩
  have T : Free mg := ⟨PySem.W.mg_none_of X G z_isinstance, PySem.W.mg_none_of X G z_int, PySem.W.mg_none_of X G z_bool, PySem.W.mg_none_of X G z_str, PySem.W.mg_none_of X G z_tuple, PySem.W.mg_none_of X G z_dict, PySem.W.mg_none_of X G z_len, PySem.W.mg_none_of X G z_abs, PySem.W.mg_none_of X G z_range, PySem.W.mg_none_of X G z_all, PySem.W.mg_none_of X G z_sum, PySem.W.mg_none_of X G z_zip, PySem.W.mg_none_of X G z_list, PySem.W.mg_none_of X G z_sorted, PySem.W.mg_none_of X G z_repr, PySem.W.mg_none_of X G z_max, PySem.W.mg_none_of X G z_min, PySem.W.mg_none_of X G z_set, PySem.W.mg_none_of X G z_any, PySem.W.mg_none_of X G z_enumerate⟩
  have W : HandF K mg _ _ _ _ := ⟨FTk, bTk, gTk, FPk, bPk, gPk⟩
  have G' : GenF K mg _ _ _ _ _ _ := ⟨FCe, bCe, gCe, FWr, bWr, gWr, FFo, bFo, gFo⟩
  have D : DeedF K mg _ _ _ _ _ _ := ⟨FWi, bWi, gWi, FPu, bPu, gPu, FSp, bSp, gSp⟩
  have U : TouchF K mg _ _ := ⟨FTo, bTo, gTo⟩
  have A : ApartF K mg _ _ := ⟨FAp, bAp, gAp⟩
  have Z : PlanF K mg _ _ _ _ _ _ _ _ := ⟨FWo, bWo, gWo, FSh, bSh, gSh, FDe, bDe, gDe, FBe, bBe, gBe⟩
  have L : LawF K mg _ _ _ _ _ _ _ _ _ _ _ _ := ⟨FBx, bBx, gBx, FPl, bPl, gPl, FMs, bMs, gMs, FMt, bMt, gMt, FMo, bMo, gMo, FRi, bRi, gRi⟩
  have kGb := kb_one (p := "program") FGb fun _ _ _ _ _ _ _ => rfl
  have Q : GoF K mg _ _ _ _ _ _ := ⟨FIb, bIb, gIb, FGb, bGb, kGb, gGb, FGo, bGo, gGo⟩
  exact ok_law Flaw T L (ok_plan FPl T W G' D U A Z) (ok_more_step FMs T W) (ok_more_table FMt T W) (ok_more_source FMo T W FSh bSh gSh) (ok_right FRi T sm Q)
end K86
open PySem PySem.W PyProof.Rows
set_option maxRecDepth 100000 in
set_option maxHeartbeats 0 in
theorem PySem.Challenge.cw_cleanedtables_k86_programs_row_by_row_holds : PySem.Challenge.rw_cleanedtables_k86_programs_row_by_row.Holds := by
  w_on; o_law; k_head; (case hw => w_witness2)
  k_fill
  refine Xg.walkS (l := PySem.Challenge.rw_cleanedtables_k86_programs_row_by_row) (n := 63) (k := 7) (sp := K86.spLaw) (x := "_law_script") ?calm rfl (by decide) rfl ⟨rfl, by decide, by decide⟩ (fun w h Y => PySem.W.kIn_of Y) ?F (fun K H a ns hl _ hS => ⟨a, ns, rfl, hS, hl, fun _ => rfl⟩)
  case calm => decide +kernel
  case F =>
    intro w mg fa h KX G hmg
    refine' K86.all_mk KX G hmg ?a1 ?l1 ?c1 ?k1 ?a2 ?l2 ?c2 ?k2 ?a3 ?l3 ?c3 ?k3 ?a4 ?l4 ?c4 ?k4 ?a5 ?l5 ?c5 ?k5 ?a6 ?l6 ?c6 ?k6 ?a7 ?l7 ?c7 ?k7 ?a8 ?l8 ?c8 ?k8 ?a9 ?l9 ?c9 ?k9 ?a10 ?l10 ?c10 ?k10 ?a11 ?l11 ?c11 ?k11 ?a12 ?l12 ?c12 ?k12 ?a13 ?l13 ?c13 ?k13 ?a14 ?l14 ?c14 ?k14 ?a15 ?l15 ?c15 ?k15 ?a16 ?l16 ?c16 ?k16 ?a17 ?l17 ?c17 ?k17 ?a18 ?l18 ?c18 ?k18 ?a19 ?l19 ?c19 ?k19 ?a20 ?l20 ?c20 ?k20 ?a21 ?l21 ?c21 ?k21 ?a22 ?l22 ?c22 ?k22 ?a23 ?l23 ?c23 ?k23 ?a24 ?l24 ?c24 ?k24 ?z_isinstance ?z_int ?z_bool ?z_str ?z_tuple ?z_dict ?z_len ?z_abs ?z_range ?z_all ?z_sum ?z_zip ?z_list ?z_sorted ?z_repr ?z_max ?z_min ?z_set ?z_any ?z_enumerate
    (case a1 => k_is)
    (case l1 => k_is)
    (case c1 => k_is)
    (case k1 => k_is)
    (case a2 => k_is)
    (case l2 => k_is)
    (case c2 => k_is)
    (case k2 => k_is)
    (case a3 => k_is)
    (case l3 => k_is)
    (case c3 => k_is)
    (case k3 => k_is)
    (case a4 => k_is)
    (case l4 => k_is)
    (case c4 => k_is)
    (case k4 => k_is)
    (case a5 => k_is)
    (case l5 => k_is)
    (case c5 => k_is)
    (case k5 => k_is)
    (case a6 => k_is)
    (case l6 => k_is)
    (case c6 => k_is)
    (case k6 => k_is)
    (case a7 => k_is)
    (case l7 => k_is)
    (case c7 => k_is)
    (case k7 => k_is)
    (case a8 => k_is)
    (case l8 => k_is)
    (case c8 => k_is)
    (case k8 => k_is)
    (case a9 => k_is)
    (case l9 => k_is)
    (case c9 => k_is)
    (case k9 => k_is)
    (case a10 => k_is)
    (case l10 => k_is)
    (case c10 => k_is)
    (case k10 => k_is)
    (case a11 => k_is)
    (case l11 => k_is)
    (case c11 => k_is)
    (case k11 => k_is)
    (case a12 => k_is)
    (case l12 => k_is)
    (case c12 => k_is)
    (case k12 => k_is)
    (case a13 => k_is)
    (case l13 => k_is)
    (case c13 => k_is)
    (case k13 => k_is)
    (case a14 => k_is)
    (case l14 => k_is)
    (case c14 => k_is)
    (case k14 => k_is)
    (case a15 => k_is)
    (case l15 => k_is)
    (case c15 => k_is)
    (case k15 => k_is)
    (case a16 => k_is)
    (case l16 => k_is)
    (case c16 => k_is)
    (case k16 => k_is)
    (case a17 => k_is)
    (case l17 => k_is)
    (case c17 => k_is)
    (case k17 => k_is)
    (case a18 => k_is)
    (case l18 => k_is)
    (case c18 => k_is)
    (case k18 => k_is)
    (case a19 => k_is)
    (case l19 => k_is)
    (case c19 => k_is)
    (case k19 => k_is)
    (case a20 => k_is)
    (case l20 => k_is)
    (case c20 => k_is)
    (case k20 => k_is)
    (case a21 => k_is)
    (case l21 => k_is)
    (case c21 => k_is)
    (case k21 => k_is)
    (case a22 => k_is)
    (case l22 => k_is)
    (case c22 => k_is)
    (case k22 => k_is)
    (case a23 => k_is)
    (case l23 => k_is)
    (case c23 => k_is)
    (case k23 => k_is)
    (case a24 => k_is)
    (case l24 => k_is)
    (case c24 => k_is)
    (case k24 => k_is)
    (case z_isinstance => k_is)
    (case z_int => k_is)
    (case z_bool => k_is)
    (case z_str => k_is)
    (case z_tuple => k_is)
    (case z_dict => k_is)
    (case z_len => k_is)
    (case z_abs => k_is)
    (case z_range => k_is)
    (case z_all => k_is)
    (case z_sum => k_is)
    (case z_zip => k_is)
    (case z_list => k_is)
    (case z_sorted => k_is)
    (case z_repr => k_is)
    (case z_max => k_is)
    (case z_min => k_is)
    (case z_set => k_is)
    (case z_any => k_is)
    (case z_enumerate => k_is)
