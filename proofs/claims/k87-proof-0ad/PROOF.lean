import PyProof.Rows.All
import Wide.All
import OpenK.AllK
import Wide.FinOn
import HandS.ForMost
import HandS.Flow
import HandS.Wide
import HandS.StrMore
import HandS.StrSplit
import HandS.Codes
import PyProof.ReprRoads
import HandS.ExcInit
import HandS.IsInst
import KE.KExcInit
import HandS.MakeKw
import HandS.TryMany
import HandS.ExcField
import HandS.ExcIs
import KE.KExcIs
import HandS.ExcOwn
import HandS.ExcValue
import KE.KxText
import HandS.Conv
import HandS.Walk
import HandS.Zip
import HandS.Style
import HandS.DictComp
import HandS.NoneIn
import HandS.More
import HandS.TupAny
import PyProof.StrOps2
import PyProof.ReprLen
import HandS.Set
import HandS.Strs
import HandS.TupSets
import KE.SortData
import PyProof.Rows.SetFrom
import HandS.Sort
import KE.KDictZip
import KE.GoesZip
import KE.GoesMore
import KE.GoesNew
import HandS.DictTup
import KE.KDictList
import KE.KDictPairs
import PyProof.DictUpdate
import PyProof.CollectWalk
import HandS.ListItems
import HandS.DeepEq
import PySem.Challenge.RW_cleanedtables_k87_rows_onward
set_option Elab.async false
set_option linter.all false
set_option maxRecDepth 100000
set_option maxHeartbeats 4000000
/-! Bs: what all our texts lean on: defs that ask for reprs (no guard stands on the stack), reprs of data, draws. -/
namespace Bs
open PySem PySem.Spec PyProof.Rows L2

/-! ### defs under an empty stack of guards -/
/-- a def's promise where no guard stands on the stack -/
structure FG (P : Program) (w : World) (K : PySem.W.Frag) (mg : Str → Option Value) (base : Heap) (k : Nat) (f : Addr) (fd : FuncData) (ps : List Str) (sp : Sp) : Prop where
  many : ∀ vs H Q E, sp vs H Q E → vs.length = ps.length
  goes : ∀ (A : Around) (outer : List Env) (s : Shared) (H : Hp) (args : Args) (us : List Value) (vs : List V) (Q : VK) (E : XK),
    A.guards = some [] → Room k A → Env0 P w K mg base A outer s H → BindsTo s fd args (ps.zip us) → Vals vs us → sp vs H Q E →
    codeAny (model P w) A (.call (.ref f) args) (CR CX0 outer P w H s Q E) s
theorem FG.of {P : Program} {w : World} {K : PySem.W.Frag} {mg : Str → Option Value} {base : Heap} {k : Nat} {f : Addr} {fd : FuncData} {ps : List Str} {sp : Sp}
    (F : FnOk P w K mg base CX0 k f fd ps sp) : FG P w K mg base k f fd ps sp :=
  ⟨F.len, fun A outer s H args us vs Q E _ => F.run A outer s H args us vs Q E⟩

section
variable {P : Program} {w : World} {K : PySem.W.Frag} {mg : Str → Option Value} {base : Heap} {x qual : Str} {st : Stmt} {f : Addr} {fd : FuncData} {N ps : List Str} {k : Nat} {sp : Sp}
theorem okG (F : Fun K x qual st f fd) (S : FnScope N ps (defScope st)) (many : ∀ vs H Q E, sp vs H Q E → vs.length = ps.length)
    (body : ∀ (cdv : Value) (A : Around) (outer : List Env) (s : Shared) (H : Hp) (vs : List V) (Q : VK) (E : XK), A.guards = some [] →
      Room k (A.deeper (envOfC qual (defScope st) s.heap.objs.size f cdv)) → sp vs H Q E →
      ∃ t, PSs (cxOf CX0 P w K mg base N qual (defScope st) f cdv A outer s H E).nox (defBody st) t ∧ t { nx := fun _ H' => Q .non H', rt := Q } (start N vs) H) :
    FG P w K mg base (k + 1) f fd ps sp := by
  obtain ⟨oc, od, kV, doc, pm, an, cdv, ct, osl, rfl, lk, hcd⟩ := F.ex
  constructor
  · exact many
  · intro A outer s H args us vs Q E ng hr e0 hb rv hsp
    have inK : K.In s.heap := e0.mod.kin.keeps fun b o q => (e0.bs b o q).1
    have noL : s.heap.NoLimit := e0.mod.nolimit.keeps fun b o q => (e0.bs b o q).1
    have kinds : ∀ y ∈ ps.zip us, (defScope st).names.lookup y.1 = some .local ∨ ((defScope st).names.lookup y.1 = some .cell ∧ ((cellsFrom (s.heap.objs.size + 1) (defScope st).names []).lookup y.1).isSome = true) := by
      rintro ⟨n, v⟩ hy
      cases S.par n (List.of_mem_zip hy).1 with
      | inl q => exact .inl q
      | inr q => exact .inr ⟨q, PySem.W.cellsFrom_some _ _ _ (.inl q)⟩
    apply codeAny_call_function hr.depth (inK _ _ lk) rfl S.co S.gen rfl (PySem.W.codeRec_of inK hcd)
    apply hb
    apply wpAny_newFunctionEnv_cells S.kind kinds
    intro env he s1 xx
    subst he
    refine ⟨noL.keeps xx.toInCall.keep, ?_⟩
    apply codeAny_func
    obtain ⟨t, ht, hq⟩ := body cdv A outer s H vs Q E ng (hr.deeper _) hsp
    have J : Inv (cxOf CX0 P w K mg base N qual (defScope st) f cdv A outer s H E) [] (start N vs) H s1 := inv_start S hr.hd e0 (many _ _ _ _ hsp) rv xx
    refine wpAny_mono (ht.nox.run [] s1 (start N vs) H _ J hq) ?_ (fun _ _ z => z)
    intro fl s' hs
    cases fl with
    | ret u =>
      obtain ⟨v, σ', H', J', r', q⟩ := hs
      exact ⟨v, H', J'.os, J'.bare, J'.base, J'.hok, r', q⟩
    | next =>
      obtain ⟨σ', H', J', q⟩ := hs
      exact ⟨V.non, H', J'.os, J'.bare, J'.base, J'.hok, (rfl : RelV V.non Value.none), q⟩
    | brk => exact hs.elim fun _ z => z.elim fun _ z => z.2.elim
    | cont => exact hs.elim fun _ z => z.elim fun _ z => z.2.elim
end

section
variable {X : Cx} {k : Nat} {f : Addr} {fd : FuncData} {ps : List Str} {sp : Sp} {dvs : List V} {ds : List Value} {x : Str} {p pos : Pos} {e : Expr} {es : List Expr} {t : TA}
/-- a call of such a def, where no guard stands -/
theorem callG (F : FG X.prog X.w X.K X.mg X.base k f fd ps sp) (ng : X.A.guards = some []) (hr : Room k X.A) (hg : Gl X x) (hm : X.mg x = some (.ref f)) (hk : PySem.W.keepIn X.K (.ref f) = true) (hb : Binds X.K fd ps ds) (hd : Vals dvs ds)
    (ha : PA X (e :: es) t) (hdb : (x == ("__debug__" : Str)) = false := by decide) (he : starEach (e :: es) X.env = (false, eval e X.env) :: starEach es X.env := by rfl) (hpl : (backTo pos (starEach es X.env)).any (·.1) = false := by rfl) :
    PE X (.Call (.Name x p) (e :: es) [] pos) (tCall sp dvs E0 t) := by
  constructor
  intro pins s σ H Q I h
  apply wpAny_Call_Name_kw
  apply ld_glob I hg hm _ hdb
  apply PySem.W.callWith_K (h₀ := X.base) I.ok.mod.kin hk _ he hpl
  apply thn (ha.run pos pins s σ H _ I h)
  rintro us s1 ⟨vs, H1, I1, r, q⟩
  refine ⟨I1.kIn, ?_⟩
  have r2 : Vals (vs ++ dvs) (us ++ ds) := r.append hd
  have hl : (us ++ ds).length = ps.length := by rw [← r2.length]; exact F.many _ _ _ _ q
  apply wpAny_call
  apply codeAny_mono (F.goes X.A X.stack s1 H1 ⟨us, []⟩ (us ++ ds) (vs ++ dvs) Q E0 ng hr I1.env0 (hb s1 us I1.kIn hl) r2 q)
  intro res s' hq
  match res, hq with
  | .error _, hq => exact hq.elim
  | .ok (.ret u), hq => exact I1.after hq
  | .ok .next, hq => exact hq.elim
  | .ok .brk, hq => exact hq.elim
  | .ok .cont, hq => exact hq.elim
end

/-! ### the end of a row over such a law -/
theorem endG {P : Program} {w : World} {K : PySem.W.Frag} {mg mb : Str → Option Value} {k : Nat} {fa a : Addr} {fd : FuncData} {x : Str} {sp : Sp} {s : Shared} {us : List Value} {ns : List Int}
    (inK : K.In s.heap) (gl : s.heap.Ns mainGlobals mg) (bu : s.heap.Ns builtinsNs mb) (buE : ∀ x : Str, x ≠ "__name__" → mb x = bootBuiltins x) (noL : s.heap.NoLimit) (noG : s.gens = #[])
    (at_ : s.heap.get? a = some { cls := .type "list", data := .seq us.toArray }) (iA : IntsAre us ns) (len : ns.length ≤ sizeLine) (room : Room k callerA)
    (F : ∀ base : Heap, K.In base → base.Ns mainGlobals mg → FG P w K mg base k fa fd [x] sp) (bnd : ∀ (s : Shared) (u : Value), BindsTo s fd ⟨[u], []⟩ [(x, u)])
    (want : ∀ H : Hp, Only H → SqL K H a (ns.map V.int) → sp [.ref a] H (fun v _ => v = .bl true) E0) :
    codeAny (model P w) callerA (.call (.ref fa) ⟨[.ref a], []⟩) (fun r s' => r = .ok (.ret (.bool true)) ∧ OldK s.heap s'.heap ∧ s'.os = s.os ∧ AllBare s'.gens) s := by
  have rv := vals_ints iA
  have lenV := iA.length
  have key : ∀ H : Hp, Only H → SqL K H a (ns.map V.int) → HOk P w H s.heap → (∀ b, b ≠ a → H b = none) → (K.lookup a ≠ none → H a = none) →
      codeAny (model P w) callerA (.call (.ref fa) ⟨[.ref a], []⟩) (fun r s' => r = .ok (.ret (.bool true)) ∧ OldK s.heap s'.heap ∧ s'.os = s.os ∧ AllBare s'.gens) s := by
    intro H oH sH okH one hK
    have nd : ∀ {b : Addr} {o : Obj} {es : Array DictEntry} {ep : Nat}, s.heap.get? b = some o → o.data = .dict es ep → H b = none := by
      intro b o es ep e d
      by_cases eb : b = a
      · rw [eb, at_] at e
        cases e
        exact nomatch (show Data.seq us.toArray _ = Data.dict es ep from d)
      · exact one b eb
    have nsH : ∀ {b : Addr} {m : Str → Option Value}, s.heap.Ns b m → (hidT s.heap H).Ns b m := by
      rintro b m ⟨o, es, ep, e, d, r⟩
      exact ⟨o, es, ep, hidT_get e (nd e d), d, r⟩
    have kH : K.In (hidT s.heap H) := by
      intro b o e
      apply hidT_get (inK b o e)
      by_cases eb : b = a
      · rw [eb]
        exact hK (by rw [← eb, e]; simp)
      · exact one b eb
    have md : Mod K mg (hidT s.heap H) := ⟨kH, nsH gl, ⟨mb, nsH bu, buE⟩, noL.elim fun mc q => ⟨mc, nsH q.1, q.2⟩⟩
    have e0 : Env0 P w K mg (hidT s.heap H) callerA [] s H :=
      { frames := rfl, mod := md, bs := fun b o e => of_hidT e, bsz := Nat.le_of_eq (hidT_size _ _), funs := trivial, frf := fun b hb => (nomatch (show b ∈ ([] : List Addr) from hb)), hok := okH, bare := .of_eq noG }
    apply codeAny_mono ((F _ kH (nsH gl)).goes callerA [] s H ⟨[.ref a], []⟩ [.ref a] [.ref a] _ _ rfl room e0 (bnd s (.ref a)) (.cons rfl .nil) (want H oH sH))
    intro r s' h
    match r, h with
    | .error e, h => exact h.elim
    | .ok .next, h => exact h.elim
    | .ok .brk, h => exact h.elim
    | .ok .cont, h => exact h.elim
    | .ok (.ret u), ⟨v, H', os, bare, un, ok', r', q⟩ =>
      have q' : v = .bl true := q
      subst q'
      have eu : u = Value.bool true := r'
      subst eu
      refine ⟨rfl, OldK.of_keep ?_, os, bare⟩
      intro b o e
      cases eb : H b with
      | none => exact un.keep b o e eb (fun z => (nomatch (show b ∈ ([] : List Addr) from z))) (by simp)
      | some u =>
        cases oH b with
        | inl z => rw [eb] at z; cases z
        | inr z =>
          obtain ⟨ob, xs, z⟩ := z
          have e1 := (okH b _ z).1
          have e2 := (ok' b _ (un.frzs b ob _ z)).1
          rw [e] at e1
          cases e1
          exact e2
  cases hk : K.lookup a with
  | some o =>
    have e := inK a o hk
    rw [at_] at e
    cases e
    apply key (fun _ => none) (fun _ => .inl rfl) _ (fun b u z => nomatch (show (none : Option HO) = some u from z)) (fun _ _ => rfl) (fun _ => rfl)
    exact .inr ⟨_, us.toArray, _, hk, rfl, rfl, rfl, by rw [List.size_toArray, lenV]; exact len, by simpa using rv⟩
  | none =>
    let fz : HO := .frz { cls := .type "list", data := .seq us.toArray } (.lst (ns.map V.int))
    apply key (fun b => if b = a then some fz else none)
    · intro b
      by_cases hb : b = a
      · exact .inr ⟨_, _, if_pos hb⟩
      · exact .inl (if_neg hb)
    · exact .inl (.inr ⟨_, if_pos rfl⟩)
    · intro b u z
      by_cases hb : b = a
      · have z' := (if_pos hb).symm.trans z
        cases z'
        subst hb
        exact ⟨at_, by rw [List.length_map]; exact len, us, _, rv, at_⟩
      · have z' := (if_neg hb).symm.trans z
        cases z'
    · intro b hb
      exact if_neg hb
    · intro z
      exact absurd hk z
theorem walkG {l : PySem.W.OpenLaw} {n k : Nat} {q : Program} {loose : List Str} {XP : (Str → Option Value) → Heap → Prop} {YP : World → Heap → Prop} {d : DefRec} {K : Params → PySem.W.Frag} {sp : PySem.W.Frag → Sp} {x : Str}
    (most : l.most = some n) (small : n ≤ sizeLine) (plain : d.params.defaults = []) (room : Room k callerA) (hY : ∀ (w : World) (h : Heap), YP w h → (K w.params).In h)
    (F : ∀ (w : World) (mg : Str → Option Value) (fa : Addr) (h : Heap), (K w.params).In h → h.Ns mainGlobals mg → mg d.name = some (.ref fa) →
      ∃ fd : FuncData, (∀ (s : Shared) (u : Value), BindsTo s fd ⟨[u], []⟩ [(x, u)]) ∧
        ∀ base : Heap, (K w.params).In base → base.Ns mainGlobals mg → FG l.prog w (K w.params) mg base k fa fd [x] (sp (K w.params)))
    (want : ∀ (K : PySem.W.Frag) (H : Hp) (a : Addr) (ns : List Int), ns.length ≤ n → Only H → SqL K H a (ns.map V.int) → sp K [.ref a] H (fun v _ => v = .bl true) E0) :
    PySem.W.WalkO q loose XP YP l.row.toRowW d [] (fun f vs => PySem.call f vs) := by
  apply Att.attach_call most plain
  intro w s₀ s₁ mg mb fa o pm cd doc a us ns G Y ho hd hcd hmg at_ iA len noG
  obtain ⟨fd, hb, hF⟩ := F w mg fa _ (hY w _ Y) G.T.g hmg
  exact endG (hY w _ Y) G.T.g G.T.b G.T.builtins G.T.nolimit noG at_ iA (Nat.le_trans len small) room hF hb fun H hO hS => want (K w.params) H a ns len hO hS

/-! ### a value is told by what is wanted of it, then what follows is shown once -/
theorem cutA {te : TE} {g : TG} {u : TS} {D : Ends} {σ : L2.St} {H : Hp} (W : V → Hp → Prop) (h1 : ∀ Q : VK, (∀ v H', W v H' → Q v H') → te σ H Q) (h2 : ∀ v H', W v H' → g v σ H' (u D)) : tSeq (tAsg te g) u D σ H := h1 _ h2
theorem cutT {t u : TS} {D : Ends} {σ : L2.St} {H : Hp} (W : L2.St → Hp → Prop) (h1 : ∀ N : L2.St → Hp → Prop, (∀ σ' H', W σ' H' → N σ' H') → t { D with nx := N } σ H) (h2 : ∀ σ' H', W σ' H' → u D σ' H') : tSeq t u D σ H := h1 _ h2

/-- a store; then «dsimp only» -/
theorem gN {i : Nat} {v : V} {σ : L2.St} {H : Hp} {N : L2.St → Hp → Prop} (h : N (σ.set i (some v)) H) : gName i v σ H N := h
/-- a comprehension without a test -/
theorem yes {σ : L2.St} {H : Hp} {F G : Hp → Prop} (h : F H) : tYes σ H (fun b H3 => if b = true then F H3 else G H3) := by
  show (if true = true then F H else G H)
  rw [if_pos rfl]
  exact h

/-! ### reprs of data -/
section
variable {X : Cx}
/-- repr(x), x a list or a tuple of data -/
theorem call_repr (ng : X.A.guards = some []) (hu : X.A.units + 64 < cLine) :
    CallR X (.builtin "repr") (fun xs H Q => ∃ x d, xs = [x] ∧ Dp X.K H x d ∧ isDisplay d = true ∧ d.showable = true ∧ d.hasDict = false ∧ d.depth < 60 ∧ d.shown.length ≤ sizeLine ∧ Q (.str d.shown) H) := by
  intro pins s σ H xs us Q I r h
  obtain ⟨x, d, rfl, dp, dis, sho, nod, dep, len, q⟩ := h
  cases r with
  | cons r1 r2 =>
    cases r2
    obtain ⟨as, rd⟩ := Dp.reads I d x _ dp r1
    obtain ⟨a, rfl⟩ := isRef_of_reads rd dis
    apply repr_of_reads' rd sho (PyData.noDict_hsm nod) ng (by omega) (fun _ _ e => e) _ len
    intro h' u tk kp
    exact ⟨.str d.shown, H, I.kept (h' := h') (t' := tk) kp, ⟨u, rfl⟩, q⟩
/-- x.ljust(i, c) -/
theorem mt_ljustF : MtR X "str.ljust" (fun x xs H Q => ∃ (a : Str) (i : Int) (c : Nat), x = .str a ∧ xs = [.int i, .str ⟨#[c]⟩] ∧ PadOk i = true ∧ Q (.str (Txt.ljustF a i c)) H) := by
  intro pins s σ H x xs v us Q I rx rs h
  obtain ⟨a, i, c, rfl, rfl, pad, q⟩ := h
  obtain ⟨t, rfl⟩ := rx
  cases rs with
  | cons r1 rs =>
    cases rs with
    | cons r2 rs =>
      cases rs
      obtain ⟨u, rfl⟩ := r1
      obtain ⟨z, rfl⟩ := r2
      apply ljust_fill pad rfl
      intro t' k
      exact ⟨.str _, H, I.tok k, ⟨t', rfl⟩, q⟩
end

/-! ### calls by names alone -/
section
variable {X : Cx} {CX : CXT} {k : Nat} {f : Addr} {fd : FuncData} {ps ks : List Str} {sp : Sp} {E : XK} {x : Str} {p pos : Pos} {kws : List Keyword} {tk : TA} {g : List Value → List Value → List Value} {gV : List V → List V → List V}
/-- f(k = v, ..) -/
theorem callK0 (F : FnOk X.prog X.w X.K X.mg X.base CX k f fd ps sp) (hr : Room k X.A) (hg : Gl X x) (hm : X.mg x = some (.ref f)) (hk : PySem.W.keepIn X.K (.ref f) = true) (hb : KBinds X.K fd ps ks g gV) (hx : Passes CX X E) (hkw : PK X kws tk)
    (hall : (backToKw pos (keywordEach kws X.env)).all (·.1.isSome) = true := by rfl) (hks : (backToKw pos (keywordEach kws X.env)).filterMap (·.1) = ks := by rfl) (hdb : (x == ("__debug__" : Str)) = false := by decide)
    (hpl : ((backTo pos (starEach [] X.env)).any (·.1) || (backToKw pos (keywordEach kws X.env)).any (·.1.isNone)) = false := by rfl) :
    PE X (.Call (.Name x p) [] kws pos) (tCallK sp gV E tNil tk) := by
  constructor
  intro pins s σ H Q I h
  apply wpAny_Call_Name_kw
  apply ld_glob I hg hm _ hdb
  apply PySem.W.callWith_KW0 (h₀ := X.base) I.ok.mod.kin hk hall _ hpl
  apply thn (hkw.run pos pins s σ H _ I h)
  rintro ws s2 ⟨zs, H2, I2, rz, q2⟩
  refine ⟨I2.kIn, ?_⟩
  rw [hks]
  exact run_fnk (us := []) (vs := []) F hr hb hx I2 .nil rz q2
end
/-- two parameters, told by their names the other way about -/
def swp {α : Type} : List α → List α → List α
  | [], [a, b] => [b, a]
  | _, _ => []
theorem kb_swp {K : PySem.W.Frag} {x qual : Str} {st : Stmt} {f : Addr} {fd : FuncData} {p1 p2 : Str} (F : Fun K x qual st f fd)
    (h : ∀ (kV doc pm : Value) (an : Option Addr) (cdv ct : Value) (a b : Value), bindArgs (PySem.W.fnOf x qual (defArgs st) (defBody st) (defScope st) .none kV doc pm an cdv ct) ⟨[], [(p2, a), (p1, b)]⟩ = pure [(p1, b), (p2, a)]) :
    KBinds K fd [p1, p2] [p2, p1] swp swp := by
  obtain ⟨oc, od, kV, doc, pm, an, cdv, ct, osl, rfl, lk, hcd⟩ := F.ex
  constructor
  · intro s us ws _ hl
    match us, ws, hl with
    | [], [a, b], _ => exact .of_eq (h kV doc pm an cdv ct a b)
    | [], [], hl => exact absurd hl (by simp [swp])
    | [], [_], hl => exact absurd hl (by simp [swp])
    | [], _ :: _ :: _ :: _, hl => exact absurd hl (by simp [swp])
    | _ :: _, _, hl => exact absurd hl (by simp [swp])
  · intro vs us zs ws h1 h2
    cases h1 with
    | nil =>
      cases h2 with
      | nil => exact .nil
      | cons a h2 =>
        cases h2 with
        | nil => exact .nil
        | cons b h2 =>
          cases h2 with
          | nil => exact .cons b (.cons a .nil)
          | cons c h2 => exact .nil
    | cons a h1 =>
      cases h2 with
      | nil => exact .nil
      | cons b h2 => exact .nil
/-! ### the text of a list of two -/
theorem two_text (t u : Str) : (listText [t, u]).length = t.length + u.length + 4 := by
  have e : listText [t, u] = ((((Str.ofString "[" ++ Str.ofString "") ++ t) ++ Str.ofString ", ") ++ u) ++ Str.ofString "]" := rfl
  rw [e, TL.len_tl]
  simp only [TL.tl_append, List.length_append]
  rw [show (TL.tl (Str.ofString "[")).length = 1 by decide +kernel, show (TL.tl (Str.ofString "")).length = 0 by decide +kernel, show (TL.tl (Str.ofString ", ")).length = 2 by decide +kernel, show (TL.tl (Str.ofString "]")).length = 1 by decide +kernel, ← TL.len_tl, ← TL.len_tl]
  omega
theorem two_small {t : Str} {d : PyData} (e : d.shown = t) (h : t.length ≤ 1000) : (PyData.list [d, d]).shown.length ≤ sizeLine := by
  simp only [PyData.shown, PyData.shownAll, e]
  rw [two_text]
  exact Nat.le_trans (show _ ≤ 3000 by omega) (by decide)
end Bs
set_option Elab.async false
set_option linter.all false
set_option maxRecDepth 100000
set_option maxHeartbeats 4000000
/-! Xc: exceptions of the program's own, over ValueError, LookupError or RuntimeError, with own classes between, made and held as values: stored into by their own __init__, read, asked for their class. -/
namespace PySem
namespace XcW
open PySem.W PySem.Calls PyProof.Rows Builtin Builtin.ObjectAttr
section
variable {prog : Program} {w : World} {A : Around} {R : Result → Shared → Prop} {hp : Heap} {g : Array GenState} {d : Drawn} {t : Nat} {os : OsState} {K : Frag} {x C : Addr} {fv : Array Value} {name : Str} {tk : Tok} {v : Value} {B : String} {bmB : List Value}
/-- the first field -/
theorem store1 (SF : StoreFacts B bmB "object.__setattr__" "object") (inK : K.In hp) (hx : hp.get? x = some { cls := .ref C, data := .fields fv }) (ov : excOver K C bmB = true) (tn : takerIn K C name = some none) (hd : hasDictIn K C = true)
    (go : ∀ h' tk' dx, (∀ b o, b ≠ x → hp.get? b = some o → h'.get? b = some o) → hp.objs.size ≤ dx → dx ≠ x → h'.get? x = some { cls := .ref C, dict := some dx, data := .fields fv } →
      h'.Ns1 dx (fun y => if y = name then some v else none) → R (.ok (.ret .none)) ⟨h', g, d, tk', os⟩) :
    codeAny (model prog w) A (.call (.builtin "object.__setattr__") ⟨[.ref x, .str name tk, v], []⟩) R ⟨hp, g, d, t, os⟩ := by
  apply osa_openX (od := none) SF inK ⟨hx, rfl, rfl, trivial⟩ ov tn
  intro b
  obtain ⟨cd, hc, hd'⟩ := any_some hd
  have away : x ≠ hp.objs.size := Nat.ne_of_lt (Heap.lt_size hx)
  have cls : Looks (model prog w) hp (classData C) cd := looks_clsIn inK hc
  show wpAny _ _ (storeInOwnDict (.ref x) (.ref C) (.str name tk) name v b) _ _ _
  obtain ⟨nm, bs, mro, ns, qn, hdd, sn, sb, ab, col, del⟩ := cd
  have e : hdd = true := hd'
  subst e
  unfold storeInOwnDict ownDictForStores
  repeat (first | with_reducible refine HandSPX.store_in_new ?_ ?_ | with_reducible refine wpAny_loadPart_at hx ?_ | with_reducible refine cls.at ?_ | wp_step)
  · exact ⟨_, #[], _, (Heap.get?_update_ne _ _ _ _ away.symm).trans (Heap.get?_push_at rfl rfl), rfl, (fun e he => absurd he (by simp)), (fun _ => rfl)⟩
  · intro h' tk' hn' hs
    have hx1 : (hp.push { cls := .type "dict", data := .dict #[] }).get? x = some { cls := .ref C, data := .fields fv } := Heap.get?_push_of_some _ hx
    apply go h' tk' hp.objs.size _ (Nat.le_refl _) away.symm _ hn'
    · intro b o hb ho
      exact (hs.2 b (Nat.ne_of_lt (Heap.lt_size ho))).trans ((Heap.get?_update_ne _ _ _ _ hb).trans (Heap.get?_push_of_some _ ho))
    · exact (hs.2 x away).trans (Heap.get?_update_self _ hx1 rfl)
/-- a further field -/
theorem store2 {dx : Addr} {m0 : Str → Option Value} {nl : List Str} (SF : StoreFacts B bmB "object.__setattr__" "object") (inK : K.In hp) (hx : hp.get? x = some { cls := .ref C, dict := some dx, data := .fields fv }) (hns : hp.Ns1 dx m0) (hw : Within m0 nl) (few : nl.length ≤ 1000)
    (ov : excOver K C bmB = true) (tn : takerIn K C name = some none) (hd : hasDictIn K C = true)
    (go : ∀ h' tk', (∀ b o, b ≠ dx → hp.get? b = some o → h'.get? b = some o) → h'.Ns1 dx (fun y => if y = name then some v else m0 y) → R (.ok (.ret .none)) ⟨h', g, d, tk', os⟩) :
    codeAny (model prog w) A (.call (.builtin "object.__setattr__") ⟨[.ref x, .str name tk, v], []⟩) R ⟨hp, g, d, t, os⟩ := by
  obtain ⟨oD, _, _, hoD, _, _⟩ := hns.count hw
  apply osa_openX (od := some oD) SF inK ⟨hx, rfl, rfl, hoD⟩ ov tn
  intro b
  obtain ⟨cd, hc, hd'⟩ := any_some hd
  have cls : Looks (model prog w) hp (classData C) cd := looks_clsIn inK hc
  show wpAny _ _ (storeInOwnDict (.ref x) (.ref C) (.str name tk) name v b) _ _ _
  obtain ⟨nm, bs, mro, ns, qn, hdd, sn, sb, ab, col, del⟩ := cd
  have e : hdd = true := hd'
  subst e
  unfold storeInOwnDict ownDictForStores
  repeat (first | with_reducible refine OEX.store_in_old hns hw few ?_ | with_reducible refine wpAny_loadPart_at hx ?_ | with_reducible refine cls.at ?_ | wp_step)
  intro h' tk' hn' hs
  exact go h' tk' (fun b o hb ho => (hs.2 b hb).trans ho) hn'
end
end XcW
end PySem
namespace Xc
open PySem PySem.Spec PyProof.Rows L2 Bs
/-- what the written part says of such a class -/
structure Cl (K : PySem.W.Frag) (C : Addr) (B newId initId : String) (bmB : List Value) : Prop where
  F : ExcBaseFacts B newId initId bmB
  SF : StoreFacts B bmB "object.__setattr__" "object"
  ini : PySem.W.excInitIn K C bmB newId = true
  ov : PySem.W.excOver K C bmB = true
  hd : PySem.W.hasDictIn K C = true
  sa : PySem.W.findIn K (.ref C) "__setattr__" = some (some (.builtin "object.__setattr__"))
  ga : PySem.W.findIn K (.ref C) "__getattribute__" = some (some (.builtin "BaseException.__getattribute__"))
  gg : PySem.W.findIn K (.ref C) "__getattr__" = some none
  ex : PySem.W.subIn K (.ref C) (.type "BaseException") = some true
  ty : PySem.W.typeIn K (.ref C) = some (.type "type")
  kp : PySem.W.keepIn K (.ref C) = true
section
variable {X : Cx} {pins : List (Addr × Obj)} {σ : L2.St} {H : Hp} {s : Shared} {a C dx : Addr} {f : Str} {y : V} {u : Value} {fs : List (Str × V)} {Q : Unit → Shared → Prop} {E : Value → Shared → Prop} {A : Around} {B newId initId : String} {bmB : List Value}
theorem put1 (T : Cl X.K C B newId initId bmB) (I : Inv X pins σ H s) (e : H a = some (exo a C none)) (tn : PySem.W.takerIn X.K C f = some none) (ry : RelV y u)
    (go : ∀ dx s', H dx = none → dx ≠ a → Inv X pins σ (upd (upd H dx (exd dx [(f, y)])) a (exo a C (some dx))) s' → Q () s') : wpAny (model X.prog X.w) A (setAttr (.ref a) f u) Q E s := by
  obtain ⟨t1, ho⟩ := exo_at I.hok e
  obtain ⟨hp, g, d, t, os⟩ := s
  apply PySem.W.set_plain I.kIn (ox := { cls := .ref C, dict := none, data := .fields #[.ref t1, .none, .none, .none, .bool false, .none] }) (od := none) ⟨ho, rfl, rfl, trivial⟩ T.sa
  apply PySem.XcW.store1 T.SF I.kIn ho T.ov tn T.hd
  intro h' tk' dx k dn dne hx hn
  have fresh : H dx = none := I.hok.fresh dn
  have offd : ∀ {b : Addr} {o : Obj}, hp.get? b = some o → b ≠ dx := fun {b o} q => Nat.ne_of_lt (Nat.lt_of_lt_of_le (Heap.lt_size q) dn)
  have offa : ∀ {b : Addr}, H b = none → b ≠ a := by
    intro b n z
    rw [z, e] at n
    cases n
  have un : Un X.fs [] H (upd (upd H dx (exd dx [(f, y)])) a (exo a C (some dx))) hp h' := by
    constructor
    · exact fun b o q n _ _ => k b o (offa n) q
    · exact fun b o q n _ _ => ⟨o.slots, k b o (offa n) q⟩
    · intro b o q n _
      rw [upd_ne (offa n), upd_ne (offd q)]
      exact n
    · intro b o q _
      by_cases hb : b = a
      · exact ⟨_, by rw [hb]; exact hx⟩
      · exact ⟨o, k b o hb q⟩
    · intro b xs q
      rw [upd_ne (at_ne e q exo_tup), upd_ne (ne_of_none q fresh)]
      exact q
    · intro b o v q
      rw [upd_ne (at_ne e q exo_frz), upd_ne (ne_of_none q fresh)]
      exact q
    · intro b ps q
      exact ⟨#[], by rw [upd_ne (at_ne e q exo_tbl), upd_ne (ne_of_none q fresh), q]; simp⟩
  apply go dx _ fresh dne
  apply I.un (t' := tk') un
  intro b o q
  by_cases hb : b = a
  · subst hb
    rw [upd_same] at q
    cases q
    exact exo_ok hx
  · rw [upd_ne hb] at q
    by_cases hd : b = dx
    · subst hd
      rw [upd_same] at q
      cases q
      exact exd_ok hn (relO_put (fs := []) ry fun g => True.intro)
    · rw [upd_ne hd] at q
      apply (I.hok b o q).stay
      · intro c v hc z
        apply k c v _ z
        cases hc with
        | inl hc =>
          rw [hc]
          exact hb
        | inr hc => exact at_ne e hc exo_own
      · intro c hc
        rw [upd_ne (at_ne e hc exo_own), upd_ne (ne_of_none hc fresh)]
        exact hc
      · intro c xs hc
        rw [upd_ne (at_ne e hc exo_tup), upd_ne (ne_of_none hc fresh)]
        exact hc
theorem put2 (T : Cl X.K C B newId initId bmB) (I : Inv X pins σ H s) (e : H a = some (exo a C (some dx))) (ed : H dx = some (exd dx fs)) (few : fs.length ≤ 900) (tn : PySem.W.takerIn X.K C f = some none) (ry : RelV y u)
    (go : ∀ s', Inv X pins σ (upd H dx (exd dx ((f, y) :: fs))) s' → Q () s') : wpAny (model X.prog X.w) A (setAttr (.ref a) f u) Q E s := by
  obtain ⟨t1, ho⟩ := exo_at I.hok e
  obtain ⟨mA, hns, rel⟩ := exd_at I.hok ed
  have hw := within_of rel
  obtain ⟨hp, g, d, t, os⟩ := s
  obtain ⟨oD, _, _, hoD, _, _⟩ := hns.count hw
  apply PySem.W.set_plain I.kIn (ox := { cls := .ref C, dict := some dx, data := .fields #[.ref t1, .none, .none, .none, .bool false, .none] }) (od := some oD) ⟨ho, rfl, rfl, hoD⟩ T.sa
  apply PySem.XcW.store2 T.SF I.kIn ho hns hw (by rw [List.length_map]; omega) T.ov tn T.hd
  intro h' tk' k hn
  have hd : ∃ o, h'.get? dx = some o := by
    obtain ⟨o, _, _, e', _⟩ := hn
    exact ⟨o, e'⟩
  apply go
  exact I.write (t' := tk') (x := dx) (e := dx) (o := exd dx ((f, y) :: fs)) (by rw [ed]; exact True.intro) (.inl rfl) k hd (exd_ok hn (relO_put ry rel))
end
end Xc
set_option Elab.async false
set_option linter.all false
set_option maxRecDepth 100000
set_option maxHeartbeats 4000000
/-! Xd: such exceptions made by places and by names. -/
namespace PySem
namespace XcW
open PySem.W PySem.Calls PyProof.Rows Builtin Builtin.ObjectAttr
section
variable {M : Model} {A : Around} {E : Value → Shared → Prop} {hp : Heap} {g : Array GenState} {d : Drawn} {t : Nat} {os : OsState}
variable {nm qn : Str} {C N : Addr} {bs bm bmB : List Value} {hdct : Bool} {sn : List Str} {sub : List Value} {ab : Bool} {col : Option Bool} {dd : Option Addr} {k0 k1 k2 k3 k5 : Option Value} {B newId initId : String} {us : List Value} {kw : List (Str × Value)}
theorem newCheck (F : ExcBaseFacts B newId initId bmB) (alike : ∀ Y : String, bm.contains (.type Y) = bmB.contains (.type Y)) {Q : Unit → Shared → Prop}
    (atC : hp.get? C = some (excClassObj nm qn C N bs bm hdct sn sub ab col dd k0 k1 k2 k3 k5 newId)) (go : Q () ⟨hp, g, d, t, os⟩) :
    wpAny M A (checkBuiltinCall newId ⟨.ref C :: us, kw⟩) Q E ⟨hp, g, d, t, os⟩ := by
  have below : (Value.ref C :: bm).contains (.type B) = true := by
    rw [List.contains_cons, alike, F.hasB]
    exact Bool.or_true _
  have star := F.noStar
  simp only [checkBuiltinCall, F.newRow, F.newSplit, F.newKind]
  repeat (first | refine wpAny_staticBase_exc atC ?_ | refine wpAny_madeBy_exc atC ?_ | refine wpAny_loadPart_at atC ?_ | (refine wpAny_isSubtype_exc atC ?_; rw [below]) | simp only [bne_self_eq_false, Bool.false_eq_true, if_false] | wp_step)
  exact go
theorem tcCheck {Q : Unit → Shared → Prop} (atC : hp.get? C = some (excClassObj nm qn C N bs bm hdct sn sub ab col dd k0 k1 k2 k3 k5 newId))
    (go : Q () ⟨hp, g, d, t, os⟩) : wpAny M A (checkBuiltinCall "type.__call__" ⟨.ref C :: us, kw⟩) Q E ⟨hp, g, d, t, os⟩ := by
  have g3 := tc_sub
  have isT : (⟨hp, g, d, t, os⟩ : Shared).TypeIs (.ref C) "type" := ⟨_, atC, rfl⟩
  simp only [checkBuiltinCall, tc_split, tc_kind]
  repeat (any_goals (first | assumption | with_reducible refine wpAny_map ?_ | with_reducible refine wpAny_onRaise ?_ | with_reducible refine wpAny_loadPart_at atC ?_ | wp_step))
end
section
variable {prog : Program} {w : World} {A : Around} {E : Value → Shared → Prop} {R : Result → Shared → Prop} {hp : Heap} {g : Array GenState} {d : Drawn} {t : Nat} {os : OsState}
variable {nm qn : Str} {C N fI : Addr} {bs bm bmB : List Value} {hdct : Bool} {sn : List Str} {sub : List Value} {ab : Bool} {col : Option Bool} {dd : Option Addr} {k0 k1 k2 k3 k5 : Option Value} {B newId initId : String} {us : List Value} {kw : List (Str × Value)}
/-- the heap with the new one, not yet filled -/
abbrev bornH (hp : Heap) (C : Addr) (us : List Value) : Heap := (hp.push (kdv_tup us)).push (HandSPX.excO C hp.objs.size)
theorem newMade (F : ExcBaseFacts B newId initId bmB) (alike : ∀ Y : String, bm.contains (.type Y) = bmB.contains (.type Y))
    (atC : hp.get? C = some (excClassObj nm qn C N bs bm hdct sn sub ab col dd k0 k1 k2 k3 k5 newId)) (few : us.length ≤ sizeLine)
    (go : R (.ok (.ret (.ref (hp.objs.size + 1)))) ⟨bornH hp C us, g, d, t, os⟩) :
    codeAny (model prog w) A (.builtin newId ⟨.ref C :: us, kw⟩) R ⟨hp, g, d, t, os⟩ := by
  have fe := F.ends
  have isB : (Value.ref C :: bm).contains (.type B) = true := by
    rw [List.contains_cons, alike, F.hasB]
    exact Bool.or_true _
  have notA : (Value.ref C :: bm).contains (.type "AttributeError") = false := by
    rw [List.contains_cons, alike, F.noAttr]
    rfl
  have notN : (Value.ref C :: bm).contains (.type "NameError") = false := by
    rw [List.contains_cons, alike, F.noName]
    rfl
  apply codeAny_builtinAt F.entry
  unfold Builtin.«BaseException.__new__»
  apply wpAt_bind
  show wpAt _ _ _ (stack >>= _) _ _ _
  apply wpAt_bind
  apply wpAt_stack
  intro p below
  apply wpAt_of_wpAny
  wp_walk
  apply wpAt_of_wpAny
  rw [F.owner]
  repeat (first | with_reducible refine wpAny_loadPart_at atC ?_ | (with_reducible refine wpAny_isSubtype_exc atC ?_; first | rw [isB] | rw [notA] | rw [notN]) | with_reducible refine wpAny_madeHere_exc F.canon atC ?_ | wp_step)
  show R _ _
  rw [Heap.size_push]
  exact go
theorem tcMade (F : ExcBaseFacts B newId initId bmB) (alike : ∀ Y : String, bm.contains (.type Y) = bmB.contains (.type Y)) {Q : Fin → Shared → Prop}
    (atC : hp.get? C = some (excClassObj nm qn C N bs bm hdct sn sub ab col dd k0 k1 k2 k3 k5 newId)) (few : us.length ≤ sizeLine)
    (li : Looks (model prog w) hp (typeLookup (.ref C) "__init__") (some (.ref fI))) (lb : ∀ self, Looks (model prog w) hp (bindSpecial (.ref fI) self) (.ref fI, [self]))
    (go : codeAny (model prog w) A (.call (.ref fI) ⟨.ref (hp.objs.size + 1) :: us, kw⟩)
      (fun r s' => match r with | .error e => E e s' | .ok (.ret v) => v = .none ∧ Q (.done (.ret (.ref (hp.objs.size + 1)))) s' | .ok _ => False) ⟨bornH hp C us, g, d, t, os⟩) :
    wpAny (model prog w) A (Builtin.«type.__call__» ⟨.ref C :: us, kw⟩) Q E ⟨hp, g, d, t, os⟩ := by
  repeat (first | with_reducible refine wpAny_madeBy_exc atC ?_ | with_reducible refine wpAny_loadPart_at atC ?_ | wp_step)
  apply codeAny_call_builtin_code (Code.quiet_builtin _ F.quiet) (newCheck F alike atC _)
  apply newMade F alike atC few
  show wpAny _ _ _ _ _ _
  have keeps : ∀ b o, hp.get? b = some o → (bornH hp C us).get? b = some o := by
    intro b o e
    exact Heap.get?_push_of_some _ (Heap.get?_push_of_some _ e)
  have atC' := keeps _ _ atC
  have born : (bornH hp C us).get? (hp.objs.size + 1) = some (HandSPX.excO C hp.objs.size) := by heap_get
  have self : (Value.ref C :: bm).contains (.ref C) = true := by simp
  have li' := li.keeps keeps
  have lb' := (lb (.ref (hp.objs.size + 1))).keeps keeps
  unfold isInstance
  repeat (first | (with_reducible refine wpAny_isSubtype_exc atC' ?_; rw [self]) | with_reducible refine wpAny_loadPart_at born ?_ | wp_step)
  show wpAny _ _ (typeLookup (.ref C) _) _ _ _
  apply li'.at
  apply wpAny_holding
  apply wpAny_bind
  apply lb'.at
  apply wpAny_bind
  apply wpAny_call
  apply codeAny_mono go
  intro r s' z
  match r, z with
  | .error e, z => exact z
  | .ok .next, z => exact z.elim
  | .ok .brk, z => exact z.elim
  | .ok .cont, z => exact z.elim
  | .ok (.ret v), z =>
    obtain ⟨rfl, z⟩ := z
    first
      | exact wpAny_pure (wpAny_pure z)
      | (wp_walk; exact z)
theorem callMade (F : ExcBaseFacts B newId initId bmB) (alike : ∀ Y : String, bm.contains (.type Y) = bmB.contains (.type Y))
    (atC : hp.get? C = some (excClassObj nm qn C N bs bm hdct sn sub ab col dd k0 k1 k2 k3 k5 newId)) (few : us.length ≤ sizeLine)
    (li : Looks (model prog w) hp (typeLookup (.ref C) "__init__") (some (.ref fI))) (lb : ∀ self, Looks (model prog w) hp (bindSpecial (.ref fI) self) (.ref fI, [self]))
    (go : codeAny (model prog w) (A.under (.builtin "type.__call__" ⟨.ref C :: us, kw⟩)) (.call (.ref fI) ⟨.ref (hp.objs.size + 1) :: us, kw⟩) (InitBack (hp.objs.size + 1) R) ⟨bornH hp C us, g, d, t, os⟩) :
    codeAny (model prog w) A (.call (.ref C) ⟨us, kw⟩) R ⟨hp, g, d, t, os⟩ := by
  have g1 := tc_lookup
  have g2 := tc_bind (.ref C)
  have isT : (⟨hp, g, d, t, os⟩ : Shared).TypeIs (.ref C) "type" := ⟨_, atC, rfl⟩
  apply codeAny_of_tree
  show wpAny _ _ (callAny (.ref C) _) _ _ _
  repeat (any_goals (first | with_reducible refine wpAny_loadPart_at atC ?_ | assumption | wp_step))
  constructor
  · rfl
  apply codeAny_call_builtin_at (Code.quiet_builtin _ (by decide +kernel)) entry_typeCall
  apply tcCheck atC
  apply tcMade F alike atC few li lb
  apply codeAny_mono go
  intro r s' z
  match r, z with
  | .error _, z => exact z
  | .ok .next, z => exact z
  | .ok .brk, z => exact z
  | .ok .cont, z => exact z
  | .ok (.ret _), z => exact z
end
end XcW
end PySem
set_option Elab.async false
set_option linter.all false
set_option maxRecDepth 100000
set_option maxHeartbeats 4000000
/-! Xe: such exceptions as values: made, stored into, read. -/
namespace Xc
open PySem PySem.Spec PyProof.Rows L2 Bs
/-! ### self.f = e -/
def tPut (K : PySem.W.Frag) (f : Str) (to te : TE) : TS := fun D σ H => te σ H fun y H1 => to σ H1 fun x H2 =>
  ∃ (a C : Addr) (B n i : String) (bm : List Value), x = .ref a ∧ Cl K C B n i bm ∧ PySem.W.takerIn K C f = some none ∧
    ((H2 a = some (exo a C none) ∧ ∀ dx, H2 dx = none → dx ≠ a → D.nx σ (upd (upd H2 dx (exd dx [(f, y)])) a (exo a C (some dx)))) ∨
      ∃ (dx : Addr) (fs : List (Str × V)), H2 a = some (exo a C (some dx)) ∧ H2 dx = some (exd dx fs) ∧ fs.length ≤ 900 ∧ D.nx σ (upd H2 dx (exd dx ((f, y) :: fs))))
theorem ps_put {X : Cx} {o e : Expr} {f : Str} {to te : TE} {p' pos : Pos} (ho : PE X o to) (he : PE X e te) (hs : swapsWith e (some (.Attribute o f p')) pos.line X.env = pure false := by rfl) :
    PS X (.Assign [.Attribute o f p'] e pos) (tPut X.K f to te) := by
  constructor
  intro pins s σ H D I h
  apply plainObj_wpAny_Assign_Attribute _ hs
  apply thn (he.run pins s σ H _ I h)
  rintro v s1 ⟨y, H1, I1, r1, q1⟩
  apply thn (ho.run pins s1 σ H1 _ I1 q1)
  rintro u s2 ⟨x, H2, I2, r2, a, C, B, n, i, bm, rfl, T, tn, q⟩
  obtain rfl : u = Value.ref a := r2
  cases q with
  | inl q => exact put1 T I2 q.1 tn r1 fun dx s' h1 h2 J => ⟨σ, _, J, q.2 dx h1 h2⟩
  | inr q =>
    obtain ⟨dx, fs, ea, ed, few, q⟩ := q
    exact put2 T I2 ea ed few tn r1 fun s' J => ⟨σ, _, J, q⟩

/-! ### __init__'s own promise -/
def spIn (C : Addr) (n : Nat) (mk : List V → List (Str × V)) : Sp := fun vs H Q _ => ∃ (a : Addr) (xs : List V), vs = .ref a :: xs ∧ xs.length = n ∧ H a = some (exo a C none) ∧
  ∀ (dx : Addr) (H' : Hp), H dx = none → dx ≠ a → H' a = some (exo a C (some dx)) → H' dx = some (exd dx (mk xs)) → (∀ b, b ≠ a → b ≠ dx → H' b = H b) → Q .non H'

/-! ### C(..) -/
/-- what the class has: its own __init__ -/
structure Ini (K : PySem.W.Frag) (C fI : Addr) : Prop where
  at_ : PySem.W.findIn K (.ref C) "__init__" = some (some (.ref fI))
  ty : PySem.W.typeIn K (.ref fI) = some (.type "function")
section
variable {X : Cx} {pins : List (Addr × Obj)} {σ : L2.St} {H : Hp} {s : Shared} {Q : VK} {us ws : List Value} {vs zs : List V} {B newId initId : String} {bmB : List Value} {C fI : Addr} {k n : Nat} {fd : FuncData} {ps ks : List Str} {sp : Sp} {g : List Value → List Value → List Value} {gV : List V → List V → List V}
theorem runMade (T : Cl X.K C B newId initId bmB) (N : Ini X.K C fI) (F1 : FnOk X.prog X.w X.K X.mg X.base CX0 k fI fd ps sp) (hr : Room (k + 1) X.A) (hb : KBn X.K fd ps (n + 1) ks g gV) (few : n ≤ 1000)
    (I : Inv X pins σ H s) (r : Vals vs us) (rz : Vals zs ws) (l1 : vs.length = n) (l2 : zs.length = ks.length)
    (h : ∀ a, H a = none → sp (gV (.ref a :: vs) zs) (upd H a (exo a C none)) (fun v H2 => v = .non ∧ Q (.ref a) H2) E0) :
    wpAny (model X.prog X.w) X.A (call (.ref C) us (ks.zip ws)) (EP X pins σ Q) X.xe s := by
  obtain ⟨nm, N', qn, bs, bm, hdct, sn, sub, ab, col, dd, k0, k1, k2, k3, k5, hC, alike⟩ := PySem.W.excInit_of I.kIn T.ini
  have li := PySem.W.looks_findIn (M := model X.prog X.w) I.kIn N.at_
  have lb : ∀ self, PySem.W.Looks (model X.prog X.w) s.heap (bindSpecial (.ref fI) self) (.ref fI, [self]) := fun self => PySem.W.bind_fn I.kIn self N.ty
  have fresh : s.heap.objs.size ≤ s.heap.objs.size + 1 := Nat.le_succ _
  have hn : H (s.heap.objs.size + 1) = none := I.hok.fresh fresh
  have q0 := h _ hn
  have ul : us.length ≤ sizeLine := by
    have e := r.length
    rw [sizeLine_eq]
    omega
  obtain ⟨hp, gg, d, t, os⟩ := s
  have keeps : ∀ b o, hp.get? b = some o → (PySem.XcW.bornH hp C us).get? b = some o := by
    intro b o e
    exact Heap.get?_push_of_some _ (Heap.get?_push_of_some _ e)
  have born : (PySem.XcW.bornH hp C us).get? (hp.objs.size + 1) = some (PySem.HandSPX.excO C hp.objs.size) := by heap_get
  have I2 : Inv X pins σ (upd H (hp.objs.size + 1) (exo (hp.objs.size + 1) C none)) ⟨PySem.XcW.bornH hp C us, gg, d, t, os⟩ :=
    I.laid (h' := PySem.XcW.bornH hp C us) (t' := t) (o := exo (hp.objs.size + 1) C none) (a := hp.objs.size + 1) keeps fresh (exo_ok born)
  have r2 : Vals (V.ref (hp.objs.size + 1) :: vs) (Value.ref (hp.objs.size + 1) :: us) := .cons rfl r
  have e1 : (Value.ref (hp.objs.size + 1) :: us).length = n + 1 := r2.length.symm.trans (congrArg Nat.succ l1)
  have e2 : ws.length = ks.length := rz.length.symm.trans l2
  apply wpAny_call
  apply PySem.XcW.callMade T.F alike hC ul li lb
  apply codeAny_mono (F1.run _ X.stack _ _ ⟨Value.ref (hp.objs.size + 1) :: us, ks.zip ws⟩ _ _ _ E0 (hr.make C us (ks.zip ws)) (I2.env0.make C us (ks.zip ws)) (hb.to _ _ ws I2.kIn e1 e2) (hb.rel r2 rz) q0)
  intro res s' z
  match res, z with
  | .error _, z => exact z.elim
  | .ok .next, z => exact z.elim
  | .ok .brk, z => exact z.elim
  | .ok .cont, z => exact z.elim
  | .ok (.ret u), z =>
    obtain ⟨v, H3, I3, rv, ev, q3⟩ := I2.after z
    subst ev
    exact ⟨rv, V.ref (hp.objs.size + 1), H3, I3, rfl, q3⟩
/-- C(e, .., k = v, ..) as a value -/
def tMkX (C : Addr) (n m : Nat) (sp : Sp) (gV : List V → List V → List V) (t tk : TA) : TE := fun σ H Q => t σ H fun vs H1 => tk σ H1 fun zs H2 => vs.length = n ∧ zs.length = m ∧
  ∀ a, H2 a = none → sp (gV (.ref a :: vs) zs) (upd H2 a (exo a C none)) (fun v H3 => v = .non ∧ Q (.ref a) H3) E0
variable {x : Str} {p pos : Pos} {e : Expr} {es : List Expr} {kws : List Keyword} {ta tk : TA}
theorem pe_mkx (T : Cl X.K C B newId initId bmB) (N : Ini X.K C fI) (F1 : FnOk X.prog X.w X.K X.mg X.base CX0 k fI fd ps sp) (hr : Room (k + 1) X.A) (hb : KBn X.K fd ps (n + 1) ks g gV) (few : n ≤ 1000) (hg : Gl X x) (hm : X.mg x = some (.ref C))
    (ha : PA X (e :: es) ta) (hkw : PK X kws tk) (hall : (backToKw pos (keywordEach kws X.env)).all (·.1.isSome) = true := by rfl) (hks : (backToKw pos (keywordEach kws X.env)).filterMap (·.1) = ks := by rfl)
    (hdb : (x == ("__debug__" : Str)) = false := by decide) (he : starEach (e :: es) X.env = (false, eval e X.env) :: starEach es X.env := by rfl)
    (hpl : ((backTo pos (starEach (e :: es) X.env)).any (·.1) || (backToKw pos (keywordEach kws X.env)).any (·.1.isNone)) = false := by rfl) :
    PE X (.Call (.Name x p) (e :: es) kws pos) (tMkX C n ks.length sp gV ta tk) := by
  constructor
  intro pins s σ H Q I h
  apply wpAny_Call_Name_kw
  apply ld_glob I hg hm _ hdb
  apply PySem.W.callWith_KW (h₀ := X.base) I.ok.mod.kin T.kp hall _ hpl he
  apply thn (ha.run pos pins s σ H _ I h)
  rintro us s1 ⟨vs, H1, I1, r, q⟩
  apply thn (hkw.run pos pins s1 σ H1 _ I1 q)
  rintro ws s2 ⟨zs, H2, I2, rz, l1, l2, q2⟩
  refine ⟨I2.kIn, ?_⟩
  rw [hks]
  exact runMade T N F1 hr hb few I2 r rz l1 l2 q2
theorem pe_mkx0 (T : Cl X.K C B newId initId bmB) (N : Ini X.K C fI) (F1 : FnOk X.prog X.w X.K X.mg X.base CX0 k fI fd ps sp) (hr : Room (k + 1) X.A) (hb : KBn X.K fd ps 1 ks g gV) (hg : Gl X x) (hm : X.mg x = some (.ref C))
    (hkw : PK X kws tk) (hall : (backToKw pos (keywordEach kws X.env)).all (·.1.isSome) = true := by rfl) (hks : (backToKw pos (keywordEach kws X.env)).filterMap (·.1) = ks := by rfl)
    (hdb : (x == ("__debug__" : Str)) = false := by decide)
    (hpl : ((backTo pos (starEach [] X.env)).any (·.1) || (backToKw pos (keywordEach kws X.env)).any (·.1.isNone)) = false := by rfl) :
    PE X (.Call (.Name x p) [] kws pos) (tMkX C 0 ks.length sp gV tNil tk) := by
  constructor
  intro pins s σ H Q I h
  apply wpAny_Call_Name_kw
  apply ld_glob I hg hm _ hdb
  apply PySem.W.callWith_KW0 (h₀ := X.base) I.ok.mod.kin T.kp hall _ hpl
  apply thn (hkw.run pos pins s σ H _ I h)
  rintro ws s2 ⟨zs, H2, I2, rz, l1, l2, q2⟩
  refine ⟨I2.kIn, ?_⟩
  rw [hks]
  exact runMade (us := []) (vs := []) T N F1 hr hb (Nat.zero_le _) I2 .nil rz rfl l2 q2
end
/-! ### what such a call binds -/
section
variable {K : PySem.W.Frag} {x qual : Str} {st : Stmt} {f : Addr} {fd : FuncData} {ps ks : List Str} {n : Nat}
def gS {α : Type} (xs ys : List α) : List α := xs ++ ys
def gR {α : Type} (xs ys : List α) : List α := xs ++ ys.reverse
theorem kbS (F : Fun K x qual st f fd) (h : ∀ (kV doc pm : Value) (an : Option Addr) (cdv ct : Value) (us ws : List Value), us.length = n → ws.length = ks.length → bindArgs (PySem.W.fnOf x qual (defArgs st) (defBody st) (defScope st) .none kV doc pm an cdv ct) ⟨us, ks.zip ws⟩ = pure (ps.zip (gS us ws))) :
    KBn K fd ps n ks gS gS := by
  obtain ⟨oc, od, kV, doc, pm, an, cdv, ct, osl, rfl, lk, hcd⟩ := F.ex
  exact ⟨fun s us ws _ h1 h2 => .of_eq (h kV doc pm an cdv ct us ws h1 h2), fun r1 r2 => r1.append r2⟩
theorem kbR (F : Fun K x qual st f fd) (h : ∀ (kV doc pm : Value) (an : Option Addr) (cdv ct : Value) (us ws : List Value), us.length = n → ws.length = ks.length → bindArgs (PySem.W.fnOf x qual (defArgs st) (defBody st) (defScope st) .none kV doc pm an cdv ct) ⟨us, ks.zip ws⟩ = pure (ps.zip (gR us ws))) :
    KBn K fd ps n ks gR gR := by
  obtain ⟨oc, od, kV, doc, pm, an, cdv, ct, osl, rfl, lk, hcd⟩ := F.ex
  exact ⟨fun s us ws _ h1 h2 => .of_eq (h kV doc pm an cdv ct us ws h1 h2), fun r1 r2 => r1.append r2.reverse⟩
end
end Xc
set_option Elab.async false
set_option linter.all false
set_option maxRecDepth 100000
set_option maxHeartbeats 4000000
/-! Xf: such exceptions read and asked for their class; one without an __init__ of its own. -/
namespace Xc
open PySem PySem.Spec PyProof.Rows L2 Bs
/-- an exception at a, of the class at C, with these fields -/
def Ex (H : Hp) (a C : Addr) (fs : List (Str × V)) : Prop := (fs = [] ∧ H a = some (exo a C none)) ∨ ∃ dx, H a = some (exo a C (some dx)) ∧ H dx = some (exd dx fs)
/-- what asking for its class needs -/
structure As (K : PySem.W.Frag) (C : Addr) : Prop where
  cl : (PySem.W.clsIn K C).isSome = true
  cc : PySem.W.findIn K (.ref C) "__class__" = some (some (.builtin "object.__class__"))
  gs : PySem.W.specialIn K (.builtin "object.__class__") "__get__" = some (some (.builtin "getset_descriptor.__get__"))
  tk : PySem.W.takesIn K (.builtin "object.__class__") = some true
  ob : PySem.W.mroIn K C (.type "object") = some true
section
variable {X : Cx} {pins : List (Addr × Obj)} {σ : L2.St} {H : Hp} {s : Shared} {a C : Addr} {fs : List (Str × V)} {B newId initId : String} {bmB : List Value}
theorem Ex.inst (I : Inv X pins σ H s) (e : Ex H a C fs) : ∃ (ox : Obj) (od : Option Obj), PySem.W.InstAt s.heap a ox C od := by
  cases e with
  | inl e =>
    obtain ⟨t, ho⟩ := exo_at I.hok e.2
    exact ⟨_, none, ho, rfl, rfl, True.intro⟩
  | inr e =>
    obtain ⟨dx, e1, e2⟩ := e
    obtain ⟨t, ho⟩ := exo_at I.hok e1
    obtain ⟨mA, hns, _⟩ := exd_at I.hok e2
    obtain ⟨od, hd, _⟩ := lookIn_ns hns
    exact ⟨_, some od, ho, rfl, rfl, hd⟩
/-- isinstance(x, c), x such an exception -/
def rIsX (K : PySem.W.Frag) : List V → Hp → VK → Prop := fun xs H Q => ∃ (a C : Addr) (fs : List (Str × V)) (c : V) (u : Value) (b : Bool), xs = [.ref a, c] ∧ Ex H a C fs ∧ (∃ B n i bm, Cl K C B n i bm) ∧ As K C ∧ ClsV c u ∧
  PySem.W.kitOne K (.ref C) u = some b ∧ Q (.bl b) H
theorem call_isX : CallR X (.builtin "isinstance") (rIsX X.K) := by
  intro pins s σ H xs us Q I r h
  obtain ⟨a, C, fs, c, u, b, rfl, ex, ⟨B, n, i, bm, T⟩, S, cv, e, q⟩ := h
  cases r with
  | cons r1 r =>
    cases r with
    | cons r2 r =>
      cases r
      have e2 := cv.eq r2
      subst e2
      obtain rfl := (show _ = Value.ref a from r1)
      obtain ⟨ox, od, J⟩ := ex.inst I
      exact PySem.W.kia_one (PySem.W.kitx_exc S.cl T.ga T.gg T.ex S.cc S.gs S.tk S.ob) I.kIn J e (fun z => nomatch z) fun tk => ⟨.bl b, H, I.tok tk, rfl, q⟩
/-- e.f -/
def tFld (K : PySem.W.Frag) (f : Str) (te : TE) : TE := fun σ H Q => te σ H fun x H1 => ∃ (a C : Addr) (fs : List (Str × V)) (v : V), x = .ref a ∧ Ex H1 a C fs ∧ (∃ B n i bm, Cl K C B n i bm) ∧ PySem.W.findIn K (.ref C) f = some none ∧ fs.lookup f = some v ∧ Q v H1
theorem pe_fld {e : Expr} {te : TE} {pos : Pos} {f : Str} (he : PE X e te) (hb : attributeBase e f X.env (eval e X.env) = eval e X.env := by rfl) : PE X (.Attribute e f pos) (tFld X.K f te) := by
  constructor
  intro pins s σ H Q I h
  apply attr_of hb
  apply thn (he.run pins s σ H _ I h)
  rintro u s1 ⟨x, H1, I1, rx, a, C, fs, v, rfl, ex, ⟨B, n, i, bm, T⟩, fn, l, q⟩
  obtain rfl : u = Value.ref a := rx
  cases ex with
  | inl e =>
    rw [e.1] at l
    exact nomatch l
  | inr e =>
    obtain ⟨dx, e1, e2⟩ := e
    obtain ⟨t, ho⟩ := exo_at I1.hok e1
    obtain ⟨mA, hns, rel⟩ := exd_at I1.hok e2
    obtain ⟨od, hd, look⟩ := lookIn_ns hns
    have rf := rel f
    rw [l] at rf
    obtain ⟨w, hw, rw'⟩ := RelO.some_of rf
    have J : PySem.W.InstAt s1.heap a _ C (some od) := ⟨ho, rfl, rfl, hd⟩
    apply PySem.HandSPX.exc_get I1.kIn J T.ga T.gg T.ex (PySem.W.findObj_own T.hd fn rfl _) (handed_of rw') ⟨v, H1, I1.tok _, rw', q⟩
    rw [look, hw]
/-- C(), without an __init__ of its own -/
def tMk0 (C : Addr) : TE := fun σ H Q => ∀ a, H a = none → Q (.ref a) (upd H a (exo a C none))
theorem pe_mk00 {x : Str} {p pos : Pos} (F : ExcBaseFacts B newId initId bmB) (q : PySem.W.excIn X.K C bmB newId = true) (kC : PySem.W.keepIn X.K (.ref C) = true) (hg : Gl X x) (hm : X.mg x = some (.ref C)) (hdb : (x == ("__debug__" : Str)) = false := by decide)
    (hpl : ((backTo pos (starEach [] X.env)).any (·.1) || (backToKw pos (keywordEach [] X.env)).any (·.1.isNone)) = false := by rfl) :
    PE X (.Call (.Name x p) [] [] pos) (tMk0 C) := by
  constructor
  intro pins s σ H Q I h
  apply wpAny_Call_Name_kw
  apply ld_glob I hg hm _ hdb
  apply PySem.W.callWith_KW0 (h₀ := X.base) I.ok.mod.kin kC (by rfl) _ hpl
  apply thn (pk_nil.run pos pins s σ H (fun vs H1 => vs = [] ∧ H1 = H) I ⟨rfl, rfl⟩)
  rintro ws s2 ⟨zs, H2, I2, rz, rfl, rfl⟩
  cases rz
  refine ⟨I2.kIn, ?_⟩
  show wpAny _ _ (call (.ref C) []) _ _ _
  obtain ⟨bm, N, nm, qn, bs, hdct, sn, sub, ab, col, dd, k0, k1, k2, k3, k5, mN, hC, hN, none, T⟩ := exc_obj I2.kIn q
  apply wpAny_call_exc_subT F T hC hN none _ (Nat.zero_le _)
  intro h' a made
  have hn := I2.hok.gone made.new
  obtain ⟨t, ht, _, _⟩ := made.there
  exact ⟨.ref a, _, I2.laidN made.keeps made.new hn (exo_ok ht), rfl, h a hn⟩
end
/-! ### all of it by one look -/
def clB (K : PySem.W.Frag) (C : Addr) (newId : String) (bmB : List Value) : Bool :=
  PySem.W.excInitIn K C bmB newId && (PySem.W.excOver K C bmB && (PySem.W.hasDictIn K C && (decide (PySem.W.findIn K (.ref C) "__setattr__" = some (some (.builtin "object.__setattr__"))) &&
  (decide (PySem.W.findIn K (.ref C) "__getattribute__" = some (some (.builtin "BaseException.__getattribute__"))) && (decide (PySem.W.findIn K (.ref C) "__getattr__" = some none) && (decide (PySem.W.subIn K (.ref C) (.type "BaseException") = some true) &&
  (decide (PySem.W.typeIn K (.ref C) = some (.type "type")) && PySem.W.keepIn K (.ref C))))))))
theorem Cl.of {K : PySem.W.Frag} {C : Addr} {B newId initId : String} {bmB : List Value} (F : ExcBaseFacts B newId initId bmB) (SF : StoreFacts B bmB "object.__setattr__" "object") (h : clB K C newId bmB = true) : Cl K C B newId initId bmB := by
  unfold clB at h
  simp only [Bool.and_eq_true, decide_eq_true_eq] at h
  obtain ⟨h1, h2, h3, h4, h5, h6, h7, h8, h9⟩ := h
  exact ⟨F, SF, h1, h2, h3, h4, h5, h6, h7, h8, h9⟩
def asB (K : PySem.W.Frag) (C : Addr) : Bool := (PySem.W.clsIn K C).isSome && (decide (PySem.W.findIn K (.ref C) "__class__" = some (some (.builtin "object.__class__"))) &&
  (decide (PySem.W.specialIn K (.builtin "object.__class__") "__get__" = some (some (.builtin "getset_descriptor.__get__"))) && (decide (PySem.W.takesIn K (.builtin "object.__class__") = some true) && decide (PySem.W.mroIn K C (.type "object") = some true))))
theorem As.of {K : PySem.W.Frag} {C : Addr} (h : asB K C = true) : As K C := by
  unfold asB at h
  simp only [Bool.and_eq_true, decide_eq_true_eq] at h
  obtain ⟨h1, h2, h3, h4, h5⟩ := h
  exact ⟨h1, h2, h3, h4, h5⟩
/-- of which classes it is -/
def kitB' (K : PySem.W.Frag) (C : Addr) (us : List Value) (bs : List Bool) : Bool := decide (us.map (PySem.W.kitOne K (.ref C)) = bs.map some)
theorem kitB'_at {K : PySem.W.Frag} {C : Addr} {us : List Value} {bs : List Bool} (h : kitB' K C us bs = true) {j : Nat} {u : Value} {b : Bool} (e1 : us[j]? = some u) (e2 : bs[j]? = some b) : PySem.W.kitOne K (.ref C) u = some b := by
  have e := congrArg (fun l => l[j]?) (of_decide_eq_true h)
  simp only [List.getElem?_map, e1, e2, Option.map_some] at e
  exact Option.some.inj e
end Xc
set_option Elab.async false
set_option linter.all false
set_option maxRecDepth 100000
set_option maxHeartbeats 4000000
/-! Xg: data with a dict of one row in it, shown; the end of a row over a law that shows it. -/
namespace Xg
open PySem PySem.Spec PyProof.Rows L2 Bs
/-- data at any depth, with dicts of one text and one number -/
inductive Dq (K : PySem.W.Frag) (H : Hp) : V → PyData → Prop
  | non : Dq K H .non .none
  | bl (b : Bool) : Dq K H (.bl b) (.bool b)
  | int (i : Int) : Dq K H (.int i) (.int i)
  | str (x : Str) : Dq K H (.str x) (.str x)
  | dk {a : Addr} (x : Str) (i : Int) : H a = some (.dK [(.inr x, .int i)]) → Dq K H (.ref a) (.dict [(.str x, .int i)])
  | d0 {a : Addr} : H a = some (.dK []) → Dq K H (.ref a) (.dict [])
  | lst {a : Addr} (ps : List (V × PyData)) : SqL K H a (ps.map (·.1)) → (∀ p ∈ ps, Dq K H p.1 p.2) → Dq K H (.ref a) (.list (ps.map (·.2)))
  | tup {a : Addr} (ps : List (V × PyData)) : SqT K H a (ps.map (·.1)) → (∀ p ∈ ps, Dq K H p.1 p.2) → Dq K H (.ref a) (.tuple (ps.map (·.2)))
theorem sameL {K : PySem.W.Frag} {H H' : Hp} {a : Addr} {xs : List V} (s : Same H H') (q : SqL K H a xs) : SqL K H' a xs := by
  rcases q with (q | ⟨o, q⟩) | q
  · exact .inl (.inl (s _ _ q))
  · exact .inl (.inr ⟨o, s _ _ q⟩)
  · exact .inr q
theorem sameT {K : PySem.W.Frag} {H H' : Hp} {a : Addr} {xs : List V} (s : Same H H') (q : SqT K H a xs) : SqT K H' a xs := by
  rcases q with (q | ⟨o, q⟩) | q
  · exact .inl (.inl (s _ _ q))
  · exact .inl (.inr ⟨o, s _ _ q⟩)
  · exact .inr q
theorem Dq.same {K : PySem.W.Frag} {H H' : Hp} {x : V} {d : PyData} (h : Dq K H x d) (s : Same H H') : Dq K H' x d := by
  induction h with
  | non => exact .non
  | bl b => exact .bl b
  | int i => exact .int i
  | str x => exact .str x
  | dk x i e => exact .dk x i (s _ _ e)
  | d0 e => exact .d0 (s _ _ e)
  | lst ps e _ ih => exact .lst ps (sameL s e) ih
  | tup ps e _ ih => exact .tup ps (sameT s e) ih
section
variable {X : Cx} {pins : List (Addr × Obj)} {σ : L2.St} {H : Hp} {s : Shared}
theorem readsAll_of {h : Heap} : ∀ {ps : List (V × PyData)} {us : List Value}, (∀ p ∈ ps, ∀ u, RelV p.1 u → ∃ as, Reads h u p.2 as ∧ sysModules ∉ as) → Vals (ps.map (·.1)) us → ∃ as, ReadsAll h us (ps.map (·.2)) as ∧ sysModules ∉ as
  | [], _, _, r => by
    cases r
    exact ⟨_, .nil, by simp⟩
  | p :: ps, _, h, r => by
    cases r with
    | cons r1 r2 =>
      obtain ⟨as, q1, n1⟩ := h p List.mem_cons_self _ r1
      obtain ⟨bs, q2, n2⟩ := readsAll_of (fun q hq => h q (List.mem_cons_of_mem _ hq)) r2
      refine ⟨_, .cons q1 q2, ?_⟩
      intro z
      cases List.mem_append.mp z with
      | inl z => exact n1 z
      | inr z => exact n2 z
theorem Dq.reads (I : Inv X pins σ H s) (sm : ∃ mm, X.base.Ns sysModules mm) {x : V} {d : PyData} (h : Dq X.K H x d) : ∀ u, RelV x u → ∃ as, Reads s.heap u d as ∧ sysModules ∉ as := by
  obtain ⟨mm, om, es, ep, hm, hdm, _⟩ := sm
  have hm' : s.heap.get? sysModules = some om := I.bk _ _ hm
  induction h with
  | non =>
    intro u r
    cases r
    exact ⟨_, .none, by simp⟩
  | bl b =>
    intro u r
    cases r
    exact ⟨_, .bool b, by simp⟩
  | int i =>
    intro u r
    obtain ⟨t, rfl⟩ := r
    exact ⟨_, .int i t, by simp⟩
  | str x =>
    intro u r
    obtain ⟨t, rfl⟩ := r
    exact ⟨_, .str x t, by simp⟩
  | @dk a x i e =>
    intro u r
    cases r
    obtain ⟨_, ns, vs, kv, o, es, ep, ho, hc, hd, _, pr, _⟩ := (show ObjOk X.prog X.w H s.heap a (.dK [(.inr x, .int i)]) from I.hok a _ e)
    cases kv with
    | @cons _ b _ _ k1 k2 =>
      cases k2
      obtain ⟨qk, qv⟩ := b
      obtain ⟨e1, e2⟩ := k1
      dsimp only at e1 e2
      subst e1
      obtain ⟨t, rfl⟩ := e2
      generalize hl : es.toList = l at pr
      cases pr with
      | cons p1 p2 p3 =>
        rename_i en _
        cases p3
        obtain ⟨t2, hk⟩ := Value.isStrOf_shape (x := x) (v := en.key) p1
        dsimp only at p2
        have rk : ReadsAll s.heap (es.toList.map (·.key)) [PyData.str x] ([] ++ []) := by
          rw [hl]
          show ReadsAll s.heap [en.key] _ _
          rw [hk]
          exact .cons (.str x t2) .nil
        have rv : ReadsAll s.heap (es.toList.map (·.val)) [PyData.int i] ([] ++ []) := by
          rw [hl]
          show ReadsAll s.heap [en.val] _ _
          rw [p2]
          exact .cons (.int i t) .nil
        refine ⟨_, Reads.dict (kvs := [(PyData.str x, PyData.int i)]) ho hc.1 hd rk rv, ?_⟩
        have ne : a ≠ sysModules := by
          intro z
          rw [z] at ns
          exact absurd ns (by decide)
        intro z
        simp at z
        exact ne z.symm
  | @d0 a e =>
    intro u r
    cases r
    obtain ⟨_, ns, vs, kv, o, es, ep, ho, hc, hd, _, pr, _⟩ := (show ObjOk X.prog X.w H s.heap a (.dK []) from I.hok a _ e)
    cases kv
    generalize hl : es.toList = l at pr
    cases pr
    have rk : ReadsAll s.heap (es.toList.map (·.key)) [] [] := by
      rw [hl]
      exact .nil
    have rv : ReadsAll s.heap (es.toList.map (·.val)) [] [] := by
      rw [hl]
      exact .nil
    refine ⟨_, Reads.dict (kvs := []) ho hc.1 hd rk rv, ?_⟩
    have ne : a ≠ sysModules := by
      intro z
      rw [z] at ns
      exact absurd ns (by decide)
    intro z
    simp at z
    exact ne z.symm
  | @lst a ps e _ ih =>
    intro u r
    cases r
    obtain ⟨its, rv, ⟨o, n, ho, hc, _, hd⟩, _⟩ := I.list e
    obtain ⟨as, hr, na⟩ := readsAll_of ih rv
    refine ⟨_, .list ho hc hd hr, ?_⟩
    intro z
    cases List.mem_cons.mp z with
    | inl z =>
      rw [← z, hm'] at ho
      cases ho
      rw [hdm] at hd
      cases hd
    | inr z => exact na z
  | @tup a ps e _ ih =>
    intro u r
    cases r
    obtain ⟨its, rv, ⟨o, ho, hc, n, hd⟩, _⟩ := I.tuple e
    obtain ⟨as, hr, na⟩ := readsAll_of ih rv
    exact ⟨_, .tuple ho hc hd hr, na⟩
end
section
variable {X : Cx}
/-- repr(x), x such a list, tuple or dict -/
theorem call_reprQ (ng : X.A.guards = some []) (hu : X.A.units + 64 < cLine) (sm : ∃ mm, X.base.Ns sysModules mm) :
    CallR X (.builtin "repr") (fun xs H Q => ∃ x d, xs = [x] ∧ Dq X.K H x d ∧ isDisplay d = true ∧ d.showable = true ∧ d.depth < 60 ∧ d.shown.length ≤ sizeLine ∧ Q (.str d.shown) H) := by
  intro pins s σ H xs us Q I r h
  obtain ⟨x, d, rfl, dp, dis, sho, dep, len, q⟩ := h
  cases r with
  | cons r1 r2 =>
    cases r2
    obtain ⟨as, rd, no⟩ := dp.reads I sm _ r1
    obtain ⟨a, rfl⟩ := isRef_of_reads rd dis
    apply repr_of_reads' rd sho (fun _ => no) ng (by omega) (fun _ _ e => e) _ len
    intro h' u tk kp
    exact ⟨.str d.shown, H, I.kept (h' := h') (t' := tk) kp, ⟨u, rfl⟩, q⟩
end
end Xg
set_option Elab.async false
set_option linter.all false
set_option maxRecDepth 100000
set_option maxHeartbeats 4000000
/-! Xh: the end of a row over a law that shows dicts. -/
namespace Xg
open PySem PySem.Spec PyProof.Rows L2 Bs
theorem endS {P : Program} {w : World} {K : PySem.W.Frag} {mg mb : Str → Option Value} {k : Nat} {fa a : Addr} {fd : FuncData} {x : Str} {sp : Sp} {s : Shared} {us : List Value} {ns : List Int}
    (inK : K.In s.heap) (gl : s.heap.Ns mainGlobals mg) (bu : s.heap.Ns builtinsNs mb) (buE : ∀ x : Str, x ≠ "__name__" → mb x = bootBuiltins x) (noL : s.heap.NoLimit) (sm : ∃ mm, s.heap.Ns sysModules mm) (noG : s.gens = #[])
    (at_ : s.heap.get? a = some { cls := .type "list", data := .seq us.toArray }) (iA : IntsAre us ns) (len : ns.length ≤ sizeLine) (room : Room k callerA)
    (F : ∀ base : Heap, K.In base → base.Ns mainGlobals mg → (∃ mm, base.Ns sysModules mm) → FG P w K mg base k fa fd [x] sp) (bnd : ∀ (s : Shared) (u : Value), BindsTo s fd ⟨[u], []⟩ [(x, u)])
    (want : ∀ H : Hp, Only H → SqL K H a (ns.map V.int) → sp [.ref a] H (fun v _ => v = .bl true) E0) :
    codeAny (model P w) callerA (.call (.ref fa) ⟨[.ref a], []⟩) (fun r s' => r = .ok (.ret (.bool true)) ∧ OldK s.heap s'.heap ∧ s'.os = s.os ∧ AllBare s'.gens) s := by
  have rv := vals_ints iA
  have lenV := iA.length
  have key : ∀ H : Hp, Only H → SqL K H a (ns.map V.int) → HOk P w H s.heap → (∀ b, b ≠ a → H b = none) → (K.lookup a ≠ none → H a = none) →
      codeAny (model P w) callerA (.call (.ref fa) ⟨[.ref a], []⟩) (fun r s' => r = .ok (.ret (.bool true)) ∧ OldK s.heap s'.heap ∧ s'.os = s.os ∧ AllBare s'.gens) s := by
    intro H oH sH okH one hK
    have nd : ∀ {b : Addr} {o : Obj} {es : Array DictEntry} {ep : Nat}, s.heap.get? b = some o → o.data = .dict es ep → H b = none := by
      intro b o es ep e d
      by_cases eb : b = a
      · rw [eb, at_] at e
        cases e
        exact nomatch (show Data.seq us.toArray _ = Data.dict es ep from d)
      · exact one b eb
    have nsH : ∀ {b : Addr} {m : Str → Option Value}, s.heap.Ns b m → (hidT s.heap H).Ns b m := by
      rintro b m ⟨o, es, ep, e, d, r⟩
      exact ⟨o, es, ep, hidT_get e (nd e d), d, r⟩
    have kH : K.In (hidT s.heap H) := by
      intro b o e
      apply hidT_get (inK b o e)
      by_cases eb : b = a
      · rw [eb]
        exact hK (by rw [← eb, e]; simp)
      · exact one b eb
    have md : Mod K mg (hidT s.heap H) := ⟨kH, nsH gl, ⟨mb, nsH bu, buE⟩, noL.elim fun mc q => ⟨mc, nsH q.1, q.2⟩⟩
    have e0 : Env0 P w K mg (hidT s.heap H) callerA [] s H :=
      { frames := rfl, mod := md, bs := fun b o e => of_hidT e, bsz := Nat.le_of_eq (hidT_size _ _), funs := trivial, frf := fun b hb => (nomatch (show b ∈ ([] : List Addr) from hb)), hok := okH, bare := .of_eq noG }
    apply codeAny_mono ((F _ kH (nsH gl) (sm.elim fun mm q => ⟨mm, nsH q⟩)).goes callerA [] s H ⟨[.ref a], []⟩ [.ref a] [.ref a] _ _ rfl room e0 (bnd s (.ref a)) (.cons rfl .nil) (want H oH sH))
    intro r s' h
    match r, h with
    | .error e, h => exact h.elim
    | .ok .next, h => exact h.elim
    | .ok .brk, h => exact h.elim
    | .ok .cont, h => exact h.elim
    | .ok (.ret u), ⟨v, H', os, bare, un, ok', r', q⟩ =>
      have q' : v = .bl true := q
      subst q'
      have eu : u = Value.bool true := r'
      subst eu
      refine ⟨rfl, OldK.of_keep ?_, os, bare⟩
      intro b o e
      cases eb : H b with
      | none => exact un.keep b o e eb (fun z => (nomatch (show b ∈ ([] : List Addr) from z))) (by simp)
      | some u =>
        cases oH b with
        | inl z => rw [eb] at z; cases z
        | inr z =>
          obtain ⟨ob, xs, z⟩ := z
          have e1 := (okH b _ z).1
          have e2 := (ok' b _ (un.frzs b ob _ z)).1
          rw [e] at e1
          cases e1
          exact e2
  cases hk : K.lookup a with
  | some o =>
    have e := inK a o hk
    rw [at_] at e
    cases e
    apply key (fun _ => none) (fun _ => .inl rfl) _ (fun b u z => nomatch (show (none : Option HO) = some u from z)) (fun _ _ => rfl) (fun _ => rfl)
    exact .inr ⟨_, us.toArray, _, hk, rfl, rfl, rfl, by rw [List.size_toArray, lenV]; exact len, by simpa using rv⟩
  | none =>
    let fz : HO := .frz { cls := .type "list", data := .seq us.toArray } (.lst (ns.map V.int))
    apply key (fun b => if b = a then some fz else none)
    · intro b
      by_cases hb : b = a
      · exact .inr ⟨_, _, if_pos hb⟩
      · exact .inl (if_neg hb)
    · exact .inl (.inr ⟨_, if_pos rfl⟩)
    · intro b u z
      by_cases hb : b = a
      · have z' := (if_pos hb).symm.trans z
        cases z'
        subst hb
        exact ⟨at_, by rw [List.length_map]; exact len, us, _, rv, at_⟩
      · have z' := (if_neg hb).symm.trans z
        cases z'
    · intro b hb
      exact if_neg hb
    · intro z
      exact absurd hk z
theorem walkS {l : PySem.W.OpenLaw} {n k : Nat} {q : Program} {loose : List Str} {XP : (Str → Option Value) → Heap → Prop} {YP : World → Heap → Prop} {d : DefRec} {K : Params → PySem.W.Frag} {sp : PySem.W.Frag → Sp} {x : Str}
    (calm : importsNone q = true) (most : l.most = some n) (small : n ≤ sizeLine) (plain : d.params.defaults = []) (room : Room k callerA) (hY : ∀ (w : World) (h : Heap), YP w h → (K w.params).In h)
    (F : ∀ (w : World) (mg : Str → Option Value) (fa : Addr) (h : Heap), (K w.params).In h → h.Ns mainGlobals mg → mg d.name = some (.ref fa) →
      ∃ fd : FuncData, (∀ (s : Shared) (u : Value), BindsTo s fd ⟨[u], []⟩ [(x, u)]) ∧
        ∀ base : Heap, (K w.params).In base → base.Ns mainGlobals mg → (∃ mm, base.Ns sysModules mm) → FG l.prog w (K w.params) mg base k fa fd [x] (sp (K w.params)))
    (want : ∀ (K : PySem.W.Frag) (H : Hp) (a : Addr) (ns : List Int), ns.length ≤ n → Only H → SqL K H a (ns.map V.int) → sp K [.ref a] H (fun v _ => v = .bl true) E0) :
    PySem.W.WalkO q loose XP YP l.row.toRowW d [] (fun f vs => PySem.call f vs) := by
  apply Att.attach_call most plain
  intro w s₀ s₁ mg mb fa o pm cd doc a us ns G Y ho hd hcd hmg at_ iA len noG
  obtain ⟨fd, hb, hF⟩ := F w mg fa _ (hY w _ Y) G.T.g hmg
  exact endS (hY w _ Y) G.T.g G.T.b G.T.builtins G.T.nolimit ((G.T.seer calm).mods.elim fun mm q => ⟨mm, q.1⟩) noG at_ iA (Nat.le_trans len small) room hF hb fun H hO hS => want (K w.params) H a ns len hO hS

end Xg
set_option Elab.async false
set_option linter.all false
set_option maxRecDepth 100000
set_option maxHeartbeats 4000000
/-! Xi: repr of data of any form; such exceptions raised; a try with several named clauses. -/
namespace Xg
open PySem PySem.Spec PyProof.Rows L2 Bs Xc
section
variable {X : Cx}
/-- repr(x), x data of any form -/
theorem call_reprA (ng : X.A.guards = some []) (hu : X.A.units + 64 < cLine) (sm : ∃ mm, X.base.Ns sysModules mm) :
    CallR X (.builtin "repr") (fun xs H Q => ∃ x d, xs = [x] ∧ Dq X.K H x d ∧ d.showable = true ∧ d.depth < 60 ∧ d.shown.length ≤ sizeLine ∧ Q (.str d.shown) H) := by
  intro pins s σ H xs us Q I r h
  obtain ⟨x, d, rfl, dp, sho, dep, len, q⟩ := h
  cases r with
  | cons r1 r2 =>
    cases r2
    obtain ⟨as, rd, no⟩ := dp.reads I sm _ r1
    have far : ∀ {a : Addr} {u : Value}, u = .ref a → Reads s.heap u d as → wpAny (model X.prog X.w) X.A (call (.builtin "repr") [u]) (EP X pins σ Q) X.xe s := by
      rintro a u rfl rd
      apply repr_of_reads' rd sho (fun _ => no) ng (by omega) (fun _ _ e => e) _ len
      intro h' u tk kp
      exact ⟨.str d.shown, H, I.kept (h' := h') (t' := tk) kp, ⟨u, rfl⟩, q⟩
    cases dp with
    | non =>
      cases r1
      simp only [PyData.shown] at q
      exact PySem.P.repr_of_none ⟨.str _, H, I.tok _, ⟨_, rfl⟩, q⟩
    | bl b =>
      cases r1
      simp only [PyData.shown] at q
      exact PySem.P.repr_of_bool ⟨.str _, H, I.tok _, ⟨_, rfl⟩, q⟩
    | int i =>
      obtain ⟨t, rfl⟩ := r1
      simp only [PyData.shown] at q
      simp only [PyData.showable, decide_eq_true_eq] at sho
      exact PySem.P.repr_of_int sho ⟨.str _, H, I.tok _, ⟨_, rfl⟩, q⟩
    | str x =>
      obtain ⟨t, rfl⟩ := r1
      rw [PyData.shown_str] at q len
      exact PySem.P.repr_of_str ⟨.str _, H, I.tok _, ⟨_, rfl⟩, q⟩ len
    | dk x i e => exact far r1 rd
    | d0 e => exact far r1 rd
    | lst ps e k => exact far r1 rd
    | tup ps e k => exact far r1 rd
end
/-- .. the written part told -/
def rRp (K : PySem.W.Frag) : List V → Hp → VK → Prop := fun xs H Q => ∃ x d, xs = [x] ∧ Dq K H x d ∧ d.showable = true ∧ d.depth < 60 ∧ d.shown.length ≤ sizeLine ∧ Q (.str d.shown) H
theorem call_reprK {X : Cx} {K : PySem.W.Frag} (hK : X.K = K) (ng : X.A.guards = some []) (hu : X.A.units + 64 < cLine) (sm : ∃ mm, X.base.Ns sysModules mm) : CallR X (.builtin "repr") (rRp K) := by
  subst hK
  exact call_reprA ng hu sm
/-! ### raise C(e, .., k = v, ..) -/
section
variable {X : Cx} {pins : List (Addr × Obj)} {σ : L2.St} {H : Hp} {s : Shared} {us ws : List Value} {vs zs : List V} {B newId initId : String} {bmB : List Value} {C fI : Addr} {k n : Nat} {fd : FuncData} {ps ks : List Str} {sp : Sp} {g : List Value → List Value → List Value} {gV : List V → List V → List V}
/-- what is wanted of it, behind its __init__ -/
def flew (C a : Addr) (H : Hp) (Q : XK) : VK := fun v H3 => v = .non ∧ ∃ (d : Addr) (fs : List (Str × V)), H3 a = some (exo a C (some d)) ∧ H3 d = some (exd d fs) ∧ H d = none ∧ Q (.ref C) (some d) (upd (del H3 a) d (.xd fs))
theorem runRaise {Q : XK} (T : Cl X.K C B newId initId bmB) (N : Ini X.K C fI) (F1 : FnOk X.prog X.w X.K X.mg X.base CX0 k fI fd ps sp) (hr : Room (k + 1) X.A) (hb : KBn X.K fd ps (n + 1) ks g gV) (few : n ≤ 1000)
    (I : Inv X pins σ H s) (r : Vals vs us) (rz : Vals zs ws) (l1 : vs.length = n) (l2 : zs.length = ks.length)
    (h : ∀ a, H a = none → sp (gV (.ref a :: vs) zs) (upd H a (exo a C none)) (flew C a H Q) E0) :
    wpAny (model X.prog X.w) X.A (call (.ref C) us (ks.zip ws)) (MkP X pins σ Q) X.xe s := by
  obtain ⟨nm, N', qn, bs, bm, hdct, sn, sub, ab, col, dd, k0, k1, k2, k3, k5, hC, alike⟩ := PySem.W.excInit_of I.kIn T.ini
  have li := PySem.W.looks_findIn (M := model X.prog X.w) I.kIn N.at_
  have lb : ∀ self, PySem.W.Looks (model X.prog X.w) s.heap (bindSpecial (.ref fI) self) (.ref fI, [self]) := fun self => PySem.W.bind_fn I.kIn self N.ty
  have fresh : s.heap.objs.size ≤ s.heap.objs.size + 1 := Nat.le_succ _
  have hn : H (s.heap.objs.size + 1) = none := I.hok.fresh fresh
  have q0 := h _ hn
  have ul : us.length ≤ sizeLine := by
    have e := r.length
    rw [sizeLine_eq]
    omega
  obtain ⟨hp, gg, d, t, os⟩ := s
  have keeps : ∀ b o, hp.get? b = some o → (PySem.XcW.bornH hp C us).get? b = some o := by
    intro b o e
    exact Heap.get?_push_of_some _ (Heap.get?_push_of_some _ e)
  have born : (PySem.XcW.bornH hp C us).get? (hp.objs.size + 1) = some (PySem.HandSPX.excO C hp.objs.size) := by heap_get
  have I2 : Inv X pins σ (upd H (hp.objs.size + 1) (exo (hp.objs.size + 1) C none)) ⟨PySem.XcW.bornH hp C us, gg, d, t, os⟩ :=
    I.laid (h' := PySem.XcW.bornH hp C us) (t' := t) (o := exo (hp.objs.size + 1) C none) (a := hp.objs.size + 1) keeps fresh (exo_ok born)
  have r2 : Vals (V.ref (hp.objs.size + 1) :: vs) (Value.ref (hp.objs.size + 1) :: us) := .cons rfl r
  have e1 : (Value.ref (hp.objs.size + 1) :: us).length = n + 1 := r2.length.symm.trans (congrArg Nat.succ l1)
  have e2 : ws.length = ks.length := rz.length.symm.trans l2
  apply wpAny_call
  apply PySem.XcW.callMade T.F alike hC ul li lb
  apply codeAny_mono (F1.run _ X.stack _ _ ⟨Value.ref (hp.objs.size + 1) :: us, ks.zip ws⟩ _ _ _ E0 (hr.make C us (ks.zip ws)) (I2.env0.make C us (ks.zip ws)) (hb.to _ _ ws I2.kIn e1 e2) (hb.rel r2 rz) q0)
  intro res s' z
  match res, z with
  | .error _, z => exact z.elim
  | .ok .next, z => exact z.elim
  | .ok .brk, z => exact z.elim
  | .ok .cont, z => exact z.elim
  | .ok (.ret u), z =>
    obtain ⟨v, H3, os3, bare3, un3, hok3, rv, ev, dx, fs, ea, ed, n1, q3⟩ := z
    subst ev
    obtain ⟨h3, g3, d3, t3, os'⟩ := s'
    exact ⟨rv, mk_end (raises_own T.ex T.ty) I fresh keeps un3 hok3 os3 bare3 ea ed n1 q3⟩
def tRs (C : Addr) (n m : Nat) (sp : Sp) (gV : List V → List V → List V) (t tk : TA) : L2.St → Hp → XK → Prop := fun σ H Q => t σ H fun vs H1 => tk σ H1 fun zs H2 => vs.length = n ∧ zs.length = m ∧
  ∀ a, H2 a = none → sp (gV (.ref a :: vs) zs) (upd H2 a (exo a C none)) (flew C a H2 Q) E0
variable {x : Str} {p pos : Pos} {e : Expr} {es : List Expr} {kws : List Keyword} {ta tk : TA}
theorem pmk_x (T : Cl X.K C B newId initId bmB) (N : Ini X.K C fI) (F1 : FnOk X.prog X.w X.K X.mg X.base CX0 k fI fd ps sp) (hr : Room (k + 1) X.A) (hb : KBn X.K fd ps (n + 1) ks g gV) (few : n ≤ 1000) (hg : Gl X x) (hm : X.mg x = some (.ref C))
    (ha : PA X (e :: es) ta) (hkw : PK X kws tk) (hall : (backToKw pos (keywordEach kws X.env)).all (·.1.isSome) = true := by rfl) (hks : (backToKw pos (keywordEach kws X.env)).filterMap (·.1) = ks := by rfl)
    (hdb : (x == ("__debug__" : Str)) = false := by decide) (he : starEach (e :: es) X.env = (false, eval e X.env) :: starEach es X.env := by rfl)
    (hpl : ((backTo pos (starEach (e :: es) X.env)).any (·.1) || (backToKw pos (keywordEach kws X.env)).any (·.1.isNone)) = false := by rfl) :
    PMk X (.Call (.Name x p) (e :: es) kws pos) (tRs C n ks.length sp gV ta tk) := by
  intro pins s σ H Q I h
  apply wpAny_Call_Name_kw
  apply ld_glob I hg hm _ hdb
  apply PySem.W.callWith_KW (h₀ := X.base) I.ok.mod.kin T.kp hall _ hpl he
  apply thn (ha.run pos pins s σ H _ I h)
  rintro us s1 ⟨vs, H1, I1, r, q⟩
  apply thn (hkw.run pos pins s1 σ H1 _ I1 q)
  rintro ws s2 ⟨zs, H2, I2, rz, l1, l2, q2⟩
  refine ⟨I2.kIn, ?_⟩
  rw [hks]
  exact runRaise T N F1 hr hb few I2 r rz l1 l2 q2
theorem pmk_x0 (T : Cl X.K C B newId initId bmB) (N : Ini X.K C fI) (F1 : FnOk X.prog X.w X.K X.mg X.base CX0 k fI fd ps sp) (hr : Room (k + 1) X.A) (hb : KBn X.K fd ps 1 ks g gV) (hg : Gl X x) (hm : X.mg x = some (.ref C))
    (hkw : PK X kws tk) (hall : (backToKw pos (keywordEach kws X.env)).all (·.1.isSome) = true := by rfl) (hks : (backToKw pos (keywordEach kws X.env)).filterMap (·.1) = ks := by rfl)
    (hdb : (x == ("__debug__" : Str)) = false := by decide)
    (hpl : ((backTo pos (starEach [] X.env)).any (·.1) || (backToKw pos (keywordEach kws X.env)).any (·.1.isNone)) = false := by rfl) :
    PMk X (.Call (.Name x p) [] kws pos) (tRs C 0 ks.length sp gV tNil tk) := by
  intro pins s σ H Q I h
  apply wpAny_Call_Name_kw
  apply ld_glob I hg hm _ hdb
  apply PySem.W.callWith_KW0 (h₀ := X.base) I.ok.mod.kin T.kp hall _ hpl
  apply thn (hkw.run pos pins s σ H _ I h)
  rintro ws s2 ⟨zs, H2, I2, rz, l1, l2, q2⟩
  refine ⟨I2.kIn, ?_⟩
  rw [hks]
  exact runRaise (us := []) (vs := []) T N F1 hr hb (Nat.zero_le _) I2 .nil rz rfl l2 q2
end
/-- such an __init__, and it flies -/
theorem flies {H : Hp} {a C : Addr} {n : Nat} {mk : List V → List (Str × V)} {l xs : List V} {Q : XK} (el : l = .ref a :: xs) (hl : xs.length = n) (ha : H a = none)
    (k : ∀ (d : Addr) (H' : Hp), (∀ b o, H b = some o → H' b = some o) → H' d = some (.xd (mk xs)) → Q (.ref C) (some d) H') :
    spIn C n mk l (upd H a (exo a C none)) (flew C a H Q) E0 := by
  refine ⟨a, xs, el, hl, upd_same, fun dx H' n1 n2 e1 e2 keep => ?_⟩
  have nd : H dx = none := by
    rw [upd_ne n2] at n1
    exact n1
  refine ⟨rfl, dx, _, e1, e2, nd, k dx _ ?_ upd_same⟩
  intro b o e
  have b1 : b ≠ a := ne_of_none e ha
  have b2 : b ≠ dx := ne_of_none e nd
  rw [upd_ne b2, del_ne b1, keep b b1 b2, upd_ne b1]
  exact e
end Xg
set_option Elab.async false
set_option linter.all false
set_option maxRecDepth 100000
set_option maxHeartbeats 4000000
/-! Xm: data with dicts of any texts: repr. -/
namespace Xm
open PySem PySem.Spec PyProof.Rows L2 Bs Xg
def keyD : Key → PyData
  | .inl i => .int i
  | .inr x => .str x
/-- data, a dict of it, a tuple of such -/
inductive Dr (K : PySem.W.Frag) (H : Hp) : V → PyData → Prop
  | q {x : V} {d : PyData} : Dq K H x d → Dr K H x d
  | dn {a : Addr} (kvs : List (Key × V × PyData)) : H a = some (.dK (kvs.map fun e => (e.1, e.2.1))) → (∀ e ∈ kvs, Dq K H e.2.1 e.2.2) → Dr K H (.ref a) (.dict (kvs.map fun e => (keyD e.1, e.2.2)))
  | tup {a : Addr} (ps : List (V × PyData)) : SqT K H a (ps.map (·.1)) → (∀ p ∈ ps, Dr K H p.1 p.2) → Dr K H (.ref a) (.tuple (ps.map (·.2)))
theorem Dr.same {K : PySem.W.Frag} {H H' : Hp} {x : V} {d : PyData} (h : Dr K H x d) (s : Same H H') : Dr K H' x d := by
  induction h with
  | q h => exact .q (h.same s)
  | dn kvs e h => exact .dn kvs (s _ _ e) fun p hp => (h p hp).same s
  | tup ps e _ ih => exact .tup ps (sameT s e) ih
section
variable {X : Cx} {pins : List (Addr × Obj)} {σ : L2.St} {H : Hp} {s : Shared}
theorem key_reads {h : Heap} {P : Program} {w : World} {k : Key} {v : Value} (e : (mixKind P w).is k v = true) : Reads h v (keyD k) [] := by
  have r : RelV (kV k) v := keyIs_rel e
  cases k with
  | inl i =>
    obtain ⟨t, rfl⟩ := r
    exact .int i t
  | inr x =>
    obtain ⟨t, rfl⟩ := r
    exact .str x t
theorem entries_read (I : Inv X pins σ H s) (sm : ∃ mm, X.base.Ns sysModules mm) : ∀ {kvs : List (Key × V × PyData)} {vs : List (Key × Value)} {es : List DictEntry}, KV (kvs.map fun e => (e.1, e.2.1)) vs → Pairs (mixKind X.prog X.w) es vs → (∀ e ∈ kvs, Dq X.K H e.2.1 e.2.2) →
    ReadsAll s.heap (es.map (·.key)) (kvs.map fun e => keyD e.1) [] ∧ ∃ bs, ReadsAll s.heap (es.map (·.val)) (kvs.map fun e => e.2.2) bs ∧ sysModules ∉ bs
  | [], _, _, r, p, _ => by
    cases r
    cases p
    exact ⟨.nil, _, .nil, by simp⟩
  | e :: kvs, _, _, r, p, h => by
    cases r with
    | @cons _ b _ _ k1 k2 =>
      cases p with
      | cons p1 p2 p3 =>
        obtain ⟨q1, bs, q2, q3⟩ := entries_read I sm k2 p3 fun x hx => h x (List.mem_cons_of_mem _ hx)
        obtain ⟨e1, e2⟩ := k1
        obtain ⟨as, r1, n1⟩ := (h e List.mem_cons_self).reads I sm _ e2
        rw [← e1] at p1
        have rk := key_reads (h := s.heap) p1
        refine ⟨ReadsAll.cons rk q1, _, .cons (by show Reads s.heap (DictEntry.val _) _ _; rw [p2]; exact r1) q2, fun z => ?_⟩
        cases List.mem_append.mp z with
        | inl z => exact n1 z
        | inr z => exact q3 z
theorem Dr.reads (I : Inv X pins σ H s) (sm : ∃ mm, X.base.Ns sysModules mm) {x : V} {d : PyData} (h : Dr X.K H x d) : ∀ u, RelV x u → ∃ as, Reads s.heap u d as ∧ sysModules ∉ as := by
  induction h with
  | q h => exact h.reads I sm
  | @dn a kvs e h =>
    intro u r
    cases r
    obtain ⟨_, ns, vs, kv, o, es, ep, ho, hc, hd, _, pr, _⟩ := (show ObjOk X.prog X.w H s.heap a (.dK (kvs.map fun e => (e.1, e.2.1))) from I.hok a _ e)
    obtain ⟨q1, bs, q2, q3⟩ := entries_read I sm kv pr h
    have ek : (kvs.map fun e => (keyD e.1, e.2.2)).map (·.1) = kvs.map fun e => keyD e.1 := by rw [List.map_map]; rfl
    have ev : (kvs.map fun e => (keyD e.1, e.2.2)).map (·.2) = kvs.map fun e => e.2.2 := by rw [List.map_map]; rfl
    refine ⟨_, Reads.dict ho hc.1 hd (by rw [ek]; exact q1) (by rw [ev]; exact q2), ?_⟩
    have ne : a ≠ sysModules := by
      intro z
      rw [z] at ns
      exact absurd ns (by decide)
    intro z
    cases List.mem_append.mp z with
    | inl z => exact ne (List.mem_singleton.mp z).symm
    | inr z => exact q3 z
  | @tup a ps e _ ih =>
    intro u r
    cases r
    obtain ⟨its, rv, ⟨o, ho, hc, n, hd⟩, _⟩ := I.tuple e
    obtain ⟨as, hr, na⟩ := readsAll_of ih rv
    exact ⟨_, .tuple ho hc hd hr, na⟩
end
/-- repr of a tuple of such -/
def rRz (K : PySem.W.Frag) : List V → Hp → VK → Prop := fun xs H Q => ∃ x d, xs = [x] ∧ Dr K H x d ∧ isDisplay d = true ∧ d.showable = true ∧ d.depth < 60 ∧ d.shown.length ≤ sizeLine ∧ Q (.str d.shown) H
theorem call_reprZ {X : Cx} {K : PySem.W.Frag} (hK : X.K = K) (ng : X.A.guards = some []) (hu : X.A.units + 64 < cLine) (sm : ∃ mm, X.base.Ns sysModules mm) : CallR X (.builtin "repr") (rRz K) := by
  subst hK
  intro pins s σ H xs us Q I r h
  obtain ⟨x, d, rfl, dp, dis, sho, dep, len, q⟩ := h
  obtain ⟨u0, rfl, r1⟩ := vals1 r
  obtain ⟨as, rd, no⟩ := dp.reads I sm _ r1
  obtain ⟨a, rfl⟩ := isRef_of_reads rd dis
  apply repr_of_reads' rd sho (fun _ => no) ng (by omega) (fun _ _ e => e) _ len
  intro h' u tk kp
  exact ⟨.str d.shown, H, I.kept (h' := h') (t' := tk) kp, ⟨u, rfl⟩, q⟩
end Xm
set_option Elab.async false
set_option linter.all false
set_option maxRecDepth 100000
set_option maxHeartbeats 4000000
/-! Gn: what many laws' hands want, of no law -/
namespace Gn
open PySem PySem.Spec PyProof.Rows L2 Bs Xg TL Xm
section
variable {X : Cx}
theorem dummy : True := trivial
end
def HandAt (H : Hp) (h : Addr) (n : Nat) : Prop := ∃ g s c : Int, H h = some (.lst [.int g, .int s, .int c]) ∧ 0 ≤ s ∧ s < 2305843009213693951 ∧ 0 ≤ c ∧ c ≤ n
def But (h : Addr) (H H' : Hp) : Prop := ∀ b o, b ≠ h → H b = some o → H' b = some o
theorem But.refl (h : Addr) (H : Hp) : But h H H := fun _ _ _ e => e
theorem But.trans {h : Addr} {H H1 H2 : Hp} (a : But h H H1) (b : But h H1 H2) : But h H H2 := fun c o n e => b c o n (a c o n e)
theorem But.upd {h : Addr} {H : Hp} {o : HO} : But h H (upd H h o) := fun c p n e => by rw [upd_ne n]; exact e
theorem But.of {h : Addr} {H H' : Hp} (s : Same H H') : But h H H' := fun b o _ e => s b o e
theorem But.seq {K : PySem.W.Frag} {h a : Addr} {H H' : Hp} {xs : List V} (e : But h H H') (n : a ≠ h) (q : SqL K H a xs) : SqL K H' a xs := by
  rcases q with (q | ⟨o, q⟩) | q
  · exact .inl (.inl (e _ _ n q))
  · exact .inl (.inr ⟨o, e _ _ n q⟩)
  · exact .inr q
theorem Same.new {H : Hp} {p : Addr} {o : HO} (n : H p = none) : Same H (upd H p o) := fun b u e => by rw [upd_ne (ne_of_none e n)]; exact e
theorem HandAt.mono {H H' : Hp} {h : Addr} {n m : Nat} (a : HandAt H h n) (s : Same H H') (l : n ≤ m) : HandAt H' h m := by
  obtain ⟨g, t, c, e, h1, h2, h3, h4⟩ := a
  exact ⟨g, t, c, s _ _ e, h1, h2, h3, by omega⟩
theorem HandAt.up {H : Hp} {h : Addr} {n m : Nat} (a : HandAt H h n) (l : n ≤ m) : HandAt H h m := a.mono (Same.refl H) l
def spTake : Sp := fun vs H Q _ => ∃ (h : Addr) (n : Nat) (m : Int), vs = [.ref h, .int m] ∧ HandAt H h n ∧ n < 1000000 ∧ 0 < m ∧ m < 1000000000 ∧
  ∀ (r : Int) (H' : Hp), 0 ≤ r → r < m → HandAt H' h (n + 1) → But h H H' → Q (.int r) H'
def spPick (K : PySem.W.Frag) : Sp := fun vs H Q _ => ∃ (h : Addr) (n : Nat) (x : V) (ys : List V), vs = [.ref h, x] ∧ HandAt H h n ∧ n < 1000000 ∧ 0 < ys.length ∧ ys.length ≤ 1000 ∧
  ((∃ z : Str, x = .str z ∧ ys = z.cps.toList.map fun c => V.str ⟨#[c]⟩) ∨ (∃ p, x = .ref p ∧ p ≠ h ∧ SqL K H p ys)) ∧
  ∀ (y : V) (H' : Hp), y ∈ ys → HandAt H' h (n + 1) → But h H H' → Q y H'
structure Free (mg : Str → Option Value) : Prop where
  isinstance : mg "isinstance" = none
  int : mg "int" = none
  bool : mg "bool" = none
  str : mg "str" = none
  tuple : mg "tuple" = none
  dict : mg "dict" = none
  len : mg "len" = none
  abs : mg "abs" = none
  range : mg "range" = none
  all : mg "all" = none
  sum : mg "sum" = none
  zip : mg "zip" = none
  list : mg "list" = none
  sorted : mg "sorted" = none
  repr : mg "repr" = none
  max : mg "max" = none
  min : mg "min" = none
  set : mg "set" = none
  any : mg "any" = none
  enumerate : mg "enumerate" = none
theorem op_powX {X : Cx} : OpR X (binaryOp .Pow) (rI (fun i j => 0 ≤ j ∧ (Builtin.Int.intBits i : Int) * j ≤ 2 ^ 27) fun i j => .int (i ^ j.toNat)) := opI fun _ _ _ _ _ _ _ hc q => PyProof.Rows.pow_int hc.1 hc.2 q
theorem at3 {a b c : V} : ∀ j : Nat, j < 3 → ∃ v, ([a, b, c] : List V)[j]? = some v := fun j h => ⟨_, List.getElem?_eq_getElem (l := [a, b, c]) (by simpa using h)⟩
theorem mod_lt (x : Int) {B : Int} (b : 0 < B) (l : B.toNat ≤ 2 ^ 1000) : (x % B).natAbs < 2 ^ 1000 := by
  have h0 := Int.emod_nonneg x (show B ≠ 0 by omega)
  have h1 := Int.emod_lt_of_pos x b
  generalize 2 ^ 1000 = M at l ⊢
  omega
def spHand (K : PySem.W.Frag) : Sp := fun vs H Q _ => ∃ (a : Addr) (ns : List Int) (j : Nat), vs = [.ref a, .int (j : Int)] ∧ SqL K H a (ns.map V.int) ∧ ns.length ≤ 63 ∧ j < 64 ∧
  ∀ (p : Addr) (H' : Hp), H p = none → Same H H' → HandAt H' p 0 → Q (.ref p) H'
def Good (L : Nat) (z : Str) : Prop := z.length ≤ L ∧ ∀ c ∈ z.cps.toList, 32 ≤ c ∧ c < 127
theorem Good.app {a b : Nat} {x y : Str} (h : Good a x) (g : Good b y) : Good (a + b) (x ++ y) := by
  refine ⟨?_, fun c hc => ?_⟩
  · have e := congrArg List.length (tl_append x y)
    rw [List.length_append] at e
    rw [len_tl, e, ← len_tl, ← len_tl]
    exact Nat.add_le_add h.1 g.1
  · have e : c ∈ tl x ++ tl y := by rw [← tl_append]; exact hc
    rcases List.mem_append.mp e with e | e
    · exact h.2 c e
    · exact g.2 c e
theorem Good.cut {L : Nat} {z : Str} (h : Good L z) (lo hi : Option Int) : Good L (cutS z lo hi) :=
  ⟨Nat.le_trans (cutS_length z lo hi) h.1, fun c hc => h.2 c (List.mem_of_mem_drop (List.mem_of_mem_take hc))⟩
theorem Good.le {a b : Nat} {z : Str} (h : Good a z) (l : a ≤ b) : Good b z := ⟨Nat.le_trans h.1 l, h.2⟩
theorem HandAt.old {H : Hp} {h D : Addr} {n : Nat} {l : List V} (a : HandAt H h n) (ne : h ≠ D) : HandAt (upd H D (.lst l)) h n := by
  obtain ⟨g, t, c, e, q⟩ := a
  exact ⟨g, t, c, by rw [upd_ne ne]; exact e, q⟩
theorem HandAt.fresh {H : Hp} {h D : Addr} {n : Nat} (a : HandAt H h n) (nD : H D = none) : h ≠ D := by
  obtain ⟨g, t, c, e, _⟩ := a
  exact ne_of_none e nD
/-! ### a comprehension that makes one value a turn, by a hand or without -/
section
variable {J : It} {n : Nat} {Gd : Hp → Prop} {Y : Nat → Hp → V → Hp → Prop}
theorem lc_map (w : Walk J n Gd Y) {i : Nat} {te : TE} {σ : L2.St} {H : Hp} {D h : Addr} {Q : Hp → Prop} {Z : Nat → V → Prop} (I : Nat → Hp → Prop) (W : Nat → V → Hp → Prop)
    (nD : H D = none) (nh : D ≠ h) (hY : ∀ j G x G', Y j G x G' → G' = G ∧ Z j x) (hG : ∀ G, But h H G → Gd G)
    (st : ∀ j y G G', (∀ b o, b ≠ D → b ≠ h → G b = some o → G' b = some o) → (∃ l, G D = some (.lst l)) → W j y G → W j y G')
    (small : n < 100000) (wp : ∀ x, wipe ((wipe σ [i]).set i (some x)) [i] = wipe σ [i]) (I0 : I 0 H) (ID : ∀ j G l, I j G → I j (upd G D (.lst l)))
    (turn : ∀ j x G (Q' : VK), j < n → Z j x → But h H G → I j G → (∃ l, G D = some (.lst l)) → (∀ y G', But h G G' → I (j + 1) G' → W j y G' → Q' y G') → te ((wipe σ [i]).set i (some x)) G Q')
    (fin : ∀ G ys, But h H G → I n G → G D = some (.lst ys) → ys.length = n → (∀ j y, ys[j]? = some y → W j y G) → Q G) :
    ∃ W' : Nat → Nat → Hp → Prop, (∃ m, W' 0 m (upd H D (.lst []))) ∧ ∀ j m G, W' j m G →
      (J.stop j G ∧ Q G) ∨ (J.go j G ∧ ∃ Nx : Hp → Prop, (∀ G', Nx G' → ∃ m', m' < m ∧ W' (j + 1) m' G') ∧ ∀ x G', J.yld j G x G' → gName i x (wipe σ [i]) G' fun σ2 H2 => wipe σ2 [i] = wipe σ [i] ∧ tYes σ2 H2 fun b H3 =>
        if b = true then te σ2 H3 fun y H4 => ∃ acc, H4 D = some (.lst acc) ∧ acc.length < sizeLine ∧ Nx (upd H4 D (.lst (acc ++ [y]))) else Nx H3) := by
  have oldD : ∀ G l, But h H G → But h H (upd G D (.lst l)) := by
    intro G l b c o nc e
    rw [upd_ne (ne_of_none e nD)]
    exact b c o nc e
  refine lc_it w (fun j G => But h H G ∧ I j G ∧ ∃ ys, G D = some (.lst ys) ∧ ys.length = j ∧ ∀ m y, ys[m]? = some y → W m y G) ⟨oldD _ _ (But.refl h H), ID _ _ _ I0, [], upd_same, rfl, fun m y e => by simp at e⟩ (fun j G _ q => hG G q.1) ?_ ?_
  · rintro j x G G' hj ⟨bt, ij, ys, eD, ly, hw⟩ hy
    obtain ⟨rfl, z⟩ := hY _ _ _ _ hy
    refine ⟨wp x, yes ?_⟩
    refine turn j x G' _ hj z bt ij ⟨_, eD⟩ fun y G2 bt2 ij2 wy => ?_
    have eD2 : G2 D = some (.lst ys) := bt2 D _ nh eD
    have kp : ∀ b o, b ≠ D → G2 b = some o → upd G2 D (.lst (ys ++ [y])) b = some o := fun b o nb e => by rw [upd_ne nb]; exact e
    refine ⟨ys, eD2, ?_, oldD _ _ (bt.trans bt2), ID _ _ _ ij2, ys ++ [y], upd_same, by rw [List.length_append, ly]; rfl, fun m y' e => ?_⟩
    · rw [ly, sizeLine_eq]
      omega
    · by_cases hm : m < ys.length
      · rw [List.getElem?_append_left hm] at e
        exact st _ _ _ _ (fun b o nb nb2 eb => kp b o nb (bt2 b o nb2 eb)) ⟨_, eD⟩ (hw m y' e)
      · have hm' : m = ys.length := by
          have := (List.getElem?_eq_some_iff.mp e).1
          rw [List.length_append] at this
          simp at this
          omega
        subst hm'
        rw [List.getElem?_append_right (Nat.le_refl _)] at e
        simp at e
        subst e
        rw [ly]
        exact st _ _ _ _ (fun b o nb _ eb => kp b o nb eb) ⟨_, eD2⟩ wy
  · rintro G ⟨bt, ij, ys, eD, ly, hw⟩
    exact fin G ys bt ij eD ly hw
end
section
variable {J : It} {n : Nat} {Gd : Hp → Prop} {Y : Nat → Hp → V → Hp → Prop}
/-- a comprehension whose turns change nothing that was there -/
theorem lc_val (w : Walk J n Gd Y) {i : Nat} {te : TE} {σ : L2.St} {H : Hp} {D : Addr} {Q : Hp → Prop} {Z : Nat → V → Prop} (f : Nat → V)
    (nD : H D = none) (hY : ∀ j G x G', Y j G x G' → G' = G ∧ Z j x) (hG : ∀ G, Same H G → Gd G) (small : n < 100000) (wp : ∀ x, wipe ((wipe σ [i]).set i (some x)) [i] = wipe σ [i])
    (turn : ∀ j x G (Q' : VK), j < n → Z j x → Same H G → (∀ G', Same G G' → Q' (f j) G') → te ((wipe σ [i]).set i (some x)) G Q')
    (fin : ∀ G, Same H G → G D = some (.lst ((List.range n).map f)) → Q G) :
    ∃ W' : Nat → Nat → Hp → Prop, (∃ m, W' 0 m (upd H D (.lst []))) ∧ ∀ j m G, W' j m G →
      (J.stop j G ∧ Q G) ∨ (J.go j G ∧ ∃ Nx : Hp → Prop, (∀ G', Nx G' → ∃ m', m' < m ∧ W' (j + 1) m' G') ∧ ∀ x G', J.yld j G x G' → gName i x (wipe σ [i]) G' fun σ2 H2 => wipe σ2 [i] = wipe σ [i] ∧ tYes σ2 H2 fun b H3 =>
        if b = true then te σ2 H3 fun y H4 => ∃ acc, H4 D = some (.lst acc) ∧ acc.length < sizeLine ∧ Nx (upd H4 D (.lst (acc ++ [y]))) else Nx H3) := by
  refine lc_it w (fun j G => Same H G ∧ G D = some (.lst ((List.range j).map f))) ⟨Same.new nD, upd_same⟩ (fun j G _ q => hG G q.1) ?_ ?_
  · rintro j x G G' hj ⟨sG, eD⟩ hy
    obtain ⟨rfl, z⟩ := hY _ _ _ _ hy
    refine ⟨wp x, yes ?_⟩
    refine turn j x G' _ hj z sG fun G2 s2 => ⟨_, s2 _ _ eD, ?_, fun b o eo => ?_, ?_⟩
    · rw [List.length_map, List.length_range, sizeLine_eq]
      omega
    · rw [upd_ne (ne_of_none eo nD)]
      exact s2 _ _ (sG b o eo)
    · rw [upd_same, List.range_succ, List.map_append]
      rfl
  · rintro G ⟨sG, eD⟩
    exact fin G sG eD
end
theorem range_at {α β : Type} (xs : List α) (f : α → β) (g : Nat → β) (h : ∀ j x, xs[j]? = some x → g j = f x) : (List.range xs.length).map g = xs.map f := by
  apply List.ext_getElem
  · simp
  · intro j h1 h2
    rw [List.getElem_map, List.getElem_map, List.getElem_range]
    exact h j _ (List.getElem?_eq_getElem _)
theorem yat {xs : List V} : ∀ j G x G', YAt xs j G x G' → G' = G ∧ xs[j]? = some x := fun _ _ _ _ h => h
theorem But.sub {h : Addr} {H H' : Hp} (b : But h H H') (n : H h = none) : Same H H' := fun c o e => b c o (ne_of_none e n) e
/-! ### a comprehension that makes new things -/
section
variable {J : It} {n : Nat} {Gd : Hp → Prop} {Y : Nat → Hp → V → Hp → Prop}
theorem lc_new (w : Walk J n Gd Y) {i : Nat} {te : TE} {σ : L2.St} {H : Hp} {D : Addr} {Q : Hp → Prop} {Z : Nat → V → Prop} (W : Nat → V → Hp → Prop)
    (nD : H D = none) (hY : ∀ j G x G', Y j G x G' → G' = G ∧ Z j x) (hG : ∀ G, Same H G → Gd G)
    (st : ∀ j y G G', (∀ b o, b ≠ D → G b = some o → G' b = some o) → (∃ l, G D = some (.lst l)) → W j y G → W j y G')
    (small : n < 100000) (wp : ∀ x, wipe ((wipe σ [i]).set i (some x)) [i] = wipe σ [i])
    (turn : ∀ j x G (Q' : VK), j < n → Z j x → Same H G → (∀ y G', Same G G' → W j y G' → Q' y G') → te ((wipe σ [i]).set i (some x)) G Q')
    (fin : ∀ G ys, Same H G → G D = some (.lst ys) → ys.length = n → (∀ j y, ys[j]? = some y → W j y G) → Q G) :
    ∃ W' : Nat → Nat → Hp → Prop, (∃ m, W' 0 m (upd H D (.lst []))) ∧ ∀ j m G, W' j m G →
      (J.stop j G ∧ Q G) ∨ (J.go j G ∧ ∃ Nx : Hp → Prop, (∀ G', Nx G' → ∃ m', m' < m ∧ W' (j + 1) m' G') ∧ ∀ x G', J.yld j G x G' → gName i x (wipe σ [i]) G' fun σ2 H2 => wipe σ2 [i] = wipe σ [i] ∧ tYes σ2 H2 fun b H3 =>
        if b = true then te σ2 H3 fun y H4 => ∃ acc, H4 D = some (.lst acc) ∧ acc.length < sizeLine ∧ Nx (upd H4 D (.lst (acc ++ [y]))) else Nx H3) := by
  refine lc_it w (fun j G => Same H G ∧ ∃ ys, G D = some (.lst ys) ∧ ys.length = j ∧ ∀ m y, ys[m]? = some y → W m y G) ⟨Same.new nD, [], upd_same, rfl, fun m y e => by simp at e⟩ (fun j G _ q => hG G q.1) ?_ ?_
  · rintro j x G G' hj ⟨sG, ys, eD, ly, hw⟩ hy
    obtain ⟨rfl, z⟩ := hY _ _ _ _ hy
    refine ⟨wp x, yes ?_⟩
    refine turn j x G' _ hj z sG fun y G2 s2 wy => ?_
    have eD2 : G2 D = some (.lst ys) := s2 _ _ eD
    have kp : ∀ b o, b ≠ D → G2 b = some o → upd G2 D (.lst (ys ++ [y])) b = some o := fun b o nb e => by rw [upd_ne nb]; exact e
    refine ⟨ys, eD2, ?_, fun b o e => ?_, ys ++ [y], upd_same, by rw [List.length_append, ly]; rfl, fun m y' e => ?_⟩
    · rw [ly, sizeLine_eq]
      omega
    · rw [upd_ne (ne_of_none e nD)]
      exact s2 _ _ (sG b o e)
    · by_cases hm : m < ys.length
      · rw [List.getElem?_append_left hm] at e
        exact st _ _ _ _ (fun b o nb eb => kp b o nb (s2 b o eb)) ⟨_, eD⟩ (hw m y' e)
      · have hm' : m = ys.length := by
          have := (List.getElem?_eq_some_iff.mp e).1
          rw [List.length_append] at this
          simp at this
          omega
        subst hm'
        rw [List.getElem?_append_right (Nat.le_refl _)] at e
        simp at e
        subst e
        rw [ly]
        exact st _ _ _ _ (fun b o nb eb => kp b o nb eb) ⟨_, eD2⟩ wy
  · rintro G ⟨sG, ys, eD, ly, hw⟩
    exact fin G ys sG eD ly hw
/-- [x for x in XS if x is not None] -/
theorem lc_keep {K : PySem.W.Frag} {i a D : Addr} {σ : L2.St} {H : Hp} {Q : Hp → Prop} {xs : List V} (e : SqL K H a xs) (nD : H D = none) (few : xs.length < 1000)
    (wp : ∀ x, wipe ((wipe σ [i]).set i (some x)) [i] = wipe σ [i]) (gt : ∀ x, ((wipe σ [i]).set i (some x))[i]? = some (some x)) {tt : TT}
    (ht : ∀ x G (F : Bool → Hp → Prop), x ∈ xs → F (!decide (x = .non)) G → tt ((wipe σ [i]).set i (some x)) G F)
    (fin : ∀ G, Same H G → G D = some (.lst (xs.filter fun x => !decide (x = .non))) → Q G) :
    ∃ W' : Nat → Nat → Hp → Prop, (∃ m, W' 0 m (upd H D (.lst []))) ∧ ∀ j m G, W' j m G →
      ((Itl K a).stop j G ∧ Q G) ∨ ((Itl K a).go j G ∧ ∃ Nx : Hp → Prop, (∀ G', Nx G' → ∃ m', m' < m ∧ W' (j + 1) m' G') ∧ ∀ x G', (Itl K a).yld j G x G' → gName i x (wipe σ [i]) G' fun σ2 H2 => wipe σ2 [i] = wipe σ [i] ∧ tt σ2 H2 fun b H3 =>
        if b = true then tVar i σ2 H3 fun y H4 => ∃ acc, H4 D = some (.lst acc) ∧ acc.length < sizeLine ∧ Nx (upd H4 D (.lst (acc ++ [y]))) else Nx H3) := by
  refine lc_it (walk_list (K := K) (a := a) (xs := xs)) (fun j G => Same H G ∧ G D = some (.lst ((xs.take j).filter fun x => !decide (x = .non)))) ⟨Same.new nD, by rw [List.take_zero]; exact upd_same⟩ (fun j G _ q => sameL q.1 e) ?_ ?_
  · rintro j x G G' hj ⟨sG, eD⟩ ⟨rfl, hx⟩
    refine ⟨wp x, ht x G' _ (List.mem_of_getElem? hx) ?_⟩
    have tk : xs.take (j + 1) = xs.take j ++ [x] := by rw [List.take_succ, hx]; rfl
    by_cases c : x = .non
    · rw [decide_eq_true c]
      show Same H G' ∧ _
      rw [tk, List.filter_append]
      refine ⟨sG, ?_⟩
      rw [eD, c]
      simp
    · rw [decide_eq_false c]
      refine ⟨x, gt x, _, eD, ?_, ?_, ?_⟩
      · have := List.length_filter_le (fun x => !decide (x = V.non)) (xs.take j)
        rw [List.length_take] at this
        rw [sizeLine_eq]
        omega
      · intro b o e
        rw [upd_ne (ne_of_none e nD)]
        exact sG b o e
      · rw [upd_same, tk, List.filter_append]
        simp [c]
  · rintro G ⟨sG, eD⟩
    rw [List.take_length] at eD
    exact fin G sG eD
end

theorem Good.sub {L : Nat} {x : Str} (h : Good L x) (i j : Nat) : Good L (Builtin.Str.strSub x i j) := by
  have e : (x.cps.extract i j).toList = (x.cps.toList.take j).drop i := by
    rw [Array.toList_extract]
    simp [List.extract, List.drop_take]
  refine ⟨?_, fun c hc => ?_⟩
  · show (x.cps.extract i j).size ≤ L
    rw [Array.size_extract]
    have : x.cps.size ≤ L := h.1
    omega
  · have hc' : c ∈ (x.cps.extract i j).toList := hc
    rw [e] at hc'
    exact h.2 c (List.mem_of_mem_take (List.mem_of_mem_drop hc'))
theorem Good.strip {L : Nat} {x y : Str} (h : Good L x) : Good L (Txt.stripChars x y) := by
  unfold Txt.stripChars Txt.stripBy
  split
  · exact h
  · exact h.sub _ _
theorem Good.ok {L : Nat} {x : Str} (h : Good L x) : PyData.strOk x = true := by
  unfold PyData.strOk
  rw [← Array.all_toList, List.all_eq_true]
  intro c hc
  have := h.2 c hc
  simp
  omega
theorem strs_of {W : Str → Prop} : ∀ {ys : List V}, (∀ (j : Nat) (y : V), ys[j]? = some y → ∃ z, y = V.str z ∧ W z) → ∃ zs : List Str, ys = zs.map V.str ∧ ∀ z ∈ zs, W z
  | [], _ => ⟨[], rfl, by simp⟩
  | y :: ys, h => by
    obtain ⟨z, rfl, hz⟩ := h 0 y rfl
    obtain ⟨zs, rfl, hw⟩ := strs_of (ys := ys) fun j y hy => h (j + 1) y (by simpa using hy)
    refine ⟨z :: zs, rfl, fun x hx => ?_⟩
    rcases List.mem_cons.mp hx with rfl | hx
    · exact hz
    · exact hw x hx
def Txs (L : Nat) (ys : List V) : Prop := ∀ y ∈ ys, ∃ z, y = V.str z ∧ Good L z
theorem txs_of {L : Nat} {zs : List Str} (h : ∀ z ∈ zs, Good L z) : Txs L (zs.map V.str) := fun y hy => by
  obtain ⟨z, hz, rfl⟩ := List.mem_map.mp hy
  exact ⟨z, rfl, h z hz⟩
theorem joinM {s : List Nat} {M : Nat} (hs : s.length ≤ 1 ∧ ∀ c ∈ s, 32 ≤ c ∧ c < 127) : ∀ ps : List (List Nat), (∀ p ∈ ps, p.length ≤ M ∧ ∀ c ∈ p, 32 ≤ c ∧ c < 127) → (joinL s ps).length ≤ ps.length * (M + 1) ∧ ∀ c ∈ joinL s ps, 32 ≤ c ∧ c < 127
  | [], _ => by simp [joinL]
  | [p], h => by
    have := h p (by simp)
    exact ⟨by simp [joinL]; omega, this.2⟩
  | p :: q :: r, h => by
    have ih := joinM hs (q :: r) fun x hx => h x (List.mem_cons_of_mem _ hx)
    have hp := h p (by simp)
    show (p ++ (s ++ joinL s (q :: r))).length ≤ _ ∧ ∀ c ∈ p ++ (s ++ joinL s (q :: r)), _
    refine ⟨?_, fun c hc => ?_⟩
    · have h1 := ih.1
      rw [List.length_append, List.length_append, List.length_cons, Nat.succ_mul]
      omega
    · rcases List.mem_append.mp hc with hc | hc
      · exact hp.2 c hc
      rcases List.mem_append.mp hc with hc | hc
      · exact hs.2 c hc
      · exact ih.2 c hc
theorem good_joinM {sep : Str} {M : Nat} {ys : List Str} (hs : Good 1 sep) (h : ∀ y ∈ ys, Good M y) : Good (ys.length * (M + 1)) (Txt.join sep ys) := by
  have q := joinM (s := tl sep) (M := M) ⟨by rw [← len_tl]; exact hs.1, hs.2⟩ (ys.map tl) (fun p hp => by
    obtain ⟨y, hy, rfl⟩ := List.mem_map.mp hp
    exact ⟨by rw [← len_tl]; exact (h y hy).1, (h y hy).2⟩)
  rw [List.length_map] at q
  have e : tl (Txt.join sep ys) = joinL (tl sep) (ys.map tl) := by rw [join_eq, tl_join]
  exact ⟨by rw [len_tl, e]; exact q.1, fun c hc => q.2 c (by rw [← e]; exact hc)⟩
theorem hand_upd {H : Hp} {h D : Addr} {o : HO} {n : Nat} (a : HandAt H h n) (ne : D ≠ h) : HandAt (upd H D o) h n := by
  obtain ⟨g, t, c, e, r⟩ := a
  exact ⟨g, t, c, by rw [upd_ne ne.symm]; exact e, r⟩
section
variable {J : It} {n : Nat} {Gd : Hp → Prop} {Y : Nat → Hp → V → Hp → Prop} {α : Type}
theorem lc_fm (w : Walk J n Gd Y) {g : TG} {tt : TT} {te : TE} {vs : List Nat} {σ : L2.St} {H : Hp} {D : Addr} {Q : Hp → Prop} (xs : List α) (f : α → Option V) (len : xs.length = n) (nD : H D = none) (hG : ∀ G, Same H G → Gd G) (small : n < 100000)
    (turn : ∀ j a x G G' (R : V → Hp → Prop) (N : Hp → Prop), xs[j]? = some a → Same H G → Y j G x G' → (∀ v, f a = some v → ∀ G2, Same G G2 → R v G2) → (f a = none → ∀ G2, Same G G2 → N G2) → g x (wipe σ vs) G' fun σ2 H2 => wipe σ2 vs = wipe σ vs ∧ tt σ2 H2 fun b H3 =>
      if b = true then te σ2 H3 R else N H3)
    (fin : ∀ G, Same H G → G D = some (.lst (xs.filterMap f)) → Q G) :
    ∃ W : Nat → Nat → Hp → Prop, (∃ m, W 0 m (upd H D (.lst []))) ∧ ∀ i m G, W i m G →
      (J.stop i G ∧ Q G) ∨ (J.go i G ∧ ∃ Nx : Hp → Prop, (∀ H', Nx H' → ∃ m', m' < m ∧ W (i + 1) m' H') ∧ ∀ x H', J.yld i G x H' → g x (wipe σ vs) H' fun σ2 H2 => wipe σ2 vs = wipe σ vs ∧ tt σ2 H2 fun b H3 =>
        if b = true then te σ2 H3 fun y H4 => ∃ acc, H4 D = some (.lst acc) ∧ acc.length < sizeLine ∧ Nx (upd H4 D (.lst (acc ++ [y]))) else Nx H3) := by
  refine lc_it w (fun j G => Same H G ∧ G D = some (.lst ((xs.take j).filterMap f))) ⟨Same.new nD, by rw [List.take_zero]; exact upd_same⟩ (fun j G _ q => hG G q.1) ?_ ?_
  · rintro j x G G' hj ⟨sG, eD⟩ hy
    have hk : xs[j]? = some xs[j] := List.getElem?_eq_getElem (by omega)
    have tk : xs.take (j + 1) = xs.take j ++ [xs[j]] := by rw [List.take_succ, hk]; rfl
    refine turn j xs[j] x G G' _ _ hk sG hy (fun v hv G2 s2 => ⟨_, s2 _ _ eD, ?_, fun b o e => ?_, ?_⟩) (fun hv G2 s2 => ⟨sG.trans s2, ?_⟩)
    · have := List.length_filterMap_le f (xs.take j)
      rw [List.length_take] at this
      rw [sizeLine_eq]
      omega
    · rw [upd_ne (ne_of_none e nD)]
      exact s2 _ _ (sG b o e)
    · rw [upd_same, tk, List.filterMap_append]
      simp [hv]
    · rw [s2 _ _ eD, tk, List.filterMap_append]
      simp [hv]
  · rintro G ⟨sG, eD⟩
    rw [List.take_of_length_le (by omega)] at eD
    exact fin G sG eD
end

theorem show_int {i : Int} (h : i.natAbs < 10 ^ 12) : PyData.showable (.int i) = true := by
  simp only [PyData.showable, decide_eq_true_eq]
  have : i.natAbs.log2 < 1920 := by
    by_cases z : i.natAbs = 0
    · rw [z]
      decide
    · exact (Nat.log2_lt z).mpr (Nat.lt_of_lt_of_le h (by decide +kernel))
  exact this
def Sh (d : PyData) (w k : Nat) : Prop := d.leavesShort 13 = true ∧ d.showable = true ∧ d.depth ≤ k ∧ d.weight ≤ w
theorem Sh.up {d : PyData} {w k w' k' : Nat} (h : Sh d w k) (a : w ≤ w') (b : k ≤ k') : Sh d w' k' := ⟨h.1, h.2.1, Nat.le_trans h.2.2.1 b, Nat.le_trans h.2.2.2 a⟩
theorem sh_non : Sh .none 1 1 := ⟨rfl, rfl, by simp [PyData.depth], by simp [PyData.weight]⟩
theorem sh_int {i : Int} (h : i.natAbs < 10 ^ 12) : Sh (.int i) 41 1 := by
  refine ⟨?_, ?_, by simp [PyData.depth], ?_⟩
  · simp only [PyData.leavesShort, decide_eq_true_eq]
    exact PyData.shown_int_le h
  · exact show_int h
  · simp only [PyData.weight]
    by_cases z : i = 0
    · rw [if_pos (by simpa using z)]
      decide
    · rw [if_neg (by simpa using z)]
      have nz : i.natAbs ≠ 0 := by omega
      have : i.natAbs.log2 < 40 := (Nat.log2_lt nz).mpr (Nat.lt_of_lt_of_le h (by decide))
      omega
theorem sh_str {L : Nat} {z : Str} (h : Good L z) : Sh (.str z) (L + 1) 1 := by
  refine ⟨?_, by simp [PyData.showable], by simp [PyData.depth], ?_⟩
  · simp only [PyData.leavesShort, List.all_eq_true, decide_eq_true_eq]
    intro c hc
    have := (h.2 c hc).2
    omega
  · have : z.cps.size ≤ L := h.1
    simp only [PyData.weight]
    omega
theorem sh_all {w k : Nat} : ∀ {xs : List PyData}, (∀ x ∈ xs, Sh x w k) → PyData.leavesShortAll 13 xs = true ∧ PyData.showableAll xs = true ∧ PyData.depthAll xs ≤ k ∧ PyData.weightAll xs ≤ xs.length * (w + 1)
  | [], _ => ⟨rfl, rfl, by simp [PyData.depthAll], by simp [PyData.weightAll]⟩
  | x :: xs, h => by
    obtain ⟨a, b, c, d⟩ := sh_all (xs := xs) fun y hy => h y (List.mem_cons_of_mem _ hy)
    obtain ⟨a', b', c', d'⟩ := h x List.mem_cons_self
    refine ⟨?_, ?_, ?_, ?_⟩
    · simp only [PyData.leavesShortAll, a, a']
      rfl
    · simp only [PyData.showableAll, b, b']
      rfl
    · simp only [PyData.depthAll]
      exact Nat.max_le.mpr ⟨c', c⟩
    · simp only [PyData.weightAll, List.length_cons, Nat.add_mul]
      omega
theorem sh_tuple {w k n : Nat} {xs : List PyData} (h : ∀ x ∈ xs, Sh x w k) (l : xs.length ≤ n) : Sh (.tuple xs) (n * (w + 1) + 1) (k + 1) := by
  obtain ⟨a, b, c, d⟩ := sh_all h
  have m : xs.length * (w + 1) ≤ n * (w + 1) := Nat.mul_le_mul_right _ l
  refine ⟨?_, ?_, ?_, ?_⟩
  · simp only [PyData.leavesShort, a]
  · simp only [PyData.showable, b]
  · simp only [PyData.depth]
    omega
  · simp only [PyData.weight]
    omega
theorem sh_kv {w k : Nat} : ∀ {kvs : List (PyData × PyData)}, (∀ x ∈ kvs, Sh x.1 w k ∧ Sh x.2 w k) → PyData.leavesShortKv 13 kvs = true ∧ PyData.showableKv kvs = true ∧ PyData.depthKv kvs ≤ k ∧ PyData.weightKv kvs ≤ kvs.length * (2 * w + 2)
  | [], _ => ⟨rfl, rfl, by simp [PyData.depthKv], by simp [PyData.weightKv]⟩
  | (x, y) :: xs, h => by
    obtain ⟨a, b, c, d⟩ := sh_kv (kvs := xs) fun y hy => h y (List.mem_cons_of_mem _ hy)
    obtain ⟨⟨a', b', c', d'⟩, ⟨a2, b2, c2, d2⟩⟩ := h (x, y) List.mem_cons_self
    refine ⟨?_, ?_, ?_, ?_⟩
    · simp only [PyData.leavesShortKv, a, a', a2]
      rfl
    · simp only [PyData.showableKv, b, b', b2]
      rfl
    · simp only [PyData.depthKv]
      dsimp only at c' c2
      omega
    · simp only [PyData.weightKv, List.length_cons, Nat.add_mul]
      dsimp only at d' d2
      omega
theorem sh_dict {w k n : Nat} {kvs : List (PyData × PyData)} (h : ∀ x ∈ kvs, Sh x.1 w k ∧ Sh x.2 w k) (l : kvs.length ≤ n) : Sh (.dict kvs) (n * (2 * w + 2) + 1) (k + 1) := by
  obtain ⟨a, b, c, d⟩ := sh_kv h
  have m : kvs.length * (2 * w + 2) ≤ n * (2 * w + 2) := Nat.mul_le_mul_right _ l
  refine ⟨?_, ?_, ?_, ?_⟩
  · simp only [PyData.leavesShort, a]
  · simp only [PyData.showable, b]
  · simp only [PyData.depth]
    omega
  · simp only [PyData.weight]
    omega

theorem tl_empty : tl Str.empty = [] := by decide +kernel
def timesS (a : Str) (k : Int) : Str := if k < 1 then Str.empty else if (k == 1 || a.length == 0) = true then a else ⟨(List.replicate k.toNat a.cps).foldl (· ++ ·) #[]⟩
theorem fold_app : ∀ (l : List (Array Nat)) (x : Array Nat), (l.foldl (· ++ ·) x).toList = x.toList ++ (l.map Array.toList).flatten
  | [], x => by simp
  | y :: l, x => by
    rw [List.foldl_cons, fold_app l]
    simp
theorem times_tl (a : Str) (k : Int) : tl (timesS a k) = (List.replicate k.toNat (tl a)).flatten := by
  unfold timesS
  by_cases c : k < 1
  · rw [if_pos c, show k.toNat = 0 by omega]
    exact tl_empty
  · rw [if_neg c]
    by_cases d : (k == 1 || a.length == 0) = true
    · rw [if_pos d]
      rcases Bool.or_eq_true_iff.mp d with e | e
      · have e1 : k = 1 := by simpa using e
        rw [e1]
        show tl a = (List.replicate 1 (tl a)).flatten
        simp
      · have e1 : tl a = [] := List.eq_nil_of_length_eq_zero (by rw [← len_tl]; simpa using e)
        rw [e1]
        generalize k.toNat = n
        induction n with
        | zero => rfl
        | succ n ih => rw [List.replicate_succ, List.flatten_cons, ← ih]; rfl
    · rw [if_neg d]
      show ((List.replicate k.toNat a.cps).foldl (· ++ ·) #[]).toList = _
      rw [fold_app]
      simp [tl]
theorem times_len (a : Str) (k : Int) : (timesS a k).length = k.toNat * a.length := by
  rw [len_tl, times_tl, len_tl]
  generalize k.toNat = n
  induction n with
  | zero => simp
  | succ n ih => rw [List.replicate_succ, List.flatten_cons, List.length_append, ih, Nat.succ_mul, Nat.add_comm]
section
variable {X : Cx}
theorem op_times : OpR X (binaryOp .Mult) (fun x y H Q => ∃ (a : Str) (k : Int), x = .str a ∧ y = .int k ∧ -1000 ≤ k ∧ k ≤ 1000 ∧ a.length ≤ 1000 ∧ Q (.str (timesS a k)) H) := by
  intro pins s σ H x y v u Q I rx ry h
  obtain ⟨a, k, rfl, rfl, k0, k1, al, q⟩ := h
  obtain ⟨t, rfl⟩ := rx
  obtain ⟨t', rfl⟩ := ry
  have tl_ : k.toNat * a.length ≤ 1000 * 1000 := Nat.mul_le_mul (by omega) al
  refine PySem.P.mul_str (by rw [decide_eq_false (by omega), decide_eq_false (by omega)]; rfl) (fun c1 _ c2 => ?_) (fun c1 _ => ?_) ?_
  · have ek : ((k.toNat : Nat) : Int) = k := Int.toNat_of_nonneg (by omega)
    have h1 : (a.length : Int) * k ≤ 2 ^ 63 - 1 := by
      have h3 : ((a.length * k.toNat : Nat) : Int) ≤ 1000 * 1000 := by rw [Nat.mul_comm]; exact_mod_cast tl_
      rw [Int.natCast_mul, ek] at h3
      omega
    have h2 : (a.length : Int) ≤ (2 ^ 63 - 1) / k := Int.le_ediv_of_mul_le (by omega) h1
    omega
  · show decide (a.length * k.toNat > sizeLine) = false
    refine decide_eq_false ?_
    rw [Nat.mul_comm, sizeLine_eq]
    omega
  · have eT := times_len a k
    unfold timesS at q eT
    by_cases c : k < 1
    · rw [if_pos c] at q ⊢
      exact ⟨by decide, ⟨.str Str.empty, H, I.tok _, ⟨_, rfl⟩, q⟩⟩
    · rw [if_neg c] at q ⊢
      rw [if_neg c] at eT
      by_cases d : (k == 1 || a.length == 0) = true
      · rw [if_pos d] at q ⊢
        exact ⟨.str a, H, I, ⟨_, rfl⟩, q⟩
      · rw [if_neg d] at q ⊢
        rw [if_neg d] at eT
        exact ⟨by rw [eT, sizeLine_eq]; omega, ⟨.str _, H, I.tok _, ⟨_, rfl⟩, q⟩⟩
end
@[elab_as_elim] theorem newO {H : Hp} {p : Addr} {o : HO} {R : Hp → Prop} (n : H p = none) (k : ∀ H', Same H H' → H' p = some o → R H') : R (upd H p o) := k _ (Same.new n) upd_same
end Gn
set_option Elab.async false
set_option linter.all false
set_option maxRecDepth 100000
set_option maxHeartbeats 8000000
/-! Xs: sets of numbers and texts whose order can be drawn; sorted(set(x)), sorted of a list of data -/
namespace Xs
open PySem PySem.Spec PyProof.Rows L2 Bs Xg TL
open Classical in
/-- a member more -/
noncomputable def more (k : Key) (ks : List Key) : List Key := if k ∈ ks then ks else k :: ks
theorem more_old {k : Key} {ks : List Key} (h : k ∈ ks) : more k ks = ks := if_pos h
theorem more_new {k : Key} {ks : List Key} (h : k ∉ ks) : more k ks = k :: ks := if_neg h
def ky : Int × Value → Key
  | (_, .int k _) => .inl k
  | (_, .str x _) => .inr x
  | _ => .inl 0
def Lv (w : World) (e : Int × Value) : Prop := ∃ k, keyIs k e.2 = true ∧ e.1 = keyH w k
theorem ky_of {e : Int × Value} {k : Key} (h : keyIs k e.2 = true) : ky e = k := by
  obtain ⟨c, v⟩ := e
  rcases keyIs_shape h with ⟨i, t, rfl, q⟩ | ⟨x, t, rfl, q⟩
  · dsimp only at q
    subst q
    rfl
  · dsimp only at q
    subst q
    rfl
theorem lv_is {w : World} {e : Int × Value} (l : Lv w e) (k : Key) : keyIs k e.2 = true ↔ ky e = k := by
  obtain ⟨c, hc, _⟩ := l
  have ec := ky_of hc
  constructor
  · exact ky_of
  · intro z
    rw [← z, ec]
    exact hc
theorem lv_scan {w : World} {e : Int × Value} (l : Lv w e) : e.2.scannable = true := by
  obtain ⟨k, hk, _⟩ := l
  rcases keyIs_shape hk with ⟨i, t, _, q⟩ | ⟨x, t, _, q⟩ <;> rw [q] <;> rfl
theorem lv_elems {P : Program} {w : World} {l : List (Int × Value)} (g : ∀ e ∈ l, Lv w e) : ElemsOf (mixKind P w) l := fun e he =>
  ⟨(g e he).elim fun k hk => ⟨k, hk.1, hk.2⟩, lv_scan (g e he)⟩
/-- a set at a whose members are ks, whose table rises -/
def Ord (w : World) (h : Heap) (a : Addr) (ks : List Key) : Prop := ∃ (o : Obj) (es : Array (Int × Value)) (ep : Nat) (t : SetTable), h.get? a = some o ∧ o.ExactSet ∧ o.data = .set es ep t ∧
  ((∀ e ∈ es.toList, Lv w e) ∧ (es.toList.map ky).Perm ks ∧ ks.Nodup) ∧ (es.size < scanBound ∧ t.fits es.size = true) ∧ Ris t.place.toList ∧ (w.params.followText "set-order" = true ∨ t.led = true)
theorem Ord.move {w : World} {h h' : Heap} {a : Addr} {ks : List Key} (R : Ord w h a ks) (k : ∀ o, h.get? a = some o → h'.get? a = some o) : Ord w h' a ks := by
  obtain ⟨o, es, ep, t, e, rest⟩ := R
  exact ⟨o, es, ep, t, k o e, rest⟩
section
variable {P : Program} {w : World} {A : Around} {E : Value → Shared → Prop} {s : Shared} {a : Addr} {ks : List Key}
theorem ord_store {gv : Bool → Sem Unit} (calm : ∀ (b : Bool) (z : Shared) (F : Unit → Shared → Prop), F () z → wpAny (model P w) A (gv b) F E z)
    {o : Obj} {es : Array (Int × Value)} {ep : Nat} {t : SetTable} (at0 : s.heap.get? a = some o) (ex : o.ExactSet) (d0 : o.data = .set es ep t)
    {fs : Array (Int × Value)} {u : SetTable} (g : ∀ e ∈ fs.toList, Lv w e) (pm : (fs.toList.map ky).Perm ks) (nd : ks.Nodup) (sb : fs.size < scanBound) (ft : u.fits fs.size = true) (rs : Ris u.place.toList)
    (ld : w.params.followText "set-order" = true ∨ u.led = true) {dm : Bool} {F : Option Bool → Shared → Prop} (k : ∀ h', Heap.SameBut a s.heap h' → Ord w h' a ks → F (some true) { s with heap := h' }) :
    wpAny (model P w) A (do
        storeSet a fs u
        if (!dm && u.tooFull) = true then do
            gv (relayAll u fs (SetTable.grown fs.size)).2.2
            storeSet a (relayAll u fs (SetTable.grown fs.size)).1 (relayAll u fs (SetTable.grown fs.size)).2.1
            pure (some true)
          else pure (some true)) F E s := by
  refine wpAny_bind (wpAny_storeSet_of at0 d0 ?_ (fits_of_scanBound sb))
  have at1 := store_at (es' := fs) (t' := u) at0 d0
  have same1 := Heap.SameBut.update s.heap a (Obj.putSet fs u)
  by_cases full : (!dm && u.tooFull) = true
  · rw [if_pos full]
    have q1 := relayAll_perm u fs (SetTable.grown fs.size)
    have q2 := relayAll_fits u fs (SetTable.grown fs.size)
    have q3 := relayAll_ris u fs (SetTable.grown fs.size)
    have q4 := relayAll_led u fs (SetTable.grown fs.size)
    generalize relayAll u fs (SetTable.grown fs.size) = W at q1 q2 q3 q4 ⊢
    obtain ⟨gs, v, gave⟩ := W
    dsimp only at q1 q2 q3 q4 ⊢
    have len : gs.size = fs.size := by
      rw [← Array.length_toList, q1.length_eq, Array.length_toList]
    have sb2 : gs.size < scanBound := by
      rw [len]
      exact sb
    refine wpAny_bind (calm _ _ _ ?_)
    refine wpAny_bind (wpAny_storeSet_of at1 rfl ?_ (fits_of_scanBound sb2))
    refine wpAny_pure (k _ (same1.trans (Heap.SameBut.update _ a _)) ⟨_, gs, _, v, store_at (es' := gs) (t' := v) at1 rfl, ex, rfl, ⟨fun e he => g e (q1.mem_iff.mp he), (q1.map ky).trans pm, nd⟩, ⟨sb2, q2⟩, q3, ?_⟩)
    rcases ld with l | l
    · exact .inl l
    · exact .inr (by rw [q4]; exact l)
  · rw [if_neg full]
    exact wpAny_pure (k _ same1 ⟨_, fs, _, u, at1, ex, rfl, ⟨g, pm, nd⟩, ⟨sb, ft⟩, rs, ld⟩)
/-- a member more, its hash told -/
theorem ord_add {k : Key} {v : Value} {Q : Bool → Shared → Prop} (R : Ord w s.heap a ks) (hv : keyIs k v = true) (room : ks.length + 1 < scanBound)
    (next : ∀ (b : Bool) h', Heap.SameBut a s.heap h' → Ord w h' a (more k ks) → Q b { s with heap := h' }) :
    wpAny (model P w) A (setAddHashed a v ((mixKind P w).hash k)) Q E s := by
  obtain ⟨o, es, ep, t, at0, ex, d0, ⟨g, pm, nd⟩, ⟨sb, ft⟩, rs, ld⟩ := R
  have is1 : (mixKind P w).is k v = true := hv
  have sc : v.scannable = true := lv_scan (w := w) (e := (keyH w k, v)) ⟨k, hv, rfl⟩
  have el : ElemsOf (mixKind P w) es.toList := lv_elems g
  unfold setAddHashed setAddHashedIn
  refine wpAny_holding (wpAny_bind (wpAny_setState_of at0 d0 ft ?_))
  dsimp only
  rw [byScan_of sc sb el]
  simp only [↓reduceIte]
  unfold setAddByScan
  refine wpAny_bind ?_
  refine wpAny_bind (wpAny_rule ?_)
  refine wpAny_bind (wpAny_setScan_of is1 at0 d0 ft el ?_)
  cases met : List.findIdx? (fun e => (mixKind P w).is k e.2) es.toList with
  | some j =>
    dsimp only
    obtain ⟨jl, jt, _⟩ := List.findIdx?_eq_some_iff_getElem.mp met
    have mem : k ∈ ks := pm.mem_iff.mp (List.mem_map.mpr ⟨_, List.getElem_mem jl, (lv_is (g _ (List.getElem_mem jl)) k).mp jt⟩)
    refine wpAny_pure (wpAny_pure ?_)
    have q := next false s.heap (Heap.SameBut.refl a s.heap)
    rw [more_old mem] at q
    exact q ⟨o, es, ep, t, at0, ex, d0, ⟨g, pm, nd⟩, ⟨sb, ft⟩, rs, ld⟩
  | none =>
    dsimp only
    have new : k ∉ ks := by
      intro z
      obtain ⟨e, he, q⟩ := List.mem_map.mp (pm.mem_iff.mpr z)
      have c := List.findIdx?_eq_none_iff.mp met e he
      have c' : (mixKind P w).is k e.2 = true := (lv_is (g e he) k).mpr q
      rw [c'] at c
      cases c
    have quiet : ∀ (b : Bool) {z : Shared} {F : Unit → Shared → Prop}, F () z → wpAny (model P w) A (match b with | true => rule "set.scan.the-table-gave-way" | false => pure ()) F E z := by
      intro b z F q
      cases b
      · exact wpAny_pure q
      · exact wpAny_rule q
    have p1 := layNew_perm t es ((mixKind P w).hash k) v
    have p2 := layNew_fits t es ((mixKind P w).hash k) v
    have p3 := layNew_ris t es ((mixKind P w).hash k) v rs
    have p4 := layNew_led t es ((mixKind P w).hash k) v
    generalize layNew t es ((mixKind P w).hash k) v = W at p1 p2 p3 p4 ⊢
    obtain ⟨fs, u, dm, gave⟩ := W
    dsimp only at p1 p2 p3 p4 ⊢
    rw [Array.toList_push] at p1
    have p5 : fs.toList.Perm (((mixKind P w).hash k, v) :: es.toList) := p1.trans (List.perm_append_singleton _ _)
    have ke : ky ((mixKind P w).hash k, v) = k := ky_of (e := ((mixKind P w).hash k, v)) hv
    have p6 : (fs.toList.map ky).Perm (k :: ks) := by
      have q := p5.map ky
      rw [List.map_cons, ke] at q
      exact q.trans (pm.cons k)
    have g1 : ∀ e ∈ fs.toList, Lv w e := by
      intro e he
      rcases List.mem_cons.mp (p5.mem_iff.mp he) with z | z
      · rw [z]
        exact ⟨k, hv, rfl⟩
      · exact g e z
    have nd1 : (k :: ks).Nodup := List.nodup_cons.mpr ⟨new, nd⟩
    have sz : fs.size = ks.length + 1 := by
      rw [← Array.length_toList, ← List.length_map (f := ky), p6.length_eq, List.length_cons]
    have sb1 : fs.size < scanBound := by
      rw [sz]
      exact room
    have ld1 : w.params.followText "set-order" = true ∨ u.led = true := by
      rcases ld with l | l
      · exact .inl l
      · exact .inr (by rw [p4]; exact l)
    have fin : ∀ h', Heap.SameBut a s.heap h' → Ord w h' a (k :: ks) → Q true { s with heap := h' } := by
      intro h' sm r
      have q := next true h' sm
      rw [more_new new] at q
      exact q r
    have qs : ∀ (b : Bool) (z : Shared) (F : Unit → Shared → Prop), F () z → wpAny (model P w) A (match b with | true => rule "set.scan.the-table-gave-way" | false => pure ()) F E z := fun b z F q => quiet b q
    refine wpAny_bind (quiet _ ?_)
    split
    · refine wpAny_bind ?_
      rw [hashByValue_scannable 8 sc]
      refine wpAny_pure ?_
      refine ord_store ?_ at0 ex d0 g1 p6 nd1 sb1 ?_ ?_ ?_ ?_
      · intro b z F q
        cases b <;> first | exact wpAny_pure q | exact wpAny_rule q
      · first | (split <;> first | exact p2 | exact SetTable.fits_plain_off p2) | exact p2
      · first | (split <;> exact p3) | exact p3
      · first | (split <;> exact ld1) | exact ld1
      · intro h' sm r
        dsimp only
        exact wpAny_pure (fin h' sm r)
    · refine wpAny_bind (wpAny_pure ?_)
      simp only [↓reduceIte]
      refine ord_store ?_ at0 ex d0 g1 p6 nd1 sb1 p2 p3 ld1 ?_
      · intro b z F q
        cases b <;> first | exact wpAny_pure q | exact wpAny_rule q
      · intro h' sm r
        dsimp only
        exact wpAny_pure (fin h' sm r)
end
/-- the unlike ones of the first i -/
noncomputable def unl (ys : List Key) : Nat → List Key
  | 0 => []
  | i + 1 => more (ys.getD i (.inl 0)) (unl ys i)
theorem unl_len (ys : List Key) : ∀ i, (unl ys i).length ≤ i
  | 0 => Nat.le_refl _
  | i + 1 => by
    have := unl_len ys i
    show (more _ _).length ≤ i + 1
    by_cases c : ys.getD i (.inl 0) ∈ unl ys i
    · rw [more_old c]
      omega
    · rw [more_new c, List.length_cons]
      omega
theorem unl_mem (ys : List Key) : ∀ i, i ≤ ys.length → ∀ k, k ∈ unl ys i ↔ k ∈ ys.take i
  | 0, _, k => by simp [unl]
  | i + 1, hi, k => by
    have ih := unl_mem ys i (by omega)
    have hg : ys[i]? = some ys[i] := List.getElem?_eq_getElem hi
    have gd : ys.getD i (.inl 0) = ys[i] := by rw [List.getD_eq_getElem?_getD, hg]; rfl
    have tk : ys.take (i + 1) = ys.take i ++ [ys[i]] := by rw [List.take_succ, hg]; rfl
    rw [tk, List.mem_append, List.mem_singleton, ← ih]
    show k ∈ more _ _ ↔ _
    rw [gd]
    by_cases c : ys[i] ∈ unl ys i
    · rw [more_old c]
      exact ⟨.inl, fun z => z.elim id fun e => by rw [e]; exact c⟩
    · rw [more_new c, List.mem_cons]
      exact Or.comm
theorem unl_full (ys : List Key) (k : Key) : k ∈ unl ys ys.length ↔ k ∈ ys := by
  rw [unl_mem ys _ (Nat.le_refl _), List.take_length]
section
variable {prog : Program} {w : World} {A : Around} {R : Result → Shared → Prop} {J : Addr} {fq wq : List Addr} {G : Array GenState → Array GenState → Prop} {m : Nat} {Pv : Nat → Value → Prop} {Sv : Nat → Shared → Prop}
theorem turnAll (U : WalksS prog w A.in1 J fq wq G m Pv Sv) (D : Addr) (nD : D ∉ fq) (ys : List Key) (few : m + 1 < scanBound) (vals : ∀ i v, Pv i v → keyIs (ys.getD i (.inl 0)) v = true) :
    ∀ (j i : Nat) (z : Shared), m - i = j → i ≤ m → Sv i z → Ord w z.heap D (unl ys i) →
      (∀ z', Moved (D :: wq) G z z' → Ord w z'.heap D (unl ys m) → R (.ok (.ret .none)) z') →
      codeAny (model prog w) A (.builtin "set.update.loop" ⟨[.ref D, .ref J], []⟩) R z := by
  have nW : D ∉ wq := fun q => nD (U.sub _ q)
  have up : ∀ b ∈ wq, b ∈ D :: wq := fun b q => List.mem_cons_of_mem _ q
  intro j
  induction j with
  | zero =>
    intro i z ej hi sv so k
    obtain rfl : i = m := by omega
    refine codeAny_builtin PyProof.Rows.F.entry_set_update_loop ?_
    rw [Around.under_plainId PyProof.Rows.F.plain_set_update_loop _]
    show wpAny _ A.in1 (pyNext (.ref J) >>= _) _ _ z
    refine wpAny_bind (U.done z _ _ sv fun z' mv => ?_)
    show wpAny _ A.in1 (ret Value.none) _ _ z'
    exact wpAny_pure (k z' (mv.mono up) (so.move fun o e => mv.heap D _ nW e))
  | succ j ih =>
    intro i z ej hi sv so k
    have il : i < m := by omega
    refine codeAny_builtin PyProof.Rows.F.entry_set_update_loop ?_
    rw [Around.under_plainId PyProof.Rows.F.plain_set_update_loop _]
    show wpAny _ A.in1 (pyNext (.ref J) >>= _) _ _ z
    refine wpAny_bind (U.item i z _ _ il sv fun v z' pv sv' mv => ?_)
    have hv := vals i v pv
    have so' : Ord w z'.heap D (unl ys i) := so.move fun o e => mv.heap D _ nW e
    show wpAny _ A.in1 (holding [v] (setAdd D v) >>= _) _ _ z'
    refine wpAny_bind (wpAny_holding ?_)
    unfold setAdd
    refine wpAny_holding ?_
    have le := unl_len ys i
    refine wpAny_bind ((mixKind prog w).pyHash (k := ys.getD i (.inl 0)) hv ?_)
    refine ord_add (s := { z' with toks := z'.toks + 1 }) so' hv (by omega) fun b h2 sb so2 => ?_
    have so3 : Ord w h2 D (unl ys (i + 1)) := so2
    refine wpAny_pure ⟨plainId_quiet PyProof.Rows.F.plain_set_update_loop _, ih (i + 1) _ (by omega) il (U.frame _ z' _ _ sv' (Nat.le_succ _) fun b hb o e => ?_) so3 fun z2 mv2 so4 => ?_⟩
    · rw [sb.2 b (fun q : b = D => nD (by rw [← q]; exact hb))]
      exact e
    · refine k z2 (Moved.trans U.gtrans ((mv.mono up).then_heap (Nat.le_succ _) fun b o hb e => ?_) mv2) so4
      rw [sb.2 b (fun q : b = D => hb (by rw [q]; exact List.mem_cons_self))]
      exact e
end
def set0 (w : World) : Obj := { cls := .type "set", dict := none, data := .set #[] 0 (.fresh 0 0 (!w.params.followText "set-order")) }
theorem set0_ord {w : World} {h : Heap} {a : Addr} (e : h.get? a = some (set0 w)) : Ord w h a [] := by
  refine ⟨_, #[], 0, _, e, ⟨rfl, rfl, rfl⟩, rfl, ⟨(fun x hx => by simp at hx), List.Perm.refl _, List.nodup_nil⟩, ⟨by decide, rfl⟩, List.Pairwise.nil, ?_⟩
  by_cases c : w.params.followText "set-order" = true
  · exact .inl c
  · right
    show (!w.params.followText "set-order") = true
    simpa using c
section
variable {prog : Program} {w : World} {A : Around} {E : Value → Shared → Prop} {z : Shared}
set_option maxHeartbeats 6400000 in
theorem set_ofT {p : Addr} {its : Array Value} {ys : List Key} {Q : Value → Shared → Prop} (calm : A.handled = none) (pt : z.heap.IsTuple p its) (ly : ys.length = its.size) (vals : ∀ (i : Nat) (v : Value), its[i]? = some v → keyIs (ys.getD i (.inl 0)) v = true) (few : ys.length + 1 < scanBound)
    (k : ∀ (h2 : Heap) (tk : Nat), Ord w h2 z.heap.objs.size (unl ys its.size) → (∀ b o, b < z.heap.objs.size → z.heap.get? b = some o → h2.get? b = some o) → Q (.ref z.heap.objs.size) { z with heap := h2, toks := tk }) :
    wpAny (model prog w) A (call (.type "set") [.ref p]) Q E z := by
  obtain ⟨cr, ct, hmro⟩ := PySem.F.called_set.mro
  have hmade := PySem.F.called_set.made
  have hsub := PySem.F.called_set.sub
  refine wpAny_call (codeAny_of_tree ?_)
  show wpAny _ _ (callAny (.type "set") _) _ _ _
  refine wpAny_pure ⟨Code.quiet_builtin _ (by decide +kernel), codeAny_builtin PySem.F.entry_type_call ?_⟩
  rw [Around.under_plain (weight_type_call_type "set" [.ref p] []) rfl]
  have c1 := PySem.F.called_set.notType
  have c2 := PySem.F.called_set.canCreate
  have c3 := PySem.F.typeCall_set_1 (.ref p)
  repeat (any_goals (first | assumption | wp_step))
  refine codeAny_mono (code_set_led1 (.ref p) (E := E) (Q₁ := fun v z1 => v = .ref z.heap.objs.size ∧ z1 = { z with heap := z.heap.push (set0 w) }) ⟨rfl, rfl⟩) fun r z1 hr => ?_
  cases r with
  | error e => exact hr
  | ok fl =>
    cases fl with
    | next => exact hr.elim
    | brk => exact hr.elim
    | cont => exact hr.elim
    | ret v =>
      obtain ⟨rfl, rfl⟩ := hr
      have born : (z.heap.push (set0 w)).get? z.heap.objs.size = some (set0 w) := Heap.get?_push_size _ rfl
      have ty : Shared.TypeIs { z with heap := z.heap.push (set0 w) } (.ref z.heap.objs.size) "set" := ⟨_, born, rfl⟩
      have i1 := PySem.F.called_set.init.lookup
      have i2 := PySem.F.called_set.init.bind (.ref z.heap.objs.size)
      repeat (any_goals (first | assumption | wp_step))
      refine codeAny_mono (codeAny_call_builtin (R := wants (fun r z2 => r = .none ∧ ∃ h2 tk, z2 = { z with heap := h2, toks := tk } ∧ Ord w h2 z.heap.objs.size (unl ys its.size) ∧
        (∀ b o, b < z.heap.objs.size → z.heap.get? b = some o → h2.get? b = some o)) E) PySem.F.called_set.init.plain PySem.F.entry_set_init (check_set_init_1 ty ?_)) fun r2 z2 hr2 => ?_
      · obtain ⟨ot, hot, hct, nt, hdt⟩ := pt
        obtain ⟨otc, otd, ota, ots⟩ := ot
        simp only at hct hdt
        subst hct
        subst hdt
        have hot2 : (z.heap.push (set0 w)).get? p = some { cls := .type "tuple", dict := otd, data := .seq its nt, slots := ots } := Heap.get?_push_of_some _ hot
        have s1 := PySem.F.sub_tuple_set
        have s2 := PySem.F.sub_tuple_frozenset
        have s3 : (Value.type "tuple" == Value.type "dict") = false := by decide
        have pt1 : (z.heap.push (set0 w)).IsTuple p its := ⟨_, hot2, rfl, nt, rfl⟩
        unfold Builtin.«set.__init__» noKeywords Builtin.Frozenset.updateFrom
        generalize hPI : pyIter = PI
        wp_walk
        subst hPI
        refine wpAny_pyIter_tuple pt1 ?_
        refine wpAny_bind (wpAny_runValue ?_)
        have pl : p < z.heap.objs.size := Heap.lt_size hot
        have calm3 : A.in1.in1.in1.handled = none := by simp [calm]
        have sz1 : (z.heap.push (set0 w)).objs.size = z.heap.objs.size + 1 := Heap.size_push ..
        have ne1 : p ≠ (z.heap.push (set0 w)).objs.size := by
          rw [sz1]
          exact Nat.ne_of_lt (Nat.lt_succ_of_lt pl)
        have ne2 : z.heap.objs.size ∉ [(z.heap.push (set0 w)).objs.size, p] := by
          rw [sz1]
          intro q
          rcases List.mem_cons.mp q with q | q
          · exact absurd q (Nat.ne_of_lt (Nat.lt_succ_self _))
          · exact absurd (List.mem_singleton.mp q) (Nat.ne_of_gt pl)
        refine turnAll ((Walks.tuple calm3 _ p ne1 its).toS) z.heap.objs.size ne2 ys (by rw [← ly]; exact few) vals (its.size - 0) 0 _ (by omega) (Nat.zero_le _) ⟨⟨_, Heap.get?_push_size _ rfl, rfl, rfl⟩, (pt1.push _)⟩ ?hA ?hB
        case hA =>
          have at2 : ((z.heap.push (set0 w)).push { cls := .type "tuple_iterator", data := .fields #[.ref p, .int 0 0] }).get? z.heap.objs.size = some (set0 w) := Heap.get?_push_of_some _ born
          exact set0_ord at2
        case hB =>
          intro z3 mv so
          obtain ⟨h3, g3, d3, tk3, os3⟩ := z3
          have eg : g3 = z.gens := mv.gens
          have ed : d3 = z.drawn := mv.drawn
          have eo : os3 = z.os := mv.os
          subst eg
          subst ed
          subst eo
          show wpAny _ _ _ _ _ _
          refine wpAny_pure ?_
          show wpAny _ _ (ret Value.none) _ _ _
          refine wpAny_pure ⟨rfl, h3, tk3, rfl, so, fun b o hb e => ?_⟩
          have b1 : b ≠ z.heap.objs.size := Nat.ne_of_lt hb
          have b2 : b ≠ (z.heap.push (set0 w)).objs.size := by
            rw [sz1]
            exact Nat.ne_of_lt (Nat.lt_succ_of_lt hb)
          refine mv.heap b o (fun q => ?_) (Heap.get?_push_of_some _ (Heap.get?_push_of_some _ e))
          rcases List.mem_cons.mp q with q | q
          · exact b1 q
          · exact b2 (List.mem_singleton.mp q)
      · cases r2 with
        | error e => exact hr2
        | ok fl2 =>
          cases fl2 with
          | next => exact hr2.elim
          | brk => exact hr2.elim
          | cont => exact hr2.elim
          | ret r =>
            obtain ⟨rfl, h4, tk4, rfl, so, kp⟩ := hr2
            repeat (any_goals (first | assumption | wp_step))
            exact k _ _ so kp
set_option maxHeartbeats 6400000 in
theorem set_ofL {p : Addr} {its : Array Value} {ys : List Key} {Q : Value → Shared → Prop} (calm : A.handled = none) (pt : z.heap.IsList p its) (ly : ys.length = its.size) (vals : ∀ (i : Nat) (v : Value), its[i]? = some v → keyIs (ys.getD i (.inl 0)) v = true) (few : ys.length + 1 < scanBound)
    (k : ∀ (h2 : Heap) (tk : Nat), Ord w h2 z.heap.objs.size (unl ys its.size) → (∀ b o, b < z.heap.objs.size → z.heap.get? b = some o → h2.get? b = some o) → Q (.ref z.heap.objs.size) { z with heap := h2, toks := tk }) :
    wpAny (model prog w) A (call (.type "set") [.ref p]) Q E z := by
  obtain ⟨cr, ct, hmro⟩ := PySem.F.called_set.mro
  have hmade := PySem.F.called_set.made
  have hsub := PySem.F.called_set.sub
  refine wpAny_call (codeAny_of_tree ?_)
  show wpAny _ _ (callAny (.type "set") _) _ _ _
  refine wpAny_pure ⟨Code.quiet_builtin _ (by decide +kernel), codeAny_builtin PySem.F.entry_type_call ?_⟩
  rw [Around.under_plain (weight_type_call_type "set" [.ref p] []) rfl]
  have c1 := PySem.F.called_set.notType
  have c2 := PySem.F.called_set.canCreate
  have c3 := PySem.F.typeCall_set_1 (.ref p)
  repeat (any_goals (first | assumption | wp_step))
  refine codeAny_mono (code_set_led1 (.ref p) (E := E) (Q₁ := fun v z1 => v = .ref z.heap.objs.size ∧ z1 = { z with heap := z.heap.push (set0 w) }) ⟨rfl, rfl⟩) fun r z1 hr => ?_
  cases r with
  | error e => exact hr
  | ok fl =>
    cases fl with
    | next => exact hr.elim
    | brk => exact hr.elim
    | cont => exact hr.elim
    | ret v =>
      obtain ⟨rfl, rfl⟩ := hr
      have born : (z.heap.push (set0 w)).get? z.heap.objs.size = some (set0 w) := Heap.get?_push_size _ rfl
      have ty : Shared.TypeIs { z with heap := z.heap.push (set0 w) } (.ref z.heap.objs.size) "set" := ⟨_, born, rfl⟩
      have i1 := PySem.F.called_set.init.lookup
      have i2 := PySem.F.called_set.init.bind (.ref z.heap.objs.size)
      repeat (any_goals (first | assumption | wp_step))
      refine codeAny_mono (codeAny_call_builtin (R := wants (fun r z2 => r = .none ∧ ∃ h2 tk, z2 = { z with heap := h2, toks := tk } ∧ Ord w h2 z.heap.objs.size (unl ys its.size) ∧
        (∀ b o, b < z.heap.objs.size → z.heap.get? b = some o → h2.get? b = some o)) E) PySem.F.called_set.init.plain PySem.F.entry_set_init (check_set_init_1 ty ?_)) fun r2 z2 hr2 => ?_
      · obtain ⟨ot, hot, hct, nt, hdt⟩ := pt
        obtain ⟨otc, otd, ota, ots⟩ := ot
        simp only at hct hdt
        subst hct
        subst hdt
        have hot2 : (z.heap.push (set0 w)).get? p = some { cls := .type "list", dict := otd, data := .seq its nt, slots := ots } := Heap.get?_push_of_some _ hot
        have s1 := PySem.F.sub_list_set
        have s2 := PySem.F.sub_list_frozenset
        have s3 : (Value.type "list" == Value.type "dict") = false := by decide
        have pt1 : (z.heap.push (set0 w)).IsList p its := ⟨_, hot2, rfl, nt, rfl⟩
        unfold Builtin.«set.__init__» noKeywords Builtin.Frozenset.updateFrom
        generalize hPI : pyIter = PI
        wp_walk
        subst hPI
        refine wpAny_pyIter_list pt1 ?_
        refine wpAny_bind (wpAny_runValue ?_)
        have pl : p < z.heap.objs.size := Heap.lt_size hot
        have calm3 : A.in1.in1.in1.handled = none := by simp [calm]
        have sz1 : (z.heap.push (set0 w)).objs.size = z.heap.objs.size + 1 := Heap.size_push ..
        have ne1 : p ≠ (z.heap.push (set0 w)).objs.size := by
          rw [sz1]
          exact Nat.ne_of_lt (Nat.lt_succ_of_lt pl)
        have ne2 : z.heap.objs.size ∉ [(z.heap.push (set0 w)).objs.size, p] := by
          rw [sz1]
          intro q
          rcases List.mem_cons.mp q with q | q
          · exact absurd q (Nat.ne_of_lt (Nat.lt_succ_self _))
          · exact absurd (List.mem_singleton.mp q) (Nat.ne_of_gt pl)
        refine turnAll ((Walks.list calm3 _ p ne1 its).toS) z.heap.objs.size ne2 ys (by rw [← ly]; exact few) vals (its.size - 0) 0 _ (by omega) (Nat.zero_le _) ⟨⟨_, Heap.get?_push_size _ rfl, rfl, rfl⟩, (pt1.push _)⟩ ?hA ?hB
        case hA =>
          have at2 : ((z.heap.push (set0 w)).push { cls := .type "list_iterator", data := .fields #[.ref p, .int 0 0] }).get? z.heap.objs.size = some (set0 w) := Heap.get?_push_of_some _ born
          exact set0_ord at2
        case hB =>
          intro z3 mv so
          obtain ⟨h3, g3, d3, tk3, os3⟩ := z3
          have eg : g3 = z.gens := mv.gens
          have ed : d3 = z.drawn := mv.drawn
          have eo : os3 = z.os := mv.os
          subst eg
          subst ed
          subst eo
          show wpAny _ _ _ _ _ _
          refine wpAny_pure ?_
          show wpAny _ _ (ret Value.none) _ _ _
          refine wpAny_pure ⟨rfl, h3, tk3, rfl, so, fun b o hb e => ?_⟩
          have b1 : b ≠ z.heap.objs.size := Nat.ne_of_lt hb
          have b2 : b ≠ (z.heap.push (set0 w)).objs.size := by
            rw [sz1]
            exact Nat.ne_of_lt (Nat.lt_succ_of_lt hb)
          refine mv.heap b o (fun q => ?_) (Heap.get?_push_of_some _ (Heap.get?_push_of_some _ e))
          rcases List.mem_cons.mp q with q | q
          · exact b1 q
          · exact b2 (List.mem_singleton.mp q)
      · cases r2 with
        | error e => exact hr2
        | ok fl2 =>
          cases fl2 with
          | next => exact hr2.elim
          | brk => exact hr2.elim
          | cont => exact hr2.elim
          | ret r =>
            obtain ⟨rfl, h4, tk4, rfl, so, kp⟩ := hr2
            repeat (any_goals (first | assumption | wp_step))
            exact k _ _ so kp
end
end Xs
set_option Elab.async false
set_option linter.all false
set_option maxRecDepth 100000
set_option maxHeartbeats 8000000
/-! Xt: sorted(set(x)); sorted of a list of data -/
namespace Xs
open PySem PySem.Spec PySem.Calls PyProof.Rows L2 Bs Xg TL
def encK : Key → PyData
  | .inl i => .int i
  | .inr x => .str x
/-- numbers alone, or texts alone -/
def OneKind (ks : List Key) : Prop := (∀ k ∈ ks, ∃ i, k = .inl i) ∨ ∀ k ∈ ks, ∃ x, k = .inr x
theorem OneKind.alike {ks : List Key} (h : OneKind ks) : PySem.W.AllAlike (ks.map encK) := by
  intro d hd d' hd'
  obtain ⟨k, hk, rfl⟩ := List.mem_map.mp hd
  obtain ⟨k', hk', rfl⟩ := List.mem_map.mp hd'
  rcases h with h | h
  · obtain ⟨i, rfl⟩ := h k hk
    obtain ⟨j, rfl⟩ := h k' hk'
    simp [encK, PySem.W.alike]
  · obtain ⟨x, rfl⟩ := h k hk
    obtain ⟨y, rfl⟩ := h k' hk'
    simp [encK, PySem.W.alike]
theorem keys_sortable (ks : List Key) : PySem.W.Sortable (ks.map encK) := by
  right
  intro d hd
  obtain ⟨k, _, rfl⟩ := List.mem_map.mp hd
  cases k
  · exact ⟨(fun z => by cases z), (fun xs z => by cases z)⟩
  · exact ⟨(fun z => by cases z), (fun xs z => by cases z)⟩
theorem OneKind.mono {ks js : List Key} (h : OneKind ks) (s : ∀ k ∈ js, k ∈ ks) : OneKind js := by
  rcases h with h | h
  · exact .inl fun k hk => h k (s k hk)
  · exact .inr fun k hk => h k (s k hk)
theorem encK_depth (k : Key) : (encK k).depth ≤ 1 := by cases k <;> simp [encK, PyData.depth]
theorem key_read {h : Heap} {k : Key} {v : Value} (e : keyIs k v = true) : Reads h v (encK k) [] := by
  rcases keyIs_shape e with ⟨i, t, rfl, rfl⟩ | ⟨x, t, rfl, rfl⟩
  · exact .int i t
  · exact .str x t
theorem key_rel {k : Key} {v : Value} (e : keyIs k v = true) : RelV (kV k) v := by
  rcases keyIs_shape e with ⟨i, t, rfl, rfl⟩ | ⟨x, t, rfl, rfl⟩
  · exact ⟨t, rfl⟩
  · exact ⟨t, rfl⟩
theorem rel_key {k : Key} {v : Value} (e : RelV (kV k) v) : keyIs k v = true := by
  cases k with
  | inl i =>
    obtain ⟨t, rfl⟩ := e
    exact keyIs_int i t
  | inr x =>
    obtain ⟨t, rfl⟩ := e
    exact keyIs_str x t
theorem vals_of_keys : ∀ {vs : List Value} {ks : List Key}, PySem.W.EachIs (fun v k => keyIs k v = true) vs ks → Vals (ks.map kV) vs
  | _, _, .nil => .nil
  | _, _, .cons h t => .cons (key_rel h) (vals_of_keys t)
theorem each_keys {w : World} : ∀ {vs : List Value}, (∀ v ∈ vs, ∃ k, keyIs k v = true) → PySem.W.EachIs (fun v k => keyIs k v = true) vs (vs.map fun v => ky (0, v))
  | [], _ => .nil
  | v :: vs, h => by
    obtain ⟨k, hk⟩ := h v List.mem_cons_self
    refine .cons ?_ (each_keys (w := w) fun u hu => h u (List.mem_cons_of_mem _ hu))
    show keyIs (ky (0, v)) v = true
    rw [ky_of (e := ((0 : Int), v)) hk]
    exact hk
/-- what is sorted: a kind of key -/
structure Knd (β : Type) where
  f : β → Key
  g : Key → β
  enc : β → PyData
  gf : ∀ b, g (f b) = b
  rd : ∀ b, encK (f b) = enc b
  al : ∀ b c, PySem.W.alike (enc b) (enc c) = true
  ot : ∀ b, enc b ≠ .none ∧ ∀ xs, enc b ≠ .tuple xs
  tr : ∀ a b c, PySem.W.dataLe false enc a b = true → PySem.W.dataLe false enc b c = true → PySem.W.dataLe false enc a c = true
  tot : ∀ a b, (PySem.W.dataLe false enc a b || PySem.W.dataLe false enc b a) = true
def kStr : Knd Str where
  f := Sum.inr
  g := fun k => match k with | .inr x => x | _ => Str.empty
  enc := fun x => .str x
  gf := fun _ => rfl
  rd := fun _ => rfl
  al := fun _ _ => by simp [PySem.W.alike]
  ot := fun _ => ⟨(fun z => by cases z), (fun xs z => by cases z)⟩
  tr := fun a b c h1 h2 => by
    rw [PySem.W.dataLe_str (fun x : Str => x)] at *
    simp only [decide_eq_true_eq] at *
    exact List.le_trans h1 h2
  tot := fun a b => by
    rw [PySem.W.dataLe_str (fun x : Str => x)]
    simp only [Bool.or_eq_true, decide_eq_true_eq]
    exact List.le_total _ _
def kInt : Knd Int where
  f := Sum.inl
  g := fun k => match k with | .inl i => i | _ => 0
  enc := fun x => .int x
  gf := fun _ => rfl
  rd := fun _ => rfl
  al := fun _ _ => by simp [PySem.W.alike]
  ot := fun _ => ⟨(fun z => by cases z), (fun xs z => by cases z)⟩
  tr := fun a b c h1 h2 => by
    rw [PySem.W.dataLe_int (fun x : Int => x)] at *
    simp only [decide_eq_true_eq] at *
    omega
  tot := fun a b => by
    rw [PySem.W.dataLe_int (fun x : Int => x)]
    simp only [Bool.or_eq_true, decide_eq_true_eq]
    omega
theorem each_map_f {β : Type} (kd : Knd β) : ∀ {vs : List Value} {bs : List β}, PySem.W.EachIs (fun v k => keyIs k v = true) vs (bs.map kd.f) → PySem.W.EachIs (fun v b => keyIs (kd.f b) v = true) vs bs
  | _, [], h => by
    cases vs_nil h
    exact .nil
  | _, b :: bs, h => by
    cases h with
    | cons h1 h2 => exact .cons h1 (each_map_f kd h2)
where
  vs_nil {vs : List Value} (h : PySem.W.EachIs (fun v k => keyIs k v = true) vs ([] : List Key)) : vs = [] := by
    cases h
    rfl
theorem vals_of_f {β : Type} (kd : Knd β) : ∀ {vs : List Value} {bs : List β}, PySem.W.EachIs (fun v b => keyIs (kd.f b) v = true) vs bs → Vals (bs.map fun b => kV (kd.f b)) vs
  | _, _, .nil => .nil
  | _, _, .cons h t => .cons (key_rel h) (vals_of_f kd t)
section
variable {P : Program} {w : World} {A : Around} {E : Value → Shared → Prop} {s : Shared} {a : Addr} {β : Type}
theorem sorted_ord (kd : Knd β) {bs : List β} {Q : Value → Shared → Prop} (R : Ord w s.heap a (bs.map kd.f)) (hh : A.handled = none) (few : bs.length ≤ 100000) (units : A.units + 64 < cLine)
    (k : ∀ (s' : Shared) (p : Addr) (out : List Value) (c : Nat) (ys : List β), (∀ b o, s.heap.get? b = some o → s'.heap.get? b = some o) → s'.gens = s.gens → s'.os = s.os → s.heap.objs.size ≤ p →
      s'.heap.get? p = some (seqObj "list" out.toArray c) → Vals (ys.map fun b => kV (kd.f b)) out → ys.Perm bs → ys.Pairwise (fun x y => PySem.W.dataLe false kd.enc x y = true) → Q (.ref p) s') :
    wpAny (model P w) A (call (.builtin "sorted") [.ref a]) Q E s := by
  obtain ⟨o, es, ep, t, at0, ex, d0, ⟨g, pm, nd⟩, ⟨sb, ft⟩, rs, ld⟩ := R
  refine Calls.call_function_entry kind_sorted plain_sorted entry_sorted (args_sorted1 _) ?_
  unfold Builtin.«sorted»
  refine wpAny_bind (m := checkCount "sorted" 1 1 _) (wpAny_pure ?_)
  refine wpAny_bind (collect_set (A := A.in1) hh ⟨o, at0, ex.1, d0⟩ ft sb rs ld fun s1 vs k1 hz g1 o1 pv => ?_)
  have each : ∀ v ∈ vs, ∃ k, keyIs k v = true := by
    intro v hv
    obtain ⟨e, he, rfl⟩ := List.mem_map.mp (pv.mem_iff.mp hv)
    obtain ⟨k, hk, _⟩ := g e he
    exact ⟨k, hk⟩
  have ev := each_keys (w := w) each
  have pk : (vs.map fun v => ky (0, v)).Perm (bs.map kd.f) := by
    have q := pv.map fun v => ky (0, v)
    rw [List.map_map] at q
    refine q.trans (List.Perm.trans ?_ pm)
    have : (fun v => ky (0, v)) ∘ (fun x : Int × Value => x.2) = ky := by
      funext e
      obtain ⟨c, v⟩ := e
      cases v <;> rfl
    rw [this]
  obtain ⟨cs, ecs, pcs⟩ : ∃ cs : List β, (vs.map fun v => ky (0, v)) = cs.map kd.f ∧ cs.Perm bs := by
    refine ⟨(vs.map fun v => ky (0, v)).map kd.g, ?_, ?_⟩
    · have : ∀ l : List Key, (∀ k ∈ l, ∃ b, kd.f b = k) → l = (l.map kd.g).map kd.f := by
        intro l
        induction l with
        | nil => intro _; rfl
        | cons k l ih =>
          intro h
          obtain ⟨b, rfl⟩ := h k List.mem_cons_self
          simp only [List.map_cons]
          rw [← ih fun j hj => h j (List.mem_cons_of_mem _ hj), kd.gf]
      refine this _ fun k hk => ?_
      obtain ⟨b, _, e⟩ := List.mem_map.mp (pk.mem_iff.mp hk)
      exact ⟨b, e⟩
    · have q := pk.map kd.g
      rw [List.map_map (f := kd.f)] at q
      have : kd.g ∘ kd.f = id := funext kd.gf
      rw [this, List.map_id] at q
      exact q
  rw [ecs] at ev
  have ev2 := each_map_f kd ev
  have len : vs.length = cs.length := by rw [← List.length_map (f := fun v => ky (0, v)), ecs, List.length_map]
  have lv : vs.length ≤ sizeLine := by rw [len, pcs.length_eq, sizeLine_eq]; omega
  refine wpAny_bind (wpAny_newList ?_ lv)
  have hoL : (s1.heap.push (seqObj "list" vs.toArray 0)).get? s1.heap.objs.size = some (seqObj "list" vs.toArray 0) := Heap.get?_push_size _ rfl
  refine wpAny_bind (wpAny_holding (PySem.W.list_sort_data (bs := cs) (enc := kd.enc) (R := fun v b => keyIs (kd.f b) v = true) hoL ev2 ?_ (PySem.W.AllAlike.of kd.al) (PySem.W.Sortable.others kd.ot) (by rw [← len]; exact lv) ?_ ?_))
  · refine ev2.mono fun v b h => ⟨[], ?_, by simp⟩
    rw [← kd.rd b]
    exact key_read h
  · intro b _
    have d := encK_depth (kd.f b)
    rw [kd.rd] at d
    have u1 : A.in1.units ≤ A.units + 1 := by first | exact Nat.le_refl _ | (unfold Around.in1; dsimp only; omega) | simp [Around.in1]
    omega
  · intro out lo eo
    obtain ⟨c, hc⟩ := sortedHeap_at (vs := vs) (out := out.toArray) hoL
    refine wpAny_pure ⟨_, rfl, k _ s1.heap.objs.size out c _ (fun b u e => ?_) g1 o1 hz hc (vals_of_f kd eo) ((List.mergeSort_perm _ _).trans pcs) (List.pairwise_mergeSort kd.tr kd.tot _)⟩
    have q := k1 b u e
    have hlt := Heap.lt_size q
    show (sortedHeap (s1.heap.push (seqObj "list" vs.toArray 0)) s1.heap.objs.size vs out.toArray).get? b = some u
    rw [sortedHeap_old (Nat.ne_of_lt hlt) (by rw [size_push']; exact Nat.lt_succ_of_lt hlt)]
    exact Heap.get?_push_of_some _ q
end
section
variable {X : Cx}
theorem rel_at {ks : List Key} {us : List Value} (r : Vals (ks.map kV) us) : ∀ (i : Nat) (v : Value), us[i]? = some v → keyIs (ks.getD i (.inl 0)) v = true := by
  induction ks generalizing us with
  | nil =>
    intro i v h
    cases r
    simp at h
  | cons k ks ih =>
    intro i v h
    cases r with
    | cons r1 r2 =>
      cases i with
      | zero =>
        simp at h
        subst h
        exact rel_key r1
      | succ i =>
        simp only [List.getElem?_cons_succ] at h
        exact ih r2 i v h
/-- sorted(set(x)), x a list or a tuple of numbers alone or texts alone -/
def tSrtSet (K : PySem.W.Frag) (te : TE) : TE := fun σ H Q => te σ H fun x H1 => ∃ (β : Type) (kd : Knd β) (p : Addr) (bs : List β), x = .ref p ∧ (SqL K H1 p (bs.map fun b => kV (kd.f b)) ∨ SqT K H1 p (bs.map fun b => kV (kd.f b))) ∧ bs.length ≤ 1000 ∧
  ∀ (ys : List β) (l : Addr), ys.Nodup → (∀ b, b ∈ ys ↔ b ∈ bs) → ys.length ≤ bs.length → ys.Pairwise (fun x y => PySem.W.dataLe false kd.enc x y = true) → H1 l = none → Q (.ref l) (upd H1 l (.lst (ys.map fun b => kV (kd.f b))))
theorem pe_srtSet {K : PySem.W.Frag} (hK : X.K = K) {a : Expr} {te : TE} {p p2 q pos : Pos} (hc : X.calm = true) (hu : X.A.units + 80 < cLine) (g1 : Gl X "sorted") (m1 : X.mg "sorted" = none) (g2 : Gl X "set") (m2 : X.mg "set" = none) (ha : PE X a te)
    (na : starEach [a] X.env = (false, eval a X.env) :: starEach [] X.env := by rfl) : PE X (.Call (.Name "sorted" p) [.Call (.Name "set" p2) [a] [] q] [] pos) (tSrtSet K te) := by
  subst hK
  constructor
  intro pins s σ H Q I h
  refine Call_ (ld_blt I g1 m1 PyProof.Rows.boot_sorted ?_)
  refine callWith_builtin1 (args_cons ?_ (by rfl)) (by rfl) rfl
  refine Call_ (ld_blt I g2 m2 boot_set ?_)
  refine callWith_type1 (args_cons ?_ na) na (by rfl)
  apply thn (ha.run pins s σ H _ I h)
  rintro v s1 ⟨x, H1, I1, r1, β, kd, l, bs, rfl, hq, few, q1⟩
  apply PyProof.Rows.args_nil
  cases r1
  have goal : ∀ (h2 : Heap) (tk : Nat), Ord X.w h2 s1.heap.objs.size (unl (bs.map kd.f) (bs.map kd.f).length) → (∀ b o, b < s1.heap.objs.size → s1.heap.get? b = some o → h2.get? b = some o) →
      wpAny (model X.prog X.w) X.A (call (.builtin "sorted") [.ref s1.heap.objs.size]) (EP X pins σ Q) X.xe { s1 with heap := h2, toks := tk } := by
    intro h2 tk so kp
    have I2 : Inv X pins σ H1 { s1 with heap := h2, toks := tk } := I1.kept fun b o e => kp b o (Heap.lt_size e) e
    obtain ⟨cs, ec, mc, nc⟩ : ∃ cs : List β, unl (bs.map kd.f) (bs.map kd.f).length = cs.map kd.f ∧ (∀ b, b ∈ cs ↔ b ∈ bs) ∧ cs.length ≤ bs.length := by
      have mm := unl_full (bs.map kd.f)
      have ll := unl_len (bs.map kd.f) (bs.map kd.f).length
      generalize unl (bs.map kd.f) (bs.map kd.f).length = L at mm ll
      have back : L = (L.map kd.g).map kd.f := by
        have : ∀ l : List Key, (∀ k ∈ l, ∃ b, kd.f b = k) → l = (l.map kd.g).map kd.f := by
          intro l
          induction l with
          | nil => intro _; rfl
          | cons k l ih =>
            intro h
            obtain ⟨b, rfl⟩ := h k List.mem_cons_self
            simp only [List.map_cons]
            rw [← ih fun j hj => h j (List.mem_cons_of_mem _ hj), kd.gf]
        refine this L fun k hk => ?_
        obtain ⟨b, _, e⟩ := List.mem_map.mp ((mm k).mp hk)
        exact ⟨b, e⟩
      refine ⟨L.map kd.g, back, fun b => ?_, by rw [List.length_map]; rw [List.length_map] at ll; exact ll⟩
      have m1 := mm (kd.f b)
      constructor
      · intro hb
        have : kd.f b ∈ L := by rw [back]; exact List.mem_map.mpr ⟨b, hb, rfl⟩
        obtain ⟨c, hc2, e⟩ := List.mem_map.mp (m1.mp this)
        have := congrArg kd.g e
        rw [kd.gf, kd.gf] at this
        rw [← this]
        exact hc2
      · intro hb
        have := m1.mpr (List.mem_map.mpr ⟨b, hb, rfl⟩)
        exact List.mem_map.mpr ⟨_, this, kd.gf b⟩
    rw [ec] at so
    have nd : (cs.map kd.f).Nodup := by
      obtain ⟨_, _, _, _, _, _, _, ⟨_, _, z⟩, _⟩ := so
      exact z
    have ndc : cs.Nodup := List.Pairwise.of_map kd.f (fun _ _ hne e => hne (congrArg kd.f e)) nd
    refine sorted_ord kd so (I2.ok.hd hc) (by omega) (by omega) fun s' p out c ys k g o hp hg rv pm pw => ?_
    have hlen : (ys.map fun b => kV (kd.f b)).length ≤ sizeLine := by rw [List.length_map, pm.length_eq, sizeLine_eq]; omega
    have hn : H1 p = none := I2.hok.fresh hp
    have J : Inv X pins σ (upd H1 p (.lst (ys.map fun b => kV (kd.f b)))) { ({ s1 with heap := h2, toks := tk } : Shared) with heap := s'.heap, gens := s'.gens, drawn := s'.drawn, toks := s'.toks } :=
      I2.call (ch := []) (Un.laid k hp hn) (I2.hok.laid k hp ⟨hlen, out, c, rv, hg⟩) (by rw [g]; exact I2.bare) (fun _ z => nomatch z)
    have e : s' = { ({ s1 with heap := h2, toks := tk } : Shared) with heap := s'.heap, gens := s'.gens, drawn := s'.drawn, toks := s'.toks } := by
      cases s'
      cases s1
      cases o
      rfl
    rw [e]
    exact ⟨.ref p, _, J, rfl, q1 ys p (pm.nodup_iff.mpr ndc) (fun b => pm.mem_iff.trans (mc b)) (by rw [pm.length_eq]; exact nc) pw hn⟩
  have ek : ∀ l : List β, (l.map fun b => kV (kd.f b)) = (l.map kd.f).map kV := fun l => by rw [List.map_map]; rfl
  rcases hq with hq | hq
  · obtain ⟨its, r, pl, hz⟩ := I1.list hq
    rw [ek] at r
    have ls : its.toArray.size = (bs.map kd.f).length := by rw [List.size_toArray, ← r.length, List.length_map, List.length_map]
    refine set_ofL (ys := bs.map kd.f) (I1.ok.hd hc) pl.isList ls.symm (fun i v hv => rel_at r i v (by simpa using hv)) (by rw [List.length_map]; unfold scanBound; omega) fun h2 tk so kp => ?_
    apply PyProof.Rows.args_nil
    rw [ls] at so
    exact goal h2 tk so kp
  · obtain ⟨its, r, pl, hz⟩ := I1.tuple hq
    rw [ek] at r
    have ls : its.toArray.size = (bs.map kd.f).length := by rw [List.size_toArray, ← r.length, List.length_map, List.length_map]
    refine set_ofT (ys := bs.map kd.f) (I1.ok.hd hc) pl ls.symm (fun i v hv => rel_at r i v (by simpa using hv)) (by rw [List.length_map]; unfold scanBound; omega) fun h2 tk so kp => ?_
    apply PyProof.Rows.args_nil
    rw [ls] at so
    exact goal h2 tk so kp
end
/-- sorted(xs), xs a list that reads as data -/
def rSrtD (K : PySem.W.Frag) : List V → Hp → VK → Prop := fun vs H Q => ∃ (a : Addr) (ps : List (V × PyData)), vs = [.ref a] ∧ SqL K H a (ps.map (·.1)) ∧ (∀ p ∈ ps, Dp K H p.1 p.2) ∧ PySem.W.AllAlike (ps.map (·.2)) ∧ PySem.W.Sortable (ps.map (·.2)) ∧ (∀ p ∈ ps, p.2.depth ≤ 10) ∧
  ∀ (qs : List (V × PyData)) (l : Addr), qs = ps.mergeSort (PySem.W.dataLe false (·.2)) → H l = none → Q (.ref l) (upd H l (.lst (qs.map (·.1))))
theorem cr_srtD {X : Cx} {K : PySem.W.Frag} (hK : X.K = K) (hu : X.A.units + 80 < cLine) : CallR X (.builtin "sorted") (rSrtD K) := by
  subst hK
  intro pins s σ H vs us Q I r h
  obtain ⟨a, ps, rfl, hs, hd, al, so, dp, q⟩ := h
  obtain ⟨its, rv, hl, hz⟩ := I.list hs
  rw [Vals.ref1 r]
  have each : ∀ {ps : List (V × PyData)} {us : List Value}, Vals (ps.map (·.1)) us → (∀ p ∈ ps, Dp X.K H p.1 p.2) → PySem.W.EachIs (fun u p => RelV p.1 u ∧ ∃ as, Reads s.heap u p.2 as) us ps := by
    intro ps
    induction ps with
    | nil =>
      intro us r _
      cases r
      exact .nil
    | cons p ps ih =>
      intro us r h
      cases r with
      | cons r1 r2 => exact .cons ⟨r1, Dp.reads I _ _ _ (h p List.mem_cons_self) r1⟩ (ih r2 fun x hx => h x (List.mem_cons_of_mem _ hx))
  have ev := each rv hd
  refine PySem.W.sorted_data (bs := ps) (enc := (·.2)) (R := fun u p => RelV p.1 u) hl.isList (ev.mono fun _ _ h => h.1) (ev.mono fun _ _ h => h.2) al so (by rw [List.length_map] at hz; exact hz) (fun p hp => by have := dp p hp; omega) fun out lo eo => ?_
  obtain ⟨c, hc⟩ := sortedAll_at s.heap its out.toArray
  have rel : ∀ {qs : List (V × PyData)} {us : List Value}, PySem.W.EachIs (fun u p => RelV p.1 u) us qs → Vals (qs.map (·.1)) us := by
    intro qs
    induction qs with
    | nil =>
      intro us r
      cases r
      exact .nil
    | cons p qs ih =>
      intro us r
      cases r with
      | cons r1 r2 => exact .cons r1 (ih r2)
  have hn : H (s.heap.objs.size + 1) = none := I.hok.fresh (Nat.le_succ _)
  have lq : ((ps.mergeSort (PySem.W.dataLe false (·.2))).map (·.1)).length ≤ sizeLine := by
    rw [List.length_map, (List.mergeSort_perm _ _).length_eq]
    rw [List.length_map] at hz
    exact hz
  exact ⟨.ref _, upd H (s.heap.objs.size + 1) (.lst ((ps.mergeSort (PySem.W.dataLe false (·.2))).map (·.1))), I.laid (t' := s.toks) (fun b o e => sortedAll_old e) (Nat.le_succ _) ⟨lq, out, c, rel eo, hc⟩, rfl, q _ _ rfl hn⟩
end Xs
set_option Elab.async false
set_option linter.all false
set_option pp.maxSteps 4000
set_option maxRecDepth 100000
set_option maxHeartbeats 4000000
/-! k86: the box -/
namespace K86
open PySem PySem.Spec PyProof.Rows L2 Bs Xg TL Xm Xs Gn
def top (i : Nat) : Stmt := PySem.Challenge.pw_cleanedtables_k87_rows_onward.main.body.getD i (.Pass ⟨0, 0, 0, 0⟩)
abbrev sBx : Stmt := top 30
abbrev sTk : Stmt := top 31
abbrev sPk : Stmt := top 32
section
variable {X : Cx}
theorem ix_listK {K : PySem.W.Frag} (hK : X.K = K) : IxR X (rIxL K) := hK ▸ ix_list
theorem ix_tupK {K : PySem.W.Frag} (hK : X.K = K) : IxR X (rIxT K) := hK ▸ ix_tup
theorem call_len_seqK {K : PySem.W.Frag} (hK : X.K = K) : CallR X (.builtin "len") (fun xs H Q => ∃ p ys, xs = [.ref p] ∧ (SqL K H p ys ∨ SqT K H p ys) ∧ Q (.int ys.length) H) := hK ▸ call_len_seq
theorem pe_bmK {K : PySem.W.Frag} (hK : X.K = K) {T id : String} {name : Str} {o e : Expr} {es : List Expr} {r : V → List V → Hp → VK → Prop} {to : TE} {t : TA} {apos cpos : Pos} (pa : PlainAttrs T) (slot : Slot T name id) (hty : typeOf (.builtin id) = pure (.type "method_descriptor")) (hm : MtR X id r) (ho : PE X o to) (ha : PA X (e :: es) t)
    (hbase : attributeBase o name X.env (eval o X.env) = eval o X.env := by rfl)
    (hfew : ((backTo cpos (starEach (e :: es) X.env)).all (fun x => !x.1) && (backToKw cpos (keywordEach [] X.env)).all (fun x => x.1.isSome)
      && decide ((e :: es).length + ([] : List Keyword).length + (if ([] : List Keyword).isEmpty then 0 else 1) < 30)) = true := by rfl)
    (hline : (apos.endLine == cpos.line) = true := by rfl) (hs : starEach (e :: es) X.env = (false, eval e X.env) :: starEach es X.env := by rfl) (hplain : (backTo cpos (starEach es X.env)).any (·.1) = false := by rfl) :
    PE X (.Call (.Attribute o name apos) (e :: es) [] cpos) (tBM K T r to t) := hK ▸ pe_bm pa slot hty hm ho ha hbase hfew hline hs hplain
end
structure HandF (K : PySem.W.Frag) (mg : Str → Option Value) (fTk fPk : Addr) (dTk dPk : FuncData) : Prop where
  Tk : Fun K "_law_take" "_law_take" sTk fTk dTk
  bTk : Binds K dTk ["_law_box_here", "_law_many"] []
  gTk : mg "_law_take" = some (.ref fTk)
  Pk : Fun K "_law_pick" "_law_pick" sPk fPk dPk
  bPk : Binds K dPk ["_law_box_here", "_law_some"] []
  gPk : mg "_law_pick" = some (.ref fPk)
section
variable {P : Program} {w : World} {K : PySem.W.Frag} {mg : Str → Option Value} {base : Heap}
theorem scTk : FnScope ["_law_box_here", "_law_many", "_law_digit", "_law_once"] ["_law_box_here", "_law_many"] (defScope sTk) := ⟨rfl, rfl, rfl, by decide +kernel, rfl, by decide +kernel, by decide +kernel⟩
theorem ok_take {f : Addr} {fd : FuncData} (F : Fun K "_law_take" "_law_take" sTk f fd) : FnOk P w K mg base CX0 1 f fd ["_law_box_here", "_law_many"] spTake := by
  refine F.ok scTk (fun vs H Q E h => ?_) (fun cdv A outer s H vs Q E hr h => ?_)
  · obtain ⟨h, n, m, rfl, _⟩ := h
    rfl
  · obtain ⟨h, n, m, rfl, ⟨g, t, c, e, t0, t1, c0, c1⟩, nb, m0, m1, k⟩ := h
    have at0 : atI ([V.int g, V.int t, V.int c]) 0 = some (V.int g) := atI_nat (j := 0) rfl
    have at1 : atI ([V.int g, V.int t, V.int c]) 1 = some (V.int t) := atI_nat (j := 1) rfl
    have at2 : atI ([V.int g, V.int t, V.int c]) 2 = some (V.int c) := atI_nat (j := 2) rfl
    refine ⟨_, pss_cons (ps_if (pt_cmpR op_gt (pe_ix (ix_listK (K := K) rfl) (pv 0) pe_int (fun _ _ => rfl)) pe_int (nomark _)) (pss_cons (ps_set (i := 2) scTk.nd rfl (Or.inl rfl) (pe_op op_mod (pe_ix (ix_listK (K := K) rfl) (pv 0) pe_int (fun _ _ => rfl)) (pv 1)))
      (pss_cons (ps_asg (pe_op op_fdiv (pe_ix (ix_listK (K := K) rfl) (pv 0) pe_int (fun _ _ => rfl)) (pv 1)) (pg_sub (pv 0) pe_int set_list))
      (pss_one (ps_ret (pv 2))))) (pss_nil))
      (pss_cons (ps_asg (pe_op op_add (pe_ix (ix_listK (K := K) rfl) (pv 0) pe_int (fun _ _ => rfl)) pe_int) (pg_sub (pv 0) pe_int set_list))
      (pss_cons (ps_set (i := 3) scTk.nd rfl (Or.inl rfl) (pe_op op_mod (pe_op op_mul (pe_op op_add (pe_op op_add (pe_ix (ix_listK (K := K) rfl) (pv 0) pe_int (fun _ _ => rfl)) (pe_op op_mul (pe_op op_mul pe_int (pe_ix (ix_listK (K := K) rfl) (pv 0) pe_int (fun _ _ => rfl))) (pe_ix (ix_listK (K := K) rfl) (pv 0) pe_int (fun _ _ => rfl)))) pe_int) pe_int) pe_int))
      (pss_cons (ps_set (i := 3) scTk.nd rfl (Or.inl rfl) (pe_op op_mod (pe_op op_mul (pv 3) (pe_op op_add (pe_op op_mod (pv 3) pe_int) (pe_op op_mul pe_int (pe_ix (ix_listK (K := K) rfl) (pv 0) pe_int (fun _ _ => rfl))))) pe_int))
      (pss_one (ps_ret (pe_op op_mod (pe_op op_add (pe_op op_fdiv (pv 3) pe_int) (pe_op op_fdiv (pv 3) pe_int)) (pv 1))))))), ?_⟩
    refine ⟨_, rfl, h, _, _, _, rfl, rfl, SqL.of e, at0, _, _, rfl, rfl, _, rfl, ?_⟩
    by_cases hc : (0 : Int) < g
    · rw [decide_eq_true hc]
      refine iteT ?_
      refine ⟨_, rfl, h, _, _, _, rfl, rfl, SqL.of e, at0, _, rfl, _, _, rfl, rfl, m0, ?_⟩
      refine ⟨_, rfl, h, _, _, _, rfl, rfl, SqL.of e, at0, _, rfl, _, _, rfl, rfl, ⟨m0, by omega⟩, ?_⟩
      refine ⟨_, rfl, h, _, _, 0, rfl, rfl, e, rfl, ?_⟩
      refine ⟨_, rfl, ?_⟩
      exact k _ _ (Int.emod_nonneg _ (by omega)) (Int.emod_lt_of_pos _ m0) ⟨g / m, t, c, upd_same, t0, t1, c0, by omega⟩ But.upd
    · rw [decide_eq_false hc]
      refine iteF ?_
      refine ⟨_, rfl, h, _, _, _, rfl, rfl, SqL.of e, at2, _, _, rfl, rfl, _, rfl, h, _, _, 2, rfl, rfl, e, rfl, ?_⟩
      rw [show ([V.int g, V.int t, V.int c].set 2 (V.int (c + 1))) = [V.int g, V.int t, V.int (c + 1)] from rfl]
      have e1 : upd H h (.lst [.int g, .int t, .int (c + 1)]) h = some (.lst [.int g, .int t, .int (c + 1)]) := upd_same
      have b1 : atI ([V.int g, V.int t, V.int (c + 1)]) 1 = some (V.int t) := atI_nat (j := 1) rfl
      have b2 : atI ([V.int g, V.int t, V.int (c + 1)]) 2 = some (V.int (c + 1)) := atI_nat (j := 2) rfl
      have bt : But h H (upd H h (.lst [.int g, .int t, .int (c + 1)])) := But.upd
      generalize upd H h (.lst [.int g, .int t, .int (c + 1)]) = H1 at e1 bt ⊢
      have cB : -(2 ^ 64) < (40009 : Int) * (c + 1) ∧ (40009 : Int) * (c + 1) < 2 ^ 64 := by omega
      refine ⟨_, rfl, h, _, _, _, rfl, rfl, SqL.of e1, b1, _, rfl, h, _, _, _, rfl, rfl, SqL.of e1, b2, _, _, rfl, rfl, .inl ⟨by decide, by decide⟩, _, rfl, h, _, _, _, rfl, rfl, SqL.of e1, b2, _, _, rfl, rfl, .inl cB, _, _, rfl, rfl, _, _, rfl, rfl, _, _, rfl, rfl, .inr ⟨by decide, by decide⟩, _, _, rfl, rfl, (by decide : (0 : Int) < 2305843009213693921), ?_⟩
      dsimp only
      generalize ((t + 40009 * (c + 1) * (c + 1) + 101) * 48271) = big
      have d0 : 0 ≤ big % 2305843009213693921 := Int.emod_nonneg _ (by decide)
      have d1 : big % 2305843009213693921 < 2305843009213693921 := Int.emod_lt_of_pos _ (by decide)
      generalize big % 2305843009213693921 = u at d0 d1 ⊢
      refine gN ?_
      try dsimp only
      have dB : -(2 ^ 64) < u ∧ u < 2 ^ 64 := by omega
      refine ⟨_, rfl, _, rfl, _, _, rfl, rfl, (by decide : (0 : Int) < 1000003), _, rfl, h, _, _, _, rfl, rfl, SqL.of e1, b2, _, _, rfl, rfl, .inl ⟨by decide, by decide⟩, _, _, rfl, rfl, _, _, rfl, rfl, .inl dB, _, _, rfl, rfl, (by decide : (0 : Int) < 2305843009213693907), ?_⟩
      refine gN ?_
      try dsimp only
      refine ⟨_, rfl, _, _, rfl, rfl, ⟨by decide, by decide⟩, _, rfl, _, _, rfl, rfl, ⟨by decide, by decide⟩, _, _, rfl, rfl, _, rfl, _, _, rfl, rfl, m0, ?_⟩
      exact k _ _ (Int.emod_nonneg _ (by omega)) (Int.emod_lt_of_pos _ m0) ⟨g, t, c + 1, e1, t0, t1, by omega, by omega⟩ bt
theorem scBx : FnScope ["_law_script", "_law_k", "_law_cell", "_law_mixed"] ["_law_script", "_law_k"] (defScope sBx) := ⟨rfl, rfl, rfl, by decide +kernel, rfl, by decide +kernel, by decide +kernel⟩
theorem ok_box {f : Addr} {fd : FuncData} (F : Fun K "_law_box" "_law_box" sBx f fd) (T : Free mg) : FnOk P w K mg base CX0 1 f fd ["_law_script", "_law_k"] (spHand K) := by
  refine F.ok scBx (fun vs H Q E h => ?_) (fun cdv A outer s H vs Q E hr h => ?_)
  · obtain ⟨a, ns, j, rfl, _⟩ := h
    rfl
  · obtain ⟨a, ns, j, rfl, hS, hl, hj, k⟩ := h
    refine ⟨_, pss_cons (ps_set (i := 2) scBx.nd rfl (Or.inl rfl) pe_int)
      (pss_cons (ps_if (pt_cmpR op_lt (pv 1) (pe_callB (call_len_seqK (K := K) rfl) (by rfl) T.len PySem.boot_len (pa_cons (pv 0) pa_nil)) (nomark _)) (pss_one (ps_set (i := 2) scBx.nd rfl (Or.inl rfl) (pe_ix (ix_listK (K := K) rfl) (pv 0) (pv 1) (fun _ _ => rfl)))) (pss_nil))
      (pss_cons (ps_set (i := 3) scBx.nd rfl (Or.inl rfl) (pe_op op_mod (pe_op op_add (pe_op op_add (pe_op op_mod (pv 2) pe_int) (pe_op op_mul (pe_op op_mul pe_int (pv 1)) (pv 1))) pe_int) pe_int))
      (pss_one (ps_ret (pe_lst (pa_cons (pe_op op_mul (pe_callB call_abs (by rfl) T.abs (by decide +kernel) (pa_cons (pv 2) pa_nil)) (pe_callTy call_int1 (by rfl) T.int (by decide +kernel) (pa_cons (pe_cmpR op_ge (pe_callB call_abs (by rfl) T.abs (by decide +kernel) (pa_cons (pv 2) pa_nil)) (pe_op op_powX pe_int pe_int) (nomark _)) pa_nil))) (pa_cons (pv 3) (pa_cons pe_int pa_nil)))))))), ?_⟩
    refine gN ?_
    try dsimp only
    refine cutT (fun σ' H' => H' = H ∧ ∃ cell : Int, σ' = [some (.ref a), some (.int (j : Int)), some (.int cell), none]) (fun N q => ?_) ?_
    · refine ⟨_, rfl, _, rfl, a, _, rfl, .inl hS, _, _, rfl, rfl, _, rfl, ?_⟩
      by_cases c : (j : Int) < ((ns.map V.int).length : Nat)
      · rw [decide_eq_true c]
        refine iteT ?_
        rw [List.length_map] at c
        have hj' : j < ns.length := by omega
        refine ⟨_, rfl, _, rfl, a, _, _, .int ns[j], rfl, rfl, hS, atI_nat (by rw [List.getElem?_map, List.getElem?_eq_getElem hj']; rfl), ?_⟩
        exact q _ _ ⟨rfl, _, rfl⟩
      · rw [decide_eq_false c]
        refine iteF ?_
        exact q _ _ ⟨rfl, _, rfl⟩
    · rintro σ' H' ⟨rfl, cell, rfl⟩
      have jB : -(2 ^ 64) < (7907 : Int) * j ∧ (7907 : Int) * j < 2 ^ 64 := by omega
      refine ⟨_, rfl, _, _, rfl, rfl, (by decide : (0 : Int) < 2305843009213693921), _, rfl, _, _, rfl, rfl, .inl ⟨by decide, by decide⟩, _, rfl, _, _, rfl, rfl, .inl jB, _, _, rfl, rfl, _, _, rfl, rfl, _, _, rfl, rfl, (by decide : (0 : Int) < 2305843009213693907), ?_⟩
      refine gN ?_
      try dsimp only
      have kb : ∀ b : Bool, -(2 ^ 64) < (if b = true then (1 : Int) else 0) ∧ (if b = true then (1 : Int) else 0) < 2 ^ 64 := by decide
      refine ⟨_, rfl, _, rfl, _, rfl, _, rfl, _, _, rfl, rfl, ⟨by decide, by decide +kernel⟩, _, _, rfl, rfl, .inr ⟨_, rfl, _, _, rfl, rfl, .inr (kb _), _, rfl, (show 3 ≤ sizeLine by decide), fun p hp => ?_⟩⟩
      have m0 := Int.emod_nonneg (cell % 2305843009213693921 + 7907 * (j : Int) * j + 31) (show (2305843009213693907 : Int) ≠ 0 by decide)
      have m1 := Int.emod_lt_of_pos (cell % 2305843009213693921 + 7907 * (j : Int) * j + 31) (show (0 : Int) < 2305843009213693907 by decide)
      exact k p _ hp (Same.new hp) ⟨_, _, _, upd_same, m0, by omega, Int.le_refl _, Int.le_refl _⟩
/-- pick from a text, a list, a tuple -/
def spPk (K : PySem.W.Frag) : Sp := fun vs H Q _ => ∃ (h : Addr) (n : Nat) (x : V) (ys : List V), vs = [.ref h, x] ∧ HandAt H h n ∧ n < 1000000 ∧ 0 < ys.length ∧ ys.length ≤ 1000 ∧
  ((∃ z : Str, x = .str z ∧ ys = z.cps.toList.map fun c => V.str ⟨#[c]⟩) ∨ (∃ p, x = .ref p ∧ p ≠ h ∧ SqL K H p ys) ∨ (∃ p, x = .ref p ∧ SqT K H p ys)) ∧
  ∀ (y : V) (H' : Hp), y ∈ ys → HandAt H' h (n + 1) → But h H H' → Q y H'
theorem tup_hand {H : Hp} {h p : Addr} {n : Nat} (a : HandAt H h n) {o : HO} (e : H p = some o) (t : ∀ l, o ≠ .lst l) : p ≠ h := by
  obtain ⟨g, s, c, e1, _⟩ := a
  intro z
  rw [z, e1] at e
  exact t _ (Option.some.inj e).symm
theorem but_seqT {H H' : Hp} {h a : Addr} {n : Nat} {xs : List V} (hd : HandAt H h n) (b : But h H H') (q : SqT K H a xs) : SqT K H' a xs := by
  rcases q with (q | ⟨o, q⟩) | q
  · exact .inl (.inl (b _ _ (tup_hand hd q fun l z => by cases z) q))
  · exact .inl (.inr ⟨o, b _ _ (tup_hand hd q fun l z => by cases z) q⟩)
  · exact .inr q
theorem pick_lst {h D : Addr} {m : Nat} {G : Hp} {ys : List V} {R : VK} (hg : HandAt G h m) (mb : m < 999999) (nD : G D = none) (l0 : 0 < ys.length) (l1 : ys.length ≤ 1000) (k : ∀ y G', y ∈ ys → HandAt G' h (m + 1) → But h G G' → R y G') : spPk K [.ref h, .ref D] (upd G D (.lst ys)) R E0 :=
  ⟨h, m, .ref D, ys, rfl, hg.mono (Same.new nD) (Nat.le_refl _), by omega, l0, l1, .inr (.inl ⟨D, rfl, (hg.fresh nD).symm, SqL.of upd_same⟩), fun y G2 hy hd2 bt2 => k y G2 hy hd2 ((But.of (Same.new nD)).trans bt2)⟩
theorem pick_old {h D : Addr} {m : Nat} {G : Hp} {ys : List V} {R : VK} (hg : HandAt G h m) (mb : m < 999999) (e : SqL K G D ys) (ne : D ≠ h) (l0 : 0 < ys.length) (l1 : ys.length ≤ 1000) (k : ∀ y G', y ∈ ys → HandAt G' h (m + 1) → But h G G' → R y G') : spPk K [.ref h, .ref D] G R E0 :=
  ⟨h, m, .ref D, ys, rfl, hg, by omega, l0, l1, .inr (.inl ⟨D, rfl, ne, e⟩), k⟩
theorem pick_tup {h D : Addr} {m : Nat} {G : Hp} {ys : List V} {R : VK} (hg : HandAt G h m) (mb : m < 999999) (e : SqT K G D ys) (l0 : 0 < ys.length) (l1 : ys.length ≤ 1000) (k : ∀ y G', y ∈ ys → HandAt G' h (m + 1) → But h G G' → R y G') : spPk K [.ref h, .ref D] G R E0 :=
  ⟨h, m, .ref D, ys, rfl, hg, by omega, l0, l1, .inr (.inr ⟨D, rfl, e⟩), k⟩
theorem pick_str {h : Addr} {m : Nat} {G : Hp} {z : Str} {R : VK} (hg : HandAt G h m) (mb : m < 999999) (l0 : 0 < z.length) (l1 : z.length ≤ 1000) (k : ∀ c G', c ∈ z.cps.toList → HandAt G' h (m + 1) → But h G G' → R (.str ⟨#[c]⟩) G') : spPk K [.ref h, .str z] G R E0 := by
  have zl : z.length = (z.cps.toList.map fun c => V.str ⟨#[c]⟩).length := by rw [List.length_map]; simp [Str.length]
  refine ⟨h, m, .str z, _, rfl, hg, by omega, by omega, by omega, .inl ⟨z, rfl, rfl⟩, fun y G2 hy hd2 bt2 => ?_⟩
  obtain ⟨c, hc, rfl⟩ := List.mem_map.mp hy
  exact k c G2 hc hd2 bt2
theorem scPk : FnScope ["_law_box_here", "_law_some"] ["_law_box_here", "_law_some"] (defScope sPk) := ⟨rfl, rfl, rfl, by decide +kernel, rfl, by decide +kernel, by decide +kernel⟩
theorem ok_pick {f fTk : Addr} {fd dTk : FuncData} (F : Fun K "_law_pick" "_law_pick" sPk f fd) (T : Free mg) (FTk : Fun K "_law_take" "_law_take" sTk fTk dTk) (bTk : Binds K dTk ["_law_box_here", "_law_many"] []) (gTk : mg "_law_take" = some (.ref fTk)) :
    FnOk P w K mg base CX0 2 f fd ["_law_box_here", "_law_some"] (spPk K) := by
  have GTk : FnOk P w K mg base CX0 1 fTk dTk ["_law_box_here", "_law_many"] spTake := ok_take FTk
  refine F.ok scPk (fun vs H Q E h => ?_) (fun cdv A outer s H vs Q E hr h => ?_)
  · obtain ⟨h, n, x, ys, rfl, _⟩ := h
    rfl
  · obtain ⟨h, n, x, ys, rfl, hd, nb, l0, l1, sh, k⟩ := h
    rcases sh with ⟨z, rfl, rfl⟩ | ⟨p, rfl, ne, hp⟩ | ⟨p, rfl, hp⟩
    · have zl : z.length = (z.cps.toList.map fun c => V.str ⟨#[c]⟩).length := by rw [List.length_map]; simp [Str.length]
      refine ⟨_, pss_one (ps_ret (pe_ix ix_str (pv 1) (pe_call GTk hr (by rfl) gTk FTk.kp bTk .nil pass0 (pa_cons (pv 0) (pa_cons (pe_callB call_len_str (by rfl) T.len PySem.boot_len (pa_cons (pv 1) pa_nil)) pa_nil))) (fun _ _ => rfl))), ?_⟩
      refine ⟨_, rfl, _, rfl, _, rfl, z, rfl, Nat.le_trans (by omega) (show 1000 ≤ sizeLine by decide), h, n, _, rfl, hd, nb, by omega, by omega, fun r H' r0 r1 hd' bt => ?_⟩
      have rl : r.toNat < z.cps.toList.length := by rw [List.length_map] at zl; omega
      refine ⟨z, r, z.cps.toList[r.toNat], rfl, rfl, Nat.le_trans (by omega) (show 1000 ≤ sizeLine by decide), ?_, ?_⟩
      · have e := atI_nat (xs := z.cps.toList) (j := r.toNat) (List.getElem?_eq_getElem rl)
        rw [Int.toNat_of_nonneg r0] at e
        exact e
      · exact k _ _ (List.mem_map.mpr ⟨_, List.getElem_mem rl, rfl⟩) hd' bt
    · refine ⟨_, pss_one (ps_ret (pe_ix ix_list (pv 1) (pe_call GTk hr (by rfl) gTk FTk.kp bTk .nil pass0 (pa_cons (pv 0) (pa_cons (pe_callB call_len_seq (by rfl) T.len PySem.boot_len (pa_cons (pv 1) pa_nil)) pa_nil))) (fun _ _ => rfl))), ?_⟩
      refine ⟨_, rfl, _, rfl, _, rfl, p, _, rfl, .inl hp, h, n, _, rfl, hd, nb, by omega, by omega, fun r H' r0 r1 hd' bt => ?_⟩
      have rl : r.toNat < ys.length := by omega
      refine ⟨p, _, r, ys[r.toNat], rfl, rfl, bt.seq ne hp, ?_, ?_⟩
      · have e := atI_nat (xs := ys) (j := r.toNat) (List.getElem?_eq_getElem rl)
        rw [Int.toNat_of_nonneg r0] at e
        exact e
      · exact k _ _ (List.getElem_mem rl) hd' bt
    · refine ⟨_, pss_one (ps_ret (pe_ix ix_tup (pv 1) (pe_call GTk hr (by rfl) gTk FTk.kp bTk .nil pass0 (pa_cons (pv 0) (pa_cons (pe_callB call_len_seq (by rfl) T.len PySem.boot_len (pa_cons (pv 1) pa_nil)) pa_nil))) (fun _ _ => rfl))), ?_⟩
      refine ⟨_, rfl, _, rfl, _, rfl, p, _, rfl, .inr hp, h, n, _, rfl, hd, nb, by omega, by omega, fun r H' r0 r1 hd' bt => ?_⟩
      have rl : r.toNat < ys.length := by omega
      refine ⟨p, _, r, ys[r.toNat], rfl, rfl, but_seqT hd bt hp, ?_, ?_⟩
      · have e := atI_nat (xs := ys) (j := r.toNat) (List.getElem?_eq_getElem rl)
        rw [Int.toNat_of_nonneg r0] at e
        exact e
      · exact k _ _ (List.getElem_mem rl) hd' bt
end
end K86
set_option Elab.async false
set_option linter.all false
set_option pp.maxSteps 4000
set_option maxRecDepth 100000
set_option maxHeartbeats 4000000
/-! k86: words, cells, shapes -/
namespace K86
open PySem PySem.Spec PyProof.Rows L2 Bs Xg TL Xm Xs Gn
abbrev sWo : Stmt := top 33
abbrev sCe : Stmt := top 34
abbrev sSh : Stmt := top 35
def letters : Str := Str.ofString "abcdefghijklmnopqrstuvwxyz"
/-- a word: a stem, a letter, a tail -/
def wordAt (stem tail : Str) (f b : Int) (k : Nat) : Str := stem ++ ⟨#[letters.cps.toList.getD ((f + b * k) % 26).toNat 97]⟩ ++ tail
def stems : List Str := ["", "", "o", "row", "tabl", "the", "fil", "qqqqqqq"]
def IsWords (zs : List Str) (n : Nat) : Prop := ∃ (stem tail : Str) (f b : Int), stem ∈ stems ∧ (tail = Str.empty ∨ (tail = Str.ofString "z" ∧ stem.length < 7)) ∧ 0 ≤ f ∧ f < 26 ∧ (b = 1 ∨ b = 5 ∨ b = 7 ∨ b = 25) ∧ zs = (List.range n).map (wordAt stem tail f b)
section
variable {P : Program} {w : World} {K : PySem.W.Frag} {mg : Str → Option Value} {base : Heap} {fTk fPk : Addr} {dTk dPk : FuncData}
abbrev nWo : List Str := ["_law_box_here", "_law_many", "_law_letters", "_law_stem", "_law_first_here", "_law_by", "_law_tail", "_law_k"]
theorem scWo : FnScope nWo ["_law_box_here", "_law_many"] (defScope sWo) := ⟨rfl, rfl, rfl, by decide +kernel, rfl, by decide +kernel, by decide +kernel⟩
def spWo : Sp := fun vs H Q _ => ∃ (h : Addr) (n many : Nat), vs = [.ref h, .int (many : Int)] ∧ HandAt H h n ∧ n < 990000 ∧ many ≤ 26 ∧
  ∀ (D : Addr) (zs : List Str) (H' : Hp), H D = none → IsWords zs many → H' D = some (.lst (zs.map V.str)) → HandAt H' h (n + 4) → But h H H' → Q (.ref D) H'
theorem ok_words {f : Addr} {fd : FuncData} (F : Fun K "_law_words" "_law_words" sWo f fd) (T : Free mg) (W : HandF K mg fTk fPk dTk dPk) : FnOk P w K mg base CX0 3 f fd ["_law_box_here", "_law_many"] spWo := by
  have GTk : FnOk P w K mg base CX0 1 fTk dTk ["_law_box_here", "_law_many"] spTake := ok_take W.Tk
  have GPk : FnOk P w K mg base CX0 2 fPk dPk ["_law_box_here", "_law_some"] (spPk K) := ok_pick W.Pk T W.Tk W.bTk W.gTk
  have FTk := W.Tk
  have bTk := W.bTk
  have gTk := W.gTk
  have FPk := W.Pk
  have bPk := W.bPk
  have gPk := W.gPk
  refine F.ok scWo (fun vs H Q E h => ?_) (fun cdv A outer s H vs Q E hr h => ?_)
  · obtain ⟨h, n, many, rfl, _⟩ := h
    rfl
  · obtain ⟨h, n, many, rfl, hd, nb, ml, q⟩ := h
    refine ⟨_, pss_cons (ps_set (i := 2) scWo.nd rfl (Or.inr rfl) pe_str)
      (pss_cons (ps_set (i := 3) scWo.nd rfl (Or.inr rfl) (pe_call GPk (hr.mono (by decide)) (by rfl) gPk FPk.kp bPk .nil pass0 (pa_cons (pv 0) (pa_cons (pe_lst (pa_cons pe_str (pa_cons pe_str (pa_cons pe_str (pa_cons pe_str (pa_cons pe_str (pa_cons pe_str (pa_cons pe_str (pa_cons pe_str pa_nil))))))))) pa_nil))))
      (pss_cons (ps_asg (pe_tup (pa_cons (pe_call GTk (hr.mono (by decide)) (by rfl) gTk FTk.kp bTk .nil pass0 (pa_cons (pv 0) (pa_cons pe_int pa_nil))) (pa_cons (pe_call GPk (hr.mono (by decide)) (by rfl) gPk FPk.kp bPk .nil pass0 (pa_cons (pv 0) (pa_cons (pe_lst (pa_cons pe_int (pa_cons pe_int (pa_cons pe_int (pa_cons pe_int pa_nil))))) pa_nil))) pa_nil))) (pg_tup rfl (pgs_cons (pg_name (i := 4) scWo.nd rfl (Or.inr rfl)) (pgs_cons (pg_name (i := 5) scWo.nd rfl (Or.inr rfl)) pgs_nil))))
      (pss_cons (ps_set (i := 6) scWo.nd rfl (Or.inr rfl) (pe_op op_times pe_str (pe_callTy call_int1 (by rfl) T.int (by decide +kernel) (pa_cons (pe_and (pe_cmpR op_lt (pe_callB call_len_str (by rfl) T.len PySem.boot_len (pa_cons (pv 3) pa_nil)) pe_int (nomark _)) (pe_one (pe_cmpR op_eq (pe_call GTk (hr.mono (by decide)) (by rfl) gTk FTk.kp bTk .nil pass0 (pa_cons (pv 0) (pa_cons pe_int pa_nil))) pe_int (nomark _)))) pa_nil))))
      (pss_one (ps_ret (pe_lc (own := [("_law_k", 7)]) (g := gName 7) (tt := tYes) rfl scWo.nd (pi_range1 (by rfl) T.range (pa_cons (pv 1) pa_nil)) (blkOk_by (own := [("_law_k", 7)]) (N := nWo) (sc := defScope sWo) (by decide +kernel)) (fun _ _ _ _ _ => (pg_name (i := 7) scWo.nd rfl (Or.inl rfl))) (fun _ _ _ _ _ => pts_nil) (fun _ _ _ _ _ => (pe_op op_add_str (pe_op op_add_str (pv 3) (pe_ix ix_str (pv 2) (pe_op op_mod (pe_op op_add (pv 4) (pe_op op_mul (pv 5) (pv 7))) pe_int) (fun _ _ => rfl))) (pv 6))))))))), ?_⟩
    refine gN ?_
    try dsimp only
    refine ⟨_, rfl, (show 8 ≤ sizeLine by decide), fun L1 n1 => ?_⟩
    refine pick_lst hd (by omega) n1 (show 0 < 8 by decide) (show 8 ≤ 1000 by decide) (fun y H1 hy hd1 bt1 => ?_)
    obtain ⟨stem, rfl, hst⟩ : ∃ stem : Str, y = .str stem ∧ stem ∈ stems := by
      have : y ∈ stems.map V.str := hy
      obtain ⟨z, hz, rfl⟩ := List.mem_map.mp this
      exact ⟨z, rfl, hz⟩
    clear hy
    refine gN ?_
    try dsimp only
    refine ⟨_, rfl, h, n + 1, 26, rfl, hd1, by omega, by decide, by decide, fun r H2 r0 r1 hd2 bt2 => ?_⟩
    refine ⟨_, rfl, (show 4 ≤ sizeLine by decide), fun L2 n2 => pick_lst hd2 (by omega) n2 (show 0 < 4 by decide) (show 4 ≤ 1000 by decide) (fun y H3 hy hd3 bt3 => ?_)⟩
    obtain ⟨b, rfl, hb⟩ : ∃ b : Int, y = .int b ∧ (b = 1 ∨ b = 5 ∨ b = 7 ∨ b = 25) := by
      simp only [List.mem_cons, List.not_mem_nil, or_false] at hy
      rcases hy with rfl | rfl | rfl | rfl
      · exact ⟨1, rfl, .inl rfl⟩
      · exact ⟨5, rfl, .inr (.inl rfl)⟩
      · exact ⟨7, rfl, .inr (.inr (.inl rfl))⟩
      · exact ⟨25, rfl, .inr (.inr (.inr rfl))⟩
    clear hy
    refine ⟨(show 2 ≤ sizeLine by decide), fun t1 m1 => newO m1 fun H4 s4 e4 => ?_⟩
    refine ⟨t1, [.int r, .int b], rfl, SqT.of e4, rfl, _, _, rfl, gN ⟨_, _, rfl, gN ⟨rfl, ?_⟩⟩⟩
    try dsimp only
    have b4 : But h H H4 := ((bt1.trans bt2).trans bt3).trans (But.of s4)
    have hd4 := hd3.mono s4 (Nat.le_refl _)
    have gst : Good 7 stem := by
      unfold stems at hst
      simp only [List.mem_cons, List.not_mem_nil, or_false] at hst
      rcases hst with rfl | rfl | rfl | rfl | rfl | rfl | rfl | rfl <;> constructor <;> decide +kernel
    refine cutA (fun v H' => ∃ tail : Str, v = .str tail ∧ (tail = Str.empty ∨ (tail = Str.ofString "z" ∧ stem.length < 7)) ∧ HandAt H' h (n + 4) ∧ But h H4 H') (fun Q' q' => ?_) ?_
    · have fin : ∀ (c : Bool) (H' : Hp), (c = true → stem.length < 7) → HandAt H' h (n + 4) → But h H4 H' → ∃ (a : Str) (k : Int), V.str (Str.ofString "z") = V.str a ∧ V.int (if c = true then (1 : Int) else 0) = V.int k ∧ -1000 ≤ k ∧ k ≤ 1000 ∧ a.length ≤ 1000 ∧ Q' (V.str (timesS a k)) H' := by
        intro c H' hc hh bb
        refine ⟨_, _, rfl, rfl, ?_, ?_, by decide +kernel, ?_⟩
        · cases c <;> decide
        · cases c <;> decide
        · cases c with
          | false => exact q' _ _ ⟨_, rfl, .inl (by unfold timesS; rw [if_pos (by decide)]), hh, bb⟩
          | true => exact q' _ _ ⟨_, rfl, .inr ⟨by unfold timesS; rw [if_neg (by decide), if_pos (by rfl)], hc rfl⟩, hh, bb⟩
      refine ⟨_, rfl, stem, rfl, Nat.le_trans gst.1 (by decide), _, _, rfl, rfl, _, rfl, ?_⟩
      by_cases c : ((stem.length : Nat) : Int) < 7
      · rw [decide_eq_true c]
        refine iteT ?_
        refine ⟨_, rfl, h, n + 1 + 1 + 1, 4, rfl, hd4, by omega, by decide, by decide, fun r2 H5 _ _ hd5 bt5 => ?_⟩
        exact ⟨rfl, .inr ⟨_, rfl, fin _ H5 (fun _ => by omega) (hd5.up (by omega)) bt5⟩⟩
      · rw [decide_eq_false c]
        refine iteF ?_
        exact .inr ⟨false, rfl, fin false H4 (fun z => by cases z) (hd4.up (by omega)) (But.refl _ _)⟩
    · rintro v H5 ⟨tail, rfl, ht, hd5, bt5⟩
      refine gN ?_
      try dsimp only
      have gt : Good 1 tail := by
        rcases ht with rfl | ⟨rfl, _⟩ <;> constructor <;> decide +kernel
      refine ⟨_, rfl, (many : Int), rfl, by omega, by omega, fun D nD => ?_⟩
      refine lc_val (walk_range (lo := 0) (n := (many : Int).toNat)) (Z := fun j x => x = V.int (0 + (j : Int))) (fun j => V.str (wordAt stem tail r b j)) nD (fun j G x G' e => ⟨e.1, e.2⟩) (fun _ _ => trivial) (by omega) (fun _ => rfl) ?_ ?_
      · rintro j x G Q2 hj rfl sG kk
        rw [Int.zero_add (j : Int)]
        have i0 := Int.emod_nonneg (r + b * j) (show (26 : Int) ≠ 0 by decide)
        have i1 := Int.emod_lt_of_pos (r + b * j) (show (0 : Int) < 26 by decide)
        have ll : letters.cps.toList.length = 26 := by decide +kernel
        have il : ((r + b * j) % 26).toNat < letters.cps.toList.length := by omega
        have ea : atI letters.cps.toList ((r + b * j) % 26) = some (letters.cps.toList.getD ((r + b * j) % 26).toNat 97) := by
          have e := atI_nat (xs := letters.cps.toList) (j := ((r + b * j) % 26).toNat) (v := letters.cps.toList.getD ((r + b * j) % 26).toNat 97) (by rw [List.getD_eq_getElem?_getD, List.getElem?_eq_getElem il]; rfl)
          rw [Int.toNat_of_nonneg i0] at e
          exact e
        have bB : -(2 ^ 64) < b ∧ b < 2 ^ 64 := by omega
        have l1 := gst.1
        have l2 := gt.1
        have l3 : (⟨#[letters.cps.toList.getD ((r + b * j) % 26).toNat 97]⟩ : Str).length = 1 := rfl
        have gc : Good 1 (⟨#[letters.cps.toList.getD ((r + b * j) % 26).toNat 97]⟩ : Str) := by
          refine ⟨Nat.le_of_eq l3, fun c hc => ?_⟩
          have hc' : c = letters.cps.toList.getD ((r + b * j) % 26).toNat 97 := by simpa using hc
          have m : c ∈ letters.cps.toList := by
            rw [hc', List.getD_eq_getElem?_getD, List.getElem?_eq_getElem il]
            exact List.getElem_mem il
          have al : ∀ c ∈ letters.cps.toList, 32 ≤ c ∧ c < 127 := by decide +kernel
          exact al c m
        have g8 := gst.app gc
        refine ⟨_, rfl, _, rfl, _, rfl, _, rfl, _, rfl, _, _, rfl, rfl, .inl bB, _, _, rfl, rfl, _, _, rfl, rfl, (by decide : (0 : Int) < 26), letters, _, _, rfl, rfl, by decide +kernel, ea, _, _, rfl, rfl, by rw [sizeLine_eq]; omega, _, rfl, _, _, rfl, rfl, ?_, kk _ (Same.refl _)⟩
        have := g8.1
        rw [sizeLine_eq]
        omega
      · intro G sG eD
        have em : ((many : Int)).toNat = many := by omega
        rw [em] at eD
        have eD' : G D = some (.lst (((List.range many).map (wordAt stem tail r b)).map V.str)) := by
          rw [List.map_map]
          exact eD
        have nD0 : H D = none := by
          cases e : H D with
          | none => rfl
          | some o =>
            have nh : D ≠ h := (hd5.fresh nD).symm
            rw [bt5 D o nh (b4 D o nh e)] at nD
            cases nD
        exact q D _ G nD0 ⟨stem, tail, r, b, hst, ht, r0, r1, hb, rfl⟩ eD' (hd5.mono sG (Nat.le_refl _)) ((b4.trans bt5).trans (But.of sG))
/-- words are short and plain -/
theorem words_good {zs : List Str} {n : Nat} (h : IsWords zs n) : ∀ z ∈ zs, Good 9 z := by
  obtain ⟨stem, tail, r, b, hst, ht, r0, r1, hb, rfl⟩ := h
  intro z hz
  obtain ⟨j, _, rfl⟩ := List.mem_map.mp hz
  have gst : Good 7 stem := by
    unfold stems at hst
    simp only [List.mem_cons, List.not_mem_nil, or_false] at hst
    rcases hst with rfl | rfl | rfl | rfl | rfl | rfl | rfl | rfl <;> constructor <;> decide +kernel
  have gt : Good 1 tail := by
    rcases ht with rfl | ⟨rfl, _⟩ <;> constructor <;> decide +kernel
  have i0 := Int.emod_nonneg (r + b * j) (show (26 : Int) ≠ 0 by decide)
  have i1 := Int.emod_lt_of_pos (r + b * j) (show (0 : Int) < 26 by decide)
  have ll : letters.cps.toList.length = 26 := by decide +kernel
  have il : ((r + b * j) % 26).toNat < letters.cps.toList.length := by omega
  have gc : Good 1 (⟨#[letters.cps.toList.getD ((r + b * j) % 26).toNat 97]⟩ : Str) := by
    refine ⟨Nat.le_refl _, fun c hc => ?_⟩
    have hc' : c = letters.cps.toList.getD ((r + b * j) % 26).toNat 97 := by simpa using hc
    have m : c ∈ letters.cps.toList := by
      rw [hc', List.getD_eq_getElem?_getD, List.getElem?_eq_getElem il]
      exact List.getElem_mem il
    have al : ∀ c ∈ letters.cps.toList, 32 ≤ c ∧ c < 127 := by decide +kernel
    exact al c m
  exact (gst.app gc).app gt
theorem words_len {zs : List Str} {n : Nat} (h : IsWords zs n) : zs.length = n := by
  obtain ⟨stem, tail, r, b, _, _, _, _, _, rfl⟩ := h
  simp
def cells : List Str := ["a", "b", "a-b", "b-a", "1", "-2", "007", "1.5", "2024-02-29", "29.2.2024", "x y", "a-b-a"]
theorem scCe : FnScope [] [] (defScope sCe) := ⟨rfl, rfl, rfl, by decide +kernel, rfl, by decide +kernel, by decide +kernel⟩
def spCe : Sp := fun vs H Q _ => vs = [] ∧ ∀ D, H D = none → Q (.ref D) (upd H D (.lst (cells.map V.str)))
theorem ok_cells {f : Addr} {fd : FuncData} (F : Fun K "_law_cells" "_law_cells" sCe f fd) : FnOk P w K mg base CX0 1 f fd [] spCe := by
  refine F.ok scCe (fun vs H Q E h => ?_) (fun cdv A outer s H vs Q E hr h => ?_)
  · obtain ⟨rfl, _⟩ := h
    rfl
  · obtain ⟨rfl, q⟩ := h
    refine ⟨_, pss_one (ps_ret (pe_lst (pa_cons pe_str (pa_cons pe_str (pa_cons pe_str (pa_cons pe_str (pa_cons pe_str (pa_cons pe_str (pa_cons pe_str (pa_cons pe_str (pa_cons pe_str (pa_cons pe_str (pa_cons pe_str (pa_cons pe_str pa_nil)))))))))))))), ?_⟩
    exact ⟨(show 12 ≤ sizeLine by decide), fun D nD => q D nD⟩
/-- what a shape shows of its names -/
def IsShape (K : PySem.W.Frag) (H : Hp) (v : V) (names : List Str) : Prop := ∃ (a t : Addr) (pre : List V), v = .ref a ∧ H a = some (.tup (pre ++ [.ref t])) ∧ H t = some (.tup (names.map V.str)) ∧ ((∃ s q : Str, pre = [.str "signs", .str s, .str q] ∧ Good 1 s ∧ Good 1 q) ∨ (∃ s : Str, pre = [.str "named", .str s] ∧ Good 1 s) ∨
  ∃ (u : Addr) (ws : List Int), pre = [.str "places", .ref u] ∧ H u = some (.tup (ws.map V.int)) ∧ ws.length = names.length ∧ ∀ w ∈ ws, 0 ≤ w ∧ w < 100)
abbrev nSh : List Str := ["_law_box_here", "_law_names", "_law_lot", "_law_sign", "_law_quote", "_law_name"]
theorem scSh : FnScope nSh ["_law_box_here", "_law_names"] (defScope sSh) := ⟨rfl, rfl, rfl, by decide +kernel, rfl, by decide +kernel, by decide +kernel⟩
def spSh (K : PySem.W.Frag) : Sp := fun vs H Q _ => ∃ (h L : Addr) (n : Nat) (names : List Str), vs = [.ref h, .ref L] ∧ HandAt H h n ∧ n < 990000 ∧ H L = some (.lst (names.map V.str)) ∧ L ≠ h ∧ 1 ≤ names.length ∧ names.length ≤ 6 ∧
  ∀ (v : V) (H' : Hp), IsShape K H' v names → HandAt H' h (n + 10) → But h H H' → Q v H'
theorem ok_shape {f : Addr} {fd : FuncData} (F : Fun K "_law_shape" "_law_shape" sSh f fd) (T : Free mg) (W : HandF K mg fTk fPk dTk dPk) : FnOk P w K mg base CX0 3 f fd ["_law_box_here", "_law_names"] (spSh K) := by
  have GTk : FnOk P w K mg base CX0 1 fTk dTk ["_law_box_here", "_law_many"] spTake := ok_take W.Tk
  have GPk : FnOk P w K mg base CX0 2 fPk dPk ["_law_box_here", "_law_some"] (spPk K) := ok_pick W.Pk T W.Tk W.bTk W.gTk
  have FTk := W.Tk
  have bTk := W.bTk
  have gTk := W.gTk
  have FPk := W.Pk
  have bPk := W.bPk
  have gPk := W.gPk
  refine F.ok scSh (fun vs H Q E h => ?_) (fun cdv A outer s H vs Q E hr h => ?_)
  · obtain ⟨h, L, n, names, rfl, _⟩ := h
    rfl
  · obtain ⟨h, L, n, names, rfl, hd, nb, eL, nL, l1, l6, q⟩ := h
    refine ⟨_, pss_cons (ps_set (i := 2) scSh.nd rfl (Or.inl rfl) (pe_call GTk (hr.mono (by decide)) (by rfl) gTk FTk.kp bTk .nil pass0 (pa_cons (pv 0) (pa_cons pe_int pa_nil))))
      (pss_cons (ps_if (pt_cmpR op_lt (pv 2) pe_int (nomark _)) (pss_cons (ps_par (i := 3) (j := 4) rfl scSh.nd rfl rfl (by decide) rfl rfl (pa_cons (pe_call GPk (hr.mono (by decide)) (by rfl) gPk FPk.kp bPk .nil pass0 (pa_cons (pv 0) (pa_cons pe_str pa_nil))) (pa_cons (pe_call GPk (hr.mono (by decide)) (by rfl) gPk FPk.kp bPk .nil pass0 (pa_cons (pv 0) (pa_cons pe_str pa_nil))) pa_nil)) (by rfl))
      (pss_one (ps_ret (pe_tup (pa_cons pe_str (pa_cons (pv 3) (pa_cons (pv 4) (pa_cons (pe_callTy call_tuple_of (by rfl) T.tuple (by decide +kernel) (pa_cons (pv 1) pa_nil)) pa_nil)))))))) (pss_nil))
      (pss_cons (ps_if (pt_cmpR op_eq (pv 2) pe_int (nomark _)) (pss_one (ps_ret (pe_tup (pa_cons pe_str (pa_cons (pe_callTy call_tuple_of (by rfl) T.tuple (by decide +kernel) (pa_cons (pe_lc (own := [("_law_name", 5)]) (g := gName 5) (tt := tYes) rfl scSh.nd (pi_list (pv 1)) (blkOk_by (own := [("_law_name", 5)]) (N := nSh) (sc := defScope sSh) (by decide +kernel)) (fun _ _ _ _ _ => (pg_name (i := 5) scSh.nd rfl (Or.inl rfl))) (fun _ _ _ _ _ => pts_nil) (fun _ _ _ _ _ => (pe_op op_add pe_int (pe_call GTk (hr.mono (by decide)) (by rfl) gTk FTk.kp bTk .nil pass0 (pa_cons (pv 0) (pa_cons pe_int pa_nil)))))) pa_nil)) (pa_cons (pe_callTy call_tuple_of (by rfl) T.tuple (by decide +kernel) (pa_cons (pv 1) pa_nil)) pa_nil)))))) (pss_nil))
      (pss_one (ps_ret (pe_tup (pa_cons pe_str (pa_cons (pe_call GPk (hr.mono (by decide)) (by rfl) gPk FPk.kp bPk .nil pass0 (pa_cons (pv 0) (pa_cons pe_str pa_nil))) (pa_cons (pe_callTy call_tuple_of (by rfl) T.tuple (by decide +kernel) (pa_cons (pv 1) pa_nil)) pa_nil)))))))), ?_⟩
    have g1 : ∀ (z : Str), (∀ c ∈ z.cps.toList, 32 ≤ c ∧ c < 127) → ∀ c ∈ z.cps.toList, Good 1 (⟨#[c]⟩ : Str) := fun z hz c hc => ⟨Nat.le_refl _, fun d hd => by
      have e : d = c := by simpa using hd
      rw [e]
      exact hz c hc⟩
    refine ⟨_, rfl, h, n, 4, rfl, hd, by omega, by decide, by decide, fun r H1 r0 r1 hd1 bt1 => ?_⟩
    have eL1 := bt1 L _ nL eL
    refine gN ?_
    try dsimp only
    refine ⟨_, rfl, _, _, rfl, rfl, _, rfl, ?_⟩
    by_cases c2 : r < 2
    · rw [decide_eq_true c2]
      refine iteT ?_
      refine ⟨_, rfl, pick_str hd1 (by omega) (by decide +kernel) (by decide +kernel) (fun a H2 ha hd2 bt2 => ?_)⟩
      refine ⟨_, rfl, pick_str hd2 (by omega) (by decide +kernel) (by decide +kernel) (fun b H3 hb hd3 bt3 => ?_)⟩
      refine ⟨_, _, rfl, ?_⟩
      unfold tRet
      dsimp only
      have eL3 := bt3 L _ nL (bt2 L _ nL eL1)
      refine ⟨_, rfl, _, rfl, _, rfl, L, _, rfl, .inl ⟨SqL.of eL3, fun t m1 => newO m1 fun H4 s4 e4 => ⟨(show 4 ≤ sizeLine by decide), fun p m2 => newO m2 fun H5 s5 e5 => ?_⟩⟩⟩
      exact q _ H5 ⟨p, t, _, rfl, e5, s5 _ _ e4, .inl ⟨_, _, rfl, g1 _ (by decide +kernel) a ha, g1 _ (by decide +kernel) b hb⟩⟩ ((hd3.mono (s4.trans s5) (Nat.le_refl _)).up (by omega)) (((bt1.trans bt2).trans bt3).trans (But.of (s4.trans s5)))
    · rw [decide_eq_false c2]
      refine iteF ?_
      unfold tNext
      dsimp only
      refine ⟨_, rfl, rfl, _, rfl, ?_⟩
      by_cases c3 : V.int r = V.int 2
      · rw [decide_eq_true c3]
        refine iteT ?_
        unfold tRet
        dsimp only
        refine ⟨_, rfl, L, rfl, ⟨_, SqL.of eL1⟩, fun D nD => ?_⟩
        have ln : (names.map V.str).length = names.length := List.length_map ..
        refine lc_map (walk_list (K := K) (a := L) (xs := names.map V.str)) (h := h) (Z := fun j x => True) (fun j G => HandAt G h (n + 1 + j)) (fun _ y _ => ∃ i : Int, y = V.int i ∧ 0 ≤ i ∧ i < 100) nD (hd1.fresh nD).symm (fun j G x G' e => ⟨e.1, trivial⟩) (fun G bG => bG.seq nL (SqL.of eL1)) (fun _ _ _ _ _ _ e => e) (by omega) (fun _ => rfl) hd1 (fun j G l a => a.old (hd1.fresh nD)) ?_ ?_
        · rintro j x G Q2 hj _ btG hdG _ kk
          refine ⟨_, rfl, h, n + 1 + j, 4, rfl, hdG, by omega, by decide, by decide, fun i G2 i0 i1 hd2 bt2 => ⟨_, _, rfl, rfl, kk _ _ bt2 hd2 ⟨_, rfl, by omega, by omega⟩⟩⟩
        · rintro G ys btG hdG eD ly hw
          have eLG := btG L _ nL eL1
          obtain ⟨ws, rfl, hws⟩ : ∃ ws : List Int, ys = ws.map V.int ∧ ∀ i ∈ ws, 0 ≤ i ∧ i < 100 := by
            have : ∀ ys : List V, (∀ (j : Nat) (y : V), ys[j]? = some y → ∃ i : Int, y = V.int i ∧ 0 ≤ i ∧ i < 100) → ∃ ws : List Int, ys = ws.map V.int ∧ ∀ i ∈ ws, 0 ≤ i ∧ i < 100 := by
              intro ys
              induction ys with
              | nil => intro _; exact ⟨[], rfl, by simp⟩
              | cons y ys ih =>
                intro hh
                obtain ⟨i, rfl, hi⟩ := hh 0 y rfl
                obtain ⟨ws, rfl, hw2⟩ := ih fun j y hy => hh (j + 1) y (by simpa using hy)
                exact ⟨i :: ws, rfl, fun x hx => (List.mem_cons.mp hx).elim (fun e => e ▸ hi) (hw2 x)⟩
            exact this ys hw
          refine ⟨D, _, rfl, .inl ⟨SqL.of eD, fun u m1 => newO m1 fun H4 s4 e4 => ?_⟩⟩
          refine ⟨_, rfl, L, _, rfl, .inl ⟨SqL.of (s4 _ _ eLG), fun t m2 => newO m2 fun H5 s5 e5 => ⟨(show 3 ≤ sizeLine by decide), fun p m3 => newO m3 fun H6 s6 e6 => ?_⟩⟩⟩
          have s46 := (s4.trans s5).trans s6
          exact q _ H6 ⟨p, t, _, rfl, e6, s6 _ _ e5, .inr (.inr ⟨u, ws, rfl, s6 _ _ (s5 _ _ e4), by rw [List.length_map] at ly; omega, hws⟩)⟩ ((hdG.mono s46 (Nat.le_refl _)).up (by omega)) ((bt1.trans btG).trans (But.of s46))
      · rw [decide_eq_false c3]
        refine iteF ?_
        unfold tRet
        dsimp only
        refine ⟨_, rfl, pick_str hd1 (by omega) (by decide +kernel) (by decide +kernel) (fun a H2 ha hd2 bt2 => ?_)⟩
        have eL3 := bt2 L _ nL eL1
        refine ⟨_, rfl, L, _, rfl, .inl ⟨SqL.of eL3, fun t m1 => newO m1 fun H4 s4 e4 => ⟨(show 3 ≤ sizeLine by decide), fun p m2 => newO m2 fun H5 s5 e5 => ?_⟩⟩⟩
        exact q _ H5 ⟨p, t, _, rfl, e5, s5 _ _ e4, .inr (.inl ⟨_, rfl, g1 _ (by decide +kernel) a ha⟩)⟩ ((hd2.mono (s4.trans s5) (Nat.le_refl _)).up (by omega)) ((bt1.trans bt2).trans (But.of (s4.trans s5)))
end
/-- words are unlike, and none of them is a mark -/
theorem words_fresh {zs : List Str} {n : Nat} (h : IsWords zs n) (hn : n ≤ 26) : (Str.ofString "!" :: zs).Nodup := by
  obtain ⟨stem, tail, f, b, hst, ht, f0, f1, hb, rfl⟩ := h
  have ll : letters.cps.toList.length = 26 := by decide +kernel
  have nl : letters.cps.toList.Nodup := by decide +kernel
  have lt : ∀ k : Nat, ((f + b * k) % 26).toNat < letters.cps.toList.length := fun k => by
    have i0 := Int.emod_nonneg (f + b * k) (show (26 : Int) ≠ 0 by decide)
    have i1 := Int.emod_lt_of_pos (f + b * k) (show (0 : Int) < 26 by decide)
    omega
  have tw : ∀ k : Nat, tl (wordAt stem tail f b k) = tl stem ++ [letters.cps.toList.getD ((f + b * k) % 26).toNat 97] ++ tl tail := fun k => by
    unfold wordAt
    rw [tl_append, tl_append]
  have gd : ∀ k : Nat, letters.cps.toList.getD ((f + b * k) % 26).toNat 97 = letters.cps.toList[((f + b * k) % 26).toNat]'(lt k) := fun k => by
    rw [List.getD_eq_getElem?_getD, List.getElem?_eq_getElem (lt k), Option.getD_some]
  refine List.nodup_cons.mpr ⟨fun hm => ?_, ?_⟩
  · obtain ⟨k, _, e⟩ := List.mem_map.mp hm
    have m : letters.cps.toList.getD ((f + b * k) % 26).toNat 97 ∈ tl (wordAt stem tail f b k) := by
      rw [tw]
      simp
    rw [e] at m
    have al : ∀ c ∈ letters.cps.toList, 97 ≤ c := by decide +kernel
    rw [gd k] at m
    have h1 := al _ (List.getElem_mem (lt k))
    have tb : ∀ c ∈ tl (Str.ofString "!"), c = 33 := by decide +kernel
    have h2 := tb _ m
    omega
  · rw [List.nodup_iff_pairwise_ne, List.pairwise_map]
    refine List.Pairwise.imp_of_mem ?_ (List.nodup_iff_pairwise_ne.mp (List.nodup_range (n := n)))
    intro j k hj hk ne e
    have hj' := List.mem_range.mp hj
    have hk' := List.mem_range.mp hk
    have e1 := congrArg tl e
    rw [tw, tw] at e1
    have e2 := List.append_cancel_left (List.append_cancel_right e1)
    have e3 := (List.cons.inj e2).1
    rw [gd, gd] at e3
    have e4 := (List.getElem_inj nl).mp e3
    have i0 := Int.emod_nonneg (f + b * j) (show (26 : Int) ≠ 0 by decide)
    have i1 := Int.emod_nonneg (f + b * k) (show (26 : Int) ≠ 0 by decide)
    have e5 : (f + b * j) % 26 = (f + b * k) % 26 := by omega
    rcases hb with rfl | rfl | rfl | rfl <;> omega
end K86
set_option Elab.async false
set_option linter.all false
set_option pp.maxSteps 4000
set_option maxRecDepth 100000
set_option maxHeartbeats 4000000
/-! k86: worths, forms, wishes, puts, spells -/
namespace K86
open PySem PySem.Spec PyProof.Rows L2 Bs Xg TL Xm Xs Gn
abbrev sWr : Stmt := top 36
abbrev sFo : Stmt := top 37
abbrev sWi : Stmt := top 38
abbrev sPu : Stmt := top 39
abbrev sSp : Stmt := top 40
theorem r80 {k : Nat} {A : Around} (r : Room k A) : A.units + 80 < cLine := by have := r.un; omega
def kw (b : Bool) : Str := if b then Str.ofString "text" else Str.ofString "number"
/-- a list of columns and kinds -/
def KnownAt (H : Hp) (D : Addr) (kn : List (Str × Bool)) : Prop := ∃ ts : List Addr, ts.length = kn.length ∧ H D = some (.lst (ts.map V.ref)) ∧ ∀ (j : Nat) (t : Addr) (c : Str × Bool), ts[j]? = some t → kn[j]? = some c → H t = some (.tup [.str c.1, .str (kw c.2)])
def WorthOk (b : Bool) (v : V) : Prop := if b then ∃ z ∈ cells, v = .str z else ∃ i : Int, v = .int i ∧ i.natAbs < 10 ^ 7
def FormOk (vs : List V) : Prop := vs = [.str "whole"] ∨ (∃ m : Int, vs = [.str "amount", .int m] ∧ 1 ≤ m ∧ m ≤ 4) ∨ ∃ o : Str, vs = [.str "day", .str o] ∧ (o = Str.ofString "ymd" ∨ o = Str.ofString "dmy" ∨ o = Str.ofString "mdy")
inductive Dd where
  | cut (col : Str) (s : Str) (news : List Str)
  | glue (cols : List Str) (s new : Str)
  | spell (col : Str) (ps : List (Str × Option Str))
  | read (col : Str) (fv : List V) (new : Str)
  | put (col : Str) (v : V)
  | within (col : Str) (lo hi : V)
  | among (col : Str) (xs : List V)
  | before (col c2 : Str)
  | given (col : Str)
  | fill (col : Str) (keys : List Str)
def osV : Option Str → V
  | none => .non
  | some z => .str z
def PairsAt (H : Hp) (a : Addr) (ps : List (Str × Option Str)) : Prop := ∃ qs : List Addr, qs.length = ps.length ∧ H a = some (.tup (qs.map V.ref)) ∧ ∀ (j : Nat) (q : Addr) (p : Str × Option Str), qs[j]? = some q → ps[j]? = some p → H q = some (.tup [.str p.1, osV p.2])
/-- what stands behind a step's name -/
def Dd.At (H : Hp) (vs : List V) : Dd → Prop
  | .cut col s news => ∃ t, vs = [.str "cut", .str col, .str s, .ref t] ∧ H t = some (.tup (news.map V.str))
  | .glue cols s new => ∃ t, vs = [.str "glue", .ref t, .str s, .str new] ∧ H t = some (.tup (cols.map V.str))
  | .spell col ps => ∃ t, vs = [.str "spell", .str col, .ref t] ∧ PairsAt H t ps
  | .read col fv new => ∃ t, vs = [.str "read", .str col, .ref t, .str new] ∧ H t = some (.tup fv)
  | .put col v => vs = [.str "put", .str col, v]
  | .within col lo hi => vs = [.str "within", .str col, lo, hi]
  | .among col xs => ∃ t, vs = [.str "among", .str col, .ref t] ∧ H t = some (.tup xs)
  | .before col c2 => vs = [.str "before", .str col, .str c2]
  | .given col => vs = [.str "given", .str col]
  | .fill col keys => ∃ t, vs = [.str "fill", .str col, .ref t] ∧ H t = some (.tup (keys.map V.str))
/-- well typed by these columns, and small -/
def Dd.wt (kn : List (Str × Bool)) : Dd → Prop
  | .cut col s news => (col, true) ∈ kn ∧ Good 1 s ∧ news.length ≤ 4 ∧ 2 ≤ news.length ∧ ∀ z ∈ news, Good 9 z
  | .glue cols s new => (∀ c ∈ cols, (c, true) ∈ kn) ∧ 1 ≤ cols.length ∧ cols.length ≤ 4 ∧ Good 1 s ∧ Good 9 new
  | .spell col ps => (col, true) ∈ kn ∧ ps.length ≤ 4 ∧ ∀ p ∈ ps, Good 12 p.1 ∧ ∀ z, p.2 = some z → Good 12 z
  | .read col fv new => (col, true) ∈ kn ∧ FormOk fv ∧ Good 9 new
  | .put col v => ∃ k, (col, k) ∈ kn ∧ WorthOk k v
  | .within col lo hi => ∃ k, (col, k) ∈ kn ∧ WorthOk k lo ∧ WorthOk k hi
  | .among col xs => ∃ k, (col, k) ∈ kn ∧ xs.length ≤ 3 ∧ ∀ x ∈ xs, WorthOk k x
  | .before col c2 => ∃ k, (col, k) ∈ kn ∧ (c2, k) ∈ kn
  | .given col => ∃ k, (col, k) ∈ kn
  | .fill col keys => (∃ k, (col, k) ∈ kn) ∧ keys.length ≤ 4 ∧ ∀ c ∈ keys, ∃ k, (c, k) ∈ kn
/-- the columns that a step makes -/
def Dd.adds : Dd → List (Str × Bool)
  | .cut _ _ news => news.map fun z => (z, true)
  | .glue _ _ new => [(new, true)]
  | .read _ _ new => [(new, false)]
  | _ => []
/-- what else is true of a step, by the columns ahead of it -/
def Dd.xt (kn : List (Str × Bool)) : Dd → Prop
  | .cut _ s news => (∃ c : Nat, s = ⟨#[c]⟩ ∧ c < 127) ∧ news.Nodup
  | .glue _ _ _ => kn.length ≤ 6
  | .spell _ ps => (ps.map (·.1)).Nodup
  | _ => True
/-- steps one behind the other, each by the columns ahead of it -/
def Chain : List (Str × Bool) → List Dd → List (Str × Bool) → Prop
  | kn, [], kn' => kn = kn'
  | kn, d :: ds, kn' => d.wt kn ∧ d.xt kn ∧ Chain (kn ++ d.adds) ds kn'
theorem Chain.snoc : ∀ {ds : List Dd} {kn kn' : List (Str × Bool)} {d : Dd}, Chain kn ds kn' → d.wt kn' → d.xt kn' → Chain kn (ds ++ [d]) (kn' ++ d.adds)
  | [], _, _, _, h, w, x => by
    cases (show _ = _ from h)
    exact ⟨w, x, rfl⟩
  | _ :: _, _, _, _, h, w, x => ⟨h.1, h.2.1, Chain.snoc h.2.2 w x⟩
def Fresh (ns : List Str) (kn : List (Str × Bool)) : Prop := (Str.ofString "!" :: (ns ++ kn.map (·.1))).Nodup
theorem Fresh.move {ns ns' : List Str} {kn e : List (Str × Bool)} (h : Fresh ns kn) (p : ns.Perm (ns' ++ e.map (·.1))) : Fresh ns' (kn ++ e) := by
  unfold Fresh at h ⊢
  refine (List.Perm.nodup_iff (List.Perm.cons _ ?_)).mp h
  rw [List.map_append]
  refine (p.append_right _).trans ?_
  rw [List.append_assoc]
  exact List.Perm.append_left _ List.perm_append_comm
/-- names of columns are short -/
def Short (kn : List (Str × Bool)) : Prop := kn ≠ [] ∧ kn.length ≤ 40 ∧ ∀ c ∈ kn, Good 9 c.1
structure GenF (K : PySem.W.Frag) (mg : Str → Option Value) (fCe fWr fFo : Addr) (dCe dWr dFo : FuncData) : Prop where
  Ce : Fun K "_law_cells" "_law_cells" sCe fCe dCe
  bCe : Binds K dCe [] []
  gCe : mg "_law_cells" = some (.ref fCe)
  Wr : Fun K "_law_worth" "_law_worth" sWr fWr dWr
  bWr : Binds K dWr ["_law_box_here", "_law_kind"] []
  gWr : mg "_law_worth" = some (.ref fWr)
  Fo : Fun K "_law_form" "_law_form" sFo fFo dFo
  bFo : Binds K dFo ["_law_box_here"] []
  gFo : mg "_law_form" = some (.ref fFo)
section
variable {P : Program} {w : World} {K : PySem.W.Frag} {mg : Str → Option Value} {base : Heap} {fTk fPk : Addr} {dTk dPk : FuncData} {fCe fWr fFo : Addr} {dCe dWr dFo : FuncData}
theorem scWr : FnScope ["_law_box_here", "_law_kind"] ["_law_box_here", "_law_kind"] (defScope sWr) := ⟨rfl, rfl, rfl, by decide +kernel, rfl, by decide +kernel, by decide +kernel⟩
def spWr : Sp := fun vs H Q _ => ∃ (h : Addr) (n : Nat) (b : Bool), vs = [.ref h, .str (kw b)] ∧ HandAt H h n ∧ n < 990000 ∧ ∀ (v : V) (H' : Hp), WorthOk b v → HandAt H' h (n + 2) → But h H H' → Q v H'
theorem ok_worth {f : Addr} {fd : FuncData} (F : Fun K "_law_worth" "_law_worth" sWr f fd) (T : Free mg) (W : HandF K mg fTk fPk dTk dPk) (FCe : Fun K "_law_cells" "_law_cells" sCe fCe dCe) (bCe : Binds K dCe [] []) (gCe : mg "_law_cells" = some (.ref fCe)) : FnOk P w K mg base CX0 3 f fd ["_law_box_here", "_law_kind"] spWr := by
  have GTk : FnOk P w K mg base CX0 1 fTk dTk ["_law_box_here", "_law_many"] spTake := ok_take W.Tk
  have GPk : FnOk P w K mg base CX0 2 fPk dPk ["_law_box_here", "_law_some"] (spPk K) := ok_pick W.Pk T W.Tk W.bTk W.gTk
  have GCe : FnOk P w K mg base CX0 1 fCe dCe [] spCe := ok_cells FCe
  have FTk := W.Tk
  have bTk := W.bTk
  have gTk := W.gTk
  have FPk := W.Pk
  have bPk := W.bPk
  have gPk := W.gPk
  refine F.ok scWr (fun vs H Q E h => ?_) (fun cdv A outer s H vs Q E hr h => ?_)
  · obtain ⟨h, n, b, rfl, _⟩ := h
    rfl
  · obtain ⟨h, n, b, rfl, hd, nb, q⟩ := h
    refine ⟨_, pss_cons (ps_if (pt_cmpR op_eq (pv 1) pe_str (nomark _)) (pss_one (ps_ret (pe_call GPk (hr.mono (by decide)) (by rfl) gPk FPk.kp bPk .nil pass0 (pa_cons (pv 0) (pa_cons (pe_call0 GCe (hr.mono (by decide)) (by rfl) gCe FCe.kp bCe .nil pass0) pa_nil))))) (pss_nil))
      (pss_one (ps_ret (pe_call GPk (hr.mono (by decide)) (by rfl) gPk FPk.kp bPk .nil pass0 (pa_cons (pv 0) (pa_cons (pe_lst (pa_cons pe_int (pa_cons pe_int (pa_cons (pe_un un_neg pe_int) (pa_cons pe_int (pa_cons pe_int (pa_cons pe_int (pa_cons pe_int (pa_cons (pe_call GTk (hr.mono (by decide)) (by rfl) gTk FTk.kp bTk .nil pass0 (pa_cons (pv 0) (pa_cons pe_int pa_nil))) pa_nil))))))))) pa_nil))))), ?_⟩
    refine ⟨_, rfl, rfl, _, rfl, ?_⟩
    cases b with
    | true =>
      rw [decide_eq_true (show V.str (kw true) = V.str "text" from rfl)]
      refine iteT ?_
      unfold tRet
      dsimp only
      refine ⟨_, rfl, ⟨rfl, fun D nD => ?_⟩⟩
      refine pick_lst hd (by omega) nD (show 0 < 12 by decide) (show 12 ≤ 1000 by decide) (fun y H1 hy hd1 bt1 => ?_)
      obtain ⟨z, hz, rfl⟩ := List.mem_map.mp hy
      exact q _ _ ⟨z, hz, rfl⟩ (hd1.up (by omega)) bt1
    | false =>
      rw [decide_eq_false (show ¬ V.str (kw false) = V.str "text" from by decide +kernel)]
      refine iteF ?_
      unfold tNext
      dsimp only
      refine ⟨_, rfl, _, rfl, _, rfl, h, n, 1000, rfl, hd, by omega, by decide, by decide, fun r H1 r0 r1 hd1 bt1 => ?_⟩
      refine ⟨(show 8 ≤ sizeLine by decide), fun D nD => ?_⟩
      refine pick_lst hd1 (by omega) nD (show 0 < 8 by decide) (show 8 ≤ 1000 by decide) (fun y H2 hy hd2 bt2 => ?_)
      simp only [List.mem_cons, List.not_mem_nil, or_false] at hy
      refine q _ _ ?_ (hd2.up (by omega)) (bt1.trans bt2)
      rcases hy with rfl | rfl | rfl | rfl | rfl | rfl | rfl | rfl
      all_goals first | exact ⟨_, rfl, by decide⟩ | exact ⟨_, rfl, by omega⟩
theorem scFo : FnScope ["_law_box_here", "_law_lot"] ["_law_box_here"] (defScope sFo) := ⟨rfl, rfl, rfl, by decide +kernel, rfl, by decide +kernel, by decide +kernel⟩
def spFo : Sp := fun vs H Q _ => ∃ (h : Addr) (n : Nat), vs = [.ref h] ∧ HandAt H h n ∧ n < 990000 ∧ ∀ (p : Addr) (fv : List V) (H' : Hp), FormOk fv → H' p = some (.tup fv) → HandAt H' h (n + 1) → But h H H' → Q (.ref p) H'
theorem ok_form {f : Addr} {fd : FuncData} (F : Fun K "_law_form" "_law_form" sFo f fd) (W : HandF K mg fTk fPk dTk dPk) : FnOk P w K mg base CX0 2 f fd ["_law_box_here"] spFo := by
  have GTk : FnOk P w K mg base CX0 1 fTk dTk ["_law_box_here", "_law_many"] spTake := ok_take W.Tk
  have FTk := W.Tk
  have bTk := W.bTk
  have gTk := W.gTk
  refine F.ok scFo (fun vs H Q E h => ?_) (fun cdv A outer s H vs Q E hr h => ?_)
  · obtain ⟨h, n, rfl, _⟩ := h
    rfl
  · obtain ⟨h, n, rfl, hd, nb, q⟩ := h
    refine ⟨_, pss_cons (ps_set (i := 1) scFo.nd rfl (Or.inl rfl) (pe_call GTk (hr.mono (by decide)) (by rfl) gTk FTk.kp bTk .nil pass0 (pa_cons (pv 0) (pa_cons pe_int pa_nil))))
      (pss_cons (ps_if (pt_cmpR op_lt (pv 1) pe_int (nomark _)) (pss_one (ps_ret (pe_tup (pa_cons pe_str pa_nil)))) (pss_nil))
      (pss_one (ps_ret (pe_ifExp (pt_cmpR op_lt (pv 1) pe_int (nomark _)) (pe_tup (pa_cons pe_str (pa_cons (pe_op op_sub (pv 1) pe_int) pa_nil))) (pe_tup (pa_cons pe_str (pa_cons (pe_ix (ix_listK (K := K) rfl) (pe_lst (pa_cons pe_str (pa_cons pe_str (pa_cons pe_str pa_nil)))) (pe_op op_sub (pv 1) pe_int) (fun _ _ => rfl)) pa_nil))))))), ?_⟩
    refine ⟨_, rfl, h, n, 8, rfl, hd, by omega, by decide, by decide, fun r H1 r0 r1 hd1 bt1 => ?_⟩
    refine gN ?_
    try dsimp only
    refine ⟨_, rfl, _, _, rfl, rfl, _, rfl, ?_⟩
    by_cases c3 : r < 3
    · rw [decide_eq_true c3]
      refine iteT ?_
      unfold tRet
      dsimp only
      exact ⟨(show 1 ≤ sizeLine by decide), fun p m1 => newO m1 fun H2 s2 e2 => q p _ H2 (.inl rfl) e2 (hd1.mono s2 (Nat.le_refl _)) (bt1.trans (But.of s2))⟩
    · rw [decide_eq_false c3]
      refine iteF ?_
      unfold tNext
      dsimp only
      refine ⟨_, rfl, _, _, rfl, rfl, _, rfl, ?_⟩
      by_cases c5 : r < 5
      · rw [decide_eq_true c5]
        refine iteT ?_
        exact ⟨_, rfl, _, _, rfl, rfl, (show 2 ≤ sizeLine by decide), fun p m1 => newO m1 fun H2 s2 e2 => q p _ H2 (.inr (.inl ⟨r - 2, rfl, by omega, by omega⟩)) e2 (hd1.mono s2 (Nat.le_refl _)) (bt1.trans (But.of s2))⟩
      · rw [decide_eq_false c5]
        refine iteF ?_
        refine ⟨(show 3 ≤ sizeLine by decide), fun L m0 => newO m0 fun H2 s2 e2 => ?_⟩
        rcases (show r = 5 ∨ r = 6 ∨ r = 7 by omega) with rfl | rfl | rfl
        · exact ⟨_, rfl, _, _, rfl, rfl, L, _, _, V.str "ymd", rfl, rfl, SqL.of e2, rfl, (show 2 ≤ sizeLine by decide), fun p m1 => newO m1 fun H3 s3 e3 => q p _ H3 (.inr (.inr ⟨_, rfl, .inl rfl⟩)) e3 (hd1.mono (s2.trans s3) (Nat.le_refl _)) (bt1.trans (But.of (s2.trans s3)))⟩
        · exact ⟨_, rfl, _, _, rfl, rfl, L, _, _, V.str "dmy", rfl, rfl, SqL.of e2, rfl, (show 2 ≤ sizeLine by decide), fun p m1 => newO m1 fun H3 s3 e3 => q p _ H3 (.inr (.inr ⟨_, rfl, .inr (.inl rfl)⟩)) e3 (hd1.mono (s2.trans s3) (Nat.le_refl _)) (bt1.trans (But.of (s2.trans s3)))⟩
        · exact ⟨_, rfl, _, _, rfl, rfl, L, _, _, V.str "mdy", rfl, rfl, SqL.of e2, rfl, (show 2 ≤ sizeLine by decide), fun p m1 => newO m1 fun H3 s3 e3 => q p _ H3 (.inr (.inr ⟨_, rfl, .inr (.inr rfl)⟩)) e3 (hd1.mono (s2.trans s3) (Nat.le_refl _)) (bt1.trans (But.of (s2.trans s3)))⟩
end
end K86
set_option Elab.async false
set_option linter.all false
set_option pp.maxSteps 4000
set_option maxRecDepth 100000
set_option maxHeartbeats 4000000
/-! k86: wishes -/
namespace K86
open PySem PySem.Spec PyProof.Rows L2 Bs Xg TL Xm Xs Gn
theorem kw_inj {a b : Bool} : V.str (kw a) = V.str (kw b) ↔ a = b := by
  constructor
  · intro h
    cases a <;> cases b <;> first | rfl | (exfalso; revert h; decide +kernel)
  · rintro rfl
    rfl
theorem short_dp {K : PySem.W.Frag} {H : Hp} {a : Addr} {zs : List Str} (e : SqL K H a (zs.map V.str)) : Dp K H (.ref a) (.list (zs.map .str)) := by
  refine .lst e ?_
  clear e
  induction zs with
  | nil => exact .nil
  | cons z zs ih => exact .cons (.str z) ih
theorem short_shaped {zs : List Str} (h : ∀ z ∈ zs, PyData.strOk z = true) : SeqAt.shaped (.list (zs.map .str)) = true := by
  have a : PyData.canLayAll0 (zs.map .str) = true ∧ PyData.depthAll (zs.map .str) ≤ 1 := by
    induction zs with
    | nil => exact ⟨rfl, by simp [PyData.depthAll]⟩
    | cons z zs ih =>
      have q := ih fun x hx => h x (List.mem_cons_of_mem _ hx)
      simp only [List.map_cons, PyData.canLayAll0, PyData.depthAll]
      exact ⟨by rw [q.1, Bool.and_true]; simp [PyData.canLay0, h z List.mem_cons_self], Nat.max_le.mpr ⟨by simp [PyData.depth], q.2⟩⟩
  unfold SeqAt.shaped
  rw [show (PyData.list (zs.map .str)).canLay0 = PyData.canLayAll0 (zs.map .str) by simp only [PyData.canLay0], show (PyData.list (zs.map .str)).depth = PyData.depthAll (zs.map .str) + 1 by simp only [PyData.depth], a.1, Bool.true_and]
  exact decide_eq_true (by omega)
theorem eqv_nil (zs : List Str) : PyData.eqv (.list (zs.map .str)) (.list []) = decide (zs = []) := by
  cases zs with
  | nil => simp [PyData.eqv, PyData.eqvAll]
  | cons z zs => simp [PyData.eqv, PyData.eqvAll]
/-- the columns of a kind but one -/
def likes (kn : List (Str × Bool)) (col : Str) (k : Bool) : List Str := kn.filterMap fun c => if c.2 = k ∧ c.1 ≠ col then some c.1 else none
theorem likes_map (kn : List (Str × Bool)) (col : Str) (k : Bool) : (kn.filterMap fun c => if c.2 = k ∧ c.1 ≠ col then some (V.str c.1) else none) = (likes kn col k).map V.str := by
  unfold likes
  induction kn with
  | nil => rfl
  | cons c kn ih =>
    by_cases q : c.2 = k ∧ c.1 ≠ col
    · simp only [List.filterMap_cons, if_pos q, List.map_cons, ih]
    · simp only [List.filterMap_cons, if_neg q, ih]
theorem likes_mem {kn : List (Str × Bool)} {col : Str} {k : Bool} : ∀ z ∈ likes kn col k, (z, k) ∈ kn := by
  intro z hz
  obtain ⟨c, hc, e⟩ := List.mem_filterMap.mp hz
  by_cases q : c.2 = k ∧ c.1 ≠ col
  · rw [if_pos q] at e
    cases e
    rw [← q.1]
    exact hc
  · rw [if_neg q] at e
    cases e
section
variable {P : Program} {w : World} {K : PySem.W.Frag} {mg : Str → Option Value} {base : Heap} {fTk fPk : Addr} {dTk dPk : FuncData} {fCe fWr fFo : Addr} {dCe dWr dFo : FuncData}
abbrev nWi : List Str := ["_law_box_here", "_law_lot", "_law_known", "_law_column", "_law_kind", "_law_like", "_law_some", "_law_name", "_law_s", "_law_k"]
theorem scWi : FnScope nWi ["_law_box_here", "_law_lot", "_law_known"] (defScope sWi) := ⟨rfl, rfl, rfl, by decide +kernel, rfl, by decide +kernel, by decide +kernel⟩
def spWi : Sp := fun vs H Q _ => ∃ (h L : Addr) (n : Nat) (lot : Int) (kn : List (Str × Bool)), vs = [.ref h, .int lot, .ref L] ∧ HandAt H h n ∧ n < 980000 ∧ KnownAt H L kn ∧ L ≠ h ∧ Short kn ∧
  ∀ (p : Addr) (vs : List V) (dd : Dd) (H' : Hp), H' p = some (.tup vs) → dd.At H' vs → dd.wt kn → dd.adds = [] → dd.xt kn → HandAt H' h (n + 20) → But h H H' → Q (.ref p) H'
theorem ok_wish {f : Addr} {fd : FuncData} (F : Fun K "_law_wish" "_law_wish" sWi f fd) (T : Free mg) (W : HandF K mg fTk fPk dTk dPk) (G : GenF K mg fCe fWr fFo dCe dWr dFo) : FnOk P w K mg base CX0 4 f fd ["_law_box_here", "_law_lot", "_law_known"] spWi := by
  have GTk : FnOk P w K mg base CX0 1 fTk dTk ["_law_box_here", "_law_many"] spTake := ok_take W.Tk
  have GPk : FnOk P w K mg base CX0 2 fPk dPk ["_law_box_here", "_law_some"] (spPk K) := ok_pick W.Pk T W.Tk W.bTk W.gTk
  have GWr : FnOk P w K mg base CX0 3 fWr dWr ["_law_box_here", "_law_kind"] spWr := ok_worth G.Wr T W G.Ce G.bCe G.gCe
  have FTk := W.Tk
  have bTk := W.bTk
  have gTk := W.gTk
  have FPk := W.Pk
  have bPk := W.bPk
  have gPk := W.gPk
  have FWr := G.Wr
  have bWr := G.bWr
  have gWr := G.gWr
  refine F.ok scWi (fun vs H Q E h => ?_) (fun cdv A outer s H vs Q E hr h => ?_)
  · obtain ⟨h, L, n, lot, kn, rfl, _⟩ := h
    rfl
  · obtain ⟨h, L, n, lot, kn, rfl, hd, nb, ⟨ts, lts, eL, hts⟩, nL, ⟨kn0, kn40, kng⟩, q⟩ := h
    refine ⟨_, pss_cons (ps_asg (pe_call GPk (hr.mono (by decide)) (by rfl) gPk FPk.kp bPk .nil pass0 (pa_cons (pv 0) (pa_cons (pv 2) pa_nil))) (pg_tup rfl (pgs_cons (pg_name (i := 3) scWi.nd rfl (Or.inr rfl)) (pgs_cons (pg_name (i := 4) scWi.nd rfl (Or.inr rfl)) pgs_nil))))
      (pss_cons (ps_setLc (i := 5) (own := [("_law_name", 7), ("_law_s", 8)]) (g := gTup K 2 (gCons (gName 7) (gCons (gName 8) gNil))) (tt := (tAnd (tTest (tOp rEq (tVar 8) (tVar 4))) (tTest (tOp rNe (tVar 7) (tVar 3))))) rfl scWi.nd rfl rfl (sw_true rfl rfl rfl rfl) (pi_list (pv 2)) (blkOk_by (own := [("_law_name", 7), ("_law_s", 8)]) (N := nWi) (sc := defScope sWi) (by decide +kernel)) (fun _ _ _ _ _ => (pg_tup rfl (pgs_cons (pg_name (i := 7) scWi.nd rfl (Or.inl rfl)) (pgs_cons (pg_name (i := 8) scWi.nd rfl (Or.inl rfl)) pgs_nil)))) (fun _ _ _ _ _ => pts_one (PW.pt (pw_and (pt_cmpR op_eq (pv 8) (pv 4) (nomark _)) (pw_and1 (pt_cmpR op_ne (pv 7) (pv 3) (nomark _)))))) (fun _ _ _ _ _ => (pv 7)))
      (pss_cons (ps_if (pt_cmpR op_eq (pv 1) pe_int (nomark _)) (pss_cons (ps_set (i := 6) scWi.nd rfl (Or.inl rfl) (pe_callB (cr_srtD (K := K) rfl (r80 hr)) (by rfl) T.sorted (by decide +kernel) (pa_cons (pe_lst (pa_cons (pe_call GWr (hr.mono (by decide)) (by rfl) gWr FWr.kp bWr .nil pass0 (pa_cons (pv 0) (pa_cons (pv 4) pa_nil))) (pa_cons (pe_call GWr (hr.mono (by decide)) (by rfl) gWr FWr.kp bWr .nil pass0 (pa_cons (pv 0) (pa_cons (pv 4) pa_nil))) pa_nil))) pa_nil)))
      (pss_one (ps_ret (pe_tup (pa_cons pe_str (pa_cons (pv 3) (pa_cons (pe_ix (ix_listK (K := K) rfl) (pv 6) pe_int (fun _ _ => rfl)) (pa_cons (pe_ix (ix_listK (K := K) rfl) (pv 6) pe_int (fun _ _ => rfl)) pa_nil)))))))) (pss_nil))
      (pss_cons (ps_if (pt_cmpR op_eq (pv 1) pe_int (nomark _)) (pss_cons (ps_setLc (i := 6) (own := [("_law_k", 9)]) (g := gName 9) (tt := tYes) rfl scWi.nd rfl rfl (sw_true rfl rfl rfl rfl) (pi_range1 (by rfl) T.range (pa_cons (pe_op op_add pe_int (pe_call GTk (hr.mono (by decide)) (by rfl) gTk FTk.kp bTk .nil pass0 (pa_cons (pv 0) (pa_cons pe_int pa_nil)))) pa_nil)) (blkOk_by (own := [("_law_k", 9)]) (N := nWi) (sc := defScope sWi) (by decide +kernel)) (fun _ _ _ _ _ => (pg_name (i := 9) scWi.nd rfl (Or.inl rfl))) (fun _ _ _ _ _ => pts_nil) (fun _ _ _ _ _ => (pe_call GWr (hr.mono (by decide)) (by rfl) gWr FWr.kp bWr .nil pass0 (pa_cons (pv 0) (pa_cons (pv 4) pa_nil)))))
      (pss_one (ps_ret (pe_tup (pa_cons pe_str (pa_cons (pv 3) (pa_cons (pe_callTy call_tuple_of (by rfl) T.tuple (by decide +kernel) (pa_cons (pe_srtSet (K := K) rfl rfl (r80 hr) (by rfl) T.sorted (by rfl) T.set (pv 6)) pa_nil)) pa_nil))))))) (pss_nil))
      (pss_cons (ps_if (PW.pt (pw_and (pt_cmpR op_eq (pv 1) pe_int (nomark _)) (pw_and1 (pt_cmpR (op_neD hr.units) (pv 5) (pe_lst pa_nil) (nomark _))))) (pss_one (ps_ret (pe_tup (pa_cons pe_str (pa_cons (pv 3) (pa_cons (pe_call GPk (hr.mono (by decide)) (by rfl) gPk FPk.kp bPk .nil pass0 (pa_cons (pv 0) (pa_cons (pv 5) pa_nil))) pa_nil)))))) (pss_nil))
      (pss_one (ps_ret (pe_tup (pa_cons pe_str (pa_cons (pv 3) pa_nil))))))))), ?_⟩
    have ltm : (ts.map V.ref).length = kn.length := by rw [List.length_map, lts]
    have k0 : 0 < kn.length := List.length_pos_iff.mpr kn0
    refine ⟨_, rfl, _, rfl, pick_old hd (by omega) (SqL.of eL) nL (by omega) (by omega) (fun y H1 hy hd1 bt1 => ?_)⟩
    obtain ⟨t, ht, rfl⟩ := List.mem_map.mp hy
    obtain ⟨j0, hj0⟩ := List.mem_iff_getElem?.mp ht
    have jl : j0 < kn.length := by
      rw [← lts]
      exact (List.getElem?_eq_some_iff.mp hj0).1
    obtain ⟨col, k, ec⟩ : ∃ col k, kn[j0]? = some (col, k) := ⟨_, _, List.getElem?_eq_getElem jl⟩
    have et := hts j0 t _ hj0 ec
    have mc : (col, k) ∈ kn := List.mem_of_getElem? ec
    have tn : ∀ {a : Addr} {xs : List V} {G : Hp} {m : Nat}, HandAt G h m → G a = some (.tup xs) → a ≠ h := fun hh e => tup_hand hh e fun l z => by cases z
    have et1 := bt1 t _ (tn hd et) et
    refine ⟨t, _, rfl, SqT.of et1, rfl, _, _, rfl, gN ⟨_, _, rfl, gN ⟨rfl, ?_⟩⟩⟩
    try dsimp only
    have eL1 := bt1 L _ nL eL
    have hts1 : ∀ (j : Nat) (t : Addr) (c : Str × Bool), ts[j]? = some t → kn[j]? = some c → H1 t = some (.tup [.str c.1, .str (kw c.2)]) := fun j t c h1 h2 => bt1 t _ (tn hd (hts j t c h1 h2)) (hts j t c h1 h2)
    refine ⟨_, rfl, L, rfl, ⟨_, SqL.of eL1⟩, fun D nD => ?_⟩
    refine lc_fm (walk_list (K := K) (a := L) (xs := ts.map V.ref)) kn (fun c => if c.2 = k ∧ c.1 ≠ col then some (V.str c.1) else none) ltm.symm nD (fun G sG => SqL.of (sG _ _ eL1)) (by omega) ?_ ?_
    · rintro j c x G G' R N hj sG ⟨rfl, hx⟩ kR kN
      rw [List.getElem?_map] at hx
      obtain ⟨t', ht', rfl⟩ := Option.map_eq_some_iff.mp hx
      refine ⟨t', _, rfl, SqT.of (sG _ _ (hts1 j t' c ht' hj)), rfl, _, _, rfl, gN ⟨_, _, rfl, gN ⟨rfl, rfl, ?_⟩⟩⟩
      refine ⟨_, rfl, _, rfl, rfl, _, rfl, ?_⟩
      by_cases ck : c.2 = k
      · rw [decide_eq_true (show V.str (kw c.2) = V.str (kw k) from kw_inj.mpr ck)]
        refine iteT ?_
        refine ⟨_, rfl, _, rfl, rfl, _, rfl, ?_⟩
        by_cases cc : V.str c.1 = V.str col
        · rw [decide_eq_true cc]
          have ce : c.1 = col := by cases cc; rfl
          exact iteF (kN (if_neg fun z => z.2 ce) _ (Same.refl _))
        · rw [decide_eq_false cc]
          have ce : c.1 ≠ col := fun z => cc (by rw [z])
          exact iteT ⟨_, rfl, kR _ (if_pos ⟨ck, ce⟩) _ (Same.refl _)⟩
      · rw [decide_eq_false (show ¬ V.str (kw c.2) = V.str (kw k) from fun z => ck (kw_inj.mp z))]
        exact iteF (iteF (kN (if_neg fun z => ck z.1) _ (Same.refl _)))
    · intro H2 s2 e2
      rw [likes_map] at e2
      have eL2 := s2 _ _ eL1
      have hd2 := hd1.mono s2 (Nat.le_refl _)
      have b2 := bt1.trans (But.of s2)
      have nDh : D ≠ h := (hd1.fresh nD).symm
      have wdp : ∀ {v : V} (G : Hp), WorthOk k v → ∃ d, Dp K G v d ∧ d.depth ≤ 1 ∧ (if k then ∃ z, d = .str z else ∃ i, d = .int i) := by
        intro v G hv
        cases k with
        | true =>
          obtain ⟨z, _, rfl⟩ := hv
          exact ⟨.str z, .str z, by simp [PyData.depth], z, rfl⟩
        | false =>
          obtain ⟨i, rfl, _⟩ := hv
          exact ⟨.int i, .int i, by simp [PyData.depth], i, rfl⟩
      refine gN ?_
      try dsimp only
      refine ⟨_, rfl, rfl, _, rfl, ?_⟩
      by_cases c7 : V.int lot = V.int 7
      · rw [decide_eq_true c7]
        refine iteT ?_
        refine ⟨_, rfl, _, rfl, h, n + 1, k, rfl, hd2, by omega, fun v1 H3 w1 hd3 bt3 => ?_⟩
        refine ⟨_, rfl, _, rfl, h, n + 1 + 2, k, rfl, hd3, by omega, fun v2 H4 w2 hd4 bt4 => ?_⟩
        refine ⟨(show 2 ≤ sizeLine by decide), fun L1 n1 => newO n1 fun H5 s5 e5 => ?_⟩
        obtain ⟨d1, p1, q1, r1⟩ := wdp H5 w1
        obtain ⟨d2, p2, q2, r2⟩ := wdp H5 w2
        refine ⟨L1, [(v1, d1), (v2, d2)], rfl, SqL.of e5, ?_, ?_, ?_, ?_, fun qs l eqs nl => newO nl fun H6 s6 e6 => ?_⟩
        · intro p hp
          rcases List.mem_cons.mp hp with rfl | hp
          · exact p1
          · rw [List.mem_singleton.mp hp]
            exact p2
        · intro d hd d' hd'
          have e : ∀ d ∈ [d1, d2], if k then ∃ z, d = PyData.str z else ∃ i, d = PyData.int i := by
            intro d hd
            rcases List.mem_cons.mp hd with rfl | hd
            · exact r1
            · rw [List.mem_singleton.mp hd]
              exact r2
          have h1 := e d hd
          have h2 := e d' hd'
          cases k with
          | true =>
            obtain ⟨z, rfl⟩ := h1
            obtain ⟨z', rfl⟩ := h2
            simp [PySem.W.alike]
          | false =>
            obtain ⟨z, rfl⟩ := h1
            obtain ⟨z', rfl⟩ := h2
            simp [PySem.W.alike]
        · right
          intro d hd
          have e : ∀ d ∈ [d1, d2], if k then ∃ z, d = PyData.str z else ∃ i, d = PyData.int i := by
            intro d hd
            rcases List.mem_cons.mp hd with rfl | hd
            · exact r1
            · rw [List.mem_singleton.mp hd]
              exact r2
          have h1 := e d hd
          cases k with
          | true =>
            obtain ⟨z, rfl⟩ := h1
            exact ⟨(fun z => by cases z), (fun xs z => by cases z)⟩
          | false =>
            obtain ⟨z, rfl⟩ := h1
            exact ⟨(fun z => by cases z), (fun xs z => by cases z)⟩
        · intro p hp
          rcases List.mem_cons.mp hp with rfl | hp
          · exact Nat.le_trans q1 (by decide)
          · rw [List.mem_singleton.mp hp]
            exact Nat.le_trans q2 (by decide)
        have pq : qs.Perm [(v1, d1), (v2, d2)] := by rw [eqs]; exact List.mergeSort_perm _ _
        obtain ⟨a1, a2, rfl⟩ : ∃ a1 a2, qs = [a1, a2] := by
          have := pq.length_eq
          match qs, this with
          | [a1, a2], _ => exact ⟨a1, a2, rfl⟩
        have wa : ∀ a ∈ [a1, a2], WorthOk k a.1 := fun a ha => by
          rcases List.mem_cons.mp (pq.mem_iff.mp ha) with rfl | z
          · exact w1
          · rw [List.mem_singleton.mp z]
            exact w2
        refine gN ?_
        try dsimp only
        unfold tRet
        dsimp only
        refine ⟨_, rfl, _, rfl, l, _, _, a1.1, rfl, rfl, SqL.of e6, rfl, _, rfl, l, _, _, a2.1, rfl, rfl, SqL.of e6, rfl, (show 4 ≤ sizeLine by decide), fun p m1 => newO m1 fun H7 s7 e7 => ?_⟩
        have s57 := (s5.trans s6).trans s7
        exact q p _ (.within col a1.1 a2.1) H7 e7 rfl ⟨k, mc, wa a1 (by simp), wa a2 (by simp)⟩ rfl trivial ((hd4.mono s57 (Nat.le_refl _)).up (by omega)) (((b2.trans bt3).trans bt4).trans (But.of s57))
      · rw [decide_eq_false c7]
        refine iteF ?_
        unfold tNext
        dsimp only
        refine ⟨_, rfl, rfl, _, rfl, ?_⟩
        by_cases c8 : V.int lot = V.int 8
        · rw [decide_eq_true c8]
          refine iteT ?_
          refine ⟨_, rfl, h, n + 1, 3, rfl, hd2, by omega, by decide, by decide, fun r H3 r0 r1 hd3 bt3 => ?_⟩
          refine ⟨_, _, rfl, rfl, 1 + r, rfl, by omega, by omega, fun D2 nD2 => ?_⟩
          refine lc_map (walk_range (lo := 0) (n := (1 + r).toNat)) (h := h) (Z := fun j x => True) (fun j G => HandAt G h (n + 1 + 1 + 2 * j)) (fun _ y _ => WorthOk k y) nD2 (hd3.fresh nD2).symm (fun j G x G' e => ⟨e.1, trivial⟩) (fun _ _ => trivial) (fun _ _ _ _ _ _ e => e) (by omega) (fun _ => rfl) hd3 (fun j G l a => a.old (hd3.fresh nD2)) ?_ ?_
          · rintro j x G Q2 hj _ btG hdG _ kk
            exact ⟨_, rfl, _, rfl, h, _, k, rfl, hdG, by omega, fun v G2 wv hd2 bt2 => kk _ _ bt2 (hd2.up (by omega)) wv⟩
          · rintro H4 ys bt4 hd4 eD2 ly hw
            refine gN ?_
            try dsimp only
            unfold tRet
            dsimp only
            have ly3 : ys.length ≤ 3 := by omega
            have bf : But h H H4 := (b2.trans bt3).trans bt4
            cases k with
            | true =>
              obtain ⟨zs, rfl, hz⟩ : ∃ zs : List Str, ys = zs.map V.str ∧ ∀ z ∈ zs, z ∈ cells := strs_of fun j y e => by
                obtain ⟨z, h1, h2⟩ := hw j y e
                exact ⟨z, h2, h1⟩
              rw [List.length_map] at ly3
              refine ⟨_, rfl, _, rfl, Str, kStr, D2, zs, rfl, .inl (SqL.of eD2), by omega, fun ys' l nd mem lel pw nl => newO nl fun H5 s5 e5 => ?_⟩
              refine ⟨l, _, rfl, .inl ⟨SqL.of e5, fun t m => newO m fun H6 s6 e6 => ⟨(show 3 ≤ sizeLine by decide), fun p m1 => newO m1 fun H7 s7 e7 => ?_⟩⟩⟩
              have s57 := (s5.trans s6).trans s7
              refine q p _ (.among col (ys'.map V.str)) H7 e7 ⟨t, rfl, s7 _ _ e6⟩ ⟨true, mc, by rw [List.length_map]; omega, fun x hx => ?_⟩ rfl trivial ((hd4.mono s57 (Nat.le_refl _)).up (by omega)) (bf.trans (But.of s57))
              obtain ⟨z, hz2, rfl⟩ := List.mem_map.mp hx
              exact ⟨z, hz z ((mem z).mp hz2), rfl⟩
            | false =>
              obtain ⟨zs, rfl, hz⟩ : ∃ zs : List Int, ys = zs.map V.int ∧ ∀ z ∈ zs, z.natAbs < 10 ^ 7 := by
                have : ∀ ys : List V, (∀ (j : Nat) (y : V), ys[j]? = some y → WorthOk false y) → ∃ ws : List Int, ys = ws.map V.int ∧ ∀ i ∈ ws, i.natAbs < 10 ^ 7 := by
                  intro ys
                  induction ys with
                  | nil => intro _; exact ⟨[], rfl, by simp⟩
                  | cons y ys ih =>
                    intro hh
                    obtain ⟨i, rfl, hi⟩ := hh 0 y rfl
                    obtain ⟨ws, rfl, hw2⟩ := ih fun j y hy => hh (j + 1) y (by simpa using hy)
                    exact ⟨i :: ws, rfl, fun x hx => (List.mem_cons.mp hx).elim (fun e => e ▸ hi) (hw2 x)⟩
                exact this ys hw
              rw [List.length_map] at ly3
              refine ⟨_, rfl, _, rfl, Int, kInt, D2, zs, rfl, .inl (SqL.of eD2), by omega, fun ys' l nd mem lel pw nl => newO nl fun H5 s5 e5 => ?_⟩
              refine ⟨l, _, rfl, .inl ⟨SqL.of e5, fun t m => newO m fun H6 s6 e6 => ⟨(show 3 ≤ sizeLine by decide), fun p m1 => newO m1 fun H7 s7 e7 => ?_⟩⟩⟩
              have s57 := (s5.trans s6).trans s7
              refine q p _ (.among col (ys'.map V.int)) H7 e7 ⟨t, rfl, s7 _ _ e6⟩ ⟨false, mc, by rw [List.length_map]; omega, fun x hx => ?_⟩ rfl trivial ((hd4.mono s57 (Nat.le_refl _)).up (by omega)) (bf.trans (But.of s57))
              obtain ⟨z, hz2, rfl⟩ := List.mem_map.mp hx
              exact ⟨z, rfl, hz z ((mem z).mp hz2)⟩
        · rw [decide_eq_false c8]
          refine iteF ?_
          dsimp only
          have given : ∀ G : Hp, Same H2 G → tRet (tTup (tCons (tC (V.str "given")) (tCons (tVar 3) tNil))) { nx := fun x H' => Q V.non H', rt := Q } [some (.ref h), some (.int lot), some (.ref L), some (.str col), some (.str (kw k)), some (.ref D), none, none, none, none] G := by
            intro G sG
            unfold tRet
            dsimp only
            exact ⟨_, rfl, (show 2 ≤ sizeLine by decide), fun p m1 => newO m1 fun H7 s7 e7 => q p _ (.given col) H7 e7 rfl ⟨k, mc⟩ rfl trivial ((hd2.mono (sG.trans s7) (Nat.le_refl _)).up (by omega)) (b2.trans (But.of (sG.trans s7)))⟩
          refine ⟨_, rfl, rfl, _, rfl, ?_⟩
          by_cases c9 : V.int lot = V.int 9
          · rw [decide_eq_true c9]
            refine iteT ?_
            refine ⟨_, rfl, (show 0 ≤ sizeLine by decide), fun L0 n0 => newO n0 fun H3 s3 e3 => ⟨_, _, short_dp (SqL.of (s3 _ _ e2)), .lst (SqL.of e3) .nil, short_shaped fun z hz => ?_, by decide +kernel, _, rfl, ?_⟩⟩
            · obtain ⟨c, hc, e⟩ : ∃ c ∈ kn, c.1 = z := ⟨_, likes_mem z hz, rfl⟩
              rw [← e]
              exact (kng c hc).ok
            rw [eqv_nil]
            by_cases ce : likes kn col k = []
            · rw [decide_eq_true ce]
              exact iteF (given H3 s3)
            · rw [decide_eq_false ce]
              refine iteT ?_
              unfold tRet
              dsimp only
              have l0 : 0 < ((likes kn col k).map V.str).length := by rw [List.length_map]; exact List.length_pos_iff.mpr ce
              have l1 : ((likes kn col k).map V.str).length ≤ 1000 := by
                rw [List.length_map]
                have : (likes kn col k).length ≤ kn.length := List.length_filterMap_le _ _
                omega
              refine ⟨_, rfl, _, rfl, _, rfl, pick_old (hd2.mono s3 (Nat.le_refl _)) (by omega) (SqL.of (s3 _ _ e2)) nDh l0 l1 (fun y H4 hy hd4 bt4 => ?_)⟩
              obtain ⟨z, hz, rfl⟩ := List.mem_map.mp hy
              exact ⟨(show 3 ≤ sizeLine by decide), fun p m1 => newO m1 fun H7 s7 e7 => q p _ (.before col z) H7 e7 rfl ⟨k, mc, likes_mem z hz⟩ rfl trivial ((hd4.mono s7 (Nat.le_refl _)).up (by omega)) (((b2.trans (But.of s3)).trans bt4).trans (But.of s7))⟩
          · rw [decide_eq_false c9]
            exact iteF (iteF (given H2 (Same.refl _)))
end
end K86
set_option Elab.async false
set_option linter.all false
set_option pp.maxSteps 4000
set_option maxRecDepth 100000
set_option maxHeartbeats 4000000
/-! k86: puts, spells -/
namespace K86
open PySem PySem.Spec PyProof.Rows L2 Bs Xg TL Xm Xs Gn
theorem known_but {H H' : Hp} {h L : Addr} {n : Nat} {kn : List (Str × Bool)} (hd : HandAt H h n) (k : KnownAt H L kn) (nL : L ≠ h) (b : But h H H') : KnownAt H' L kn := by
  obtain ⟨ts, lts, eL, hts⟩ := k
  exact ⟨ts, lts, b L _ nL eL, fun j t c h1 h2 => b t _ (tup_hand hd (hts j t c h1 h2) fun l z => by cases z) (hts j t c h1 h2)⟩
theorem pick_known {K : PySem.W.Frag} {H : Hp} {h L : Addr} {n : Nat} {kn : List (Str × Bool)} {R : VK} (hd : HandAt H h n) (nb : n < 999999) (k : KnownAt H L kn) (nL : L ≠ h) (sh : Short kn)
    (q : ∀ (t : Addr) (col : Str) (b : Bool) (H1 : Hp), (col, b) ∈ kn → H1 t = some (.tup [.str col, .str (kw b)]) → HandAt H1 h (n + 1) → But h H H1 → R (.ref t) H1) : spPk K [.ref h, .ref L] H R E0 := by
  obtain ⟨ts, lts, eL, hts⟩ := k
  obtain ⟨kn0, kn40, kng⟩ := sh
  have ltm : (ts.map V.ref).length = kn.length := by rw [List.length_map, lts]
  have k0 : 0 < kn.length := List.length_pos_iff.mpr kn0
  refine pick_old hd nb (SqL.of eL) nL (by omega) (by omega) (fun y H1 hy hd1 bt1 => ?_)
  obtain ⟨t, ht, rfl⟩ := List.mem_map.mp hy
  obtain ⟨j0, hj0⟩ := List.mem_iff_getElem?.mp ht
  have jl : j0 < kn.length := by
    rw [← lts]
    exact (List.getElem?_eq_some_iff.mp hj0).1
  obtain ⟨col, b, ec⟩ : ∃ col b, kn[j0]? = some (col, b) := ⟨_, _, List.getElem?_eq_getElem jl⟩
  have et := hts j0 t _ hj0 ec
  exact q t col b H1 (List.mem_of_getElem? ec) (bt1 t _ (tup_hand hd et fun l z => by cases z) et) hd1 bt1
theorem pairs_of {G : Hp} {h : Addr} : ∀ {ys : List V} {zs : List Str}, (∀ (j : Nat) (y : V), ys[j]? = some y → ∃ (t : Addr) (z : Str) (o : Option Str), y = .ref t ∧ t ≠ h ∧ G t = some (.tup [.str z, osV o]) ∧ Good 12 z ∧ (∀ u, o = some u → Good 12 u) ∧ zs[j]? = some z) → ys.length = zs.length →
    ∃ (qs : List Addr) (ps : List (Str × Option Str)), ys = qs.map V.ref ∧ qs.length = ps.length ∧ (∀ (j : Nat) (q : Addr) (p : Str × Option Str), qs[j]? = some q → ps[j]? = some p → G q = some (.tup [.str p.1, osV p.2])) ∧ (∀ p ∈ ps, Good 12 p.1 ∧ ∀ z, p.2 = some z → Good 12 z) ∧ ps.map (·.1) = zs
  | [], [], _, _ => ⟨[], [], rfl, rfl, fun j q p e => by simp at e, by simp, rfl⟩
  | [], _ :: _, _, l => by simp at l
  | _ :: _, [], _, l => by simp at l
  | y :: ys, z0 :: zs, hh, ll => by
    obtain ⟨t, z, o, rfl, _, e, g1, g2, g3⟩ := hh 0 y rfl
    obtain ⟨qs, ps, rfl, l, w, g, em⟩ := pairs_of (ys := ys) (zs := zs) (fun j y hy => by
      obtain ⟨t, z, o, a, b, c, d, e, f⟩ := hh (j + 1) y (by simpa using hy)
      exact ⟨t, z, o, a, b, c, d, e, by simpa using f⟩) (by simpa using ll)
    refine ⟨t :: qs, (z, o) :: ps, rfl, by simp [l], fun j q p h1 h2 => ?_, fun p hp => ?_, by cases g3; rw [List.map_cons, em]⟩
    · cases j with
      | zero =>
        cases h1
        cases h2
        exact e
      | succ j => exact w j q p (by simpa using h1) (by simpa using h2)
    · rcases List.mem_cons.mp hp with rfl | hp
      · exact ⟨g1, g2⟩
      · exact g p hp
theorem cells_good : ∀ z ∈ cells, Good 12 z := by
  intro z hz
  unfold cells at hz
  simp only [List.mem_cons, List.not_mem_nil, or_false] at hz
  rcases hz with rfl | rfl | rfl | rfl | rfl | rfl | rfl | rfl | rfl | rfl | rfl | rfl <;> constructor <;> decide +kernel
section
variable {P : Program} {w : World} {K : PySem.W.Frag} {mg : Str → Option Value} {base : Heap} {fTk fPk : Addr} {dTk dPk : FuncData} {fCe fWr fFo : Addr} {dCe dWr dFo : FuncData}
theorem scPu : FnScope ["_law_box_here", "_law_known", "_law_column", "_law_kind"] ["_law_box_here", "_law_known"] (defScope sPu) := ⟨rfl, rfl, rfl, by decide +kernel, rfl, by decide +kernel, by decide +kernel⟩
def spPu : Sp := fun vs H Q _ => ∃ (h L : Addr) (n : Nat) (kn : List (Str × Bool)), vs = [.ref h, .ref L] ∧ HandAt H h n ∧ n < 980000 ∧ KnownAt H L kn ∧ L ≠ h ∧ Short kn ∧
  ∀ (p : Addr) (vs : List V) (dd : Dd) (H' : Hp), H' p = some (.tup vs) → dd.At H' vs → dd.wt kn → dd.adds = [] → dd.xt kn → HandAt H' h (n + 20) → But h H H' → Q (.ref p) H'
theorem ok_put {f : Addr} {fd : FuncData} (F : Fun K "_law_put" "_law_put" sPu f fd) (T : Free mg) (W : HandF K mg fTk fPk dTk dPk) (G : GenF K mg fCe fWr fFo dCe dWr dFo) : FnOk P w K mg base CX0 4 f fd ["_law_box_here", "_law_known"] spPu := by
  have GPk : FnOk P w K mg base CX0 2 fPk dPk ["_law_box_here", "_law_some"] (spPk K) := ok_pick W.Pk T W.Tk W.bTk W.gTk
  have GWr : FnOk P w K mg base CX0 3 fWr dWr ["_law_box_here", "_law_kind"] spWr := ok_worth G.Wr T W G.Ce G.bCe G.gCe
  have FPk := W.Pk
  have bPk := W.bPk
  have gPk := W.gPk
  have FWr := G.Wr
  have bWr := G.bWr
  have gWr := G.gWr
  refine F.ok scPu (fun vs H Q E h => ?_) (fun cdv A outer s H vs Q E hr h => ?_)
  · obtain ⟨h, L, n, kn, rfl, _⟩ := h
    rfl
  · obtain ⟨h, L, n, kn, rfl, hd, nb, kA, nL, sh, q⟩ := h
    refine ⟨_, pss_cons (ps_asg (pe_call GPk (hr.mono (by decide)) (by rfl) gPk FPk.kp bPk .nil pass0 (pa_cons (pv 0) (pa_cons (pv 1) pa_nil))) (pg_tup rfl (pgs_cons (pg_name (i := 2) scPu.nd rfl (Or.inl rfl)) (pgs_cons (pg_name (i := 3) scPu.nd rfl (Or.inl rfl)) pgs_nil))))
      (pss_one (ps_ret (pe_tup (pa_cons pe_str (pa_cons (pv 2) (pa_cons (pe_call GWr (hr.mono (by decide)) (by rfl) gWr FWr.kp bWr .nil pass0 (pa_cons (pv 0) (pa_cons (pv 3) pa_nil))) pa_nil)))))), ?_⟩
    refine ⟨_, rfl, _, rfl, pick_known hd (by omega) kA nL sh (fun t col k H1 mc et1 hd1 bt1 => ?_)⟩
    refine ⟨t, _, rfl, SqT.of et1, rfl, _, _, rfl, gN ⟨_, _, rfl, gN ⟨rfl, ?_⟩⟩⟩
    try dsimp only
    unfold tRet
    dsimp only
    refine ⟨_, rfl, _, rfl, _, rfl, h, n + 1, k, rfl, hd1, by omega, fun v H2 wv hd2 bt2 => ?_⟩
    exact ⟨(show 3 ≤ sizeLine by decide), fun p m1 => newO m1 fun H3 s3 e3 => q p _ (.put col v) H3 e3 rfl ⟨k, mc, wv⟩ rfl trivial ((hd2.mono s3 (Nat.le_refl _)).up (by omega)) ((bt1.trans bt2).trans (But.of s3))⟩
abbrev nSp : List Str := ["_law_box_here", "_law_column", "_law_some", "_law_pairs", "_law_k", "_law_mine"]
theorem scSp : FnScope nSp ["_law_box_here", "_law_column"] (defScope sSp) := ⟨rfl, rfl, rfl, by decide +kernel, rfl, by decide +kernel, by decide +kernel⟩
def spSpl : Sp := fun vs H Q _ => ∃ (h : Addr) (n : Nat) (col : Str) (kn : List (Str × Bool)), vs = [.ref h, .str col] ∧ HandAt H h n ∧ n < 980000 ∧ (col, true) ∈ kn ∧
  ∀ (p : Addr) (vs : List V) (dd : Dd) (H' : Hp), H' p = some (.tup vs) → dd.At H' vs → dd.wt kn → dd.adds = [] → dd.xt kn → HandAt H' h (n + 20) → But h H H' → Q (.ref p) H'
theorem ok_spell {f : Addr} {fd : FuncData} (F : Fun K "_law_spell" "_law_spell" sSp f fd) (T : Free mg) (W : HandF K mg fTk fPk dTk dPk) (G : GenF K mg fCe fWr fFo dCe dWr dFo) : FnOk P w K mg base CX0 4 f fd ["_law_box_here", "_law_column"] spSpl := by
  have GTk : FnOk P w K mg base CX0 1 fTk dTk ["_law_box_here", "_law_many"] spTake := ok_take W.Tk
  have GPk : FnOk P w K mg base CX0 2 fPk dPk ["_law_box_here", "_law_some"] (spPk K) := ok_pick W.Pk T W.Tk W.bTk W.gTk
  have GCe : FnOk P w K mg base CX0 1 fCe dCe [] spCe := ok_cells G.Ce
  have FTk := W.Tk
  have bTk := W.bTk
  have gTk := W.gTk
  have FPk := W.Pk
  have bPk := W.bPk
  have gPk := W.gPk
  have FCe := G.Ce
  have bCe := G.bCe
  have gCe := G.gCe
  refine F.ok scSp (fun vs H Q E h => ?_) (fun cdv A outer s H vs Q E hr h => ?_)
  · obtain ⟨h, n, col, kn, rfl, _⟩ := h
    rfl
  · obtain ⟨h, n, col, kn, rfl, hd, nb, mc, q⟩ := h
    refine ⟨_, pss_cons (ps_setLc (i := 2) (own := [("_law_k", 4)]) (g := gName 4) (tt := tYes) rfl scSp.nd rfl rfl (sw_true rfl rfl rfl rfl) (pi_range1 (by rfl) T.range (pa_cons (pe_op op_add pe_int (pe_call GTk (hr.mono (by decide)) (by rfl) gTk FTk.kp bTk .nil pass0 (pa_cons (pv 0) (pa_cons pe_int pa_nil)))) pa_nil)) (blkOk_by (own := [("_law_k", 4)]) (N := nSp) (sc := defScope sSp) (by decide +kernel)) (fun _ _ _ _ _ => (pg_name (i := 4) scSp.nd rfl (Or.inl rfl))) (fun _ _ _ _ _ => pts_nil) (fun _ _ _ _ _ => (pe_call GPk (hr.mono (by decide)) (by rfl) gPk FPk.kp bPk .nil pass0 (pa_cons (pv 0) (pa_cons (pe_call0 GCe (hr.mono (by decide)) (by rfl) gCe FCe.kp bCe .nil pass0) pa_nil)))))
      (pss_cons (ps_setLc (i := 3) (own := [("_law_mine", 5)]) (g := gName 5) (tt := tYes) rfl scSp.nd rfl rfl (sw_true rfl rfl rfl rfl) (pi_list (pe_srtSet (K := K) rfl rfl (r80 hr) (by rfl) T.sorted (by rfl) T.set (pv 2))) (blkOk_by (own := [("_law_mine", 5)]) (N := nSp) (sc := defScope sSp) (by decide +kernel)) (fun _ _ _ _ _ => (pg_name (i := 5) scSp.nd rfl (Or.inl rfl))) (fun _ _ _ _ _ => pts_nil) (fun _ _ _ _ _ => (pe_tup (pa_cons (pv 5) (pa_cons (pe_call GPk (hr.mono (by decide)) (by rfl) gPk FPk.kp bPk .nil pass0 (pa_cons (pv 0) (pa_cons (pe_lst (pa_cons pe_non (pa_cons pe_str (pa_cons pe_str (pa_cons pe_str pa_nil))))) pa_nil))) pa_nil)))))
      (pss_one (ps_ret (pe_tup (pa_cons pe_str (pa_cons (pv 1) (pa_cons (pe_callTy call_tuple_of (by rfl) T.tuple (by decide +kernel) (pa_cons (pv 3) pa_nil)) pa_nil))))))), ?_⟩
    refine ⟨_, rfl, h, n, 4, rfl, hd, by omega, by decide, by decide, fun r H3 r0 r1 hd3 bt3 => ?_⟩
    refine ⟨_, _, rfl, rfl, 1 + r, rfl, by omega, by omega, fun D2 nD2 => ?_⟩
    refine lc_map (walk_range (lo := 0) (n := (1 + r).toNat)) (h := h) (Z := fun j x => True) (fun j G => HandAt G h (n + 1 + 1 * j)) (fun _ y _ => ∃ z ∈ cells, y = V.str z) nD2 (hd3.fresh nD2).symm (fun j G x G' e => ⟨e.1, trivial⟩) (fun _ _ => trivial) (fun _ _ _ _ _ _ e => e) (by omega) (fun _ => rfl) hd3 (fun j G l a => a.old (hd3.fresh nD2)) ?_ ?_
    · rintro j x G Q2 hj _ btG hdG _ kk
      refine ⟨_, rfl, rfl, fun D nD => ?_⟩
      refine pick_lst hdG (by omega) nD (show 0 < 12 by decide) (show 12 ≤ 1000 by decide) (fun y H1 hy hd1 bt1 => ?_)
      obtain ⟨z, hz, rfl⟩ := List.mem_map.mp hy
      exact kk _ _ bt1 (hd1.up (by omega)) ⟨z, hz, rfl⟩
    · rintro H4 ys bt4 hd4 eD2 ly hw
      refine gN ?_
      try dsimp only
      have ly3 : ys.length ≤ 4 := by omega
      have bf : But h H H4 := bt3.trans bt4
      obtain ⟨zs, rfl, hz⟩ : ∃ zs : List Str, ys = zs.map V.str ∧ ∀ z ∈ zs, z ∈ cells := strs_of fun j y e => by
        obtain ⟨z, h1, h2⟩ := hw j y e
        exact ⟨z, h2, h1⟩
      rw [List.length_map] at ly3
      refine ⟨_, rfl, Str, kStr, D2, zs, rfl, .inl (SqL.of eD2), by omega, fun ys' l nd mem lel pw nl => newO nl fun H5 s5 e5 => ?_⟩
      have hd5 := hd4.mono s5 (Nat.le_refl _)
      have lh : l ≠ h := (hd4.fresh nl).symm
      refine ⟨l, rfl, ⟨_, SqL.of e5⟩, fun D3 nD3 => ?_⟩
      have e5' : H5 l = some (.lst (ys'.map V.str)) := e5
      refine lc_map (walk_list (K := K) (a := l) (xs := ys'.map V.str)) (h := h) (Z := fun j x => ∃ z ∈ zs, x = V.str z ∧ ys'[j]? = some z) (fun j G => HandAt G h (n + 1 + 1 * (1 + r).toNat + j)) (fun j y G => ∃ (t : Addr) (z : Str) (o : Option Str), y = .ref t ∧ t ≠ h ∧ G t = some (.tup [.str z, osV o]) ∧ Good 12 z ∧ (∀ u, o = some u → Good 12 u) ∧ ys'[j]? = some z) nD3 (hd5.fresh nD3).symm (fun j G x G' e => ⟨e.1, ?_⟩) (fun G bG => bG.seq lh (SqL.of e5')) (fun j y G G' keep ⟨l', eD⟩ ⟨t, z, o, ey, ne, e, g⟩ => ⟨t, z, o, ey, ne, keep t _ (fun q => by rw [q, eD] at e; cases e) ne e, g⟩) (by rw [List.length_map]; omega) (fun _ => rfl) hd5 (fun j G l a => a.old (hd5.fresh nD3)) ?_ ?_
      · have e2 := e.2
        rw [List.getElem?_map] at e2
        obtain ⟨z, hz2, e3⟩ := Option.map_eq_some_iff.mp e2
        exact ⟨z, (mem z).mp (List.mem_of_getElem? hz2), e3.symm, hz2⟩
      · rintro j x G Q2 hj ⟨z, hz2, rfl, hz3⟩ btG hdG _ kk
        rw [List.length_map] at hj
        refine ⟨_, rfl, _, rfl, (show 4 ≤ sizeLine by decide), fun D nD => ?_⟩
        refine pick_lst hdG (by omega) nD (show 0 < 4 by decide) (show 4 ≤ 1000 by decide) (fun y H1 hy hd1 bt1 => ?_)
        obtain ⟨o, rfl, ho⟩ : ∃ o : Option Str, y = osV o ∧ ∀ u, o = some u → Good 12 u := by
          simp only [List.mem_cons, List.not_mem_nil, or_false] at hy
          rcases hy with rfl | rfl | rfl | rfl
          · exact ⟨none, rfl, fun u e => by cases e⟩
          all_goals exact ⟨some _, rfl, fun u e => by cases e; constructor <;> decide +kernel⟩
        exact ⟨(show 2 ≤ sizeLine by decide), fun p m1 => newO m1 fun H2 s2 e2 => kk _ _ (bt1.trans (But.of s2)) ((hd1.mono s2 (Nat.le_refl _)).up (by omega)) ⟨p, z, o, rfl, fun q => by rw [← q] at hd1; exact (hd1.fresh m1) rfl, e2, cells_good z (hz z hz2), ho, hz3⟩⟩
      · rintro H6 ys6 bt6 hd6 eD3 ly6 hw6
        rw [List.length_map] at ly6 hd6
        obtain ⟨qs, ps, rfl, lq, wq, gp, emp⟩ := pairs_of hw6 ly6
        have ndp : (ps.map (·.1)).Nodup := by rw [emp]; exact nd
        refine gN ?_
        try dsimp only
        unfold tRet
        dsimp only
        rw [List.length_map] at ly6
        refine ⟨_, rfl, _, rfl, D3, _, rfl, .inl ⟨SqL.of eD3, fun t m => newO m fun H7 s7 e7 => ⟨(show 3 ≤ sizeLine by decide), fun p m1 => newO m1 fun H8 s8 e8 => ?_⟩⟩⟩
        have s78 := s7.trans s8
        exact q p _ (.spell col ps) H8 e8 ⟨t, rfl, qs, lq, s8 _ _ e7, fun j q p h1 h2 => s78 _ _ (wq j q p h1 h2)⟩ ⟨mc, by omega, gp⟩ rfl ndp ((hd6.mono s78 (Nat.le_refl _)).up (by omega)) (((bf.trans (But.of s5)).trans bt6).trans (But.of s78))
end
end K86
set_option Elab.async false
set_option linter.all false
set_option pp.maxSteps 4000
set_option maxRecDepth 100000
set_option maxHeartbeats 4000000
/-! k86: deeds -/
namespace K86
open PySem PySem.Spec PyProof.Rows L2 Bs Xg TL Xm Xs Gn
abbrev sDe : Stmt := top 41
section
variable {X : Cx}
theorem pe_bm0Q {K : PySem.W.Frag} (hK : X.K = K) {T id : String} {name : Str} {o : Expr} {r : V → List V → Hp → VK → Prop} {to : TE} {apos cpos : Pos} (pa : PlainAttrs T) (slot : Slot T name id) (hty : typeOf (.builtin id) = pure (.type "method_descriptor")) (hm : MtR X id r) (ho : PE X o to)
    (hbase : attributeBase o name X.env (eval o X.env) = eval o X.env := by rfl) (hline : (apos.endLine == cpos.line) = true := by rfl) : PE X (.Call (.Attribute o name apos) [] [] cpos) (tBM0 K T r to) := hK ▸ pe_bm0 pa slot hty hm ho hbase hline
end
def But3 (h N L : Addr) (H H' : Hp) : Prop := ∀ b o, b ≠ h → b ≠ N → b ≠ L → H b = some o → H' b = some o
theorem But3.trans {h N L : Addr} {H H1 H2 : Hp} (a : But3 h N L H H1) (b : But3 h N L H1 H2) : But3 h N L H H2 := fun c o n1 n2 n3 e => b c o n1 n2 n3 (a c o n1 n2 n3 e)
theorem But3.h {h N L : Addr} {H H' : Hp} (a : But h H H') : But3 h N L H H' := fun c o n1 _ _ e => a c o n1 e
theorem But3.n {h N L : Addr} {H H' : Hp} (a : But N H H') : But3 h N L H H' := fun c o _ n1 _ e => a c o n1 e
theorem But3.l {h N L : Addr} {H H' : Hp} (a : But L H H') : But3 h N L H H' := fun c o _ _ n1 e => a c o n1 e
theorem But3.s {h N L : Addr} {H H' : Hp} (a : Same H H') : But3 h N L H H' := fun c o _ _ _ e => a c o e
theorem hand_but {H H' : Hp} {h N : Addr} {n : Nat} (a : HandAt H h n) (ne : h ≠ N) (b : But N H H') : HandAt H' h n := by
  obtain ⟨g, t, c, e, q⟩ := a
  exact ⟨g, t, c, b _ _ ne e, q⟩
theorem tup_ne {H : Hp} {t a : Addr} {xs ys : List V} (e : H t = some (.tup xs)) (f : H a = some (.lst ys)) : t ≠ a := by
  rintro rfl
  rw [e] at f
  cases f
theorem pop_names {K : PySem.W.Frag} {H : Hp} {N : Addr} {ns : List Str} {R : VK} (e : H N = some (.lst (ns.map V.str))) (l : 0 < ns.length) (k : ∀ (z : Str) (ns' : List Str), ns = ns' ++ [z] → R (.str z) (upd H N (.lst (ns'.map V.str)))) :
    tyV K "list" (.ref N) H ∧ ∃ l xs y, V.ref N = .ref l ∧ ([] : List V) = [] ∧ H l = some (.lst xs) ∧ xs[xs.length - 1]? = some y ∧ R y (upd H l (.lst xs.dropLast)) := by
  refine ⟨.inl ⟨rfl, _, SqL.of e⟩, N, _, V.str ns[ns.length - 1], rfl, rfl, e, ?_, ?_⟩
  · rw [List.length_map, List.getElem?_map, List.getElem?_eq_getElem (by omega)]
    rfl
  · rw [← List.map_dropLast]
    have ne : ns ≠ [] := fun z => by rw [z] at l; exact absurd l (by decide)
    refine k _ _ ?_
    have e1 := List.dropLast_concat_getLast ne
    rw [List.getLast_eq_getElem] at e1
    exact e1.symm
theorem pop_facts {ns ns' : List Str} {z : Str} (e : ns = ns' ++ [z]) : z ∈ ns ∧ ns'.length + 1 = ns.length ∧ ∀ x ∈ ns', x ∈ ns := by
  subst e
  exact ⟨by simp, by simp, fun x hx => List.mem_append_left _ hx⟩
/-- names taken from the end -/
def Pop (ns : List Str) (N : Addr) (j : Nat) (G : Hp) : Prop := ∃ ns' us : List Str, G N = some (.lst (ns'.map V.str)) ∧ ns = ns' ++ us ∧ us.length = j
theorem Pop.step {ns ns' ns2 us : List Str} {N : Addr} {j : Nat} {G : Hp} {z : Str} (e : ns = ns' ++ us) (l : us.length = j) (e2 : ns' = ns2 ++ [z]) (eN : G N = some (.lst (ns2.map V.str))) : Pop ns N (j + 1) G ∧ ns[ns.length - 1 - j]? = some z := by
  subst e2 e
  refine ⟨⟨ns2, z :: us, eN, by simp, by simp [l]⟩, ?_⟩
  have : (ns2 ++ [z] ++ us).length - 1 - j = ns2.length := by
    simp only [List.length_append, List.length_cons, List.length_nil]
    omega
  rw [this, List.append_assoc, List.getElem?_append_right (Nat.le_refl _), Nat.sub_self]
  rfl
theorem popped {ns ns' us zs : List Str} (e : ns = ns' ++ us) (l : zs.length = us.length) (h : ∀ (j : Nat) (z : Str), zs[j]? = some z → ns[ns.length - 1 - j]? = some z) : zs = us.reverse := by
  apply List.ext_getElem (by simp [l])
  intro j h1 h2
  have q := h j zs[j] (List.getElem?_eq_getElem h1)
  subst e
  have hj : j < us.length := by omega
  have ix : (ns' ++ us).length - 1 - j = ns'.length + (us.length - 1 - j) := by
    rw [List.length_append]
    omega
  rw [ix, List.getElem?_append_right (by omega), Nat.add_sub_cancel_left, List.getElem?_eq_getElem (by omega)] at q
  rw [List.getElem_reverse]
  exact (Option.some.inj q).symm
theorem strs_at : ∀ {ys : List V} {W : Nat → Str → Prop}, (∀ (j : Nat) (y : V), ys[j]? = some y → ∃ z, y = V.str z ∧ W j z) → ∃ zs : List Str, ys = zs.map V.str ∧ ∀ (j : Nat) (z : Str), zs[j]? = some z → W j z
  | [], _, _ => ⟨[], rfl, fun j z h => by simp at h⟩
  | y :: ys, W, h => by
    obtain ⟨z, rfl, hz⟩ := h 0 y rfl
    obtain ⟨zs, rfl, hw⟩ := strs_at (ys := ys) (W := fun j => W (j + 1)) fun j y hy => h (j + 1) y (by simpa using hy)
    refine ⟨z :: zs, rfl, fun j x hx => ?_⟩
    cases j with
    | zero =>
      cases hx
      exact hz
    | succ j => exact hw j x (by simpa using hx)
/-- what was popped, whole -/
theorem pop_all {ns : List Str} {N : Addr} {k : Nat} {G : Hp} {ys : List V} (p : Pop ns N k G) (ly : ys.length = k) (h : ∀ (j : Nat) (y : V), ys[j]? = some y → ∃ z, y = V.str z ∧ ns[ns.length - 1 - j]? = some z) :
    ∃ zs ns' : List Str, ys = zs.map V.str ∧ G N = some (.lst (ns'.map V.str)) ∧ ns'.length + k = ns.length ∧ (∀ z ∈ ns', z ∈ ns) ∧ (∀ z ∈ zs, z ∈ ns) ∧ ns.Perm (ns' ++ zs) := by
  obtain ⟨ns', us, eN, e, lu⟩ := p
  obtain ⟨zs, rfl, hz⟩ := strs_at (W := fun j z => ns[ns.length - 1 - j]? = some z) h
  rw [List.length_map] at ly
  have ez := popped e (by omega) hz
  subst ez e
  refine ⟨_, ns', rfl, eN, by rw [List.length_append, lu], fun z hz => List.mem_append_left _ hz, fun z hz => List.mem_append_right _ (List.mem_reverse.mp hz), List.Perm.append_left _ (List.reverse_perm _).symm⟩
theorem fst_map (zs : List Str) (b : Bool) : (zs.map fun z => (z, b)).map (·.1) = zs := by simp [Function.comp_def]
theorem fresh_news {ns ns' zs : List Str} {kn : List (Str × Bool)} (h : Fresh ns kn) (p : ns.Perm (ns' ++ zs)) : zs.Nodup := by
  have h1 : (ns ++ kn.map (·.1)).Nodup := (List.nodup_cons.mp h).2
  have h2 : ns.Nodup := (List.nodup_append.mp h1).1
  have h3 := p.nodup_iff.mp h2
  exact (List.nodup_append.mp h3).2.1
theorem one_lt {z : Str} (hz : ∀ c ∈ z.cps.toList, c < 127) : ∀ c ∈ z.cps.toList, c < 127 := hz
theorem known_more {G : Hp} {L : Addr} {kn kn2 : List (Str × Bool)} {ts us : List Addr} (lts : ts.length = kn.length) (hts : ∀ (j : Nat) (t : Addr) (c : Str × Bool), ts[j]? = some t → kn[j]? = some c → G t = some (.tup [.str c.1, .str (kw c.2)]))
    (lus : us.length = kn2.length) (hus : ∀ (j : Nat) (t : Addr) (c : Str × Bool), us[j]? = some t → kn2[j]? = some c → G t = some (.tup [.str c.1, .str (kw c.2)])) (eL : G L = some (.lst (ts.map V.ref ++ us.map V.ref))) : KnownAt G L (kn ++ kn2) := by
  refine ⟨ts ++ us, by simp [lts, lus], by rw [List.map_append]; exact eL, fun j t c h1 h2 => ?_⟩
  by_cases hj : j < ts.length
  · rw [List.getElem?_append_left hj] at h1
    rw [List.getElem?_append_left (by omega)] at h2
    exact hts j t c h1 h2
  · rw [List.getElem?_append_right (by omega)] at h1
    rw [List.getElem?_append_right (by omega)] at h2
    rw [← lts] at h2
    exact hus _ t c h1 h2
theorem fit_eq : ∀ kn : List (Str × Bool), (kn.filterMap fun c => if c.2 = true then some (V.str c.1) else none) = ((kn.filter (·.2)).map fun c => V.str c.1)
  | [] => rfl
  | (a, false) :: kn => by simpa using fit_eq kn
  | (a, true) :: kn => by simpa using fit_eq kn
theorem refs_of {G : Hp} {b : Bool} : ∀ {ys : List V} {zs : List Str}, ys.length = zs.length → (∀ (j : Nat) (y : V), ys[j]? = some y → ∃ (t : Addr) (z : Str), y = .ref t ∧ zs[j]? = some z ∧ G t = some (.tup [.str z, .str (kw b)])) →
    ∃ us : List Addr, ys = us.map V.ref ∧ us.length = (zs.map fun z => (z, b)).length ∧ ∀ (j : Nat) (t : Addr) (c : Str × Bool), us[j]? = some t → (zs.map fun z => (z, b))[j]? = some c → G t = some (.tup [.str c.1, .str (kw c.2)])
  | [], [], _, _ => ⟨[], rfl, rfl, fun j t c h => by simp at h⟩
  | y :: ys, z :: zs, l, g => by
    obtain ⟨t, z', rfl, h1, h2⟩ := g 0 y rfl
    cases h1
    obtain ⟨us, rfl, lu, gu⟩ := refs_of (ys := ys) (zs := zs) (by simpa using l) fun j y hy => by
      obtain ⟨t, z, a, b, c⟩ := g (j + 1) y (by simpa using hy)
      exact ⟨t, z, a, by simpa using b, c⟩
    refine ⟨t :: us, rfl, by simp [lu], fun j u c h1 h2 => ?_⟩
    cases j with
    | zero =>
      cases h1
      cases h2
      exact h2
    | succ j => exact gu j u c (by simpa using h1) (by simpa using h2)
  | [], _ :: _, l, _ => by simp at l
  | _ :: _, [], l, _ => by simp at l
theorem one_good {z : Str} (hz : ∀ c ∈ z.cps.toList, 32 ≤ c ∧ c < 127) : ∀ c ∈ z.cps.toList, Good 1 (⟨#[c]⟩ : Str) := fun c hc => ⟨Nat.le_refl _, fun d hd => by
  have e : d = c := by simpa using hd
  rw [e]
  exact hz c hc⟩
theorem cut_to (xs : List V) (i : Nat) : cutV xs none (some (i : Int)) = xs.take i := by
  unfold cutV
  rw [HT.sIx_none, HT.sIx_nat, List.drop_zero, Nat.sub_zero]
  by_cases h : i ≤ xs.length
  · rw [Nat.min_eq_left h]
  · rw [Nat.min_eq_right (by omega), List.take_length, List.take_of_length_le (by omega)]
/-- what a deed leaves -/
def DeAt (h N L : Addr) (n : Nat) (H H' : Hp) (kn : List (Str × Bool)) (p : Addr) : Prop := ∃ (vs : List V) (dd : Dd) (kn' : List (Str × Bool)) (ns' : List Str), H' p = some (.tup vs) ∧ dd.At H' vs ∧ dd.wt kn' ∧ KnownAt H' L kn' ∧ H' N = some (.lst (ns'.map V.str)) ∧
  (∃ e, kn' = kn ++ e) ∧ ns'.length + kn'.length = 24 ∧ kn'.length ≤ 9 ∧ (∀ z ∈ ns', Good 9 z) ∧ (∀ c ∈ kn', Good 9 c.1) ∧ HandAt H' h (n + 40) ∧ But3 h N L H H' ∧ kn' = kn ++ dd.adds ∧ dd.wt kn ∧ dd.xt kn ∧ Fresh ns' kn'
section
variable {P : Program} {w : World} {K : PySem.W.Frag} {mg : Str → Option Value} {base : Heap} {fTk fPk : Addr} {dTk dPk : FuncData} {fCe fWr fFo : Addr} {dCe dWr dFo : FuncData} {fWi fPu fSp : Addr} {dWi dPu dSp : FuncData}
structure DeedF (K : PySem.W.Frag) (mg : Str → Option Value) (fWi fPu fSp : Addr) (dWi dPu dSp : FuncData) : Prop where
  Wi : Fun K "_law_wish" "_law_wish" sWi fWi dWi
  bWi : Binds K dWi ["_law_box_here", "_law_lot", "_law_known"] []
  gWi : mg "_law_wish" = some (.ref fWi)
  Pu : Fun K "_law_put" "_law_put" sPu fPu dPu
  bPu : Binds K dPu ["_law_box_here", "_law_known"] []
  gPu : mg "_law_put" = some (.ref fPu)
  Sp : Fun K "_law_spell" "_law_spell" sSp fSp dSp
  bSp : Binds K dSp ["_law_box_here", "_law_column"] []
  gSp : mg "_law_spell" = some (.ref fSp)
abbrev nDe : List Str := ["_law_box_here", "_law_names", "_law_known", "_law_fit", "_law_lot", "_law_column", "_law_news", "_law_base", "_law_more", "_law_some", "_law_name", "_law_kind", "_law_k", "_law_new"]
theorem scDe : FnScope nDe ["_law_box_here", "_law_names", "_law_known"] (defScope sDe) := ⟨rfl, rfl, rfl, by decide +kernel, rfl, by decide +kernel, by decide +kernel⟩
def spDe : Sp := fun vs H Q _ => ∃ (h N L : Addr) (n : Nat) (kn : List (Str × Bool)) (ns : List Str), vs = [.ref h, .ref N, .ref L] ∧ HandAt H h n ∧ n < 970000 ∧ H N = some (.lst (ns.map V.str)) ∧ KnownAt H L kn ∧ N ≠ h ∧ L ≠ h ∧ N ≠ L ∧
  (∃ c, (c, true) ∈ kn) ∧ ns.length + kn.length = 24 ∧ kn.length ≤ 9 ∧ (∀ z ∈ ns, Good 9 z) ∧ (∀ c ∈ kn, Good 9 c.1) ∧ Fresh ns kn ∧ ∀ (p : Addr) (H' : Hp), DeAt h N L n H H' kn p → Q (.ref p) H'
theorem ok_deed {f : Addr} {fd : FuncData} (F : Fun K "_law_deed" "_law_deed" sDe f fd) (T : Free mg) (W : HandF K mg fTk fPk dTk dPk) (G : GenF K mg fCe fWr fFo dCe dWr dFo) (D : DeedF K mg fWi fPu fSp dWi dPu dSp) : FnOk P w K mg base CX0 5 f fd ["_law_box_here", "_law_names", "_law_known"] spDe := by
  have GTk : FnOk P w K mg base CX0 1 fTk dTk ["_law_box_here", "_law_many"] spTake := ok_take W.Tk
  have GPk : FnOk P w K mg base CX0 2 fPk dPk ["_law_box_here", "_law_some"] (spPk K) := ok_pick W.Pk T W.Tk W.bTk W.gTk
  have GFo : FnOk P w K mg base CX0 2 fFo dFo ["_law_box_here"] spFo := ok_form G.Fo W
  have GWi : FnOk P w K mg base CX0 4 fWi dWi ["_law_box_here", "_law_lot", "_law_known"] spWi := ok_wish D.Wi T W G
  have GPu : FnOk P w K mg base CX0 4 fPu dPu ["_law_box_here", "_law_known"] spPu := ok_put D.Pu T W G
  have GSp : FnOk P w K mg base CX0 4 fSp dSp ["_law_box_here", "_law_column"] spSpl := ok_spell D.Sp T W G
  have FTk := W.Tk
  have bTk := W.bTk
  have gTk := W.gTk
  have FPk := W.Pk
  have bPk := W.bPk
  have gPk := W.gPk
  have FFo := G.Fo
  have bFo := G.bFo
  have gFo := G.gFo
  have FWi := D.Wi
  have bWi := D.bWi
  have gWi := D.gWi
  have FPu := D.Pu
  have bPu := D.bPu
  have gPu := D.gPu
  have FSp := D.Sp
  have bSp := D.bSp
  have gSp := D.gSp
  refine F.ok scDe (fun vs H Q E h => ?_) (fun cdv A outer s H vs Q E hr h => ?_)
  · obtain ⟨h, N, L, n, kn, ns, rfl, _⟩ := h
    rfl
  · obtain ⟨h, N, L, n, kn, ns, rfl, hd, nb, eN, kA, nh, lh, nl, ⟨c0, hc0⟩, l24, l9, gns, gkn, hfr, q⟩ := h
    have sh : Short kn := ⟨fun z => by rw [z] at hc0; simp at hc0, by omega, gkn⟩
    obtain ⟨ts, lts, eL, hts⟩ := kA
    have ltm : (ts.map V.ref).length = kn.length := by rw [List.length_map, lts]
    refine ⟨_, pss_cons (ps_setLc (i := 3) (own := [("_law_name", 10), ("_law_kind", 11)]) (g := gTup K 2 (gCons (gName 10) (gCons (gName 11) gNil))) (tt := (tTest (tOp rEq (tVar 11) (tC (.str "text"))))) rfl scDe.nd rfl rfl (sw_true rfl rfl rfl rfl) (pi_list (pv 2)) (blkOk_by (own := [("_law_name", 10), ("_law_kind", 11)]) (N := nDe) (sc := defScope sDe) (by decide +kernel)) (fun _ _ _ _ _ => (pg_tup rfl (pgs_cons (pg_name (i := 10) scDe.nd rfl (Or.inl rfl)) (pgs_cons (pg_name (i := 11) scDe.nd rfl (Or.inl rfl)) pgs_nil)))) (fun _ _ _ _ _ => pts_one (pt_cmpR op_eq (pv 11) pe_str (nomark _))) (fun _ _ _ _ _ => (pv 10)))
      (pss_cons (ps_par (i := 4) (j := 5) rfl scDe.nd rfl rfl (by decide) rfl rfl (pa_cons (pe_call GTk (hr.mono (by decide)) (by rfl) gTk FTk.kp bTk .nil pass0 (pa_cons (pv 0) (pa_cons pe_int pa_nil))) (pa_cons (pe_call GPk (hr.mono (by decide)) (by rfl) gPk FPk.kp bPk .nil pass0 (pa_cons (pv 0) (pa_cons (pv 3) pa_nil))) pa_nil)) (by rfl))
      (pss_cons (ps_if (PW.pt (pw_and (pt_cmpR op_gt (pe_callB (call_len_seqK (K := K) rfl) (by rfl) T.len PySem.boot_len (pa_cons (pv 2) pa_nil)) pe_int (nomark _)) (pw_and1 (pt_cmpR op_lt (pv 4) pe_int (nomark _))))) (pss_one (ps_set (i := 4) scDe.nd rfl (Or.inl rfl) (pe_op op_add pe_int (pv 4)))) (pss_nil))
      (pss_cons (ps_if (pt_cmpR op_eq (pv 4) pe_int (nomark _)) (pss_cons (ps_setLc (i := 6) (own := [("_law_k", 12)]) (g := gName 12) (tt := tYes) rfl scDe.nd rfl rfl (sw_true rfl rfl rfl rfl) (pi_range1 (by rfl) T.range (pa_cons (pe_op op_add pe_int (pe_call GTk (hr.mono (by decide)) (by rfl) gTk FTk.kp bTk .nil pass0 (pa_cons (pv 0) (pa_cons pe_int pa_nil)))) pa_nil)) (blkOk_by (own := [("_law_k", 12)]) (N := nDe) (sc := defScope sDe) (by decide +kernel)) (fun _ _ _ _ _ => (pg_name (i := 12) scDe.nd rfl (Or.inl rfl))) (fun _ _ _ _ _ => pts_nil) (fun _ _ _ _ _ => (pe_bm0Q (K := K) rfl PySem.F.plainAttrs_list PySem.F.slot_list_pop PySem.F.type_list_pop mt_pop (pv 1))))
      (pss_cons (ps_expr (pe_bmK (K := K) rfl PySem.F.plainAttrs_list PySem.F.slot_list_extend PySem.F.type_list_extend mt_extend (pv 2) (pa_cons (pe_lc (own := [("_law_new", 13)]) (g := gName 13) (tt := tYes) rfl scDe.nd (pi_list (pv 6)) (blkOk_by (own := [("_law_new", 13)]) (N := nDe) (sc := defScope sDe) (by decide +kernel)) (fun _ _ _ _ _ => (pg_name (i := 13) scDe.nd rfl (Or.inl rfl))) (fun _ _ _ _ _ => pts_nil) (fun _ _ _ _ _ => (pe_tup (pa_cons (pv 13) (pa_cons pe_str pa_nil))))) pa_nil)))
      (pss_one (ps_ret (pe_tup (pa_cons pe_str (pa_cons (pv 5) (pa_cons (pe_call GPk (hr.mono (by decide)) (by rfl) gPk FPk.kp bPk .nil pass0 (pa_cons (pv 0) (pa_cons pe_str pa_nil))) (pa_cons (pe_callTy call_tuple_of (by rfl) T.tuple (by decide +kernel) (pa_cons (pv 6) pa_nil)) pa_nil))))))))) (pss_nil))
      (pss_cons (ps_if (pt_cmpR op_eq (pv 4) pe_int (nomark _)) (pss_cons (ps_set (i := 7) scDe.nd rfl (Or.inr rfl) (pe_slice sl_list (pv 3) po_none (po_some (pe_op op_add pe_int (pe_call GTk (hr.mono (by decide)) (by rfl) gTk FTk.kp bTk .nil pass0 (pa_cons (pv 0) (pa_cons pe_int pa_nil)))))))
      (pss_cons (ps_set (i := 8) scDe.nd rfl (Or.inl rfl) (pe_op op_add pe_int (pe_call GTk (hr.mono (by decide)) (by rfl) gTk FTk.kp bTk .nil pass0 (pa_cons (pv 0) (pa_cons (pe_ix (ix_listK (K := K) rfl) (pe_lst (pa_cons pe_int (pa_cons pe_int (pa_cons pe_int pa_nil)))) (pe_op op_sub (pe_callB (call_len_seqK (K := K) rfl) (by rfl) T.len PySem.boot_len (pa_cons (pv 7) pa_nil)) pe_int) (fun _ _ => rfl)) pa_nil)))))
      (pss_cons (ps_setLc (i := 9) (own := [("_law_k", 12)]) (g := gName 12) (tt := tYes) rfl scDe.nd rfl rfl (sw_true rfl rfl rfl rfl) (pi_range1 (by rfl) T.range (pa_cons (pv 8) pa_nil)) (blkOk_by (own := [("_law_k", 12)]) (N := nDe) (sc := defScope sDe) (by decide +kernel)) (fun _ _ _ _ _ => (pg_name (i := 12) scDe.nd rfl (Or.inl rfl))) (fun _ _ _ _ _ => pts_nil) (fun _ _ _ _ _ => (pe_call GPk (hr.mono (by decide)) (by rfl) gPk FPk.kp bPk .nil pass0 (pa_cons (pv 0) (pa_cons (pv 7) pa_nil)))))
      (pss_cons (ps_expr (pe_bmK (K := K) rfl PySem.F.plainAttrs_list PySem.F.slot_list_append PySem.F.type_list_append mt_append (pv 2) (pa_cons (pe_tup (pa_cons (pe_bm0Q (K := K) rfl PySem.F.plainAttrs_list PySem.F.slot_list_pop PySem.F.type_list_pop mt_pop (pv 1)) (pa_cons pe_str pa_nil))) pa_nil)))
      (pss_one (ps_ret (pe_tup (pa_cons pe_str (pa_cons (pe_callTy call_tuple_of (by rfl) T.tuple (by decide +kernel) (pa_cons (pv 9) pa_nil)) (pa_cons (pe_call GPk (hr.mono (by decide)) (by rfl) gPk FPk.kp bPk .nil pass0 (pa_cons (pv 0) (pa_cons pe_str pa_nil))) (pa_cons (pe_ix (ix_tupK (K := K) rfl) (pe_ix (ix_listK (K := K) rfl) (pv 2) (pe_un un_neg pe_int) (fun _ _ => rfl)) pe_int (fun _ _ => rfl)) pa_nil))))))))))) (pss_nil))
      (pss_cons (ps_if (pt_cmpR op_eq (pv 4) pe_int (nomark _)) (pss_one (ps_ret (pe_call GSp (hr.mono (by decide)) (by rfl) gSp FSp.kp bSp .nil pass0 (pa_cons (pv 0) (pa_cons (pv 5) pa_nil))))) (pss_nil))
      (pss_cons (ps_if (pt_cmpR op_lt (pv 4) pe_int (nomark _)) (pss_cons (ps_expr (pe_bmK (K := K) rfl PySem.F.plainAttrs_list PySem.F.slot_list_append PySem.F.type_list_append mt_append (pv 2) (pa_cons (pe_tup (pa_cons (pe_bm0Q (K := K) rfl PySem.F.plainAttrs_list PySem.F.slot_list_pop PySem.F.type_list_pop mt_pop (pv 1)) (pa_cons pe_str pa_nil))) pa_nil)))
      (pss_one (ps_ret (pe_tup (pa_cons pe_str (pa_cons (pv 5) (pa_cons (pe_call GFo (hr.mono (by decide)) (by rfl) gFo FFo.kp bFo .nil pass0 (pa_cons (pv 0) pa_nil)) (pa_cons (pe_ix (ix_tupK (K := K) rfl) (pe_ix (ix_listK (K := K) rfl) (pv 2) (pe_un un_neg pe_int) (fun _ _ => rfl)) pe_int (fun _ _ => rfl)) pa_nil)))))))) (pss_nil))
      (pss_cons (ps_if (pt_cmpR op_gt (pv 4) pe_int (nomark _)) (pss_one (ps_ret (pe_tup (pa_cons pe_str (pa_cons (pe_ix (ix_tupK (K := K) rfl) (pe_call GPk (hr.mono (by decide)) (by rfl) gPk FPk.kp bPk .nil pass0 (pa_cons (pv 0) (pa_cons (pv 2) pa_nil))) pe_int (fun _ _ => rfl)) (pa_cons (pe_tup pa_nil) pa_nil)))))) (pss_nil))
      (pss_one (ps_ret (pe_ifExp (pt_cmpR op_eq (pv 4) pe_int (nomark _)) (pe_call GPu (hr.mono (by decide)) (by rfl) gPu FPu.kp bPu .nil pass0 (pa_cons (pv 0) (pa_cons (pv 2) pa_nil))) (pe_call GWi (hr.mono (by decide)) (by rfl) gWi FWi.kp bWi .nil pass0 (pa_cons (pv 0) (pa_cons (pv 4) (pa_cons (pv 2) pa_nil)))))))))))))), ?_⟩
    refine ⟨_, rfl, L, rfl, ⟨_, SqL.of eL⟩, fun D nD => ?_⟩
    refine lc_fm (walk_list (K := K) (a := L) (xs := ts.map V.ref)) kn (fun c => if c.2 = true then some (V.str c.1) else none) ltm.symm nD (fun G sG => SqL.of (sG _ _ eL)) (by omega) ?_ ?_
    · rintro j c x G G' R N hj sG ⟨rfl, hx⟩ kR kN
      rw [List.getElem?_map] at hx
      obtain ⟨t', ht', rfl⟩ := Option.map_eq_some_iff.mp hx
      refine ⟨t', _, rfl, SqT.of (sG _ _ (hts j t' c ht' hj)), rfl, _, _, rfl, gN ⟨_, _, rfl, gN ⟨rfl, rfl, ?_⟩⟩⟩
      refine ⟨_, rfl, rfl, _, rfl, ?_⟩
      cases hk : c.2 with
      | true =>
        rw [decide_eq_true (show V.str (kw true) = V.str "text" from rfl)]
        exact iteT ⟨_, rfl, kR _ (if_pos hk) _ (Same.refl _)⟩
      | false =>
        rw [decide_eq_false (show ¬ V.str (kw false) = V.str "text" from by decide +kernel)]
        exact iteF (kN (if_neg (by rw [hk]; decide)) _ (Same.refl _))
    · intro H1 s1 e1
      rw [fit_eq] at e1
      obtain ⟨fs, hfs, lfs, gfs⟩ : ∃ fs : List Str, ((kn.filter (·.2)).map fun c => V.str c.1) = fs.map V.str ∧ 1 ≤ fs.length ∧ ∀ z ∈ fs, (z, true) ∈ kn := by
        refine ⟨(kn.filter (·.2)).map (·.1), by rw [List.map_map]; rfl, ?_, fun z hz => ?_⟩
        · rw [List.length_map]
          exact List.length_pos_iff.mpr (List.ne_nil_of_mem (List.mem_filter.mpr ⟨hc0, rfl⟩))
        · obtain ⟨c, hc, rfl⟩ := List.mem_map.mp hz
          obtain ⟨h1, h2⟩ := List.mem_filter.mp hc
          obtain ⟨a, b⟩ := c
          cases h2
          exact h1
      rw [hfs] at e1
      have lf9 : fs.length ≤ 9 := by
        have h1 := congrArg List.length hfs
        rw [List.length_map, List.length_map] at h1
        have := List.length_filter_le (·.2) kn
        omega
      have hd1 := hd.mono s1 (Nat.le_refl _)
      have Dh : D ≠ h := (hd.fresh nD).symm
      have eN1 := s1 _ _ eN
      have eL1 := s1 _ _ eL
      have DN : D ≠ N := fun z => by rw [z, eN] at nD; cases nD
      have DL : D ≠ L := fun z => by rw [z, eL] at nD; cases nD
      refine gN ?_
      try dsimp only
      refine ⟨_, rfl, h, n, 13, rfl, hd1, by omega, by decide, by decide, fun r H2 r0 r1 hd2 bt2 => ?_⟩
      refine ⟨_, rfl, _, rfl, pick_old hd2 (by omega) (SqL.of (bt2 D _ Dh e1)) Dh (by rw [List.length_map]; omega) (by rw [List.length_map]; omega) (fun y H3 hy hd3 bt3 => ?_)⟩
      obtain ⟨col, hcol, rfl⟩ := List.mem_map.mp hy
      have mcol := gfs col hcol
      have b13 : But h H1 H3 := bt2.trans bt3
      have e3 := b13 D _ Dh e1
      have eN3 := b13 N _ nh eN1
      have eL3 := b13 L _ lh eL1
      have hts3 : ∀ (j : Nat) (t : Addr) (c : Str × Bool), ts[j]? = some t → kn[j]? = some c → H3 t = some (.tup [.str c.1, .str (kw c.2)]) := fun j t c h1 h2 => b13 t _ (tup_hand hd1 (s1 _ _ (hts j t c h1 h2)) fun l z => by cases z) (s1 _ _ (hts j t c h1 h2))
      have B3 : But3 h N L H H3 := (But3.s s1).trans (But3.h b13)
      refine ⟨_, _, rfl, ?_⟩
      try dsimp only
      refine cutT (fun σ' H' => H' = H3 ∧ ∃ lot : Int, 0 ≤ lot ∧ lot < 13 ∧ (6 < kn.length → 5 ≤ lot) ∧ σ' = [some (.ref h), some (.ref N), some (.ref L), some (.ref D), some (.int lot), some (.str col), none, none, none, none, none, none, none, none]) (fun N' q' => ?_) ?_
      · refine ⟨_, rfl, L, _, rfl, .inl (SqL.of eL3), _, _, rfl, rfl, _, rfl, ?_⟩
        by_cases c6 : (6 : Int) < ((ts.map V.ref).length : Nat)
        · rw [decide_eq_true c6]
          refine iteT ?_
          refine ⟨_, rfl, _, _, rfl, rfl, _, rfl, ?_⟩
          by_cases c5 : r < 5
          · rw [decide_eq_true c5]
            refine iteT ?_
            refine ⟨_, rfl, _, _, rfl, rfl, ?_⟩
            exact q' _ _ ⟨rfl, 8 + r, by omega, by omega, fun _ => by omega, rfl⟩
          · rw [decide_eq_false c5]
            refine iteF ?_
            exact q' _ _ ⟨rfl, r, by omega, by omega, fun _ => by omega, rfl⟩
        · rw [decide_eq_false c6]
          refine iteF ?_
          exact q' _ _ ⟨rfl, r, by omega, by omega, fun z => by omega, rfl⟩
      · rintro σ' H' ⟨rfl, lot, t0, t13, t5, rfl⟩
        try dsimp only
        refine ⟨_, rfl, rfl, _, rfl, ?_⟩
        by_cases e0 : V.int lot = V.int 0
        · rw [decide_eq_true e0]
          refine iteT ?_
          have lot0 : lot = 0 := by cases e0; rfl
          have k6 : kn.length ≤ 6 := by
            by_cases z : 6 < kn.length
            · have := t5 z
              omega
            · omega
          refine ⟨_, rfl, h, n + 1 + 1, 2, rfl, hd3, by omega, by decide, by decide, fun r2 H4 r20 r21 hd4 bt4 => ?_⟩
          have eN4 := bt4 N _ nh eN3
          have eL4 := bt4 L _ lh eL3
          refine ⟨_, _, rfl, rfl, 2 + r2, rfl, by omega, by omega, fun D2 nD2 => ?_⟩
          have D2N : D2 ≠ N := fun z => by rw [z, eN4] at nD2; cases nD2
          have D2L : D2 ≠ L := fun z => by rw [z, eL4] at nD2; cases nD2
          refine lc_map (walk_range (lo := 0) (n := (2 + r2).toNat)) (h := N) (Z := fun j x => True) (fun j G => Pop ns N j G) (fun j y _ => ∃ z, y = V.str z ∧ ns[ns.length - 1 - j]? = some z) nD2 D2N (fun j G x G' e => ⟨e.1, trivial⟩) (fun _ _ => trivial) (fun _ _ _ _ _ _ e => e) (by omega) (fun _ => rfl) ⟨ns, [], eN4, (List.append_nil ns).symm, rfl⟩ (fun j G l a => by
            obtain ⟨ns', us, e, g⟩ := a
            exact ⟨ns', us, by rw [upd_ne D2N.symm]; exact e, g⟩) ?_ ?_
          · rintro j x G Q2 hj _ btG ⟨ns', us, eN', eu', lu'⟩ _ kk
            refine ⟨_, rfl, pop_names eN' (by have := congrArg List.length eu'; rw [List.length_append] at this; omega) fun z ns2 ez => ?_⟩
            have st := Pop.step (G := upd G N (.lst (ns2.map V.str))) eu' lu' ez upd_same
            exact kk _ _ But.upd st.1 ⟨z, rfl, st.2⟩
          · rintro H5 ys bt5 pp5 eD5 ly hw
            obtain ⟨zs, ns', rfl, eN5, ln5, mn5, hz, pm⟩ := pop_all pp5 ly hw
            rw [List.length_map] at ly
            have eL5 := bt5 L _ nl.symm eL4
            have hd5 := hand_but hd4 nh.symm bt5
            have hts5 : ∀ (j : Nat) (t : Addr) (c : Str × Bool), ts[j]? = some t → kn[j]? = some c → H5 t = some (.tup [.str c.1, .str (kw c.2)]) := fun j t c h1 h2 => by
              have e4 := bt4 t _ (tup_hand hd3 (hts3 j t c h1 h2) fun l z => by cases z) (hts3 j t c h1 h2)
              exact bt5 t _ (tup_ne e4 eN4) e4
            have B5 : But3 h N L H H5 := (B3.trans (But3.h bt4)).trans (But3.n bt5)
            refine gN ?_
            try dsimp only
            refine ⟨_, rfl, .inl ⟨rfl, _, SqL.of eL5⟩, _, rfl, D2, rfl, ⟨_, SqL.of eD5⟩, fun D3 nD3 => ?_⟩
            refine lc_new (walk_list (K := K) (a := D2) (xs := zs.map V.str)) (Z := fun j x => (zs.map V.str)[j]? = some x) (fun j y G => ∃ (t : Addr) (z : Str), y = .ref t ∧ zs[j]? = some z ∧ G t = some (.tup [.str z, .str (kw true)])) nD3 (fun j G x G' e => ⟨e.1, e.2⟩) (fun G sG => SqL.of (sG _ _ eD5)) (fun j y G G' keep ⟨l', eD⟩ ⟨t, z, e1, e2, e3⟩ => ⟨t, z, e1, e2, keep t _ (fun q => by rw [q, eD] at e3; cases e3) e3⟩) (by rw [List.length_map]; omega) (fun _ => rfl) ?_ ?_
            · rintro j x G Q2 hj hx sG kk
              rw [List.getElem?_map] at hx
              obtain ⟨z, hz2, rfl⟩ := Option.map_eq_some_iff.mp hx
              exact ⟨_, rfl, (show 2 ≤ sizeLine by decide), fun p m1 => newO m1 fun G2 s2 e2 => kk _ _ s2 ⟨p, z, rfl, hz2, e2⟩⟩
            · rintro H6 ys6 s6 eD6 ly6 hw6
              rw [List.length_map] at ly6
              obtain ⟨us, rfl, lus, hus⟩ := refs_of ly6 hw6
              have eL6 := s6 _ _ eL5
              refine ⟨L, D3, _, _, rfl, rfl, eL6, eD6, ?_, ?_⟩
              · rw [List.length_map, List.length_map, lts, lus, List.length_map, sizeLine_eq]
                omega
              have b7 : But L H6 (upd H6 L (.lst (ts.map V.ref ++ us.map V.ref))) := But.upd
              have e7 : upd H6 L (.lst (ts.map V.ref ++ us.map V.ref)) L = _ := upd_same
              generalize upd H6 L (.lst (ts.map V.ref ++ us.map V.ref)) = H7 at b7 e7 ⊢
              have kA7 : KnownAt H7 L (kn ++ zs.map fun z => (z, true)) := known_more lts (fun j t c h1 h2 => by
                have e6 := s6 _ _ (hts5 j t c h1 h2)
                exact b7 t _ (tup_ne e6 eL6) e6) lus (fun j t c h1 h2 => by
                have e6 := hus j t c h1 h2
                exact b7 t _ (tup_ne e6 eL6) e6) e7
              have hd7 := hand_but (hd5.mono s6 (Nat.le_refl _)) lh.symm b7
              have eN7 := b7 N _ nl (s6 _ _ eN5)
              have eD7 := b7 D2 _ D2L (s6 _ _ eD5)
              have B7 := (B5.trans (But3.s s6)).trans (But3.l (h := h) (N := N) b7)
              have D2h : D2 ≠ h := (hd4.fresh nD2).symm
              try dsimp only
              unfold tRet
              dsimp only
              refine ⟨_, rfl, _, rfl, pick_str hd7 (by omega) (by decide +kernel) (by decide +kernel) (fun c H8 hc hd8 bt8 => ?_)⟩
              refine ⟨_, rfl, D2, _, rfl, .inl ⟨SqL.of (bt8 D2 _ D2h eD7), fun t m => newO m fun H9 s9 e9 => ⟨(show 4 ≤ sizeLine by decide), fun p m1 => newO m1 fun H10 s10 e10 => ?_⟩⟩⟩
              have s810 := s9.trans s10
              have kA10 := known_but hd7 kA7 lh (bt8.trans (But.of s810))
              refine q p H10 ⟨_, .cut col ⟨#[c]⟩ zs, _, ns', e10, ⟨t, rfl, s10 _ _ e9⟩, ⟨List.mem_append_left _ mcol, one_good (by decide +kernel) c hc, by omega, by omega, fun z h => gns z (hz z h)⟩, kA10, s810 _ _ (bt8 N _ nh eN7), ⟨_, rfl⟩, ?_, ?_, fun z h => gns z (mn5 z h), fun x hx => ?_, (hd8.mono s810 (Nat.le_refl _)).up (by omega), (B7.trans (But3.h bt8)).trans (But3.s s810), rfl, ⟨mcol, one_good (by decide +kernel) c hc, by omega, by omega, fun z h => gns z (hz z h)⟩, ⟨⟨c, rfl, one_lt (by decide +kernel) c hc⟩, fresh_news hfr pm⟩, hfr.move (by rw [fst_map]; exact pm)⟩
              · rw [List.length_append, List.length_map]
                omega
              · rw [List.length_append, List.length_map]
                omega
              · rcases List.mem_append.mp hx with hx | hx
                · exact gkn x hx
                · obtain ⟨z, hz2, rfl⟩ := List.mem_map.mp hx
                  exact gns z (hz z hz2)
        rw [decide_eq_false e0]
        refine iteF ?_
        unfold tNext
        dsimp only
        refine ⟨_, rfl, rfl, _, rfl, ?_⟩
        by_cases e1 : V.int lot = V.int 1
        · rw [decide_eq_true e1]
          refine iteT ?_
          have lot1 : lot = 1 := by cases e1; rfl
          have k6 : kn.length ≤ 6 := by
            by_cases z : 6 < kn.length
            · have := t5 z
              omega
            · omega
          refine ⟨_, rfl, _, rfl, h, n + 1 + 1, 3, rfl, hd3, by omega, by decide, by decide, fun r2 H4 r20 r21 hd4 bt4 => ?_⟩
          have eN4 := bt4 N _ nh eN3
          have eL4 := bt4 L _ lh eL3
          have eD4 := bt4 D _ Dh e3
          refine ⟨_, _, rfl, rfl, 1 + r2, rfl, D, _, rfl, SqL.of eD4, fun D2 nD2 => newO nD2 fun H5 s5 e5 => ?_⟩
          have D2h : D2 ≠ h := (hd4.fresh nD2).symm
          obtain ⟨bs, hbs, lb1, lb3, gbs⟩ : ∃ bs : List Str, cutV (fs.map V.str) none (some (1 + r2)) = bs.map V.str ∧ 1 ≤ bs.length ∧ bs.length ≤ 3 ∧ ∀ z ∈ bs, (z, true) ∈ kn := by
            have er : ((1 + r2).toNat : Int) = 1 + r2 := Int.toNat_of_nonneg (by omega)
            refine ⟨fs.take (1 + r2).toNat, by rw [← er, cut_to, List.map_take]; rfl, ?_, ?_, fun z hz => gfs z (List.mem_of_mem_take hz)⟩
            · rw [List.length_take]
              omega
            · rw [List.length_take]
              omega
          rw [hbs] at e5
          have hd5 := hd4.mono s5 (Nat.le_refl _)
          have eN5 := s5 _ _ eN4
          have eL5 := s5 _ _ eL4
          refine gN ?_
          try dsimp only
          obtain ⟨m, hm, m1, m4⟩ : ∃ m : Int, atI [V.int 4, V.int 2, V.int 2] ((((bs.map V.str).length : Nat) : Int) - 1) = some (V.int m) ∧ 1 ≤ m ∧ m ≤ 4 := by
            rw [List.length_map]
            rcases (show bs.length = 1 ∨ bs.length = 2 ∨ bs.length = 3 by omega) with z | z | z
            · rw [z]
              exact ⟨4, rfl, by decide, by decide⟩
            · rw [z]
              exact ⟨2, rfl, by decide, by decide⟩
            · rw [z]
              exact ⟨2, rfl, by decide, by decide⟩
          refine ⟨_, rfl, (show 3 ≤ sizeLine by decide), fun L3 n3 => newO n3 fun H6 s6 e6 => ?_⟩
          have hd6 := hd5.mono s6 (Nat.le_refl _)
          refine ⟨_, rfl, D2, _, rfl, .inl (SqL.of (s6 _ _ e5)), _, _, rfl, rfl, L3, _, _, V.int m, rfl, rfl, SqL.of e6, hm, h, n + 1 + 1 + 1, m, rfl, hd6, by omega, by omega, by omega, fun r3 H7 r30 r31 hd7 bt7 => ?_⟩
          refine ⟨_, _, rfl, rfl, ?_⟩
          refine gN ?_
          try dsimp only
          have eN7 := bt7 N _ nh (s6 _ _ eN5)
          have eL7 := bt7 L _ lh (s6 _ _ eL5)
          have eD7 := bt7 D2 _ D2h (s6 _ _ e5)
          refine ⟨_, rfl, 1 + r3, rfl, by omega, by omega, fun D4 nD4 => ?_⟩
          refine lc_map (walk_range (lo := 0) (n := (1 + r3).toNat)) (h := h) (Z := fun j x => True) (fun j G => HandAt G h (n + 1 + 1 + 1 + 1 + j)) (fun _ y _ => ∃ z ∈ bs, y = V.str z) nD4 (hd7.fresh nD4).symm (fun j G x G' e => ⟨e.1, trivial⟩) (fun _ _ => trivial) (fun _ _ _ _ _ _ e => e) (by omega) (fun _ => rfl) hd7 (fun j G l a => a.old (hd7.fresh nD4)) ?_ ?_
          · rintro j x G Q2 hj _ btG hdG _ kk
            refine ⟨_, rfl, _, rfl, pick_old hdG (by omega) (SqL.of (btG D2 _ D2h eD7)) D2h (by rw [List.length_map]; omega) (by rw [List.length_map]; omega) (fun y H1 hy hd1 bt1 => ?_)⟩
            obtain ⟨z, hz, rfl⟩ := List.mem_map.mp hy
            exact kk _ _ bt1 (hd1.up (by omega)) ⟨z, hz, rfl⟩
          · rintro H8 ys bt8 hd8 eD8 ly hw
            obtain ⟨zs, rfl, hz⟩ : ∃ zs : List Str, ys = zs.map V.str ∧ ∀ z ∈ zs, z ∈ bs := strs_of fun j y e => by
              obtain ⟨z, h1, h2⟩ := hw j y e
              exact ⟨z, h2, h1⟩
            rw [List.length_map] at ly
            have eN8 := bt8 N _ nh eN7
            have eL8 := bt8 L _ lh eL7
            have B8 : But3 h N L H H8 := ((((B3.trans (But3.h bt4)).trans (But3.s s5)).trans (But3.s s6)).trans (But3.h bt7)).trans (But3.h bt8)
            have b38 : But h H' H8 := (((bt4.trans (But.of s5)).trans (But.of s6)).trans bt7).trans bt8
            have hts8 : ∀ (j : Nat) (t : Addr) (c : Str × Bool), ts[j]? = some t → kn[j]? = some c → H8 t = some (.tup [.str c.1, .str (kw c.2)]) := fun j t c h1 h2 => b38 t _ (tup_hand hd3 (hts3 j t c h1 h2) fun l z => by cases z) (hts3 j t c h1 h2)
            refine gN ?_
            try dsimp only
            have D4N : D4 ≠ N := fun z => by rw [z, eN7] at nD4; cases nD4
            have D4L : D4 ≠ L := fun z => by rw [z, eL7] at nD4; cases nD4
            refine ⟨_, rfl, .inl ⟨rfl, _, SqL.of eL8⟩, _, rfl, pop_names eN8 (by omega) fun z ns2 ez => ?_⟩
            obtain ⟨hz2, l2, m2⟩ := pop_facts ez
            have b9 : But N H8 (upd H8 N (.lst (ns2.map V.str))) := But.upd
            have e9 : upd H8 N (.lst (ns2.map V.str)) N = _ := upd_same
            generalize upd H8 N (.lst (ns2.map V.str)) = H9 at b9 e9 ⊢
            refine ⟨(show 2 ≤ sizeLine by decide), fun t m1 => newO m1 fun H10 s10 e10 => ?_⟩
            have eL10 := s10 _ _ (b9 L _ nl.symm eL8)
            refine ⟨L, _, _, rfl, rfl, eL10, by rw [List.length_map, lts, sizeLine_eq]; omega, ?_⟩
            have b11 : But L H10 (upd H10 L (.lst (ts.map V.ref ++ [V.ref t]))) := But.upd
            have e11 : upd H10 L (.lst (ts.map V.ref ++ [V.ref t])) L = _ := upd_same
            generalize upd H10 L (.lst (ts.map V.ref ++ [V.ref t])) = H11 at b11 e11 ⊢
            have tL : t ≠ L := tup_ne e10 eL10
            have kA11 : KnownAt H11 L (kn ++ [(z, true)]) := known_more (us := [t]) lts (fun j t c h1 h2 => by
              have x8 := hts8 j t c h1 h2
              have x10 := s10 _ _ (b9 t _ (tup_ne x8 eN8) x8)
              exact b11 t _ (tup_ne x10 eL10) x10) rfl (fun j t' c h1 h2 => by
              cases j with
              | zero =>
                cases h1
                cases h2
                exact b11 t _ tL e10
              | succ j => simp at h1) e11
            have hd11 := hand_but ((hand_but hd8 nh.symm b9).mono s10 (Nat.le_refl _)) lh.symm b11
            have eN11 := b11 N _ nl (s10 _ _ e9)
            have eD11 := b11 D4 _ D4L (s10 _ _ (b9 D4 _ D4N eD8))
            have B11 := (((B8.trans (But3.n b9)).trans (But3.s s10))).trans (But3.l (h := h) (N := N) b11)
            have e11t := b11 t _ tL e10
            try dsimp only
            unfold tRet
            dsimp only
            refine ⟨_, rfl, D4, _, rfl, .inl ⟨SqL.of eD11, fun u mu => newO mu fun H12 s12 e12 => ?_⟩⟩
            have hd12 := hd11.mono s12 (Nat.le_refl _)
            refine ⟨_, rfl, pick_str hd12 (by omega) (by decide +kernel) (by decide +kernel) (fun c H13 hc hd13 bt13 => ?_)⟩
            have eL13 := bt13 L _ lh (s12 _ _ e11)
            have e13t := bt13 t _ (tup_hand hd12 (s12 _ _ e11t) fun l z => by cases z) (s12 _ _ e11t)
            refine ⟨_, rfl, _, rfl, L, _, _, V.ref t, rfl, rfl, SqL.of eL13, ?_, ?_⟩
            · exact atI_last _ _
            refine ⟨t, _, _, V.str z, rfl, rfl, SqT.of e13t, rfl, (show 4 ≤ sizeLine by decide), fun p m3 => newO m3 fun H14 s14 e14 => ?_⟩
            have kA14 := known_but hd11 kA11 lh (((But.of s12).trans bt13).trans (But.of s14))
            refine q p H14 ⟨_, .glue zs ⟨#[c]⟩ z, _, ns2, e14, ⟨u, rfl, s14 _ _ (bt13 u _ (tup_hand hd12 e12 fun l z => by cases z) e12)⟩, ⟨fun x hx => List.mem_append_left _ (gbs x (hz x hx)), by omega, by omega, one_good (by decide +kernel) c hc, gns z hz2⟩, kA14, s14 _ _ (bt13 N _ nh (s12 _ _ eN11)), ⟨_, rfl⟩, ?_, ?_, fun x hx => gns x (m2 x hx), fun x hx => ?_, (hd13.mono s14 (Nat.le_refl _)).up (by omega), ((B11.trans (But3.s s12)).trans (But3.h bt13)).trans (But3.s s14), rfl, ⟨fun x hx => gbs x (hz x hx), by omega, by omega, one_good (by decide +kernel) c hc, gns z hz2⟩, k6, hfr.move (e := [(z, true)]) (by rw [ez]; exact List.Perm.refl _)⟩
            · rw [List.length_append]
              show ns2.length + (kn.length + 1) = 24
              omega
            · rw [List.length_append]
              show kn.length + 1 ≤ 9
              omega
            · rcases List.mem_append.mp hx with hx | hx
              · exact gkn x hx
              · rw [List.mem_singleton.mp hx]
                exact gns z hz2
        rw [decide_eq_false e1]
        refine iteF ?_
        dsimp only
        have kA3 : KnownAt H' L kn := ⟨ts, lts, eL3, hts3⟩
        have tail : ∀ (p : Addr) (vs : List V) (dd : Dd) (H4 : Hp), H4 p = some (.tup vs) → dd.At H4 vs → dd.wt kn → dd.adds = [] → dd.xt kn → HandAt H4 h (n + 30) → But h H' H4 → Q (.ref p) H4 := fun p vs dd H4 e4 at4 wt4 ad4 xt4 hd4 bt4 =>
          q p H4 ⟨vs, dd, kn, ns, e4, at4, wt4, known_but hd3 kA3 lh bt4, bt4 N _ nh eN3, ⟨[], by simp⟩, l24, l9, gns, gkn, hd4.up (by omega), B3.trans (But3.h bt4), by rw [ad4, List.append_nil], wt4, xt4, hfr⟩
        refine ⟨_, rfl, rfl, _, rfl, ?_⟩
        by_cases e2 : V.int lot = V.int 2
        · rw [decide_eq_true e2]
          refine iteT ?_
          unfold tRet
          dsimp only
          exact ⟨_, rfl, _, rfl, h, n + 1 + 1, col, kn, rfl, hd3, by omega, mcol, fun p vs dd H4 e4 at4 wt4 ad4 xt4 hd4 bt4 => tail p vs dd H4 e4 at4 wt4 ad4 xt4 (hd4.up (by omega)) bt4⟩
        rw [decide_eq_false e2]
        refine iteF ?_
        dsimp only
        refine ⟨_, rfl, _, _, rfl, rfl, _, rfl, ?_⟩
        by_cases c5 : lot < 5
        · rw [decide_eq_true c5]
          refine iteT ?_
          have k6 : kn.length ≤ 6 := by
            by_cases z : 6 < kn.length
            · have := t5 z
              omega
            · omega
          refine ⟨_, rfl, .inl ⟨rfl, _, SqL.of eL3⟩, _, rfl, pop_names eN3 (by omega) fun z ns2 ez => ?_⟩
          obtain ⟨hz2, l2, m2⟩ := pop_facts ez
          have b9 : But N H' (upd H' N (.lst (ns2.map V.str))) := But.upd
          have e9 : upd H' N (.lst (ns2.map V.str)) N = _ := upd_same
          generalize upd H' N (.lst (ns2.map V.str)) = H9 at b9 e9 ⊢
          refine ⟨(show 2 ≤ sizeLine by decide), fun t m1 => newO m1 fun H10 s10 e10 => ?_⟩
          have eL10 := s10 _ _ (b9 L _ nl.symm eL3)
          refine ⟨L, _, _, rfl, rfl, eL10, by rw [List.length_map, lts, sizeLine_eq]; omega, ?_⟩
          have b11 : But L H10 (upd H10 L (.lst (ts.map V.ref ++ [V.ref t]))) := But.upd
          have e11 : upd H10 L (.lst (ts.map V.ref ++ [V.ref t])) L = _ := upd_same
          generalize upd H10 L (.lst (ts.map V.ref ++ [V.ref t])) = H11 at b11 e11 ⊢
          have tL : t ≠ L := tup_ne e10 eL10
          have kA11 : KnownAt H11 L (kn ++ [(z, false)]) := known_more (us := [t]) lts (fun j t c h1 h2 => by
            have x8 := hts3 j t c h1 h2
            have x10 := s10 _ _ (b9 t _ (tup_ne x8 eN3) x8)
            exact b11 t _ (tup_ne x10 eL10) x10) rfl (fun j t' c h1 h2 => by
            cases j with
            | zero =>
              cases h1
              cases h2
              exact b11 t _ tL e10
            | succ j => simp at h1) e11
          have hd11 := hand_but ((hand_but hd3 nh.symm b9).mono s10 (Nat.le_refl _)) lh.symm b11
          have eN11 := b11 N _ nl (s10 _ _ e9)
          have B11 := (((B3.trans (But3.n b9)).trans (But3.s s10))).trans (But3.l (h := h) (N := N) b11)
          have e11t := b11 t _ tL e10
          try dsimp only
          unfold tRet
          dsimp only
          refine ⟨_, rfl, _, rfl, h, n + 1 + 1, rfl, hd11, by omega, fun fo fv H13 ffo e13 hd13 bt13 => ?_⟩
          have eL13 := bt13 L _ lh e11
          have e13t := bt13 t _ (tup_hand hd11 e11t fun l z => by cases z) e11t
          refine ⟨_, rfl, _, rfl, L, _, _, V.ref t, rfl, rfl, SqL.of eL13, atI_last _ _, ?_⟩
          refine ⟨t, _, _, V.str z, rfl, rfl, SqT.of e13t, rfl, (show 4 ≤ sizeLine by decide), fun p m3 => newO m3 fun H14 s14 e14 => ?_⟩
          have kA14 := known_but hd11 kA11 lh (bt13.trans (But.of s14))
          refine q p H14 ⟨_, .read col fv z, _, ns2, e14, ⟨fo, rfl, s14 _ _ e13⟩, ⟨List.mem_append_left _ mcol, ffo, gns z hz2⟩, kA14, s14 _ _ (bt13 N _ nh eN11), ⟨_, rfl⟩, ?_, ?_, fun x hx => gns x (m2 x hx), fun x hx => ?_, (hd13.mono s14 (Nat.le_refl _)).up (by omega), (B11.trans (But3.h bt13)).trans (But3.s s14), rfl, ⟨mcol, ffo, gns z hz2⟩, trivial, hfr.move (e := [(z, false)]) (by rw [ez]; exact List.Perm.refl _)⟩
          · rw [List.length_append]
            show ns2.length + (kn.length + 1) = 24
            omega
          · rw [List.length_append]
            show kn.length + 1 ≤ 9
            omega
          · rcases List.mem_append.mp hx with hx | hx
            · exact gkn x hx
            · rw [List.mem_singleton.mp hx]
              exact gns z hz2
        rw [decide_eq_false c5]
        refine iteF ?_
        dsimp only
        refine ⟨_, rfl, _, _, rfl, rfl, _, rfl, ?_⟩
        by_cases c9 : 9 < lot
        · rw [decide_eq_true c9]
          refine iteT ?_
          unfold tRet
          dsimp only
          refine ⟨_, rfl, _, rfl, pick_known hd3 (by omega) kA3 lh sh (fun t col2 k H4 mc et4 hd4 bt4 => ?_)⟩
          refine ⟨t, _, _, V.str col2, rfl, rfl, SqT.of et4, rfl, (show 0 ≤ sizeLine by decide), fun u m1 => newO m1 fun H5 s5 e5 => ⟨(show 3 ≤ sizeLine by decide), fun p m2 => newO m2 fun H6 s6 e6 => ?_⟩⟩
          exact tail p _ (.fill col2 []) H6 e6 ⟨u, rfl, s6 _ _ e5⟩ ⟨⟨k, mc⟩, by decide, fun c hc => by cases hc⟩ rfl trivial ((hd4.mono (s5.trans s6) (Nat.le_refl _)).up (by omega)) (bt4.trans (But.of (s5.trans s6)))
        rw [decide_eq_false c9]
        refine iteF ?_
        dsimp only
        unfold tRet
        dsimp only
        refine ⟨_, rfl, rfl, _, rfl, ?_⟩
        by_cases e5 : V.int lot = V.int 5
        · rw [decide_eq_true e5]
          refine iteT ?_
          exact ⟨_, rfl, _, rfl, h, L, n + 1 + 1, kn, rfl, hd3, by omega, kA3, lh, sh, fun p vs dd H4 e4 at4 wt4 ad4 xt4 hd4 bt4 => tail p vs dd H4 e4 at4 wt4 ad4 xt4 (hd4.up (by omega)) bt4⟩
        rw [decide_eq_false e5]
        refine iteF ?_
        exact ⟨_, rfl, _, rfl, _, rfl, h, L, n + 1 + 1, lot, kn, rfl, hd3, by omega, kA3, lh, sh, fun p vs dd H4 e4 at4 wt4 ad4 xt4 hd4 bt4 => tail p vs dd H4 e4 at4 wt4 ad4 xt4 (hd4.up (by omega)) bt4⟩
end
end K86
set_option Elab.async false
set_option linter.all false
set_option maxRecDepth 100000
set_option maxHeartbeats 4000000
/-! Gd: tuples of tuples of texts and numbers, as data -/
namespace Gd
open PySem PySem.Spec PyProof.Rows L2 Bs Xg TL Xm Gn
inductive TD (H : Hp) : V → PyData → Prop
  | str (z : Str) : TD H (.str z) (.str z)
  | int (i : Int) : TD H (.int i) (.int i)
  | non : TD H .non .none
  | tup {a : Addr} (ps : List (V × PyData)) : H a = some (.tup (ps.map (·.1))) → (∀ p ∈ ps, TD H p.1 p.2) → TD H (.ref a) (.tuple (ps.map (·.2)))
/-- tuples stay -/
def Tst (H H' : Hp) : Prop := ∀ a xs, H a = some (.tup xs) → H' a = some (.tup xs)
theorem Tst.refl (H : Hp) : Tst H H := fun _ _ e => e
theorem Tst.trans {H H1 H2 : Hp} (a : Tst H H1) (b : Tst H1 H2) : Tst H H2 := fun x xs e => b x xs (a x xs e)
theorem Tst.of {H H' : Hp} (s : Same H H') : Tst H H' := fun a xs e => s a _ e
theorem tup_ne {H : Hp} {t a : Addr} {xs ys : List V} (e : H t = some (.tup xs)) (f : H a = some (.lst ys)) : t ≠ a := by
  rintro rfl
  rw [e] at f
  cases f
theorem hand_lst {H : Hp} {h : Addr} {n : Nat} (a : HandAt H h n) : ∃ l, H h = some (.lst l) := by
  obtain ⟨g, t, c, e, _⟩ := a
  exact ⟨_, e⟩
theorem Tst.but {H H' : Hp} {h : Addr} (e : ∃ l, H h = some (.lst l)) (b : But h H H') : Tst H H' := fun a xs f => by
  obtain ⟨l, e⟩ := e
  exact b _ _ (tup_ne f e) f
theorem Tst.hand {H H' : Hp} {h : Addr} {n : Nat} (e : HandAt H h n) (b : But h H H') : Tst H H' := .but (hand_lst e) b
theorem TD.keep {H H' : Hp} {x : V} {d : PyData} (h : TD H x d) (s : Tst H H') : TD H' x d := by
  induction h with
  | str z => exact .str z
  | int i => exact .int i
  | non => exact .non
  | tup ps e _ ih => exact .tup ps (s _ _ e) ih
def TDs (H : Hp) : List V → List PyData → Prop
  | [], [] => True
  | v :: vs, d :: ds => TD H v d ∧ TDs H vs ds
  | _, _ => False
theorem TDs.ps {H : Hp} : ∀ {vs : List V} {ds : List PyData}, TDs H vs ds → ∃ ps : List (V × PyData), ps.map (·.1) = vs ∧ ps.map (·.2) = ds ∧ ∀ p ∈ ps, TD H p.1 p.2
  | [], [], _ => ⟨[], rfl, rfl, by simp⟩
  | v :: vs, d :: ds, h => by
    obtain ⟨ps, e1, e2, g⟩ := TDs.ps h.2
    refine ⟨(v, d) :: ps, by rw [List.map_cons, e1], by rw [List.map_cons, e2], fun p hp => ?_⟩
    rcases List.mem_cons.mp hp with rfl | hp
    · exact h.1
    · exact g p hp
  | [], _ :: _, h => h.elim
  | _ :: _, [], h => h.elim
theorem TDs.of {H : Hp} : ∀ {ps : List (V × PyData)}, (∀ p ∈ ps, TD H p.1 p.2) → TDs H (ps.map (·.1)) (ps.map (·.2))
  | [], _ => trivial
  | p :: ps, h => ⟨h p List.mem_cons_self, TDs.of fun q hq => h q (List.mem_cons_of_mem _ hq)⟩
theorem TDs.keep {H H' : Hp} {vs : List V} {ds : List PyData} (h : TDs H vs ds) (s : Tst H H') : TDs H' vs ds := by
  obtain ⟨ps, rfl, rfl, g⟩ := h.ps
  exact TDs.of fun p hp => (g p hp).keep s
theorem TDs.app {H : Hp} {vs us : List V} {ds es : List PyData} (h : TDs H vs ds) (g : TDs H us es) : TDs H (vs ++ us) (ds ++ es) := by
  obtain ⟨ps, rfl, rfl, g1⟩ := h.ps
  obtain ⟨qs, rfl, rfl, g2⟩ := g.ps
  rw [← List.map_append, ← List.map_append]
  exact TDs.of fun p hp => (List.mem_append.mp hp).elim (g1 p) (g2 p)
theorem TDs.len {H : Hp} {vs : List V} {ds : List PyData} (h : TDs H vs ds) : vs.length = ds.length := by
  obtain ⟨ps, rfl, rfl, g⟩ := h.ps
  rw [List.length_map, List.length_map]
theorem TDs.at {H : Hp} {vs : List V} {ds : List PyData} (h : TDs H vs ds) {j : Nat} {v : V} (e : vs[j]? = some v) : ∃ d, ds[j]? = some d ∧ TD H v d := by
  obtain ⟨ps, rfl, rfl, g⟩ := h.ps
  rw [List.getElem?_map] at e
  obtain ⟨p, hp, rfl⟩ := Option.map_eq_some_iff.mp e
  exact ⟨p.2, by rw [List.getElem?_map, hp]; rfl, g p (List.mem_of_getElem? hp)⟩
theorem TDs.strs {H : Hp} : ∀ zs : List Str, TDs H (zs.map V.str) (zs.map PyData.str)
  | [] => trivial
  | z :: zs => ⟨.str z, TDs.strs zs⟩
theorem TDs.ints {H : Hp} : ∀ zs : List Int, TDs H (zs.map V.int) (zs.map PyData.int)
  | [] => trivial
  | z :: zs => ⟨.int z, TDs.ints zs⟩
theorem TDs.refs {H : Hp} {α : Type} {f : α → PyData} {R : Addr → α → Prop} (hR : ∀ a x, R a x → TD H (.ref a) (f x)) : ∀ {as : List Addr} {xs : List α}, as.length = xs.length → (∀ (j : Nat) (a : Addr) (x : α), as[j]? = some a → xs[j]? = some x → R a x) → TDs H (as.map V.ref) (xs.map f)
  | [], [], _, _ => trivial
  | a :: as, x :: xs, l, g => ⟨hR a x (g 0 a x rfl rfl), TDs.refs hR (by simpa using l) fun j a x h1 h2 => g (j + 1) a x (by simpa using h1) (by simpa using h2)⟩
  | [], _ :: _, l, _ => by simp at l
  | _ :: _, [], l, _ => by simp at l
theorem TD.mk {H : Hp} {a : Addr} {vs : List V} {ds : List PyData} (e : H a = some (.tup vs)) (h : TDs H vs ds) : TD H (.ref a) (.tuple ds) := by
  obtain ⟨ps, rfl, rfl, g⟩ := h.ps
  exact .tup ps e g
theorem TD.inv {H : Hp} {x : V} {ds : List PyData} (h : TD H x (.tuple ds)) : ∃ a vs, x = .ref a ∧ H a = some (.tup vs) ∧ TDs H vs ds := by
  generalize e : PyData.tuple ds = d at h
  cases h with
  | tup ps e1 g =>
    cases e
    exact ⟨_, _, rfl, e1, TDs.of g⟩
  | _ => cases e
theorem TD.invS {H : Hp} {x : V} {z : Str} (h : TD H x (.str z)) : x = .str z := by
  cases h
  rfl
theorem TDs.c {H : Hp} {vs : List V} {d : PyData} {ds : List PyData} (h : TDs H vs (d :: ds)) : ∃ v us, vs = v :: us ∧ TD H v d ∧ TDs H us ds := by
  cases vs with
  | nil => exact h.elim
  | cons v us => exact ⟨v, us, rfl, h.1, h.2⟩
theorem TDs.n {H : Hp} {vs : List V} (h : TDs H vs []) : vs = [] := by
  cases vs with
  | nil => rfl
  | cons v us => exact h.elim
theorem TDs.invS {H : Hp} : ∀ {vs : List V} {zs : List Str}, TDs H vs (zs.map PyData.str) → vs = zs.map V.str
  | [], [], _ => rfl
  | v :: vs, z :: zs, h => by
    have h1 := TD.invS h.1
    subst h1
    rw [List.map_cons, TDs.invS h.2]
  | [], _ :: _, h => h.elim
  | _ :: _, [], h => h.elim
theorem TD.dr {K : PySem.W.Frag} {H : Hp} {x : V} {d : PyData} (h : TD H x d) : Dr K H x d := by
  induction h with
  | str z => exact .q (.str z)
  | int i => exact .q (.int i)
  | non => exact .q .non
  | tup ps e _ ih => exact .tup ps (SqT.of e) ih
theorem dpAll_of {K : PySem.W.Frag} {H : Hp} : ∀ {ps : List (V × PyData)}, (∀ p ∈ ps, Dp K H p.1 p.2) → DpAll K H (ps.map (·.1)) (ps.map (·.2))
  | [], _ => .nil
  | p :: ps, h => .cons (h p List.mem_cons_self) (dpAll_of fun q hq => h q (List.mem_cons_of_mem _ hq))
theorem TD.dp {K : PySem.W.Frag} {H : Hp} {x : V} {d : PyData} (h : TD H x d) : Dp K H x d := by
  induction h with
  | str z => exact .str z
  | int i => exact .int i
  | non => exact .non
  | tup ps e _ ih => exact .tup (SqT.of e) (dpAll_of ih)
/-! ### a comprehension with a test of which nothing is known -/
section
variable {J : It} {n : Nat} {Gd : Hp → Prop} {Y : Nat → Hp → V → Hp → Prop}
theorem lc_some {α : Type} (w : Walk J n Gd Y) {g : TG} {tt : TT} {te : TE} {vs : List Nat} {σ : L2.St} {H : Hp} {D : Addr} {Q : Hp → Prop} (xs : List α) (f : α → V) (len : xs.length = n) (nD : H D = none) (hG : ∀ G, Same H G → Gd G) (small : n < 100000)
    (turn : ∀ j a x G G' (R : V → Hp → Prop) (N : Hp → Prop), xs[j]? = some a → Same H G → Y j G x G' → (∀ G2, Same G G2 → R (f a) G2) → (∀ G2, Same G G2 → N G2) → g x (wipe σ vs) G' fun σ2 H2 => wipe σ2 vs = wipe σ vs ∧ tt σ2 H2 fun b H3 =>
      if b = true then te σ2 H3 R else N H3)
    (fin : ∀ (G : Hp) (ys : List α), Same H G → G D = some (.lst (ys.map f)) → ys.Sublist xs → Q G) :
    ∃ W : Nat → Nat → Hp → Prop, (∃ m, W 0 m (upd H D (.lst []))) ∧ ∀ i m G, W i m G →
      (J.stop i G ∧ Q G) ∨ (J.go i G ∧ ∃ Nx : Hp → Prop, (∀ H', Nx H' → ∃ m', m' < m ∧ W (i + 1) m' H') ∧ ∀ x H', J.yld i G x H' → g x (wipe σ vs) H' fun σ2 H2 => wipe σ2 vs = wipe σ vs ∧ tt σ2 H2 fun b H3 =>
        if b = true then te σ2 H3 fun y H4 => ∃ acc, H4 D = some (.lst acc) ∧ acc.length < sizeLine ∧ Nx (upd H4 D (.lst (acc ++ [y]))) else Nx H3) := by
  refine lc_it w (fun j G => Same H G ∧ ∃ ys : List α, ys.Sublist (xs.take j) ∧ G D = some (.lst (ys.map f))) ⟨Same.new nD, [], List.nil_sublist _, upd_same⟩ (fun j G _ q => hG G q.1) ?_ ?_
  · rintro j x G G' hj ⟨sG, ys, sb, eD⟩ hy
    have hk : xs[j]? = some xs[j] := List.getElem?_eq_getElem (by omega)
    have tk : xs.take (j + 1) = xs.take j ++ [xs[j]] := by rw [List.take_succ, hk]; rfl
    have lb := sb.length_le
    rw [List.length_take] at lb
    refine turn j xs[j] x G G' _ _ hk sG hy (fun G2 s2 => ⟨_, s2 _ _ eD, ?_, fun b o e => ?_, ys ++ [xs[j]], ?_, ?_⟩) (fun G2 s2 => ⟨sG.trans s2, ys, ?_, s2 _ _ eD⟩)
    · rw [List.length_map, sizeLine_eq]
      omega
    · rw [upd_ne (ne_of_none e nD)]
      exact s2 _ _ (sG b o e)
    · rw [tk]
      exact sb.append (List.Sublist.refl _)
    · rw [upd_same, List.map_append]
      rfl
    · rw [tk]
      exact sb.trans (List.sublist_append_left _ _)
  · rintro G ⟨sG, ys, sb, eD⟩
    rw [List.take_of_length_le (by omega)] at sb
    exact fin G ys sG eD sb
end
end Gd
set_option Elab.async false
set_option linter.all false
set_option pp.maxSteps 4000
set_option maxRecDepth 100000
set_option maxHeartbeats 4000000
/-! k86: what steps touch -/
namespace K86
open PySem PySem.Spec PyProof.Rows L2 Bs Xg TL Xm Xs Gn Gd
abbrev sTo : Stmt := top 42
theorem iteNo {p : Prop} [Decidable p] {A B : Prop} (n : ¬ p) (h : B) : if decide p = true then A else B := by
  rw [decide_eq_false n]
  exact iteF h
theorem iteYe {p : Prop} [Decidable p] {A B : Prop} (n : p) (h : A) : if decide p = true then A else B := by
  rw [decide_eq_true n]
  exact iteT h
theorem iteB0 {b : Bool} {A B : Prop} (n : b = false) (h : B) : if b = true then A else B := by
  rw [n]
  exact iteF h
theorem iteB1 {b : Bool} {A B : Prop} (n : b = true) (h : A) : if b = true then A else B := by
  rw [n]
  exact iteT h
section
variable {X : Cx}
theorem op_in_seqK {K : PySem.W.Frag} (hK : X.K = K) : OpR X (compareOp .In) (rIn K false) := hK ▸ op_in_seq
theorem op_notIn_seqK {K : PySem.W.Frag} (hK : X.K = K) : OpR X (compareOp .NotIn) (rIn K true) := hK ▸ op_notIn_seq
end
/-- a step -/
def StAt (H : Hp) (p : Addr) (nm : Str) (dd : Dd) (kn : List (Str × Bool)) : Prop := ∃ vs, H p = some (.tup (.str nm :: vs)) ∧ dd.At H vs ∧ dd.wt kn
theorem Dd.At.keep {H H' : Hp} {vs : List V} {dd : Dd} (h : dd.At H vs) (s : Tst H H') : dd.At H' vs := by
  cases dd with
  | spell col ps =>
    obtain ⟨t, e, qs, l, e1, g⟩ := h
    exact ⟨t, e, qs, l, s _ _ e1, fun j q p h1 h2 => s _ _ (g j q p h1 h2)⟩
  | cut | glue | read | among | fill =>
    obtain ⟨t, e, e1⟩ := h
    exact ⟨t, e, s _ _ e1⟩
  | put | within | before | given => exact h
theorem StAt.keep {H H' : Hp} {p : Addr} {nm : Str} {dd : Dd} {kn : List (Str × Bool)} (h : StAt H p nm dd kn) (s : Tst H H') : StAt H' p nm dd kn := by
  obtain ⟨vs, e, a, w⟩ := h
  exact ⟨vs, s _ _ e, a.keep s, w⟩
/-- two lists of words -/
def ToAt (H : Hp) (L : Addr) : Prop := ∃ (A B : Addr) (xs ys : List Str), H L = some (.lst [.ref A, .ref B]) ∧ H A = some (.lst (xs.map V.str)) ∧ H B = some (.lst (ys.map V.str)) ∧ xs.length ≤ 9 ∧ ys.length ≤ 9
theorem to_mk {H : Hp} {L A B : Addr} (xs ys : List Str) (e : H L = some (.lst [.ref A, .ref B])) (e1 : H A = some (.lst (xs.map V.str))) (e2 : H B = some (.lst (ys.map V.str))) (l : xs.length ≤ 9) (m : ys.length ≤ 9) : ToAt H L := ⟨A, B, xs, ys, e, e1, e2, l, m⟩
section
variable {P : Program} {w : World} {K : PySem.W.Frag} {mg : Str → Option Value} {base : Heap}
theorem scTo : FnScope ["_law_step", "_law_word"] ["_law_step"] (defScope sTo) := ⟨rfl, rfl, rfl, by decide +kernel, rfl, by decide +kernel, by decide +kernel⟩
def spTo : Sp := fun vs H Q _ => ∃ (p : Addr) (nm : Str) (dd : Dd) (kn : List (Str × Bool)), vs = [.ref p] ∧ StAt H p nm dd kn ∧ ∀ (L : Addr) (H' : Hp), ToAt H' L → Same H H' → Q (.ref L) H'
theorem ok_touches {f : Addr} {fd : FuncData} (F : Fun K "_law_touches" "_law_touches" sTo f fd) (T : Free mg) : FnOk P w K mg base CX0 1 f fd ["_law_step"] spTo := by
  refine F.ok scTo (fun vs H Q E h => ?_) (fun cdv A outer s H vs Q E hr h => ?_)
  · obtain ⟨p, nm, dd, kn, rfl, _⟩ := h
    rfl
  · obtain ⟨p, nm, dd, kn, rfl, ⟨vs, e, da, dw⟩, k⟩ := h
    refine ⟨_, pss_cons (ps_set (i := 1) scTo.nd rfl (Or.inl rfl) (pe_ix (ix_tupK (K := K) rfl) (pv 0) pe_int (fun _ _ => rfl)))
      (pss_cons (ps_if (pt_cmpR op_eq (pv 1) pe_str (nomark _)) (pss_one (ps_ret (pe_lst (pa_cons (pe_lst (pa_cons (pe_ix (ix_tupK (K := K) rfl) (pv 0) pe_int (fun _ _ => rfl)) pa_nil)) (pa_cons (pe_op op_cat (pe_callTy call_list_of (by rfl) T.list (by decide +kernel) (pa_cons (pe_ix (ix_tupK (K := K) rfl) (pv 0) pe_int (fun _ _ => rfl)) pa_nil)) (pe_lst (pa_cons pe_str pa_nil))) pa_nil))))) (pss_nil))
      (pss_cons (ps_if (pt_cmpR op_eq (pv 1) pe_str (nomark _)) (pss_one (ps_ret (pe_lst (pa_cons (pe_callTy call_list_of (by rfl) T.list (by decide +kernel) (pa_cons (pe_ix (ix_tupK (K := K) rfl) (pv 0) pe_int (fun _ _ => rfl)) pa_nil)) (pa_cons (pe_lst (pa_cons (pe_ix (ix_tupK (K := K) rfl) (pv 0) pe_int (fun _ _ => rfl)) pa_nil)) pa_nil))))) (pss_nil))
      (pss_cons (ps_if (pt_cmpR op_eq (pv 1) pe_str (nomark _)) (pss_one (ps_ret (pe_lst (pa_cons (pe_lst (pa_cons (pe_ix (ix_tupK (K := K) rfl) (pv 0) pe_int (fun _ _ => rfl)) pa_nil)) (pa_cons (pe_lst (pa_cons (pe_ix (ix_tupK (K := K) rfl) (pv 0) pe_int (fun _ _ => rfl)) (pa_cons pe_str pa_nil))) pa_nil))))) (pss_nil))
      (pss_cons (ps_if (pt_cmpR (op_in_seqK (K := K) rfl) (pv 1) (pe_tup (pa_cons pe_str (pa_cons pe_str pa_nil))) rfl) (pss_one (ps_ret (pe_lst (pa_cons (pe_lst (pa_cons (pe_ix (ix_tupK (K := K) rfl) (pv 0) pe_int (fun _ _ => rfl)) pa_nil)) (pa_cons (pe_lst (pa_cons (pe_ix (ix_tupK (K := K) rfl) (pv 0) pe_int (fun _ _ => rfl)) pa_nil)) pa_nil))))) (pss_nil))
      (pss_cons (ps_if (pt_cmpR op_eq (pv 1) pe_str (nomark _)) (pss_one (ps_ret (pe_lst (pa_cons (pe_op op_cat (pe_lst (pa_cons (pe_ix (ix_tupK (K := K) rfl) (pv 0) pe_int (fun _ _ => rfl)) (pa_cons pe_str pa_nil))) (pe_callTy call_list_of (by rfl) T.list (by decide +kernel) (pa_cons (pe_ix (ix_tupK (K := K) rfl) (pv 0) pe_int (fun _ _ => rfl)) pa_nil))) (pa_cons (pe_lst (pa_cons (pe_ix (ix_tupK (K := K) rfl) (pv 0) pe_int (fun _ _ => rfl)) pa_nil)) pa_nil))))) (pss_nil))
      (pss_one (ps_ret (pe_lst (pa_cons (pe_ifExp (pt_cmpR op_eq (pv 1) pe_str (nomark _)) (pe_lst (pa_cons (pe_ix (ix_tupK (K := K) rfl) (pv 0) pe_int (fun _ _ => rfl)) (pa_cons (pe_ix (ix_tupK (K := K) rfl) (pv 0) pe_int (fun _ _ => rfl)) pa_nil))) (pe_lst (pa_cons (pe_ix (ix_tupK (K := K) rfl) (pv 0) pe_int (fun _ _ => rfl)) pa_nil))) (pa_cons (pe_lst (pa_cons pe_str pa_nil)) pa_nil)))))))))), ?_⟩
    cases dd with
    | cut col s news =>
      obtain ⟨t, rfl, et⟩ := da
      refine ⟨_, rfl, p, _, _, V.str "cut", rfl, rfl, SqT.of e, rfl, ?_⟩
      refine gN ?_
      try dsimp only
      refine ⟨_, rfl, rfl, _, rfl, iteYe rfl ?_⟩
      try unfold tRet
      try dsimp only
      refine ⟨_, rfl, p, _, _, V.str col, rfl, rfl, SqT.of (e), rfl, (show 1 ≤ sizeLine by decide), fun A nA => newO nA fun H1 s1 e1 => ?_⟩
      refine ⟨_, rfl, p, _, _, V.ref t, rfl, rfl, SqT.of (s1 _ _ e), rfl, t, news.map V.str, rfl, .inr (SqT.of (s1 _ _ et)), fun l nl => newO nl fun H2 s2 e2 => ?_⟩
      refine ⟨(show 1 ≤ sizeLine by decide), fun m nm => newO nm fun H3 s3 e3 => ?_⟩
      refine ⟨l, m, news.map V.str, _, rfl, rfl, s3 _ _ e2, e3, ?_, fun B nB => newO nB fun H4 s4 e4 => ?_⟩
      · rw [List.length_map, sizeLine_eq]
        have := dw.2.2.1
        exact Nat.le_trans (Nat.add_le_add_right this 1) (by decide)
      refine ⟨(show 2 ≤ sizeLine by decide), fun L nL => newO nL fun H5 s5 e5 => ?_⟩
      exact k L H5 (to_mk [col] (news ++ [(Str.ofString "!")]) e5 (s5 _ _ (s4 _ _ (s3 _ _ (s2 _ _ e1)))) (by rw [List.map_append]; exact s5 _ _ e4) (Nat.le_of_ble_eq_true rfl) (by have := dw.2.2.1; rw [List.length_append]; exact Nat.le_trans (Nat.add_le_add_right this 1) (by decide))) ((((s1.trans s2).trans s3).trans s4).trans s5)
    | glue cols s new =>
      obtain ⟨t, rfl, et⟩ := da
      refine ⟨_, rfl, p, _, _, V.str "glue", rfl, rfl, SqT.of e, rfl, ?_⟩
      refine gN ?_
      try dsimp only
      refine ⟨_, rfl, rfl, _, rfl, iteNo (by decide +kernel) ?_⟩
      try unfold tNext
      try dsimp only
      refine ⟨_, rfl, rfl, _, rfl, iteYe rfl ?_⟩
      try unfold tRet
      try dsimp only
      refine ⟨_, rfl, p, _, _, V.ref t, rfl, rfl, SqT.of (e), rfl, t, cols.map V.str, rfl, .inr (SqT.of et), fun A nA => newO nA fun H1 s1 e1 => ?_⟩
      refine ⟨_, rfl, p, _, _, V.str new, rfl, rfl, SqT.of (s1 _ _ e), rfl, (show 1 ≤ sizeLine by decide), fun B nB => newO nB fun H2 s2 e2 => ?_⟩
      refine ⟨(show 2 ≤ sizeLine by decide), fun L nL => newO nL fun H3 s3 e3 => ?_⟩
      exact k L H3 (to_mk cols [new] e3 (s3 _ _ (s2 _ _ e1)) (s3 _ _ e2) (Nat.le_trans dw.2.2.1 (by decide)) (Nat.le_of_ble_eq_true rfl)) ((s1.trans s2).trans s3)
    | read col fv new =>
      obtain ⟨t, rfl, et⟩ := da
      refine ⟨_, rfl, p, _, _, V.str "read", rfl, rfl, SqT.of e, rfl, ?_⟩
      refine gN ?_
      try dsimp only
      refine ⟨_, rfl, rfl, _, rfl, iteNo (by decide +kernel) ?_⟩
      try unfold tNext
      try dsimp only
      refine ⟨_, rfl, rfl, _, rfl, iteNo (by decide +kernel) ?_⟩
      try unfold tNext
      try dsimp only
      refine ⟨_, rfl, rfl, _, rfl, iteYe rfl ?_⟩
      try unfold tRet
      try dsimp only
      refine ⟨_, rfl, p, _, _, V.str col, rfl, rfl, SqT.of (e), rfl, (show 1 ≤ sizeLine by decide), fun A nA => newO nA fun H1 s1 e1 => ?_⟩
      refine ⟨_, rfl, p, _, _, V.str new, rfl, rfl, SqT.of (s1 _ _ e), rfl, (show 2 ≤ sizeLine by decide), fun B nB => newO nB fun H2 s2 e2 => ?_⟩
      refine ⟨(show 2 ≤ sizeLine by decide), fun L nL => newO nL fun H3 s3 e3 => ?_⟩
      exact k L H3 (to_mk [col] [new, "!"] e3 (s3 _ _ (s2 _ _ e1)) (s3 _ _ e2) (Nat.le_of_ble_eq_true rfl) (Nat.le_of_ble_eq_true rfl)) ((s1.trans s2).trans s3)
    | spell col ps =>
      obtain ⟨t, rfl, et⟩ := da
      refine ⟨_, rfl, p, _, _, V.str "spell", rfl, rfl, SqT.of e, rfl, ?_⟩
      refine gN ?_
      try dsimp only
      refine ⟨_, rfl, rfl, _, rfl, iteNo (by decide +kernel) ?_⟩
      try unfold tNext
      try dsimp only
      refine ⟨_, rfl, rfl, _, rfl, iteNo (by decide +kernel) ?_⟩
      try unfold tNext
      try dsimp only
      refine ⟨_, rfl, rfl, _, rfl, iteNo (by decide +kernel) ?_⟩
      try unfold tNext
      try dsimp only
      refine ⟨_, rfl, (show 2 ≤ sizeLine by decide), fun u nu => newO nu fun H0 s0 e0 => ⟨u, _, rfl, .inr (SqT.of e0), rfl, rfl, _, rfl, iteB1 (by decide +kernel) ?_⟩⟩
      try unfold tRet
      try dsimp only
      replace e := s0 _ _ e
      refine ⟨_, rfl, p, _, _, V.str col, rfl, rfl, SqT.of (e), rfl, (show 1 ≤ sizeLine by decide), fun A nA => newO nA fun H1 s1 e1 => ?_⟩
      refine ⟨_, rfl, p, _, _, V.str col, rfl, rfl, SqT.of (s1 _ _ e), rfl, (show 1 ≤ sizeLine by decide), fun B nB => newO nB fun H2 s2 e2 => ?_⟩
      refine ⟨(show 2 ≤ sizeLine by decide), fun L nL => newO nL fun H3 s3 e3 => ?_⟩
      exact k L H3 (to_mk [col] [col] e3 (s3 _ _ (s2 _ _ e1)) (s3 _ _ e2) (Nat.le_of_ble_eq_true rfl) (Nat.le_of_ble_eq_true rfl)) (((s0.trans s1).trans s2).trans s3)
    | put col v =>
      cases da
      refine ⟨_, rfl, p, _, _, V.str "put", rfl, rfl, SqT.of e, rfl, ?_⟩
      refine gN ?_
      try dsimp only
      refine ⟨_, rfl, rfl, _, rfl, iteNo (by decide +kernel) ?_⟩
      try unfold tNext
      try dsimp only
      refine ⟨_, rfl, rfl, _, rfl, iteNo (by decide +kernel) ?_⟩
      try unfold tNext
      try dsimp only
      refine ⟨_, rfl, rfl, _, rfl, iteNo (by decide +kernel) ?_⟩
      try unfold tNext
      try dsimp only
      refine ⟨_, rfl, (show 2 ≤ sizeLine by decide), fun u nu => newO nu fun H0 s0 e0 => ⟨u, _, rfl, .inr (SqT.of e0), rfl, rfl, _, rfl, iteB1 (by decide +kernel) ?_⟩⟩
      try unfold tRet
      try dsimp only
      replace e := s0 _ _ e
      refine ⟨_, rfl, p, _, _, V.str col, rfl, rfl, SqT.of (e), rfl, (show 1 ≤ sizeLine by decide), fun A nA => newO nA fun H1 s1 e1 => ?_⟩
      refine ⟨_, rfl, p, _, _, V.str col, rfl, rfl, SqT.of (s1 _ _ e), rfl, (show 1 ≤ sizeLine by decide), fun B nB => newO nB fun H2 s2 e2 => ?_⟩
      refine ⟨(show 2 ≤ sizeLine by decide), fun L nL => newO nL fun H3 s3 e3 => ?_⟩
      exact k L H3 (to_mk [col] [col] e3 (s3 _ _ (s2 _ _ e1)) (s3 _ _ e2) (Nat.le_of_ble_eq_true rfl) (Nat.le_of_ble_eq_true rfl)) (((s0.trans s1).trans s2).trans s3)
    | fill col keys =>
      obtain ⟨t, rfl, et⟩ := da
      refine ⟨_, rfl, p, _, _, V.str "fill", rfl, rfl, SqT.of e, rfl, ?_⟩
      refine gN ?_
      try dsimp only
      refine ⟨_, rfl, rfl, _, rfl, iteNo (by decide +kernel) ?_⟩
      try unfold tNext
      try dsimp only
      refine ⟨_, rfl, rfl, _, rfl, iteNo (by decide +kernel) ?_⟩
      try unfold tNext
      try dsimp only
      refine ⟨_, rfl, rfl, _, rfl, iteNo (by decide +kernel) ?_⟩
      try unfold tNext
      try dsimp only
      refine ⟨_, rfl, (show 2 ≤ sizeLine by decide), fun u nu => newO nu fun H0 s0 e0 => ⟨u, _, rfl, .inr (SqT.of e0), rfl, rfl, _, rfl, iteB0 (by decide +kernel) ?_⟩⟩
      try dsimp only
      replace e := s0 _ _ e
      refine ⟨_, rfl, rfl, _, rfl, iteYe rfl ?_⟩
      try unfold tRet
      try dsimp only
      refine ⟨_, rfl, p, _, _, V.str col, rfl, rfl, SqT.of (e), rfl, (show 2 ≤ sizeLine by decide), fun A nA => newO nA fun H1 s1 e1 => ?_⟩
      refine ⟨_, rfl, p, _, _, V.ref t, rfl, rfl, SqT.of (s1 _ _ e), rfl, t, keys.map V.str, rfl, .inr (SqT.of (s1 _ _ (s0 _ _ et))), fun l nl => newO nl fun H2 s2 e2 => ?_⟩
      refine ⟨A, l, _, keys.map V.str, rfl, rfl, s2 _ _ e1, e2, ?_, fun B nB => newO nB fun H3 s3 e3 => ?_⟩
      · rw [List.length_map, sizeLine_eq]
        have := dw.2.1
        exact Nat.le_trans (Nat.add_le_add_left this 2) (by decide)
      refine ⟨_, rfl, p, _, _, V.str col, rfl, rfl, SqT.of (s3 _ _ (s2 _ _ (s1 _ _ e))), rfl, (show 1 ≤ sizeLine by decide), fun C nC => newO nC fun H4 s4 e4 => ?_⟩
      refine ⟨(show 2 ≤ sizeLine by decide), fun L nL => newO nL fun H5 s5 e5 => ?_⟩
      exact k L H5 (to_mk (col :: "!" :: keys) [col] e5 (s5 _ _ (s4 _ _ e3)) (s5 _ _ e4) (by have := dw.2.1; exact Nat.le_trans (Nat.add_le_add_right this 2) (by decide)) (Nat.le_of_ble_eq_true rfl)) (((((s0.trans s1).trans s2).trans s3).trans s4).trans s5)
    | within col lo hi =>
      cases da
      refine ⟨_, rfl, p, _, _, V.str "within", rfl, rfl, SqT.of e, rfl, ?_⟩
      refine gN ?_
      try dsimp only
      refine ⟨_, rfl, rfl, _, rfl, iteNo (by decide +kernel) ?_⟩
      try unfold tNext
      try dsimp only
      refine ⟨_, rfl, rfl, _, rfl, iteNo (by decide +kernel) ?_⟩
      try unfold tNext
      try dsimp only
      refine ⟨_, rfl, rfl, _, rfl, iteNo (by decide +kernel) ?_⟩
      try unfold tNext
      try dsimp only
      refine ⟨_, rfl, (show 2 ≤ sizeLine by decide), fun u nu => newO nu fun H0 s0 e0 => ⟨u, _, rfl, .inr (SqT.of e0), rfl, rfl, _, rfl, iteB0 (by decide +kernel) ?_⟩⟩
      try dsimp only
      replace e := s0 _ _ e
      refine ⟨_, rfl, rfl, _, rfl, iteNo (by decide +kernel) ?_⟩
      try unfold tNext
      try dsimp only
      unfold tRet
      dsimp only
      refine ⟨_, rfl, rfl, _, rfl, iteNo (by decide +kernel) ?_⟩
      refine ⟨_, rfl, p, _, _, V.str col, rfl, rfl, SqT.of (e), rfl, (show 1 ≤ sizeLine by decide), fun A nA => newO nA fun H1 s1 e1 => ?_⟩
      refine ⟨(show 1 ≤ sizeLine by decide), fun B nB => newO nB fun H2 s2 e2 => ?_⟩
      refine ⟨(show 2 ≤ sizeLine by decide), fun L nL => newO nL fun H3 s3 e3 => ?_⟩
      exact k L H3 (to_mk [col] ["!"] e3 (s3 _ _ (s2 _ _ e1)) (s3 _ _ e2) (Nat.le_of_ble_eq_true rfl) (Nat.le_of_ble_eq_true rfl)) (((s0.trans s1).trans s2).trans s3)
    | among col xs =>
      obtain ⟨t, rfl, et⟩ := da
      refine ⟨_, rfl, p, _, _, V.str "among", rfl, rfl, SqT.of e, rfl, ?_⟩
      refine gN ?_
      try dsimp only
      refine ⟨_, rfl, rfl, _, rfl, iteNo (by decide +kernel) ?_⟩
      try unfold tNext
      try dsimp only
      refine ⟨_, rfl, rfl, _, rfl, iteNo (by decide +kernel) ?_⟩
      try unfold tNext
      try dsimp only
      refine ⟨_, rfl, rfl, _, rfl, iteNo (by decide +kernel) ?_⟩
      try unfold tNext
      try dsimp only
      refine ⟨_, rfl, (show 2 ≤ sizeLine by decide), fun u nu => newO nu fun H0 s0 e0 => ⟨u, _, rfl, .inr (SqT.of e0), rfl, rfl, _, rfl, iteB0 (by decide +kernel) ?_⟩⟩
      try dsimp only
      replace e := s0 _ _ e
      refine ⟨_, rfl, rfl, _, rfl, iteNo (by decide +kernel) ?_⟩
      try unfold tNext
      try dsimp only
      unfold tRet
      dsimp only
      refine ⟨_, rfl, rfl, _, rfl, iteNo (by decide +kernel) ?_⟩
      refine ⟨_, rfl, p, _, _, V.str col, rfl, rfl, SqT.of (e), rfl, (show 1 ≤ sizeLine by decide), fun A nA => newO nA fun H1 s1 e1 => ?_⟩
      refine ⟨(show 1 ≤ sizeLine by decide), fun B nB => newO nB fun H2 s2 e2 => ?_⟩
      refine ⟨(show 2 ≤ sizeLine by decide), fun L nL => newO nL fun H3 s3 e3 => ?_⟩
      exact k L H3 (to_mk [col] ["!"] e3 (s3 _ _ (s2 _ _ e1)) (s3 _ _ e2) (Nat.le_of_ble_eq_true rfl) (Nat.le_of_ble_eq_true rfl)) (((s0.trans s1).trans s2).trans s3)
    | before col c2 =>
      cases da
      refine ⟨_, rfl, p, _, _, V.str "before", rfl, rfl, SqT.of e, rfl, ?_⟩
      refine gN ?_
      try dsimp only
      refine ⟨_, rfl, rfl, _, rfl, iteNo (by decide +kernel) ?_⟩
      try unfold tNext
      try dsimp only
      refine ⟨_, rfl, rfl, _, rfl, iteNo (by decide +kernel) ?_⟩
      try unfold tNext
      try dsimp only
      refine ⟨_, rfl, rfl, _, rfl, iteNo (by decide +kernel) ?_⟩
      try unfold tNext
      try dsimp only
      refine ⟨_, rfl, (show 2 ≤ sizeLine by decide), fun u nu => newO nu fun H0 s0 e0 => ⟨u, _, rfl, .inr (SqT.of e0), rfl, rfl, _, rfl, iteB0 (by decide +kernel) ?_⟩⟩
      try dsimp only
      replace e := s0 _ _ e
      refine ⟨_, rfl, rfl, _, rfl, iteNo (by decide +kernel) ?_⟩
      try unfold tNext
      try dsimp only
      unfold tRet
      dsimp only
      refine ⟨_, rfl, rfl, _, rfl, iteYe rfl ?_⟩
      refine ⟨_, rfl, p, _, _, V.str col, rfl, rfl, SqT.of (e), rfl, _, rfl, p, _, _, V.str c2, rfl, rfl, SqT.of e, rfl, (show 2 ≤ sizeLine by decide), fun A nA => newO nA fun H1 s1 e1 => ?_⟩
      refine ⟨(show 1 ≤ sizeLine by decide), fun B nB => newO nB fun H2 s2 e2 => ?_⟩
      refine ⟨(show 2 ≤ sizeLine by decide), fun L nL => newO nL fun H3 s3 e3 => ?_⟩
      exact k L H3 (to_mk [col, c2] ["!"] e3 (s3 _ _ (s2 _ _ e1)) (s3 _ _ e2) (Nat.le_of_ble_eq_true rfl) (Nat.le_of_ble_eq_true rfl)) (((s0.trans s1).trans s2).trans s3)
    | given col =>
      cases da
      refine ⟨_, rfl, p, _, _, V.str "given", rfl, rfl, SqT.of e, rfl, ?_⟩
      refine gN ?_
      try dsimp only
      refine ⟨_, rfl, rfl, _, rfl, iteNo (by decide +kernel) ?_⟩
      try unfold tNext
      try dsimp only
      refine ⟨_, rfl, rfl, _, rfl, iteNo (by decide +kernel) ?_⟩
      try unfold tNext
      try dsimp only
      refine ⟨_, rfl, rfl, _, rfl, iteNo (by decide +kernel) ?_⟩
      try unfold tNext
      try dsimp only
      refine ⟨_, rfl, (show 2 ≤ sizeLine by decide), fun u nu => newO nu fun H0 s0 e0 => ⟨u, _, rfl, .inr (SqT.of e0), rfl, rfl, _, rfl, iteB0 (by decide +kernel) ?_⟩⟩
      try dsimp only
      replace e := s0 _ _ e
      refine ⟨_, rfl, rfl, _, rfl, iteNo (by decide +kernel) ?_⟩
      try unfold tNext
      try dsimp only
      unfold tRet
      dsimp only
      refine ⟨_, rfl, rfl, _, rfl, iteNo (by decide +kernel) ?_⟩
      refine ⟨_, rfl, p, _, _, V.str col, rfl, rfl, SqT.of (e), rfl, (show 1 ≤ sizeLine by decide), fun A nA => newO nA fun H1 s1 e1 => ?_⟩
      refine ⟨(show 1 ≤ sizeLine by decide), fun B nB => newO nB fun H2 s2 e2 => ?_⟩
      refine ⟨(show 2 ≤ sizeLine by decide), fun L nL => newO nL fun H3 s3 e3 => ?_⟩
      exact k L H3 (to_mk [col] ["!"] e3 (s3 _ _ (s2 _ _ e1)) (s3 _ _ e2) (Nat.le_of_ble_eq_true rfl) (Nat.le_of_ble_eq_true rfl)) (((s0.trans s1).trans s2).trans s3)
end
end K86
set_option Elab.async false
set_option linter.all false
set_option pp.maxSteps 4000
set_option maxRecDepth 100000
set_option maxHeartbeats 4000000
/-! k86: steps apart -/
namespace K86
open PySem PySem.Spec PyProof.Rows L2 Bs Xg TL Xm Xs Gn Gd
abbrev sAp : Stmt := top 43
theorem bls_of {ys : List V} : (∀ (j : Nat) (y : V), ys[j]? = some y → ∃ b : Bool, y = .bl b) → ∃ bs : List Bool, ys = bs.map V.bl := by
  induction ys with
  | nil => intro _; exact ⟨[], rfl⟩
  | cons y ys ih =>
    intro h
    obtain ⟨b, rfl⟩ := h 0 y rfl
    obtain ⟨bs, rfl⟩ := ih fun j y hy => h (j + 1) y (by simpa using hy)
    exact ⟨b :: bs, rfl⟩
theorem all_flat (xs : List Str) : (xs.map V.str).all flatV = true := by
  rw [List.all_eq_true]
  intro x hx
  obtain ⟨z, _, rfl⟩ := List.mem_map.mp hx
  rfl
structure TouchF (K : PySem.W.Frag) (mg : Str → Option Value) (fTo : Addr) (dTo : FuncData) : Prop where
  To : Fun K "_law_touches" "_law_touches" sTo fTo dTo
  bTo : Binds K dTo ["_law_step"] []
  gTo : mg "_law_touches" = some (.ref fTo)
section
variable {P : Program} {w : World} {K : PySem.W.Frag} {mg : Str → Option Value} {base : Heap} {fTo : Addr} {dTo : FuncData}
abbrev nAp : List Str := ["_law_step", "_law_later", "_law_mine", "_law_its", "_law_what"]
theorem scAp : FnScope nAp ["_law_step", "_law_later"] (defScope sAp) := ⟨rfl, rfl, rfl, by decide +kernel, rfl, by decide +kernel, by decide +kernel⟩
def spAp : Sp := fun vs H Q _ => ∃ (p q : Addr) (nm nm2 : Str) (dd dd2 : Dd) (kn kn2 : List (Str × Bool)), vs = [.ref p, .ref q] ∧ StAt H p nm dd kn ∧ StAt H q nm2 dd2 kn2 ∧ ∀ (b : Bool) (H' : Hp), Same H H' → Q (.bl b) H'
theorem ok_apart {f : Addr} {fd : FuncData} (F : Fun K "_law_apart" "_law_apart" sAp f fd) (T : Free mg) (W : TouchF K mg fTo dTo) : FnOk P w K mg base CX0 2 f fd ["_law_step", "_law_later"] spAp := by
  have GTo : FnOk P w K mg base CX0 1 fTo dTo ["_law_step"] spTo := ok_touches W.To T
  have FTo := W.To
  have bTo := W.bTo
  have gTo := W.gTo
  refine F.ok scAp (fun vs H Q E h => ?_) (fun cdv A outer s H vs Q E hr h => ?_)
  · obtain ⟨p, q, nm, nm2, dd, dd2, kn, kn2, rfl, _⟩ := h
    rfl
  · obtain ⟨p, q, nm, nm2, dd, dd2, kn, kn2, rfl, st, st2, k⟩ := h
    refine ⟨_, pss_cons (ps_asg (pe_tup (pa_cons (pe_call GTo (hr.mono (by decide)) (by rfl) gTo FTo.kp bTo .nil pass0 (pa_cons (pv 0) pa_nil)) (pa_cons (pe_call GTo (hr.mono (by decide)) (by rfl) gTo FTo.kp bTo .nil pass0 (pa_cons (pv 1) pa_nil)) pa_nil))) (pg_tup rfl (pgs_cons (pg_name (i := 2) scAp.nd rfl (Or.inr rfl)) (pgs_cons (pg_name (i := 3) scAp.nd rfl (Or.inr rfl)) pgs_nil))))
      (pss_cons (ps_if (pt_val (pe_callB (cr_any rfl) (by rfl) T.any (by decide +kernel) (pa_cons (pe_lc (own := [("_law_what", 4)]) (g := gName 4) (tt := tYes) rfl scAp.nd (pi_list (pe_ix (ix_listK (K := K) rfl) (pv 2) pe_int (fun _ _ => rfl))) (blkOk_by (own := [("_law_what", 4)]) (N := nAp) (sc := defScope sAp) (by decide +kernel)) (fun _ _ _ _ _ => (pg_name (i := 4) scAp.nd rfl (Or.inl rfl))) (fun _ _ _ _ _ => pts_nil) (fun _ _ _ _ _ => (pe_or (pe_cmpR (op_in_seqK (K := K) rfl) (pv 4) (pe_ix (ix_listK (K := K) rfl) (pv 3) pe_int (fun _ _ => rfl)) rfl) (pe_one (pe_and (pe_cmpR (op_in_seqK (K := K) rfl) (pv 4) (pe_ix (ix_listK (K := K) rfl) (pv 3) pe_int (fun _ _ => rfl)) rfl) (pe_one (pe_cmpR op_ne (pv 4) pe_str (nomark _)))))))) pa_nil))) (pss_one (ps_ret pe_bl)) (pss_nil))
      (pss_one (ps_ret (pe_not (pe_callB (cr_any rfl) (by rfl) T.any (by decide +kernel) (pa_cons (pe_lc (own := [("_law_what", 4)]) (g := gName 4) (tt := tYes) rfl scAp.nd (pi_list (pe_ix (ix_listK (K := K) rfl) (pv 3) pe_int (fun _ _ => rfl))) (blkOk_by (own := [("_law_what", 4)]) (N := nAp) (sc := defScope sAp) (by decide +kernel)) (fun _ _ _ _ _ => (pg_name (i := 4) scAp.nd rfl (Or.inl rfl))) (fun _ _ _ _ _ => pts_nil) (fun _ _ _ _ _ => (pe_cmpR (op_in_seqK (K := K) rfl) (pv 4) (pe_ix (ix_listK (K := K) rfl) (pv 2) pe_int (fun _ _ => rfl)) rfl))) pa_nil)))))), ?_⟩
    refine ⟨_, rfl, p, nm, dd, kn, rfl, st, fun L H1 ⟨A, B, xs, ys, eL, eA, eB, lx, ly⟩ s1 => ?_⟩
    refine ⟨_, rfl, q, nm2, dd2, kn2, rfl, st2.keep (Tst.of s1), fun L2 H2 ⟨A2, B2, xs2, ys2, eL2, eA2, eB2, lx2, ly2⟩ s2 => ?_⟩
    have eL1 := s2 _ _ eL
    have eA1 := s2 _ _ eA
    have eB1 := s2 _ _ eB
    refine ⟨(show 2 ≤ sizeLine by decide), fun t nt => newO nt fun H3 s3 e3 => ⟨t, _, rfl, SqT.of e3, rfl, _, _, rfl, gN ⟨_, _, rfl, gN ⟨rfl, ?_⟩⟩⟩⟩
    try dsimp only
    refine ⟨_, rfl, L, _, _, V.ref B, rfl, rfl, SqL.of (s3 _ _ eL1), rfl, B, rfl, ⟨_, SqL.of (s3 _ _ eB1)⟩, fun D nD => ?_⟩
    refine lc_new (walk_list (K := K) (a := B) (xs := ys.map V.str)) (Z := fun j x => (ys.map V.str)[j]? = some x) (fun _ y _ => ∃ b : Bool, y = .bl b) nD (fun j G x G' e => ⟨e.1, e.2⟩) (fun G sG => SqL.of (sG _ _ (s3 _ _ eB1))) (fun _ _ _ _ _ _ e => e) (by rw [List.length_map]; omega) (fun _ => rfl) ?_ ?_
    · rintro j x G Q2 hj hx sG kk
      rw [List.getElem?_map] at hx
      obtain ⟨z, hz, rfl⟩ := Option.map_eq_some_iff.mp hx
      have sg := s3.trans sG
      refine ⟨_, rfl, _, rfl, L2, _, _, V.ref A2, rfl, rfl, SqL.of (sg _ _ eL2), rfl, A2, _, rfl, .inl (SqL.of (sg _ _ eA2)), rfl, all_flat _, ?_⟩
      refine ⟨_, rfl, ?_⟩
      generalize inV (V.str z) (xs2.map V.str) = c1
      cases c1 with
      | true => exact iteB1 rfl (kk _ _ (Same.refl _) ⟨_, rfl⟩)
      | false =>
        refine iteB0 rfl ?_
        refine ⟨_, rfl, _, rfl, L2, _, _, V.ref B2, rfl, rfl, SqL.of (sg _ _ eL2), rfl, B2, _, rfl, .inl (SqL.of (sg _ _ eB2)), rfl, all_flat _, ?_⟩
        refine ⟨_, rfl, ?_⟩
        generalize inV (V.str z) (ys2.map V.str) = c2
        cases c2 with
        | true => exact iteB1 rfl ⟨_, rfl, rfl, kk _ _ (Same.refl _) ⟨_, rfl⟩⟩
        | false => exact iteB0 rfl (kk _ _ (Same.refl _) ⟨_, rfl⟩)
    · rintro H4 ys4 s4 eD ly hw
      obtain ⟨bs, rfl⟩ := bls_of hw
      refine ⟨D, bs, rfl, SqL.of eD, ?_⟩
      refine ⟨_, rfl, ?_⟩
      have s04 := ((s1.trans s2).trans s3).trans s4
      have sg := s3.trans s4
      generalize bs.any id = c1
      cases c1 with
      | true => exact iteB1 rfl (k false H4 s04)
      | false =>
        refine iteB0 rfl ?_
        unfold tNext
        dsimp only
        unfold tRet
        dsimp only
        refine ⟨_, rfl, L2, _, _, V.ref B2, rfl, rfl, SqL.of (sg _ _ eL2), rfl, B2, rfl, ⟨_, SqL.of (sg _ _ eB2)⟩, fun D2 nD2 => ?_⟩
        refine lc_new (walk_list (K := K) (a := B2) (xs := ys2.map V.str)) (Z := fun j x => (ys2.map V.str)[j]? = some x) (fun _ y _ => ∃ b : Bool, y = .bl b) nD2 (fun j G x G' e => ⟨e.1, e.2⟩) (fun G sG => SqL.of (sG _ _ (sg _ _ eB2))) (fun _ _ _ _ _ _ e => e) (by rw [List.length_map]; omega) (fun _ => rfl) ?_ ?_
        · rintro j x G Q2 hj hx sG kk
          rw [List.getElem?_map] at hx
          obtain ⟨z, hz, rfl⟩ := Option.map_eq_some_iff.mp hx
          have sg := sg.trans sG
          exact ⟨_, rfl, _, rfl, L, _, _, V.ref A, rfl, rfl, SqL.of (sg _ _ eL1), rfl, A, _, rfl, .inl (SqL.of (sg _ _ eA1)), rfl, all_flat _, kk _ _ (Same.refl _) ⟨_, rfl⟩⟩
        · rintro H5 ys5 s5 eD5 ly5 hw5
          obtain ⟨bs5, rfl⟩ := bls_of hw5
          exact ⟨D2, bs5, rfl, SqL.of eD5, _, rfl, k _ H5 (s04.trans s5)⟩
end
end K86
set_option Elab.async false
set_option linter.all false
set_option pp.maxSteps 4000
set_option maxRecDepth 100000
set_option maxHeartbeats 4000000
/-! k86: what stands behind what -/
namespace K86
open PySem PySem.Spec PyProof.Rows L2 Bs Xg TL Xm Xs Gn Gd
abbrev sBe : Stmt := top 44
/-- a pair of names -/
def PairD (d : PyData) : Prop := ∃ a b : Str, d = .tuple [.str a, .str b] ∧ Good 9 a ∧ Good 9 b
theorem pairs_alike {ds : List PyData} (h : ∀ d ∈ ds, PairD d) : PySem.W.AllAlike ds := by
  intro d hd d' hd'
  obtain ⟨a, b, rfl, _⟩ := h d hd
  obtain ⟨a', b', rfl, _⟩ := h d' hd'
  simp [PySem.W.alike, PySem.W.alikeAll]
theorem pairs_sortable {ds : List PyData} (h : ∀ d ∈ ds, PairD d) : PySem.W.Sortable ds := .inl fun d hd => by
  obtain ⟨a, b, rfl, _⟩ := h d hd
  exact ⟨_, _, rfl⟩
theorem pair_depth {d : PyData} (h : PairD d) : d.depth ≤ 10 := by
  obtain ⟨a, b, rfl, _⟩ := h
  simp [PyData.depth, PyData.depthAll]
theorem tds_pairs {G : Hp} : ∀ {ys : List V}, (∀ (j : Nat) (y : V), ys[j]? = some y → ∃ d, TD G y d ∧ PairD d) → ∃ ds, TDs G ys ds ∧ ∀ d ∈ ds, PairD d
  | [], _ => ⟨[], trivial, fun d hd => nomatch hd⟩
  | y :: ys, h => by
    obtain ⟨d, t, g⟩ := h 0 y rfl
    obtain ⟨ds, ts, gs⟩ := tds_pairs (ys := ys) fun j y hy => h (j + 1) y (by simpa using hy)
    exact ⟨d :: ds, ⟨t, ts⟩, fun x hx => (List.mem_cons.mp hx).elim (fun e => e ▸ g) (gs x)⟩
/-- sorted pairs -/
theorem sort_pairs {K : PySem.W.Frag} {H : Hp} {a : Addr} {vs : List V} {ds : List PyData} {Q : VK} (e : SqL K H a vs) (h : TDs H vs ds) (g : ∀ d ∈ ds, PairD d)
    (q : ∀ (l : Addr) (ws : List V) (es : List PyData), H l = none → TDs H ws es → es.length = ds.length → (∀ d ∈ es, PairD d) → Q (.ref l) (upd H l (.lst ws))) : rSrtD K [.ref a] H Q := by
  obtain ⟨ps, rfl, rfl, t⟩ := h.ps
  refine ⟨a, ps, rfl, e, fun p hp => (t p hp).dp, pairs_alike g, pairs_sortable g, fun p hp => pair_depth (g p.2 (List.mem_map_of_mem hp)), fun qs l eq nl => ?_⟩
  have pm : qs.Perm ps := by rw [eq]; exact List.mergeSort_perm _ _
  refine q l _ (qs.map (·.2)) nl (TDs.of fun p hp => t p (pm.mem_iff.mp hp)) (by rw [List.length_map, List.length_map, pm.length_eq]) fun d hd => ?_
  obtain ⟨p, hp, rfl⟩ := List.mem_map.mp hd
  exact g _ (List.mem_map_of_mem (pm.mem_iff.mp hp))
theorem cut_from (xs : List V) (i : Nat) : cutV xs (some ((i : Int) + 1)) none = xs.drop (i + 1) := by
  unfold cutV
  rw [show ((i : Int) + 1) = ((i + 1 : Nat) : Int) from rfl, HT.sIx_none, HT.sIx_nat]
  by_cases h : i + 1 ≤ xs.length
  · rw [Nat.min_eq_left h, List.take_of_length_le (by rw [List.length_drop]; exact Nat.le_refl _)]
  · rw [Nat.min_eq_right (by omega), List.drop_of_length_le (by omega : xs.length ≤ xs.length), List.drop_of_length_le (by omega), List.take_nil]
structure ApartF (K : PySem.W.Frag) (mg : Str → Option Value) (fAp : Addr) (dAp : FuncData) : Prop where
  Ap : Fun K "_law_apart" "_law_apart" sAp fAp dAp
  bAp : Binds K dAp ["_law_step", "_law_later"] []
  gAp : mg "_law_apart" = some (.ref fAp)
section
variable {P : Program} {w : World} {K : PySem.W.Frag} {mg : Str → Option Value} {base : Heap} {fTo fAp : Addr} {dTo dAp : FuncData}
abbrev nBe : List Str := ["_law_steps", "_law_found", "_law_k", "_law_step", "_law_rest", "_law_later"]
theorem scBe : FnScope nBe ["_law_steps"] (defScope sBe) := ⟨rfl, rfl, rfl, by decide +kernel, rfl, by decide +kernel, by decide +kernel⟩
def spBe : Sp := fun vs H Q _ => ∃ (S : Addr) (ps : List Addr), vs = [.ref S] ∧ H S = some (.lst (ps.map V.ref)) ∧ ps.length ≤ 8 ∧ (∀ p ∈ ps, ∃ nm dd kn, StAt H p nm dd kn ∧ Good 9 nm) ∧
  ∀ (t : Addr) (ds : List PyData) (H' : Hp), TD H' (.ref t) (.tuple ds) → ds.length ≤ 64 → (∀ d ∈ ds, PairD d) → Same H H' → Q (.ref t) H'
theorem ok_behinds {f : Addr} {fd : FuncData} (F : Fun K "_law_behinds" "_law_behinds" sBe f fd) (T : Free mg) (W : TouchF K mg fTo dTo) (A : ApartF K mg fAp dAp) : FnOk P w K mg base CX0 3 f fd ["_law_steps"] spBe := by
  have GAp : FnOk P w K mg base CX0 2 fAp dAp ["_law_step", "_law_later"] spAp := ok_apart A.Ap T W
  have FAp := A.Ap
  have bAp := A.bAp
  have gAp := A.gAp
  refine F.ok scBe (fun vs H Q E h => ?_) (fun cdv A outer s H vs Q E hr h => ?_)
  · obtain ⟨S, ps, rfl, _⟩ := h
    rfl
  · obtain ⟨S, ps, rfl, eS, l6, hst, q⟩ := h
    refine ⟨_, pss_cons (ps_set (i := 1) scBe.nd rfl (Or.inl rfl) (pe_lst pa_nil))
      (pss_cons (ps_for PassesOwn.never rfl (pi_enum (by rfl) T.enumerate (pa_cons (pv 0) pa_nil)) (pg_tup rfl (pgs_cons (pg_name (i := 2) scBe.nd rfl (Or.inl rfl)) (pgs_cons (pg_name (i := 3) scBe.nd rfl (Or.inr rfl)) pgs_nil))) (pss_cons (ps_setLc (i := 4) (own := [("_law_later", 5)]) (g := gName 5) (tt := (tNot (tB (tCall spAp [] E0 (tCons (tVar 3) (tCons (tVar 5) tNil)))))) rfl scBe.nd rfl rfl (sw_true rfl rfl rfl rfl) (pi_list (pe_slice sl_list (pv 0) (po_some (pe_op op_add (pv 2) pe_int)) po_none)) (blkOk_by (own := [("_law_later", 5)]) (N := nBe) (sc := defScope sBe) (by decide +kernel)) (fun _ _ _ _ _ => (pg_name (i := 5) scBe.nd rfl (Or.inl rfl))) (fun _ _ _ _ _ => pts_one (pt_not (pt_val (pe_call GAp (hr.mono (by decide)) (by rfl) gAp FAp.kp bAp .nil pass0 (pa_cons (pv 3) (pa_cons (pv 5) pa_nil)))))) (fun _ _ _ _ _ => (pv 5)))
      (pss_one (ps_expr (pe_bmK (K := K) rfl PySem.F.plainAttrs_list PySem.F.slot_list_extend PySem.F.type_list_extend mt_extend (pv 1) (pa_cons (pe_lc (own := [("_law_later", 5)]) (g := gName 5) (tt := tYes) rfl scBe.nd (pi_list (pv 4)) (blkOk_by (own := [("_law_later", 5)]) (N := nBe) (sc := defScope sBe) (by decide +kernel)) (fun _ _ _ _ _ => (pg_name (i := 5) scBe.nd rfl (Or.inl rfl))) (fun _ _ _ _ _ => pts_nil) (fun _ _ _ _ _ => (pe_tup (pa_cons (pe_ix (ix_tupK (K := K) rfl) (pv 3) pe_int (fun _ _ => rfl)) (pa_cons (pe_ix (ix_tupK (K := K) rfl) (pv 5) pe_int (fun _ _ => rfl)) pa_nil))))) pa_nil))))))
      (pss_one (ps_ret (pe_callTy call_tuple_of (by rfl) T.tuple (by decide +kernel) (pa_cons (pe_callB (cr_srtD (K := K) rfl (r80 hr)) (by rfl) T.sorted (by decide +kernel) (pa_cons (pv 1) pa_nil)) pa_nil))))), ?_⟩
    refine ⟨(show 0 ≤ sizeLine by decide), fun F nF => newO nF fun H1 s1 e1 => ?_⟩
    refine gN ?_
    try dsimp only
    have eS1 := s1 _ _ eS
    have SF : S ≠ F := fun z => by rw [z, nF] at eS; cases eS
    have hst1 : ∀ p ∈ ps, ∃ nm dd kn, StAt H1 p nm dd kn ∧ Good 9 nm := fun p hp => by
      obtain ⟨nm, dd, kn, a, g⟩ := hst p hp
      exact ⟨nm, dd, kn, a.keep (Tst.of s1), g⟩
    refine ⟨_, rfl, S, ps.map V.ref, rfl, SqL.of eS1, for_it (walk_enum (xs := ps.map V.ref)) (fun j σ G => But F H1 G ∧ (∃ vs ds, G F = some (.lst vs) ∧ TDs G vs ds ∧ ds.length ≤ 8 * j ∧ ∀ d ∈ ds, PairD d) ∧ ∃ u2 u3 u4 u5, σ = [some (.ref S), some (.ref F), u2, u3, u4, u5]) ⟨But.refl _ _, ⟨[], [], e1, trivial, Nat.zero_le _, fun d hd => nomatch hd⟩, _, _, _, _, rfl⟩ (fun j σ G _ pv => SqL.of (pv.1 _ _ SF eS1)) ?_ ?_⟩
    · rintro i v σ K1 K2 hi ⟨bF, ⟨vs, ds, eF, td, ld, gd⟩, w2, w3, w4, w5, rfl⟩ ⟨T0, v1, v2, rfl, nT, rfl, e1, e2⟩
      cases e1
      rw [List.length_map] at hi
      dsimp only at e2
      rw [List.getElem?_map] at e2
      obtain ⟨p, ip, rfl⟩ := Option.map_eq_some_iff.mp e2
      have mp := List.mem_of_getElem? ip
      refine newO nT fun K3 sT eT => ?_
      have b3 : But F H1 K3 := bF.trans (But.of sT)
      have t3 : Tst H1 K3 := Tst.but ⟨_, e1⟩ b3
      have eF3 := sT _ _ eF
      have eS3 := b3 S _ SF eS1
      have td3 := td.keep (Tst.of sT)
      have hst3 : ∀ p ∈ ps, ∃ nm dd kn, StAt K3 p nm dd kn ∧ Good 9 nm := fun p hp => by
        obtain ⟨nm, dd, kn, a, g⟩ := hst1 p hp
        exact ⟨nm, dd, kn, a.keep t3, g⟩
      obtain ⟨nm, dd, kn, st, gnm⟩ := hst3 p mp
      refine ⟨T0, _, rfl, SqT.of eT, rfl, _, _, rfl, gN ⟨_, _, rfl, gN ⟨rfl, ?_⟩⟩⟩
      try dsimp only
      refine ⟨_, rfl, _, rfl, _, _, rfl, rfl, (i : Int) + 1, rfl, S, _, rfl, SqL.of eS3, fun D nD => newO nD fun K4 s4 e4 => ?_⟩
      have ecut : cutV (ps.map V.ref) (some ((i : Int) + 1)) none = (ps.drop (i + 1)).map V.ref := by
        rw [cut_from, List.map_drop]
      rw [ecut] at e4
      have ll : (ps.drop (i + 1)).length ≤ 8 := by rw [List.length_drop]; omega
      refine ⟨D, rfl, ⟨_, SqL.of e4⟩, fun D2 nD2 => ?_⟩
      refine lc_some (walk_list (K := K) (a := D) (xs := (ps.drop (i + 1)).map V.ref)) (ps.drop (i + 1)) V.ref (List.length_map ..).symm nD2 (fun G sG => SqL.of (sG _ _ e4)) (by rw [List.length_map]; omega) ?_ ?_
      · rintro j a x G G' R N hj sG ⟨rfl, hx⟩ kR kN
        rw [List.getElem?_map, hj] at hx
        cases hx
        obtain ⟨nm2, dd2, kn2, st2, gnm2⟩ := hst3 a (List.mem_of_mem_drop (List.mem_of_getElem? hj))
        have sg := s4.trans sG
        refine gN ⟨rfl, ?_⟩
        refine ⟨_, rfl, _, rfl, p, a, nm, nm2, dd, dd2, kn, kn2, rfl, st.keep (Tst.of sg), st2.keep (Tst.of sg), fun b H' s' => ?_⟩
        refine ⟨_, rfl, ?_⟩
        cases b with
        | true => exact iteB0 rfl (kN _ s')
        | false => exact iteB1 rfl ⟨_, rfl, kR _ s'⟩
      · rintro K5 qs s5 e5 sb
        have lq := sb.length_le
        refine gN ?_
        try dsimp only
        refine ⟨_, rfl, .inl ⟨rfl, _, SqL.of (s5 _ _ (s4 _ _ eF3))⟩, _, rfl, D2, rfl, ⟨_, SqL.of e5⟩, fun D3 nD3 => ?_⟩
        have s45 := s4.trans s5
        refine lc_new (walk_list (K := K) (a := D2) (xs := qs.map V.ref)) (Z := fun j x => (qs.map V.ref)[j]? = some x) (fun _ y G => ∃ d, TD G y d ∧ PairD d) nD3 (fun j G x G' e => ⟨e.1, e.2⟩) (fun G sG => SqL.of (sG _ _ e5)) (fun j y G G' keep ⟨l', eD⟩ ⟨d, t, g⟩ => ⟨d, t.keep (fun a xs e => keep a _ (tup_ne e eD) e), g⟩) (by rw [List.length_map]; omega) (fun _ => rfl) ?_ ?_
        · rintro j x G Q2 hj hx sG kk
          rw [List.getElem?_map] at hx
          obtain ⟨a, ha, rfl⟩ := Option.map_eq_some_iff.mp hx
          have ma := List.mem_of_mem_drop (sb.subset (List.mem_of_getElem? ha))
          obtain ⟨nm2, dd2, kn2, ⟨vs2, ea, _⟩, gnm2⟩ := hst3 a ma
          have sg := s45.trans sG
          obtain ⟨vs1, ep, _⟩ := id st
          refine ⟨_, rfl, p, _, _, V.str nm, rfl, rfl, SqT.of (sg _ _ ep), atI_nat (j := 0) rfl, _, rfl, a, _, _, V.str nm2, rfl, rfl, SqT.of (sg _ _ ea), atI_nat (j := 0) rfl, (show 2 ≤ sizeLine by decide), fun t nt => newO nt fun G2 s2 e2 => ?_⟩
          exact kk _ _ s2 ⟨.tuple [.str nm, .str nm2], TD.mk e2 ⟨.str nm, .str nm2, trivial⟩, nm, nm2, rfl, gnm, gnm2⟩
        · rintro K6 ys s6 e6 ly hw
          obtain ⟨es, tes, ges⟩ := tds_pairs hw
          have s46 := s45.trans s6
          rw [List.length_map] at ly
          have eF6 := s46 _ _ eF3
          have td6 := td3.keep (Tst.of s46)
          have lv := td.len
          have le := tes.len
          refine ⟨F, D3, vs, ys, rfl, rfl, eF6, e6, by rw [sizeLine_eq]; omega, ?_⟩
          have b7 : But F K6 (upd K6 F (.lst (vs ++ ys))) := But.upd
          have e7 : upd K6 F (.lst (vs ++ ys)) F = _ := upd_same
          generalize upd K6 F (.lst (vs ++ ys)) = K7 at b7 e7 ⊢
          have t67 : Tst K6 K7 := Tst.but ⟨_, eF6⟩ b7
          refine ⟨(b3.trans (But.of s46)).trans b7, ⟨vs ++ ys, ds ++ es, e7, (td6.app tes).keep t67, ?_, fun d hd => (List.mem_append.mp hd).elim (gd d) (ges d)⟩, _, _, _, _, rfl⟩
          rw [List.length_append]
          omega
    · rintro σ H2 ⟨bF, ⟨vs, ds, eF, td, ld, gd⟩, w2, w3, w4, w5, rfl⟩
      try dsimp only
      unfold tRet
      dsimp only
      rw [List.length_map] at ld
      refine ⟨_, rfl, ?_⟩
      unfold tNil
      dsimp only
      refine sort_pairs (SqL.of eF) td gd fun l ws es nl tw le ge => ?_
      refine newO nl fun H3 s3 e3 => ?_
      have tw3 := tw.keep (Tst.of s3)
      refine ⟨l, _, rfl, .inl ⟨SqL.of e3, fun t nt => newO nt fun H4 s4 e4 => ?_⟩⟩
      exact q t es H4 (TD.mk e4 (tw3.keep (Tst.of s4))) (by omega) ge fun b o e => s4 _ _ (s3 _ _ (bF b o (ne_of_none e nF) (s1 _ _ e)))
end
end K86
set_option Elab.async false
set_option linter.all false
set_option pp.maxSteps 4000
set_option maxRecDepth 100000
set_option maxHeartbeats 4000000
/-! k86: programs as data -/
namespace K86
open PySem PySem.Spec PyProof.Rows L2 Bs Xg TL Xm Xs Gn Gd
def vd : V → PyData
  | .str z => .str z
  | .int i => .int i
  | _ => .none
theorem worth_td {H : Hp} {b : Bool} {v : V} (h : WorthOk b v) : TD H v (vd v) ∧ Sh (vd v) 41 1 := by
  unfold WorthOk at h
  cases b with
  | true =>
    rw [if_pos rfl] at h
    obtain ⟨z, hz, rfl⟩ := h
    exact ⟨.str z, (sh_str (cells_good z hz)).up (by decide) (by decide)⟩
  | false =>
    rw [if_neg (by decide)] at h
    obtain ⟨i, rfl, hi⟩ := h
    exact ⟨.int i, sh_int (Nat.lt_trans hi (by decide))⟩
theorem tds_map {H : Hp} : ∀ {vs : List V}, (∀ v ∈ vs, TD H v (vd v)) → TDs H vs (vs.map vd)
  | [], _ => trivial
  | v :: vs, h => ⟨h v List.mem_cons_self, tds_map fun x hx => h x (List.mem_cons_of_mem _ hx)⟩
theorem form_td {H : Hp} {fv : List V} (h : FormOk fv) : TDs H fv (fv.map vd) ∧ (∀ d ∈ fv.map vd, Sh d 41 1) ∧ fv.length ≤ 2 := by
  have gd : ∀ z : Str, Good 9 z → Sh (PyData.str z) 41 1 := fun z g => (sh_str g).up (by decide) (by decide)
  rcases h with rfl | ⟨m, rfl, m1, m4⟩ | ⟨o, rfl, ho⟩
  · exact ⟨⟨.str _, trivial⟩, fun d hd => by rw [List.mem_singleton.mp hd]; exact gd _ (by constructor <;> decide +kernel), by decide⟩
  · refine ⟨⟨.str _, .int _, trivial⟩, fun d hd => ?_, Nat.le_of_ble_eq_true rfl⟩
    simp only [List.map_cons, List.map_nil, List.mem_cons, List.not_mem_nil, or_false] at hd
    rcases hd with rfl | rfl
    · exact gd _ (by constructor <;> decide +kernel)
    · exact sh_int (by omega)
  · refine ⟨⟨.str _, .str _, trivial⟩, fun d hd => ?_, Nat.le_of_ble_eq_true rfl⟩
    simp only [List.map_cons, List.map_nil, List.mem_cons, List.not_mem_nil, or_false] at hd
    rcases hd with rfl | rfl
    · exact gd _ (by constructor <;> decide +kernel)
    · rcases ho with rfl | rfl | rfl <;> exact gd _ (by constructor <;> decide +kernel)
def osD : Option Str → PyData
  | none => .none
  | some z => .str z
theorem os_td {H : Hp} (o : Option Str) : TD H (osV o) (osD o) := by
  cases o with
  | none => exact .non
  | some z => exact .str z
def pairD (p : Str × Option Str) : PyData := .tuple [.str p.1, osD p.2]
/-- a step, as data -/
structure StepD where
  nm : Str
  w : Str
  rest : List PyData
  ks : List PyData
  ok : w = "fill" → ∃ (c : PyData) (zs : List Str), rest = [c, .tuple ks] ∧ ks = zs.map .str
def StepD.data (s : StepD) : PyData := .tuple (.str s.nm :: .str s.w :: s.rest)
def Dd.step (nm : Str) : Dd → StepD
  | .cut col s news => ⟨nm, "cut", [.str col, .str s, .tuple (news.map .str)], [], fun e => absurd e (by decide +kernel)⟩
  | .glue cols s new => ⟨nm, "glue", [.tuple (cols.map .str), .str s, .str new], [], fun e => absurd e (by decide +kernel)⟩
  | .spell col ps => ⟨nm, "spell", [.str col, .tuple (ps.map pairD)], [], fun e => absurd e (by decide +kernel)⟩
  | .read col fv new => ⟨nm, "read", [.str col, .tuple (fv.map vd), .str new], [], fun e => absurd e (by decide +kernel)⟩
  | .put col v => ⟨nm, "put", [.str col, vd v], [], fun e => absurd e (by decide +kernel)⟩
  | .within col lo hi => ⟨nm, "within", [.str col, vd lo, vd hi], [], fun e => absurd e (by decide +kernel)⟩
  | .among col xs => ⟨nm, "among", [.str col, .tuple (xs.map vd)], [], fun e => absurd e (by decide +kernel)⟩
  | .before col c2 => ⟨nm, "before", [.str col, .str c2], [], fun e => absurd e (by decide +kernel)⟩
  | .given col => ⟨nm, "given", [.str col], [], fun e => absurd e (by decide +kernel)⟩
  | .fill col keys => ⟨nm, "fill", [.str col, .tuple (keys.map .str)], keys.map .str, fun _ => ⟨_, keys, rfl, rfl⟩⟩
theorem Dd.step_nm (nm : Str) (dd : Dd) : (dd.step nm).nm = nm := by cases dd <;> rfl
theorem mem_map_td {α : Type} {f : α → PyData} {w k : Nat} {xs : List α} (h : ∀ x ∈ xs, Sh (f x) w k) : ∀ d ∈ xs.map f, Sh d w k := fun d hd => by
  obtain ⟨x, hx, rfl⟩ := List.mem_map.mp hd
  exact h x hx
theorem gsh {z : Str} {n : Nat} (g : Good n z) (l : n ≤ 12) : Sh (PyData.str z) 41 1 := (sh_str g).up (by omega) (by decide)
theorem strs_sh {zs : List Str} {n m : Nat} (g : ∀ z ∈ zs, Good n z) (l : n ≤ 12) (lm : zs.length ≤ m) : Sh (.tuple (zs.map PyData.str)) (m * 42 + 1) 2 := sh_tuple (mem_map_td fun z hz => gsh (g z hz) l) (by rw [List.length_map]; exact lm)
theorem sha {d : PyData} {w k : Nat} (h : Sh d w k) (a : w ≤ 345) (b : k ≤ 3) : Sh d 345 3 := Sh.up h a b
theorem list_sh {w k : Nat} {d : PyData} {ds : List PyData} (h : Sh d w k) (g : ∀ x ∈ ds, Sh x w k) : ∀ x ∈ d :: ds, Sh x w k := fun x hx => (List.mem_cons.mp hx).elim (fun e => e ▸ h) (g x)
theorem nil_sh {w k : Nat} : ∀ x ∈ ([] : List PyData), Sh x w k := fun x hx => nomatch hx
theorem Dd.td {H : Hp} {vs : List V} {dd : Dd} {kn : List (Str × Bool)} (h : dd.At H vs) (w : dd.wt kn) (nm : Str) : TDs H (.str nm :: vs) (.str nm :: .str (dd.step nm).w :: (dd.step nm).rest) := by
  refine ⟨.str nm, ?_⟩
  cases dd with
  | cut col s news =>
    obtain ⟨t, rfl, e⟩ := h
    exact ⟨.str _, .str _, .str _, .mk e (.strs _), trivial⟩
  | glue cols s new =>
    obtain ⟨t, rfl, e⟩ := h
    exact ⟨.str _, .mk e (.strs _), .str _, .str _, trivial⟩
  | spell col ps =>
    obtain ⟨t, rfl, qs, l, e, g⟩ := h
    exact ⟨.str _, .str _, .mk e (TDs.refs (R := fun q p => H q = some (.tup [.str p.1, osV p.2])) (f := pairD) (fun q p hq => TD.mk (ds := [.str p.1, osD p.2]) hq ⟨.str _, os_td _, trivial⟩) l g), trivial⟩
  | read col fv new =>
    obtain ⟨t, rfl, e⟩ := h
    exact ⟨.str _, .str _, .mk e (form_td w.2.1).1, .str _, trivial⟩
  | put col v =>
    obtain ⟨k, _, wk⟩ := w
    cases h
    exact ⟨.str _, .str _, (worth_td wk).1, trivial⟩
  | within col lo hi =>
    obtain ⟨k, _, wk, wk2⟩ := w
    cases h
    exact ⟨.str _, .str _, (worth_td wk).1, (worth_td wk2).1, trivial⟩
  | among col xs =>
    obtain ⟨k, _, _, wk⟩ := w
    obtain ⟨t, rfl, e⟩ := h
    exact ⟨.str _, .str _, .mk e (tds_map fun x hx => (worth_td (wk x hx)).1), trivial⟩
  | before col c2 =>
    cases h
    exact ⟨.str _, .str _, .str _, trivial⟩
  | given col =>
    cases h
    exact ⟨.str _, .str _, trivial⟩
  | fill col keys =>
    obtain ⟨t, rfl, e⟩ := h
    exact ⟨.str _, .str _, .mk e (.strs _), trivial⟩
theorem Dd.tds {H : Hp} {vs : List V} {dd : Dd} {kn : List (Str × Bool)} {nm : Str} {p : Addr} (e : H p = some (.tup (.str nm :: vs))) (h : dd.At H vs) (w : dd.wt kn) : TD H (.ref p) (dd.step nm).data := by
  have t := TD.mk e (Dd.td h w nm)
  unfold StepD.data
  rw [Dd.step_nm]
  exact t
theorem Dd.sh {dd : Dd} {kn : List (Str × Bool)} (w : dd.wt kn) (gk : ∀ c ∈ kn, Good 9 c.1) {nm : Str} (gn : Good 9 nm) : Sh (dd.step nm).data 1731 4 := by
  have gc : ∀ {col : Str} {b : Bool}, (col, b) ∈ kn → Good 9 col := fun h => gk _ h
  have s : ∀ {z : Str} {n : Nat}, Good n z → n ≤ 12 → Sh (PyData.str z) 345 3 := fun g l => sha (gsh g l) (by decide) (by decide)
  have key : ∀ ds : List PyData, (∀ d ∈ ds, Sh d 345 3) → ds.length ≤ 5 → Sh (.tuple ds) 1731 4 := fun ds h l => sh_tuple h l
  have sw : ∀ {z : Str}, Good 12 z → Sh (PyData.str z) 345 3 := fun g => s g (by decide)
  refine key _ ?_ ?_
  · refine list_sh (s (z := (dd.step nm).nm) (n := 9) (by rw [Dd.step_nm]; exact gn) (by decide)) (list_sh (sw ?_) ?_)
    · have gw : ∀ z ∈ (["cut", "glue", "spell", "read", "put", "within", "among", "before", "given", "fill"] : List Str), Good 12 z := by
        have : ((["cut", "glue", "spell", "read", "put", "within", "among", "before", "given", "fill"] : List Str).all fun z => decide (z.length ≤ 12) && z.cps.toList.all fun c => decide (32 ≤ c ∧ c < 127)) = true := by decide +kernel
        intro z hz
        have := List.all_eq_true.mp this z hz
        rw [Bool.and_eq_true, decide_eq_true_eq, List.all_eq_true] at this
        exact ⟨this.1, fun c hc => by simpa using this.2 c hc⟩
      exact gw _ (by cases dd <;> simp [Dd.step])
    · cases dd with
      | cut col c news => exact list_sh (s (gc w.1) (by decide)) (list_sh (s w.2.1 (by decide)) (list_sh (sha (strs_sh w.2.2.2.2 (by decide) w.2.2.1) (by decide) (by decide)) nil_sh))
      | glue cols c new => exact list_sh (sha (strs_sh (fun z hz => gc (w.1 z hz)) (by decide) w.2.2.1) (by decide) (by decide)) (list_sh (s w.2.2.2.1 (by decide)) (list_sh (s w.2.2.2.2 (by decide)) nil_sh))
      | spell col ps =>
        refine list_sh (s (gc w.1) (by decide)) (list_sh ?_ nil_sh)
        have h : Sh (.tuple (ps.map pairD)) (4 * 86 + 1) 3 := by
          refine sh_tuple (w := 85) (k := 2) (mem_map_td fun p hp => ?_) (by rw [List.length_map]; exact w.2.1)
          obtain ⟨g1, g2⟩ := w.2.2 p hp
          refine sh_tuple (w := 41) (k := 1) (n := 2) (list_sh (gsh g1 (by decide)) (list_sh ?_ nil_sh)) (Nat.le_of_ble_eq_true rfl)
          cases ho : p.2 with
          | none => exact sh_non.up (by decide) (by decide)
          | some z => exact gsh (g2 z ho) (by decide)
        exact h
      | read col fv new =>
        obtain ⟨_, h2, h3⟩ := form_td (H := fun _ => none) w.2.1
        exact list_sh (s (gc w.1) (by decide)) (list_sh (sha (sh_tuple h2 (by rw [List.length_map]; exact h3)) (by decide) (by decide)) (list_sh (s w.2.2 (by decide)) nil_sh))
      | put col v =>
        obtain ⟨k, c, wk⟩ := w
        exact list_sh (s (gc c) (by decide)) (list_sh (sha (worth_td (H := fun _ => none) wk).2 (by decide) (by decide)) nil_sh)
      | within col lo hi =>
        obtain ⟨k, c, wk, wk2⟩ := w
        exact list_sh (s (gc c) (by decide)) (list_sh (sha (worth_td (H := fun _ => none) wk).2 (by decide) (by decide)) (list_sh (sha (worth_td (H := fun _ => none) wk2).2 (by decide) (by decide)) nil_sh))
      | among col xs =>
        obtain ⟨k, c, l, wk⟩ := w
        exact list_sh (s (gc c) (by decide)) (list_sh (sha (sh_tuple (mem_map_td fun x hx => (worth_td (H := fun _ => none) (wk x hx)).2) (by rw [List.length_map]; exact l)) (by decide) (by decide)) nil_sh)
      | before col c2 =>
        obtain ⟨k, c, c'⟩ := w
        exact list_sh (s (gc c) (by decide)) (list_sh (s (gc c') (by decide)) nil_sh)
      | given col =>
        obtain ⟨k, c⟩ := w
        exact list_sh (s (gc c) (by decide)) nil_sh
      | fill col keys =>
        obtain ⟨⟨k, c⟩, l, hk⟩ := w
        exact list_sh (s (gc c) (by decide)) (list_sh (sha (strs_sh (fun z hz => (hk z hz).elim fun _ h => gc h) (by decide) l) (by decide) (by decide)) nil_sh)
  · cases dd <;> exact Nat.le_of_ble_eq_true rfl
/-- a fill's keys are texts that can be laid out -/
def StepD.fine (s : StepD) : Prop := PyData.canLayAll0 s.ks = true
theorem lay_strs : ∀ {zs : List Str}, (∀ z ∈ zs, Good 9 z) → PyData.canLayAll0 (zs.map PyData.str) = true
  | [], _ => rfl
  | z :: zs, h => by
    rw [List.map_cons]
    simp only [PyData.canLayAll0, PyData.canLay0]
    rw [(h z List.mem_cons_self).ok, lay_strs fun x hx => h x (List.mem_cons_of_mem _ hx)]
    rfl
theorem Dd.fine {dd : Dd} {kn : List (Str × Bool)} (w : dd.wt kn) (gk : ∀ c ∈ kn, Good 9 c.1) (nm : Str) : (dd.step nm).fine := by
  cases dd with
  | fill col keys => exact lay_strs fun z hz => (w.2.2 z hz).elim fun k hk => gk _ hk
  | _ => rfl
/-- does a step go row by row -/
def StepD.go (s : StepD) : Bool := if s.w = "fill" then s.ks.isEmpty else !(decide (s.w = "unlike") || decide (s.w = "look"))
/-- a program, as data -/
structure ProgD where
  srcs : List PyData
  nm : Str
  ow : Str
  orest : List PyData
  steps : List StepD
  bs : List PyData
  more : List PyData
def ProgD.tab (p : ProgD) : PyData := .tuple [.str p.nm, .tuple (.str p.ow :: p.orest), .tuple (p.steps.map StepD.data), .tuple p.bs]
def ProgD.data (p : ProgD) : PyData := .tuple [.tuple p.srcs, .tuple (p.tab :: p.more)]
def ProgD.go (p : ProgD) : Bool := p.more.isEmpty && decide (p.ow = "of") && p.steps.all StepD.go
/-- one source, one table -/
structure PlanD where
  sn : Str
  pre : List PyData
  cols : List Str
  nm : Str
  steps : List StepD
  bs : List PyData
def PlanD.src (p : PlanD) : PyData := .tuple [.str p.sn, .tuple (p.pre ++ [.tuple (p.cols.map .str)])]
def PlanD.prog (p : PlanD) : ProgD := ⟨[p.src], p.nm, "of", [.str p.sn], p.steps, p.bs, []⟩
structure PlanD.ok (p : PlanD) (m b : Nat) : Prop where
  sn : Good 9 p.sn
  nm : Good 9 p.nm
  pre : p.pre.length ≤ 3 ∧ ∀ d ∈ p.pre, Sh d 300 2
  c1 : 1 ≤ p.cols.length
  c3 : p.cols.length ≤ 3
  cg : ∀ z ∈ p.cols, Good 9 z
  sl : p.steps.length ≤ m
  ss : ∀ s ∈ p.steps, Good 9 s.nm ∧ Sh s.data 1731 4 ∧ s.fine
  bl : p.bs.length ≤ b
  bg : ∀ d ∈ p.bs, PairD d
theorem pair_sh {d : PyData} (h : PairD d) : Sh d 85 2 := by
  obtain ⟨a, b, rfl, g, g'⟩ := h
  exact sh_tuple (w := 41) (k := 1) (n := 2) (list_sh (gsh g (by decide)) (list_sh (gsh g' (by decide)) nil_sh)) (Nat.le_of_ble_eq_true rfl)
/-- a program is small -/
structure ProgD.ok (p : ProgD) : Prop where
  src : p.srcs.length ≤ 3 ∧ ∀ d ∈ p.srcs, Sh d 3000 5
  nm : Good 9 p.nm
  ow : Good 9 p.ow
  ol : p.orest.length ≤ 4 ∧ ∀ d ∈ p.orest, Sh d 1000 4
  sl : p.steps.length ≤ 10
  ss : ∀ s ∈ p.steps, Sh s.data 1731 4 ∧ s.fine
  bl : p.bs.length ≤ 70
  bg : ∀ d ∈ p.bs, PairD d
  mo : p.more.length ≤ 2 ∧ ∀ d ∈ p.more, Sh d 20000 6
theorem ProgD.sh {p : ProgD} (h : p.ok) : Sh p.data 600000 9 := by
  have h1 : Sh (.tuple p.srcs) 100000 8 := (sh_tuple h.src.2 h.src.1).up (by decide) (by decide)
  have h2 : Sh (.tuple (.str p.ow :: p.orest)) 20000 6 := (sh_tuple (w := 1000) (k := 4) (n := 5) (list_sh ((gsh h.ow (by decide)).up (by decide) (by decide)) h.ol.2) (by have := h.ol.1; rw [List.length_cons]; omega)).up (by decide) (by decide)
  have h3 : Sh (.tuple (p.steps.map StepD.data)) 20000 6 := (sh_tuple (n := 10) (mem_map_td fun s hs => (h.ss s hs).1) (by rw [List.length_map]; exact h.sl)).up (by decide) (by decide)
  have h4 : Sh (.tuple p.bs) 20000 6 := (sh_tuple (fun d hd => pair_sh (h.bg d hd)) h.bl).up (by decide) (by decide)
  have h5 : Sh p.tab (4 * 20001 + 1) 7 := sh_tuple (list_sh ((gsh h.nm (by decide)).up (by decide) (by decide)) (list_sh h2 (list_sh h3 (list_sh h4 nil_sh)))) (Nat.le_of_ble_eq_true rfl)
  have h6 : Sh (.tuple (p.tab :: p.more)) 290000 8 := (sh_tuple (n := 3) (list_sh h5 fun d hd => (h.mo.2 d hd).up (by decide) (by decide)) (by have := h.mo.1; rw [List.length_cons]; omega)).up (by decide) (by decide)
  exact (sh_tuple (w := 290000) (k := 8) (n := 2) (list_sh (h1.up (by decide) (by decide)) (list_sh h6 nil_sh)) (Nat.le_of_ble_eq_true rfl)).up (by decide) (by decide)
/-- the data of a shape -/
theorem shape_td {K : PySem.W.Frag} {H : Hp} {v : V} {names : List Str} (h : IsShape K H v names) (l6 : names.length ≤ 6) : ∃ (a : Addr) (pre : List PyData), v = .ref a ∧ TD H v (.tuple (pre ++ [.tuple (names.map .str)])) ∧ pre.length ≤ 3 ∧ ∀ d ∈ pre, Sh d 300 2 := by
  have s9 : ∀ {z : Str}, Good 9 z → Sh (PyData.str z) 300 2 := fun g => (gsh g (by decide)).up (by decide) (by decide)
  have s1 : ∀ {z : Str}, Good 1 z → Sh (PyData.str z) 300 2 := fun g => (gsh g (by decide)).up (by decide) (by decide)
  obtain ⟨a, t, pre, rfl, ea, et, hp⟩ := h
  have tt : TD H (.ref t) (.tuple (names.map .str)) := .mk et (.strs _)
  rcases hp with ⟨s, q, rfl, g1, g2⟩ | ⟨s, rfl, g1⟩ | ⟨u, ws, rfl, eu, lw, hw⟩
  · exact ⟨a, [.str "signs", .str s, .str q], rfl, .mk ea (ds := [.str "signs", .str s, .str q, .tuple (names.map .str)]) ⟨.str _, .str _, .str _, tt, trivial⟩, Nat.le_of_ble_eq_true rfl, list_sh (s9 (by constructor <;> decide +kernel)) (list_sh (s1 g1) (list_sh (s1 g2) nil_sh))⟩
  · exact ⟨a, [.str "named", .str s], rfl, .mk ea (ds := [.str "named", .str s, .tuple (names.map .str)]) ⟨.str _, .str _, tt, trivial⟩, Nat.le_of_ble_eq_true rfl, list_sh (s9 (by constructor <;> decide +kernel)) (list_sh (s1 g1) nil_sh)⟩
  · refine ⟨a, [.str "places", .tuple (ws.map .int)], rfl, .mk ea (ds := [.str "places", .tuple (ws.map .int), .tuple (names.map .str)]) ⟨.str _, .mk eu (.ints _), tt, trivial⟩, Nat.le_of_ble_eq_true rfl, list_sh (s9 (by constructor <;> decide +kernel)) (list_sh ?_ nil_sh)⟩
    exact (sh_tuple (n := 6) (mem_map_td fun i hi => sh_int (by have := hw i hi; omega)) (by rw [List.length_map]; omega)).up (by decide) (by decide)
theorem steps_td {H : Hp} : ∀ {ps : List Addr}, (∀ p ∈ ps, ∃ nm dd kn, StAt H p nm dd kn ∧ Good 9 nm ∧ ∀ c ∈ kn, Good 9 c.1) → ∃ ss : List StepD, TDs H (ps.map V.ref) (ss.map StepD.data) ∧ ss.length = ps.length ∧ ∀ s ∈ ss, Good 9 s.nm ∧ Sh s.data 1731 4 ∧ s.fine
  | [], _ => ⟨[], trivial, rfl, fun s hs => nomatch hs⟩
  | p :: ps, h => by
    obtain ⟨nm, dd, kn, ⟨vs, e, da, dw⟩, g, gk⟩ := h p List.mem_cons_self
    obtain ⟨ss, t, l, q⟩ := steps_td (ps := ps) fun x hx => h x (List.mem_cons_of_mem _ hx)
    refine ⟨dd.step nm :: ss, ⟨Dd.tds e da dw, t⟩, by rw [List.length_cons, List.length_cons, l], fun s hs => ?_⟩
    rcases List.mem_cons.mp hs with rfl | hs
    · exact ⟨by rw [Dd.step_nm]; exact g, Dd.sh dw gk g, Dd.fine dw gk nm⟩
    · exact q s hs
theorem PlanD.src_sh {p : PlanD} {m b : Nat} (h : p.ok m b) : Sh p.src 3000 5 := by
  have h1 : Sh (.tuple (p.cols.map PyData.str)) 300 2 := (strs_sh h.cg (by decide) h.c3).up (by decide) (by decide)
  have h2 : Sh (.tuple (p.pre ++ [.tuple (p.cols.map .str)])) 1205 3 := sh_tuple (n := 4) (fun d hd => (List.mem_append.mp hd).elim (h.pre.2 d) fun z => by rw [List.mem_singleton.mp z]; exact h1) (by rw [List.length_append]; exact Nat.add_le_add_right h.pre.1 1)
  exact (sh_tuple (w := 1205) (k := 3) (n := 2) (list_sh ((gsh h.sn (by decide)).up (by decide) (by decide)) (list_sh h2 nil_sh)) (Nat.le_of_ble_eq_true rfl)).up (by decide) (by decide)
theorem PlanD.prog_ok {p : PlanD} {m b : Nat} (h : p.ok m b) (hm : m ≤ 10) (hb : b ≤ 70) : p.prog.ok where
  src := ⟨Nat.le_of_ble_eq_true rfl, list_sh (PlanD.src_sh h) nil_sh⟩
  nm := h.nm
  ow := show Good 9 (Str.ofString "of") by constructor <;> decide +kernel
  ol := ⟨Nat.le_of_ble_eq_true rfl, list_sh ((gsh h.sn (by decide)).up (by decide) (by decide)) nil_sh⟩
  sl := Nat.le_trans h.sl hm
  ss := fun s hs => (h.ss s hs).2
  bl := Nat.le_trans h.bl hb
  bg := h.bg
  mo := ⟨Nat.le_of_ble_eq_true rfl, nil_sh⟩
end K86
set_option Elab.async false
set_option linter.all false
set_option maxRecDepth 100000
set_option maxHeartbeats 4000000
/-! Xz: dict(zip(a, b)), a and b a list, a tuple, a text each. -/
namespace Xz
open PySem PySem.Spec PyProof.Rows L2
section
variable {prog : Program} {w : World} {A : Around} {E : Value → Shared → Prop} {s : Shared} {zz ti to tt ia ib : Addr} {fa fb : List Addr} {na nb j : Nat} {Pa Pb : Nat → Value → Prop} {Sa Sb : Nat → Heap → Prop} {fl : Bool} {ot : Obj}
/-- the next pair, while the tuple given out before is still there -/
theorem held_item {Q : Value → Shared → Prop} (S : ZipSep2 zz ti to ia ib fa fb) (Da : Draws prog w A ia fa na Pa Sa) (Db : Draws prog w A ib fb nb Pb Sb) (hz : IsZipHeld s.heap zz ti to tt fl) (ht : s.heap.get? tt = some ot)
    (hti : IsTupOf2 s.heap ti (.ref ia) (.ref ib)) (sa : Sa j s.heap) (sb : Sb j s.heap) (la : j < na) (lb : j < nb)
    (fin : ∀ x y h' tk, Pa j x → Pb j y → IsZipHeld h' zz ti to tt true → Sa (j + 1) h' → Sb (j + 1) h' → IsTupOf2 h' s.heap.objs.size x y → h'.objs.size = s.heap.objs.size + 1 →
      (∀ c o, c ≠ zz → c ≠ ia → c ≠ ib → s.heap.get? c = some o → h'.get? c = some o) → Q (.ref s.heap.objs.size) { s with heap := h', toks := tk }) :
    wpAny (model prog w) A (Builtin.«zip.__next__» ⟨[.ref zz], []⟩) (fun r s' => ∃ v, r = .done (.ret v) ∧ Q v s') E s := by
  obtain ⟨hp, gg, dd, tk0, oo⟩ := s
  show wpAny _ _ (field (.ref zz) 2 >>= _) _ _ _
  refine wpAny_bind (wpAny_field hz rfl (x := Value.bool false) rfl ?_)
  show wpAny _ _ (field (.ref zz) 3 >>= _) _ _ _
  refine wpAny_bind (wpAny_field hz rfl (x := Value.ref ti) rfl ?_)
  refine wpAny_bind (wpAny_seqItems hti rfl ?_)
  show wpAny _ _ (Builtin.SmallTypes.ownedTupleIsFree (.ref zz) >>= _) _ _ _
  refine wpAny_bind (wpAny_tupleHeld_zip hz ht fun h1 hz1 s1 => ?_)
  replace s1 : Heap.SameBut zz hp h1 := s1
  simp only [Bool.false_eq_true, if_false]
  refine wpAny_bind ?_
  rw [← Array.forIn_toList]
  simp only [List.forIn_cons, List.forIn_nil]
  refine wpAny_bind (wpAny_bind (wpAny_holding ?_))
  show wpAny _ _ (Builtin.SmallTypes.nextOf (.ref ia) >>= _) _ _ ⟨h1, gg, dd, tk0, oo⟩
  refine wpAny_bind (Da.item j _ _ _ la (Da.over sa s1 S.zf1) fun x h2 tk2 px sa2 s2 => wpAny_pure (wpAny_pure ?_))
  replace s2 : Heap.SameBut ia h1 h2 := s2
  refine wpAny_bind (wpAny_bind (wpAny_holding ?_))
  show wpAny _ _ (Builtin.SmallTypes.nextOf (.ref ib) >>= _) _ _ ⟨h2, gg, dd, tk2, oo⟩
  refine wpAny_bind (Db.item j _ _ _ lb (Db.over (Db.over sb s1 S.zf2) s2 S.sep1_2) fun y h3 tk3 py sb3 s3 => wpAny_pure (wpAny_pure (wpAny_pure ?_)))
  replace s3 : Heap.SameBut ib h2 h3 := s3
  show wpAny _ _ (newTuple [x, y] >>= _) _ _ ⟨h3, gg, dd, tk3, oo⟩
  refine wpAny_bind (wpAny_newTuple ?_)
  have size : h3.objs.size = hp.objs.size := by rw [s3.1, s2.1, s1.1]
  have hz3 : IsZipHeld h3 zz ti to tt true := s3.extBut _ _ S.zi2 (s2.extBut _ _ S.zi1 hz1)
  have old : ∀ c o, c ≠ zz → c ≠ ia → c ≠ ib → hp.get? c = some o → h3.get? c = some o := fun c o c1 c2 c3 e => s3.extBut _ _ c3 (s2.extBut _ _ c2 (s1.extBut _ _ c1 e))
  have sa3 : Sa (j + 1) h3 := Da.over sa2 s3 S.sep2_1
  have pu : ∀ b ∈ fa, ∀ o, h3.get? b = some o → (h3.push { cls := .type "tuple", data := .seq #[x, y] }).get? b = some o := fun b _ o e => Heap.get?_push_of_some _ e
  have pu2 : ∀ b ∈ fb, ∀ o, h3.get? b = some o → (h3.push { cls := .type "tuple", data := .seq #[x, y] }).get? b = some o := fun b _ o e => Heap.get?_push_of_some _ e
  have two : IsTupOf2 (h3.push { cls := .type "tuple", data := .seq #[x, y] }) h3.objs.size x y := Heap.get?_push_size _ rfl
  have more : (h3.push { cls := .type "tuple", data := .seq #[x, y] }).objs.size = h3.objs.size + 1 := Heap.size_push ..
  refine wpAny_pure ⟨_, rfl, ?_⟩
  show Q (.ref h3.objs.size) _
  rw [size] at two more ⊢
  exact fin x y _ tk3 px py (Heap.get?_push_of_some _ hz3) (Da.frame _ _ _ sa3 pu) (Db.frame _ _ _ sb3 pu2) two more fun c o c1 c2 c3 e => Heap.get?_push_of_some _ (old c o c1 c2 c3 e)
/-- the end, likewise -/
theorem held_end {Q : Fin → Shared → Prop} (S : ZipSep2 zz ti to ia ib fa fb) (Da : Draws prog w A ia fa na Pa Sa) (Db : Draws prog w A ib fb nb Pb Sb) (hz : IsZipHeld s.heap zz ti to tt fl) (ht : s.heap.get? tt = some ot)
    (hti : IsTupOf2 s.heap ti (.ref ia) (.ref ib)) (sa : Sa j s.heap) (sb : Sb j s.heap) (la : j ≤ na) (lb : j ≤ nb) (e0 : j = na ∨ j = nb)
    (fin : ∀ h' e tk, (∀ c o, c ≠ zz → c ≠ ia → c ≠ ib → s.heap.get? c = some o → h'.get? c = some o) → (∃ o, h'.get? e = some o ∧ o.cls = .type "StopIteration") → E (.ref e) { s with heap := h', toks := tk }) :
    wpAny (model prog w) A (Builtin.«zip.__next__» ⟨[.ref zz], []⟩) Q E s := by
  obtain ⟨hp, gg, dd, tk0, oo⟩ := s
  show wpAny _ _ (field (.ref zz) 2 >>= _) _ _ _
  refine wpAny_bind (wpAny_field hz rfl (x := Value.bool false) rfl ?_)
  show wpAny _ _ (field (.ref zz) 3 >>= _) _ _ _
  refine wpAny_bind (wpAny_field hz rfl (x := Value.ref ti) rfl ?_)
  refine wpAny_bind (wpAny_seqItems hti rfl ?_)
  show wpAny _ _ (Builtin.SmallTypes.ownedTupleIsFree (.ref zz) >>= _) _ _ _
  refine wpAny_bind (wpAny_tupleHeld_zip hz ht fun h1 hz1 s1 => ?_)
  replace s1 : Heap.SameBut zz hp h1 := s1
  simp only [Bool.false_eq_true, if_false]
  refine wpAny_bind ?_
  rw [← Array.forIn_toList]
  simp only [List.forIn_cons, List.forIn_nil]
  refine wpAny_bind (wpAny_bind (wpAny_holding ?_))
  show wpAny _ _ (Builtin.SmallTypes.nextOf (.ref ia) >>= _) _ _ ⟨h1, gg, dd, tk0, oo⟩
  by_cases ea : j = na
  · subst ea
    exact wpAny_bind (Da.done _ _ _ (Da.over sa s1 S.zf1) fun h2 e k2 st => fin h2 e _ (fun c o c1 c2 _ q => k2 _ _ c2 (s1.extBut _ _ c1 q)) st)
  · have eb : j = nb := e0.elim (fun q => absurd q ea) id
    refine wpAny_bind (Da.item j _ _ _ (by omega) (Da.over sa s1 S.zf1) fun x h2 tk2 px sa2 s2 => wpAny_pure (wpAny_pure ?_))
    replace s2 : Heap.SameBut ia h1 h2 := s2
    refine wpAny_bind (wpAny_bind (wpAny_holding ?_))
    show wpAny _ _ (Builtin.SmallTypes.nextOf (.ref ib) >>= _) _ _ ⟨h2, gg, dd, tk2, oo⟩
    subst eb
    exact wpAny_bind (Db.done _ _ _ (Db.over (Db.over sb s1 S.zf2) s2 S.sep1_2) fun h3 e k3 st => fin h3 e _ (fun c o c1 c2 c3 q => k3 _ _ c3 (s2.extBut _ _ c2 (s1.extBut _ _ c1 q))) st)
end
end Xz
set_option Elab.async false
set_option linter.all false
set_option maxRecDepth 100000
set_option maxHeartbeats 4000000
/-! Xk: dict(zip(a, b)), a and b a list, a tuple, a text each: the rule. -/
namespace Xk
open PySem PySem.Spec PyProof.Rows L2 Xz
section
variable {prog : Program} {w : World} {A : Around} {E : Value → Shared → Prop} {s : Shared} {zz ti to tt ia ib : Addr} {fa fb : List Addr} {na nb j : Nat} {Pa Pb : Nat → Value → Prop} {Sa Sb : Nat → Heap → Prop} {fl : Bool} {ot : Obj}
theorem turn_item {Q : Option Value → Shared → Prop} (S : ZipSep2 zz ti to ia ib fa fb) (Da : Draws prog w A.in1 ia fa na Pa Sa) (Db : Draws prog w A.in1 ib fb nb Pb Sb) (hz : IsZipHeld s.heap zz ti to tt fl) (ht : s.heap.get? tt = some ot)
    (hti : IsTupOf2 s.heap ti (.ref ia) (.ref ib)) (sa : Sa j s.heap) (sb : Sb j s.heap) (la : j < na) (lb : j < nb)
    (fin : ∀ x y h' tk, Pa j x → Pb j y → IsZipHeld h' zz ti to tt true → Sa (j + 1) h' → Sb (j + 1) h' → IsTupOf2 h' s.heap.objs.size x y → h'.objs.size = s.heap.objs.size + 1 →
      (∀ c o, c ≠ zz → c ≠ ia → c ≠ ib → s.heap.get? c = some o → h'.get? c = some o) → Q (some (.ref s.heap.objs.size)) { s with heap := h', toks := tk }) :
    wpAny (model prog w) A (pyNext (.ref zz)) Q E s := by
  have ty : s.TypeIs (.ref zz) "zip" := ⟨_, hz, rfl⟩
  unfold pyNext
  refine wpAny_bind (wpAny_attempt (wpAny_callSpecial?_slot (name := Str.ofString "__next__") ty F.slot_zip_next ?_))
  refine wpAny_call_entry F.slot_zip_next ty F.entry_zip_next ?_ (F.args_zip_next_1 _)
  exact held_item S Da Db hz ht hti sa sb la lb fun x y h' tk p1 p2 p3 p4 p5 p6 p7 p8 => wpAny_pure (fin x y h' tk p1 p2 p3 p4 p5 p6 p7 p8)
theorem turn_end {Q : Option Value → Shared → Prop} (S : ZipSep2 zz ti to ia ib fa fb) (Da : Draws prog w A.in1 ia fa na Pa Sa) (Db : Draws prog w A.in1 ib fb nb Pb Sb) (hz : IsZipHeld s.heap zz ti to tt fl) (ht : s.heap.get? tt = some ot)
    (hti : IsTupOf2 s.heap ti (.ref ia) (.ref ib)) (sa : Sa j s.heap) (sb : Sb j s.heap) (la : j ≤ na) (lb : j ≤ nb) (e0 : j = na ∨ j = nb)
    (fin : ∀ h' tk, (∀ c o, c ≠ zz → c ≠ ia → c ≠ ib → s.heap.get? c = some o → h'.get? c = some o) → Q none { s with heap := h', toks := tk }) :
    wpAny (model prog w) A (pyNext (.ref zz)) Q E s := by
  have ty : s.TypeIs (.ref zz) "zip" := ⟨_, hz, rfl⟩
  unfold pyNext
  refine wpAny_bind (wpAny_attempt (wpAny_callSpecial?_slot (name := Str.ofString "__next__") ty F.slot_zip_next ?_))
  refine wpAny_call_entry F.slot_zip_next ty F.entry_zip_next ?_ (F.args_zip_next_1 _)
  refine held_end S Da Db hz ht hti sa sb la lb e0 fun h' e tk kp st => ?_
  obtain ⟨o, ho, hc⟩ := st
  exact wpAny_bind (wpAny_isInstance (T := "StopIteration") (b := true) ⟨o, ho, hc⟩ isSubtype_stop (wpAny_pure (fin h' tk kp)))
/-- a zip of any two as the pairs of a dict -/
theorem pairs2 (S : ZipSep2 zz ti to ia ib fa fb) (Da : ∀ A : Around, A.handled = none → Draws prog w A ia fa na Pa Sa) (Db : ∀ A : Around, A.handled = none → Draws prog w A ib fb nb Pb Sb)
    (ta : ∀ i h, Sa i h → ∀ b ∈ fa, ∃ o, h.get? b = some o) (tb : ∀ i h, Sb i h → ∀ b ∈ fb, ∃ o, h.get? b = some o) :
    PairArg prog w "zip" zz (zz :: ti :: to :: (fa ++ fb)) [zz, to, ia, ib] (min na nb) (fun i k v => Pa i k ∧ Pb i v)
      (fun h => IsZip h zz ti to .none ∧ IsTupOf2 h ti (.ref ia) (.ref ib) ∧ (∃ x y, IsTupOf2 h to x y) ∧ Sa 0 h ∧ Sb 0 h) where
  type := fun s q => ⟨_, q.1, rfl⟩
  notDict := by decide
  keep := fun h h' q kp => by
    obtain ⟨q1, q2, ⟨x, y, q3⟩, q4, q5⟩ := q
    exact ⟨kp _ _ q1, kp _ _ q2, ⟨x, y, kp _ _ q3⟩, (Da {} rfl).frame _ _ _ q4 fun b _ o e => kp b o e, (Db {} rfl).frame _ _ _ q5 fun b _ o e => kp b o e⟩
  there := fun h q b hb => by
    obtain ⟨q1, q2, ⟨x, y, q3⟩, q4, q5⟩ := q
    rcases List.mem_cons.mp hb with rfl | hb
    · exact ⟨_, q1⟩
    rcases List.mem_cons.mp hb with rfl | hb
    · exact ⟨_, q2⟩
    rcases List.mem_cons.mp hb with rfl | hb
    · exact ⟨_, q3⟩
    rcases List.mem_append.mp hb with hb | hb
    · exact ta _ _ q4 _ hb
    · exact tb _ _ q5 _ hb
  sub := fun b hb => by
    have e : b = zz ∨ b = to ∨ b = ia ∨ b = ib := by simpa using hb
    have m1 := S.mem1
    have m2 := S.mem2
    rcases e with rfl | rfl | rfl | rfl <;> simp [m1, m2]
  noKeys := fun A s Q E hA q fin => getAttrOr_miss_zip q.1 rfl rfl rfl zip_no_keys (by decide +kernel) hA fin
  iter := fun A s d Q E hA q hd nd fin => by
    obtain ⟨q1, q2, ⟨x, y, q3⟩, q4, q5⟩ := q
    have d0 : d ≠ zz := fun e => nd (by simp [e])
    have d1 : d ≠ ti := fun e => nd (by simp [e])
    have d2 : d ≠ to := fun e => nd (by simp [e])
    have d3 : d ∉ fa := fun e => nd (by simp [e])
    have d4 : d ∉ fb := fun e => nd (by simp [e])
    have d5 : d ≠ ia := fun e => d3 (by rw [e]; exact S.mem1)
    have d6 : d ≠ ib := fun e => d4 (by rw [e]; exact S.mem2)
    refine wpAny_pyIter_zip q1 (fin zz [zz, to, ia, ib] (fun i h => IsTupOf2 h ti (.ref ia) (.ref ib) ∧ Sa i h ∧ Sb i h ∧
      ((IsZip h zz ti to .none ∧ ∃ x y, IsTupOf2 h to x y) ∨ ∃ tt fl ot, IsZipHeld h zz ti to tt fl ∧ h.get? tt = some ot ∧ tt ≠ zz ∧ tt ≠ ia ∧ tt ≠ ib ∧ tt ≠ d)) s.heap s.toks ?_
      ⟨q2, q4, q5, .inl ⟨q1, x, y, q3⟩⟩ (fun _ _ e => e) fun b hb => .inl hb)
    have inA : A.in1.handled = none := by simp [hA]
    exact {
      off := fun hm => by
        have e : d = zz ∨ d = to ∨ d = ia ∨ d = ib := by simpa using hm
        rcases e with e | e | e | e
        · exact d0 e
        · exact d2 e
        · exact d5 e
        · exact d6 e
      frame := fun i h1 h2 st kp => by
        obtain ⟨p2, p4, p5, p1⟩ := st
        refine ⟨kp _ _ (Ne.symm d1) p2, (Da {} rfl).frame _ _ _ p4 fun b hb o e => kp b o (fun z => d3 (z ▸ hb)) e, (Db {} rfl).frame _ _ _ p5 fun b hb o e => kp b o (fun z => d4 (z ▸ hb)) e, ?_⟩
        rcases p1 with ⟨p1, x, y, p3⟩ | ⟨tt, fl, ot, p1, p3, r1, r2, r3, r4⟩
        · exact .inl ⟨kp _ _ (Ne.symm d0) p1, x, y, kp _ _ (Ne.symm d2) p3⟩
        · exact .inr ⟨tt, fl, ot, kp _ _ (Ne.symm d0) p1, kp _ _ r4 p3, r1, r2, r3, r4⟩
      item := fun i s1 Q1 E1 hi st hds fin1 => by
        obtain ⟨p2, p4, p5, p1⟩ := st
        have ja : i < na := by omega
        have jb : i < nb := by omega
        have up : ∀ {c o}, s1.heap.get? c = some o → s1.heap.objs.size ≠ c := fun e => Nat.ne_of_gt (Heap.lt_size e)
        have u1 : s1.heap.objs.size ≠ ia := let ⟨_, e⟩ := (Da {} rfl).live _ _ p4; up e
        have u2 : s1.heap.objs.size ≠ ib := let ⟨_, e⟩ := (Db {} rfl).live _ _ p5; up e
        rcases p1 with ⟨p1, x, y, p3⟩ | ⟨tt, fl, ot, p1, p3, r1, r2, r3, r4⟩
        · refine wpAny_pyNext_zipD2_item S (Da _ inA) (Db _ inA) p1 p2 p3 p4 p5 ja jb fun x1 x2 h' tk y1 y2 z1 z2 z3 z4 z5 z6 kp => ?_
          exact fin1 s1.heap.objs.size _ _ h' tk ⟨y1, y2⟩ (.inl ⟨_, z5, rfl, _, rfl⟩)
            ⟨kp _ _ S.TIz S.TITO S.TIi1 S.TIi2 p2, z3, z4, .inr ⟨s1.heap.objs.size, false, _, z1, z5, up p1, u1, u2, Nat.ne_of_gt hds⟩⟩
            fun c o hc e => kp c o (fun z => hc (by simp [z])) (fun z => hc (by simp [z])) (fun z => hc (by simp [z])) (fun z => hc (by simp [z])) e
        · refine turn_item S (Da _ inA) (Db _ inA) p1 p3 p2 p4 p5 ja jb fun x1 x2 h' tk y1 y2 z1 z3 z4 z5 z6 kp => ?_
          exact fin1 s1.heap.objs.size _ _ h' tk ⟨y1, y2⟩ (.inl ⟨_, z5, rfl, _, rfl⟩)
            ⟨kp _ _ S.TIz S.TIi1 S.TIi2 p2, z3, z4, .inr ⟨tt, true, ot, z1, kp _ _ r1 r2 r3 p3, r1, r2, r3, r4⟩⟩
            fun c o hc e => kp c o (fun z => hc (by simp [z])) (fun z => hc (by simp [z])) (fun z => hc (by simp [z])) e
      done := fun s1 Q1 E1 st fin1 => by
        obtain ⟨p2, p4, p5, p1⟩ := st
        rcases p1 with ⟨p1, x, y, p3⟩ | ⟨tt, fl, ot, p1, p3, r1, r2, r3, r4⟩
        · exact wpAny_pyNext_zipD2_end S (Da _ inA) (Db _ inA) p1 p2 p3 p4 p5 (by omega) (by omega) (by omega) fun h' tk kp => fin1 h' tk fun c o hc e =>
            kp c o (fun z => hc (by simp [z])) (fun z => hc (by simp [z])) (fun z => hc (by simp [z])) (fun z => hc (by simp [z])) e
        · exact turn_end S (Da _ inA) (Db _ inA) p1 p3 p2 p4 p5 (by omega) (by omega) (by omega) fun h' tk kp => fin1 h' tk fun c o hc e =>
            kp c o (fun z => hc (by simp [z])) (fun z => hc (by simp [z])) (fun z => hc (by simp [z])) e }
end
/-- what a value gives, item by item, where it stands -/
structure Gives (prog : Program) (w : World) (h : Heap) (u : Value) (n : Nat) (Pv : Nat → Value → Prop) : Prop where
  ex : ∃ (o : Obj) (Hh : Heap → Prop) (fo : List Addr), Begins u o Hh ∧ Hh h ∧ (∀ b ∈ fo, ∃ q, h.get? b = some q) ∧
    ∀ it, it ∉ fo → ∃ S : Nat → Heap → Prop, (∀ A : Around, A.handled = none → Draws prog w A it (it :: fo) n Pv S) ∧ (∀ h', h'.get? it = some o → (∀ b q, h.get? b = some q → h'.get? b = some q) → S 0 h') ∧
      (∀ i h', S i h' → ∀ b ∈ it :: fo, ∃ q, h'.get? b = some q)
section
variable {prog : Program} {w : World} {h : Heap}
theorem gives_list {p : Addr} {items : Array Value} (q : h.IsList p items) : Gives prog w h (.ref p) items.size fun i v => items[i]? = some v :=
  ⟨_, _, [p], begins_list p items, q, fun b hb => by
    rw [List.mem_singleton.mp hb]
    exact let ⟨o, e, _⟩ := q; ⟨o, e⟩,
   fun it hn => ⟨_, fun A hA => Draws.list hA it p (fun e => hn (by simp [e])) items, fun h' e kp => ⟨⟨_, e, rfl, rfl⟩, q.at fun o z => kp p o z⟩, fun i h' st b hb => by
    rcases List.mem_cons.mp hb with rfl | hb
    · exact let ⟨o, e, _⟩ := st.1; ⟨o, e⟩
    · rw [List.mem_singleton.mp hb]
      exact let ⟨o, e, _⟩ := st.2; ⟨o, e⟩⟩⟩
theorem gives_tuple {p : Addr} {items : Array Value} (q : h.IsTuple p items) : Gives prog w h (.ref p) items.size fun i v => items[i]? = some v :=
  ⟨_, _, [p], begins_tuple p items, q, fun b hb => by
    rw [List.mem_singleton.mp hb]
    exact let ⟨o, e, _⟩ := q; ⟨o, e⟩,
   fun it hn => ⟨_, fun A hA => Draws.tuple hA it p (fun e => hn (by simp [e])) items, fun h' e kp => ⟨⟨_, e, rfl, rfl⟩, q.at fun o z => kp p o z⟩, fun i h' st b hb => by
    rcases List.mem_cons.mp hb with rfl | hb
    · exact let ⟨o, e, _⟩ := st.1; ⟨o, e⟩
    · rw [List.mem_singleton.mp hb]
      exact let ⟨o, e, _⟩ := st.2; ⟨o, e⟩⟩⟩
theorem gives_text (x : Str) (t : Tok) : Gives prog w h (.str x t) x.cps.size fun i v => ∃ c u, x.cps[i]? = some c ∧ v = .str ⟨#[c]⟩ u :=
  ⟨_, _, [], begins_text x t, trivial, fun b hb => (List.not_mem_nil hb).elim,
   fun it hn => ⟨_, fun A hA => Draws.text hA it x t, fun h' e kp => ⟨_, e, rfl, rfl⟩, fun i h' st b hb => by
    rw [List.mem_singleton.mp hb]
    exact let ⟨o, e, _⟩ := st; ⟨o, e⟩⟩⟩
end
section
variable {prog : Program} {w : World} {A : Around} {E : Value → Shared → Prop} {s : Shared}
/-- dict of a zip of two values -/
theorem call_zip_dict {u1 u2 : Value} {n1 n2 : Nat} {P1 P2 : Nat → Value → Prop} {K : Type} [DecidableEq K] {knd : KeyKind prog w K} {kvs : List (K × Value)} {Q : Value → Shared → Prop} (g1 : Gives prog w s.heap u1 n1 P1) (g2 : Gives prog w s.heap u2 n2 P2) (calm : A.handled = none)
    (len : kvs.length = min n1 n2) (few : min n1 n2 ≤ sizeLine) (are : ∀ i k v, P1 i k → P2 i v → ∃ q, kvs[i]? = some (q, v) ∧ knd.is q k = true)
    (fin : ∀ (a : Addr) h' tk, s.heap.objs.size ≤ a → h'.DictOf knd a (merged [] kvs) → (∀ b o, s.heap.get? b = some o → h'.get? b = some o) → Q (.ref a) { s with heap := h', toks := tk }) :
    wpAny (model prog w) A (call (.type "zip") [u1, u2]) (fun v s1 => wpAny (model prog w) A (call (.type "dict") [v]) Q E s1) E s := by
  obtain ⟨o1, H1, f1, b1, x1, l1, r1⟩ := g1.ex
  obtain ⟨o2, H2, f2, b2, x2, l2, r2⟩ := g2.ex
  refine zip_begins2 b1 b2 x1 x2 fun h' hz hti hto e1 e2 sz kp => ?_
  have lo : ∀ b ∈ f1, b < s.heap.objs.size := fun b hb => let ⟨_, e⟩ := l1 b hb; Heap.lt_size e
  have lo2 : ∀ b ∈ f2, b < s.heap.objs.size := fun b hb => let ⟨_, e⟩ := l2 b hb; Heap.lt_size e
  have off : ∀ k, s.heap.objs.size + k ∉ f1 := fun k hm => absurd (lo _ hm) (Nat.not_lt.mpr (Nat.le_add_right _ _))
  have off2 : ∀ k, s.heap.objs.size + k ∉ f2 := fun k hm => absurd (lo2 _ hm) (Nat.not_lt.mpr (Nat.le_add_right _ _))
  obtain ⟨S1, D1, z1, t1⟩ := r1 s.heap.objs.size (off 0)
  obtain ⟨S2, D2, z2, t2⟩ := r2 (s.heap.objs.size + 1) (off2 1)
  have ap : ZipSep2 (s.heap.objs.size + 4) (s.heap.objs.size + 2) (s.heap.objs.size + 3) s.heap.objs.size (s.heap.objs.size + 1) (s.heap.objs.size :: f1) ((s.heap.objs.size + 1) :: f2) := by
    constructor
    · exact Nat.ne_of_lt (by omega)
    · exact Nat.ne_of_lt (by omega)
    · exact Nat.ne_of_lt (by omega)
    · exact Nat.ne_of_gt (by omega)
    · exact List.mem_cons_self
    · exact fun q => (List.mem_cons.mp q).elim (fun e => absurd e (Nat.ne_of_gt (by omega))) (off 4)
    · exact fun q => (List.mem_cons.mp q).elim (fun e => absurd e (Nat.ne_of_gt (by omega))) (off 3)
    · exact Nat.ne_of_gt (by omega)
    · exact List.mem_cons_self
    · exact fun q => (List.mem_cons.mp q).elim (fun e => absurd e (Nat.ne_of_gt (by omega))) (off2 4)
    · exact fun q => (List.mem_cons.mp q).elim (fun e => absurd e (Nat.ne_of_gt (by omega))) (off2 3)
    · exact fun q => (List.mem_cons.mp q).elim (fun e => absurd e (Nat.ne_of_lt (by omega))) (off2 0)
    · exact fun q => (List.mem_cons.mp q).elim (fun e => absurd e (Nat.ne_of_gt (by omega))) (off 1)
  refine call_dict_pairs (s := { s with heap := h' }) (pairs2 ap D1 D2 t1 t2) calm ⟨hz, hti, ⟨_, _, hto⟩, z1 h' e1 kp, z2 h' e2 kp⟩ ⟨len, fun i k v q => are i k v q.1 q.2⟩ few fun h2 tk hd kp2 => ?_
  refine fin h'.objs.size h2 tk (by rw [sz]; omega) hd fun b o e => kp2 b o (fun hm => ?_) (kp b o e)
  have q : b = s.heap.objs.size + 4 ∨ b = s.heap.objs.size + 3 ∨ b = s.heap.objs.size ∨ b = s.heap.objs.size + 1 := by simpa using hm
  have lt := Heap.lt_size e
  rcases q with q | q | q | q
  · rw [q] at lt; exact absurd lt (Nat.not_lt.mpr (Nat.le_add_right _ _))
  · rw [q] at lt; exact absurd lt (Nat.not_lt.mpr (Nat.le_add_right _ _))
  · rw [q] at lt; exact absurd lt (Nat.lt_irrefl _)
  · rw [q] at lt; exact absurd lt (Nat.not_lt.mpr (Nat.le_add_right _ _))
end
/-- the keys that a tuple, a list, a text gives -/
def KeysOf (K : PySem.W.Frag) (H : Hp) (x : V) (ks : List Key) : Prop :=
  (∃ p, x = .ref p ∧ (SqT K H p (ks.map kV) ∨ SqL K H p (ks.map kV))) ∨ ∃ t : Str, x = .str t ∧ t.cps.size ≤ sizeLine ∧ ks = t.cps.toList.map fun c => Sum.inr (⟨#[c]⟩ : Str)
theorem kv_zip : ∀ {ks : List Key} {ys : List V} {its : List Value}, Vals ys its → KV (ks.zip ys) (ks.zip its)
  | [], _, _, _ => by simp only [List.zip_nil_left]; exact .nil
  | _ :: _, _, _, .nil => by simp only [List.zip_nil_right]; exact .nil
  | k :: ks, _, _, .cons r t => by
    simp only [List.zip_cons_cons]
    exact .cons ⟨rfl, r⟩ (kv_zip t)
section
variable {X : Cx}
theorem keys_give {pins : List (Addr × Obj)} {σ : L2.St} {H : Hp} {s : Shared} {x : V} {u : Value} {ks : List Key} (I : Inv X pins σ H s) (r : RelV x u) (k : KeysOf X.K H x ks) :
    ∃ (n : Nat) (Pv : Nat → Value → Prop), Gives X.prog X.w s.heap u n Pv ∧ ks.length = n ∧ n ≤ sizeLine ∧ ∀ (i : Nat) (key : Value), Pv i key → ∃ q : Key, ks[i]? = some q ∧ (mixKind X.prog X.w).is q key = true := by
  have go : ∀ {its : List Value}, Vals (ks.map kV) its → ∀ (i : Nat) (key : Value), its.toArray[i]? = some key → ∃ q : Key, ks[i]? = some q ∧ (mixKind X.prog X.w).is q key = true := by
    intro its rv i key e
    have hl := rv.length
    rw [List.length_map] at hl
    have e' : its[i]? = some key := by simpa using e
    have hi : i < ks.length := by
      have := (List.getElem?_eq_some_iff.mp e').1
      omega
    have ek : (ks.map kV)[i]? = some (kV ks[i]) := by simp [hi]
    obtain ⟨u', e2, r2⟩ := rv.get ek
    rw [e'] at e2
    cases Option.some.inj e2
    exact ⟨ks[i], by simp [hi], kV_is r2⟩
  rcases k with ⟨p, rfl, hq⟩ | ⟨t, rfl, ht, rfl⟩
  · cases r
    rcases hq with hq | hq
    · obtain ⟨its, rv, pl, hz⟩ := I.tuple hq
      have hl := rv.length
      rw [List.length_map] at hl hz
      exact ⟨_, _, gives_tuple pl, by simp [hl], by simp; omega, go rv⟩
    · obtain ⟨its, rv, pl, hz⟩ := I.list hq
      have hl := rv.length
      rw [List.length_map] at hl hz
      exact ⟨_, _, gives_list pl.isList, by simp [hl], by simp; omega, go rv⟩
  · obtain ⟨tk, rfl⟩ := r
    refine ⟨_, _, gives_text t tk, by simp, ht, ?_⟩
    rintro i key ⟨c, u, e, rfl⟩
    refine ⟨Sum.inr (⟨#[c]⟩ : Str), ?_, kV_is (k := Sum.inr (⟨#[c]⟩ : Str)) ⟨u, rfl⟩⟩
    rw [List.getElem?_map, Array.getElem?_toList, e]
    rfl
def tDictZip (K : PySem.W.Frag) (ta : TA) : TE := fun σ H Q => ta σ H fun vs H1 => ∃ x b ks ys, vs = [x, .ref b] ∧ KeysOf K H1 x ks ∧ SqL K H1 b ys ∧ ∀ p, H1 p = none → Q (.ref p) (upd H1 p (.dK (mergeK [] (ks.zip ys))))
theorem pe_dictZip {e e2 : Expr} {ta : TA} {p p2 q pos : Pos} (hc : X.calm = true) (g1 : Gl X "dict") (m1 : X.mg "dict" = none) (g2 : Gl X "zip") (m2 : X.mg "zip" = none) (ha : PA X [e, e2] ta)
    (na : starEach [.Call (.Name "zip" p2) [e, e2] [] q] X.env = (false, eval (.Call (.Name "zip" p2) [e, e2] [] q) X.env) :: starEach [] X.env := by rfl)
    (hs : starEach [e, e2] X.env = (false, eval e X.env) :: starEach [e2] X.env := by rfl) (hpl : (backTo q (starEach [e2] X.env)).any (·.1) = false := by rfl) :
    PE X (.Call (.Name "dict" p) [.Call (.Name "zip" p2) [e, e2] [] q] [] pos) (tDictZip X.K ta) := by
  constructor
  intro pins s σ H Q I h
  refine Call_ (ld_blt I g1 m1 PyProof.Rows.boot_dict ?_)
  refine callWith_type1 (args_cons ?_ na) na (by rfl)
  refine Call_ (ld_blt I g2 m2 PyProof.Rows.boot_zip (PyProof.Rows.callWith_type1 (thn (ha.run q pins s σ H _ I h) fun us s1 ⟨vs, H1, I1, r1, q1⟩ => ?_) hs hpl))
  obtain ⟨x, b, ks, ys, ex, hk, hy, q1⟩ := q1
  subst ex
  obtain ⟨u1, u2, eu, ru1, ru2⟩ := vals2 r1
  subst eu
  cases ru2
  obtain ⟨n1, P1, gv1, l1, z1, is1⟩ := keys_give I1 ru1 hk
  obtain ⟨its, rv, pl, hz⟩ := I1.list hy
  have l2 : ys.length = its.toArray.size := by rw [List.size_toArray]; exact rv.length
  refine thn (call_zip_dict (kvs := ks.zip its) (knd := mixKind X.prog X.w) gv1 (gives_list pl.isList) (I1.ok.hd hc) (by simp [l1]) (by omega) (fun i k v p1 p2 => ?_) fun a h' tk la hd kp => ?_) fun v s2 q2 => PyProof.Rows.args_nil q2
  · obtain ⟨kk, e1, e2⟩ := is1 i k p1
    exact ⟨kk, List.getElem?_zip_eq_some.mpr ⟨e1, by simpa using p2⟩, e2⟩
  · have hm : (a == sysModules) = false := beq_eq_false_iff_ne.mpr (Nat.ne_of_gt (Nat.lt_of_lt_of_le I1.big la))
    have len : (mergeK [] (ks.zip ys)).length ≤ sizeLine := by
      refine Nat.le_trans (length_mergeK _ []) ?_
      simp only [List.length_nil, Nat.zero_add, List.length_zip]
      omega
    exact ⟨.ref a, _, I1.laid (t' := tk) kp la (show ObjOk X.prog X.w _ _ _ (.dK (mergeK [] (ks.zip ys))) from ⟨len, hm, merged [] (ks.zip its), KV.merge (kv_zip rv) .nil, hd⟩), rfl, q1 _ (I1.hok.fresh la)⟩
end
end Xk
set_option Elab.async false
set_option linter.all false
set_option maxRecDepth 100000
set_option maxHeartbeats 4000000
/-! Xu: d.update(e), d.values(), list of a view of values, d.get(None, x), dict of a tuple of pairs, dict(zip(tuple, tuple)). -/
namespace Xu
open PySem PySem.Spec PyProof.Rows L2 Xz Xk
section
variable {X : Cx}
def rUpdK : V → List V → Hp → VK → Prop := fun x vs H Q => ∃ (a b : Addr) (kvs more : List (Key × V)), x = .ref a ∧ vs = [.ref b] ∧ a ≠ b ∧ H a = some (.dK kvs) ∧ H b = some (.dK more) ∧ kvs.length + more.length ≤ sizeLine ∧ Q .non (upd H a (.dK (mergeK kvs more)))
theorem mt_updK : MtR X "dict.update" rUpdK := by
  intro pins s σ H x vs v us Q I rx rv h
  obtain ⟨a, b, kvs, more, rfl, rfl, hab, ha, hb, hz, q⟩ := h
  cases rx
  obtain ⟨u, rfl, ru⟩ := vals1 rv
  cases ru
  obtain ⟨z1, hd1, vs1, rel1, dd1⟩ := dk_of I.hok ha
  obtain ⟨z2, hd2, vs2, rel2, dd2⟩ := dk_of I.hok hb
  refine call_meetsIn PySem.F.slot_dict_update dd1.typeIs PySem.F.entry_dict_update (PySem.F.args_dict_update_2 _ _) (meets_dict_update (mixKind X.prog X.w) a b hab hd2) ⟨vs1, vs2, dd1, dd2, by rw [← rel1.length, ← rel2.length]; exact hz, fun h' dd1' dd2' hs => ?_⟩
  have he : ∃ q, h'.get? a = some q := let ⟨q, _, _, hq, _⟩ := dd1'; ⟨q, hq⟩
  exact ⟨.non, _, d_write (t' := s.toks) I (by rw [ha]; exact True.intro) hs he (dk_new (Nat.le_trans (length_mergeK _ _) hz) hd1 (KV.merge rel2 rel1) dd1'), rfl, q⟩
def valsO (p d : Addr) : HO := .ext fun h => h.IsValuesView p d
theorem valsO_ok {P : Program} {w : World} {H : Hp} {h : Heap} {p d : Addr} (e : h.get? p = some { cls := .type "dict_values", data := .fields #[.ref d] }) : ObjOk P w H h p (valsO p d) :=
  ⟨⟨_, e, rfl, rfl⟩, ⟨_, e⟩, fun h1 h2 x k => let ⟨o, ho, r⟩ := x; ⟨o, k o ho, r⟩⟩
def rVals : V → List V → Hp → VK → Prop := fun x xs H Q => ∃ (a : Addr) (kvs : List (Key × V)), x = .ref a ∧ xs = [] ∧ H a = some (.dK kvs) ∧ ∀ p, H p = none → Q (.ref p) (upd H p (valsO p a))
theorem mt_vals : MtR X "dict.values" rVals := by
  intro pins s σ H x xs v us Q I rx rxs h
  obtain ⟨a, kvs, rfl, rfl, ha, q⟩ := h
  cases rx
  cases rxs
  obtain ⟨z, hd, vs, rel, dd⟩ := dk_of I.hok ha
  refine call_meetsIn PySem.F.slot_dict_values dd.typeIs PySem.F.entry_dict_values (PySem.F.args_dict_values_1 _) (meets_dict_values (mixKind X.prog X.w) a hd) ⟨⟨vs, dd⟩, ?_⟩
  have hf : H s.heap.objs.size = none := I.hok.fresh (Nat.le_refl _)
  exact ⟨.ref s.heap.objs.size, upd H s.heap.objs.size (valsO s.heap.objs.size a), I.laid (t' := s.toks) (fun b u e => Heap.get?_push_of_some _ e) (Nat.le_refl _) (valsO_ok (Heap.get?_push_size _ rfl)), rfl, q _ hf⟩
theorem kv_vals : ∀ {kvs : List (Key × V)} {vs : List (Key × Value)}, KV kvs vs → Vals (kvs.map (·.2)) (vs.map (·.2))
  | _, _, .nil => .nil
  | _, _, .cons r t => .cons r.2 (kv_vals t)
def rListV : List V → Hp → VK → Prop := fun xs H Q => ∃ (p a : Addr) (kvs : List (Key × V)), xs = [.ref p] ∧ H p = some (valsO p a) ∧ H a = some (.dK kvs) ∧ ∀ l, H l = none → Q (.ref l) (upd H l (.lst (kvs.map (·.2))))
theorem call_listV (hc : X.calm = true) : CallR X (.type "list") rListV := by
  intro pins s σ H xs us Q I r h
  obtain ⟨p, a, kvs, rfl, hp, ha, q⟩ := h
  obtain ⟨u, rfl, rx⟩ := vals1 r
  cases rx
  obtain ⟨z, hd, vs, rel, dd⟩ := dk_of I.hok ha
  obtain ⟨ep, hat⟩ := dd.dictAt
  have hv : s.heap.IsValuesView p a := (show ObjOk X.prog X.w H s.heap p (valsO p a) from I.hok p _ hp).1
  refine PySem.W.kdl_call (PySem.W.kdl_values (knd := mixKind X.prog X.w) (kvs := vs) (ep := ep)) (I.ok.hd hc) ⟨hv, hat⟩ (by rw [← rel.length]; exact z) fun h' tk acc' c' hk hS hacc => ?_
  have e1 : acc'.toList = vs.map (·.2) := PySem.W.kdl_vals_eq acc'.toList (by rw [Array.length_toList]; exact hacc.1) fun j v e => hacc.2 j v (by rw [← Array.getElem?_toList]; exact e)
  refine ⟨.ref s.heap.objs.size, _, I.laid (t' := tk) hk (Nat.le_refl _) (show ObjOk X.prog X.w _ h' _ (.lst (kvs.map (·.2))) from ⟨by rw [List.length_map]; exact z, vs.map (·.2), c', kv_vals rel, ?_⟩), rfl, q _ (I.hok.fresh (Nat.le_refl _))⟩
  rw [← e1, Array.toArray_toList]
  exact hS
end
section
variable {X : Cx} {pins : List (Addr × Obj)} {σ : L2.St} {H : Hp} {s : Shared} {a : Addr} {d : V} {r : Value} {A : Around} {E : Value → Shared → Prop}
/-- d.get(None, x), where no key is None -/
theorem d_get2None {Q : Value → Shared → Prop} (I : Inv X pins σ H s) (kvs : List (Key × V)) (e : H a = some (.dK kvs)) (rd : RelV d r) (h : ∀ w' s', Inv X pins σ H s' → RelV d w' → Q w' s') :
    wpAny (model X.prog X.w) A (call (.builtin "dict.get") [.ref a, .none, r]) Q E s := by
  obtain ⟨z, hd, vs, rel, dd⟩ := dk_of I.hok e
  obtain ⟨f, hm, hf⟩ := none_map dd
  refine call_meetsIn PySem.F.slot_dict_get dd.typeIs PySem.F.entry_dict_get (PySem.F.args_dict_get_3 _ _ _) (meets_dict_get_default (noneKind X.prog X.w) a (show (noneKind X.prog X.w).is none .none = true from rfl) hd r) ⟨_, hm, h _ _ (I.tok _) ?_⟩
  rw [hf]
  exact rd
end
def tDGet2N (td ty tx : TE) : TE := fun σ H Q => td σ H fun x H1 => ∃ a, x = .ref a ∧ IsD H1 a ∧ ty σ H1 fun y H2 => tx σ H2 fun z H3 => (∃ o, DGet H3 a y o ∧ Q (o.getD z) H3) ∨ (y = .non ∧ (∃ kvs, H3 a = some (.dK kvs)) ∧ Q z H3)
section
variable {X : Cx} {o e f : Expr} {apos cpos : Pos} {td ty tx : TE}
theorem pe_dget2N (hu : X.A.units + 1 < cLine) (ho : PE X o td) (he : PE X e ty) (hf : PE X f tx) (m : M2 X o "get" apos e f cpos) : PE X (.Call (.Attribute o "get" apos) [e, f] [] cpos) (tDGet2N td ty tx) := by
  refine ⟨fun pins s σ H Q I h => ?_⟩
  refine wpAny_Call_method m.base m.few m.line PySem.F.plainAttrs_dict PySem.F.slot_dict_get PySem.F.type_dict_get (thn (ho.run pins s σ H _ I h) fun u s1 ⟨x, H1, I1, rx, a, ex, d, q1⟩ => ?_)
  subst ex
  obtain rfl : u = Value.ref a := rx
  obtain ⟨t1, t2, _⟩ := isD_at I1 d
  refine ⟨t1, t2, ?_⟩
  rw [m.trees]
  refine Calls.callWith_builtin rfl (Calls.evalArgs_plain (Calls.spliced_cons (thn (he.run pins s1 σ H1 _ I1 q1) fun iv s2 ⟨y, H2, I2, ry, q2⟩ =>
    Calls.spliced_cons (thn (hf.run pins s2 σ H2 _ I2 q2) fun fv s3 ⟨z, H3, I3, rz, q3⟩ => Calls.spliced_nil ?_))))
  rcases q3 with ⟨ov, g, q3⟩ | ⟨ey, ⟨kvs, ea⟩, q3⟩
  · exact d_get2 hu I3 g ry rz fun w' s4 I4 rw' => ⟨_, H3, I4, rw', q3⟩
  · subst ey
    cases ry
    exact d_get2None I3 kvs ea rz fun w' s4 I4 rw' => ⟨_, H3, I4, rw', q3⟩
end
/-! ### dict(zip(tuple, tuple)) -/
def tDictZipT (K : PySem.W.Frag) (ta : TA) : TE := fun σ H Q => ta σ H fun vs H1 => ∃ x b ks ys, vs = [x, .ref b] ∧ KeysOf K H1 x ks ∧ SqT K H1 b ys ∧ ∀ p, H1 p = none → Q (.ref p) (upd H1 p (.dK (mergeK [] (ks.zip ys))))
section
variable {X : Cx}
theorem pe_dictZipT {e e2 : Expr} {ta : TA} {p p2 q pos : Pos} (hc : X.calm = true) (g1 : Gl X "dict") (m1 : X.mg "dict" = none) (g2 : Gl X "zip") (m2 : X.mg "zip" = none) (ha : PA X [e, e2] ta)
    (na : starEach [.Call (.Name "zip" p2) [e, e2] [] q] X.env = (false, eval (.Call (.Name "zip" p2) [e, e2] [] q) X.env) :: starEach [] X.env := by rfl)
    (hs : starEach [e, e2] X.env = (false, eval e X.env) :: starEach [e2] X.env := by rfl) (hpl : (backTo q (starEach [e2] X.env)).any (·.1) = false := by rfl) :
    PE X (.Call (.Name "dict" p) [.Call (.Name "zip" p2) [e, e2] [] q] [] pos) (tDictZipT X.K ta) := by
  constructor
  intro pins s σ H Q I h
  refine Call_ (ld_blt I g1 m1 PyProof.Rows.boot_dict ?_)
  refine callWith_type1 (args_cons ?_ na) na (by rfl)
  refine Call_ (ld_blt I g2 m2 PyProof.Rows.boot_zip (PyProof.Rows.callWith_type1 (thn (ha.run q pins s σ H _ I h) fun us s1 ⟨vs, H1, I1, r1, q1⟩ => ?_) hs hpl))
  obtain ⟨x, b, ks, ys, ex, hk, hy, q1⟩ := q1
  subst ex
  obtain ⟨u1, u2, eu, ru1, ru2⟩ := vals2 r1
  subst eu
  cases ru2
  obtain ⟨n1, P1, gv1, l1, z1, is1⟩ := keys_give I1 ru1 hk
  obtain ⟨its, rv, pl, hz⟩ := I1.tuple hy
  have l2 : ys.length = its.toArray.size := by rw [List.size_toArray]; exact rv.length
  refine thn (call_zip_dict (kvs := ks.zip its) (knd := mixKind X.prog X.w) gv1 (gives_tuple pl) (I1.ok.hd hc) (by simp [l1]) (by omega) (fun i k v p1 p2 => ?_) fun a h' tk la hd kp => ?_) fun v s2 q2 => PyProof.Rows.args_nil q2
  · obtain ⟨kk, e1, e2⟩ := is1 i k p1
    exact ⟨kk, List.getElem?_zip_eq_some.mpr ⟨e1, by simpa using p2⟩, e2⟩
  · have hm : (a == sysModules) = false := beq_eq_false_iff_ne.mpr (Nat.ne_of_gt (Nat.lt_of_lt_of_le I1.big la))
    have len : (mergeK [] (ks.zip ys)).length ≤ sizeLine := by
      refine Nat.le_trans (length_mergeK _ []) ?_
      simp only [List.length_nil, Nat.zero_add, List.length_zip]
      omega
    exact ⟨.ref a, _, I1.laid (t' := tk) kp la (show ObjOk X.prog X.w _ _ _ (.dK (mergeK [] (ks.zip ys))) from ⟨len, hm, merged [] (ks.zip its), KV.merge (kv_zip rv) .nil, hd⟩), rfl, q1 _ (I1.hok.fresh la)⟩
end
/-! ### tuples that are known with their object: no dict of their own -/
def SqN (H : Hp) (a : Addr) (xs : List V) : Prop := ∃ o, H a = some (.frz o (.tup xs)) ∧ o.dict = none
theorem SqN.t {K : PySem.W.Frag} {H : Hp} {a : Addr} {xs : List V} (q : SqN H a xs) : SqT K H a xs := by
  obtain ⟨o, e, _⟩ := q
  exact .inl (.inr ⟨o, e⟩)
theorem sameN {H H' : Hp} {a : Addr} {xs : List V} (s : Same H H') (q : SqN H a xs) : SqN H' a xs := by
  obtain ⟨o, e, d⟩ := q
  exact ⟨o, s _ _ e, d⟩
def tTupN (t : TA) : TE := fun σ H Q => t σ H fun xs H1 => xs.length ≤ sizeLine ∧ ∀ p o, H1 p = none → o.dict = none → Q (.ref p) (upd H1 p (.frz o (.tup xs)))
section
variable {X : Cx} {es : List Expr} {t : TA} {pos : Pos}
theorem pe_tupN {x1} (h : PA X es t) : PE X (.Tuple es x1 pos) (tTupN t) := by
  refine ⟨fun pins s σ H Q I hq => ?_⟩
  refine wpAny_Tuple_spliced (thn (h.run pos pins s σ H _ I hq) fun us s1 ⟨xs, H1, I1, r, z, q⟩ => ⟨by rw [← r.length]; exact z, ?_⟩)
  have hf : H1 s1.heap.objs.size = none := I1.hok.fresh (Nat.le_refl _)
  refine ⟨.ref s1.heap.objs.size, upd H1 s1.heap.objs.size (.frz { cls := .type "tuple", data := .seq us.toArray } (.tup xs)), I1.laid (t' := s1.toks) (fun b u e => Heap.get?_push_of_some _ e) (Nat.le_refl _) ?_, rfl, q _ _ hf rfl⟩
  exact ⟨Heap.get?_push_size _ rfl, z, us, r, IsTup.new _ _⟩
/-- dict(t), t a tuple of one pair -/
def rDictT1 (K : PySem.W.Frag) : List V → Hp → VK → Prop := fun xs H Q => ∃ (a p : Addr) (k : Key) (v : V), xs = [.ref a] ∧ SqN H a [.ref p] ∧ SqT K H p [kV k, v] ∧ ∀ d, H d = none → Q (.ref d) (upd H d (.dK [(k, v)]))
theorem call_dictT1 {K : PySem.W.Frag} (hK : X.K = K) (hc : X.calm = true) : CallR X (.type "dict") (rDictT1 K) := by
  subst hK
  intro pins s σ H xs us Q I r q
  obtain ⟨a, p, k, v, ex, ⟨o, ha, od⟩, hp, q⟩ := q
  subst ex
  obtain ⟨u, eu, rx⟩ := vals1 r
  subst eu
  cases rx
  obtain ⟨g, zz, its, rv, it⟩ := (show ObjOk X.prog X.w H s.heap a (.frz o (.tup [.ref p])) from I.hok a _ ha)
  obtain ⟨u0, rfl, r0⟩ := vals1 rv
  cases r0
  obtain ⟨its2, rv2, pl2, hz2⟩ := I.tuple hp
  obtain ⟨uk, uv, rfl, rk, rv3⟩ := vals2 rv2
  obtain ⟨o', ho', hc', n, hd'⟩ := it
  rw [g] at ho'
  cases ho'
  have P := PairArg.tuple (prog := X.prog) (w := X.w) a #[.ref p] (fun _ => p) [(uk, uv)]
  refine PySem.call_dict_pairs (knd := mixKind X.prog X.w) (kvs := [(k, uv)]) P (I.ok.hd hc) ⟨⟨o, n, g, hc', od, hd'⟩, rfl, fun j k2 v2 hj => ?_⟩ ⟨rfl, fun i key v2 hr => ?_⟩ (show 1 ≤ sizeLine by decide) fun h' tk hd2 hk => ?_
  · cases j with
    | zero =>
      cases hj
      exact ⟨rfl, .inl pl2⟩
    | succ j => simp at hj
  · cases i with
    | zero =>
      cases hr
      exact ⟨k, rfl, kV_is (P := X.prog) (w := X.w) rk⟩
    | succ i => exact absurd hr (by simp [PairRel])
  · have hm : (s.heap.objs.size == sysModules) = false := beq_eq_false_iff_ne.mpr (Nat.ne_of_gt I.big)
    refine ⟨.ref s.heap.objs.size, upd H s.heap.objs.size (.dK [(k, v)]), I.laid (t' := tk) (fun b o e => hk b o (fun z => nomatch z) e) (Nat.le_refl _) (show ObjOk X.prog X.w _ _ _ (.dK [(k, v)]) from ⟨show 1 ≤ sizeLine by decide, hm, [(k, uv)], .cons ⟨rfl, rv3⟩ .nil, ?_⟩), rfl, q _ (I.hok.fresh (Nat.le_refl _))⟩
    exact hd2
end
end Xu
set_option Elab.async false
set_option linter.all false
set_option pp.maxSteps 4000
set_option maxRecDepth 100000
set_option maxHeartbeats 4000000
/-! k86: a plan -/
namespace K86
open PySem PySem.Spec PyProof.Rows L2 Bs Xg TL Xm Xs Gn Gd Xu
abbrev sPl : Stmt := top 45
def But4 (h N L S : Addr) (H H' : Hp) : Prop := ∀ b o, b ≠ h → b ≠ N → b ≠ L → b ≠ S → H b = some o → H' b = some o
theorem But4.refl (h N L S : Addr) (H : Hp) : But4 h N L S H H := fun _ _ _ _ _ _ e => e
theorem But4.trans {h N L S : Addr} {H H1 H2 : Hp} (a : But4 h N L S H H1) (b : But4 h N L S H1 H2) : But4 h N L S H H2 := fun c o n1 n2 n3 n4 e => b c o n1 n2 n3 n4 (a c o n1 n2 n3 n4 e)
theorem But4.t {h N L S : Addr} {H H' : Hp} (a : But3 h N L H H') : But4 h N L S H H' := fun c o n1 n2 n3 _ e => a c o n1 n2 n3 e
theorem But4.s {h N L S : Addr} {H H' : Hp} (a : Same H H') : But4 h N L S H H' := fun c o _ _ _ _ e => a c o e
theorem But4.u {h N L S : Addr} {H H' : Hp} (a : But S H H') : But4 h N L S H H' := fun c o _ _ _ n e => a c o n e
theorem tup_ne2 {H : Hp} {t a : Addr} {xs ys : List V} (e : H t = some (.tup xs)) (f : H a = some (.lst ys)) : t ≠ a := by
  rintro rfl
  rw [e] at f
  cases f
theorem Tst.b3 {h N L : Addr} {H H' : Hp} (b : But3 h N L H H') (eh : ∃ l, H h = some (.lst l)) (eN : ∃ l, H N = some (.lst l)) (eL : ∃ l, H L = some (.lst l)) : Tst H H' := fun a xs e => by
  obtain ⟨_, eh⟩ := eh
  obtain ⟨_, eN⟩ := eN
  obtain ⟨_, eL⟩ := eL
  exact b a _ (tup_ne2 e eh) (tup_ne2 e eN) (tup_ne2 e eL) e
/-- a plan's steps under way -/
def DdsAt (G : Hp) (ps : List Addr) (dds : List (Str × Dd)) : Prop := dds.length = ps.length ∧ ∀ (i : Nat) (p : Addr) (d : Str × Dd), ps[i]? = some p → dds[i]? = some d → ∃ kn', StAt G p d.1 d.2 kn' ∧ Good 9 d.1 ∧ ∀ c ∈ kn', Good 9 c.1
theorem DdsAt.keep {G G' : Hp} {ps : List Addr} {dds : List (Str × Dd)} (h : DdsAt G ps dds) (s : Tst G G') : DdsAt G' ps dds :=
  ⟨h.1, fun i p d h1 h2 => by
    obtain ⟨kn', a, g⟩ := h.2 i p d h1 h2
    exact ⟨kn', a.keep s, g⟩⟩
theorem DdsAt.snoc {G : Hp} {ps : List Addr} {dds : List (Str × Dd)} {t : Addr} {nm : Str} {dd : Dd} {kn : List (Str × Bool)} (h : DdsAt G ps dds) (a : StAt G t nm dd kn) (g : Good 9 nm) (gk : ∀ c ∈ kn, Good 9 c.1) : DdsAt G (ps ++ [t]) (dds ++ [(nm, dd)]) := by
  obtain ⟨l, w⟩ := h
  refine ⟨by simp [l], fun i p d h1 h2 => ?_⟩
  by_cases hi : i < ps.length
  · rw [List.getElem?_append_left hi] at h1
    rw [List.getElem?_append_left (by omega)] at h2
    exact w i p d h1 h2
  · rw [List.getElem?_append_right (by omega)] at h1
    rw [List.getElem?_append_right (by omega), l] at h2
    have : i - ps.length = 0 := by
      have := (List.getElem?_eq_some_iff.mp h1).1
      simp at this
      omega
    rw [this] at h1 h2
    cases h1
    cases h2
    exact ⟨kn, a, g, gk⟩
theorem dds_td {H : Hp} : ∀ {ps : List Addr} {dds : List (Str × Dd)}, DdsAt H ps dds → TDs H (ps.map V.ref) ((dds.map fun d => d.2.step d.1).map StepD.data) ∧ ∀ s ∈ dds.map (fun d => d.2.step d.1), Good 9 s.nm ∧ Sh s.data 1731 4 ∧ s.fine
  | [], [], _ => ⟨trivial, fun s hs => nomatch hs⟩
  | [], _ :: _, h => by have := h.1; simp at this
  | _ :: _, [], h => by have := h.1; simp at this
  | p :: ps, d :: dds, h => by
    obtain ⟨kn, ⟨vs, e, da, dw⟩, g, gk⟩ := h.2 0 p d rfl rfl
    obtain ⟨t, q⟩ := dds_td (ps := ps) (dds := dds) ⟨by have := h.1; simpa using this, fun i p d h1 h2 => h.2 (i + 1) p d (by simpa using h1) (by simpa using h2)⟩
    refine ⟨⟨Dd.tds e da dw, t⟩, fun s hs => ?_⟩
    rcases List.mem_cons.mp hs with rfl | hs
    · exact ⟨by rw [Dd.step_nm]; exact g, Dd.sh dw gk g, Dd.fine dw gk d.1⟩
    · exact q s hs
def PlAt (kn0 : List (Str × Bool)) (h N L S : Addr) (n0 : Nat) (H0 G : Hp) (j : Nat) : Prop := ∃ (kn : List (Str × Bool)) (ns' : List Str) (ps : List Addr), G N = some (.lst (ns'.map V.str)) ∧ KnownAt G L kn ∧ G S = some (.lst (ps.map V.ref)) ∧ ps.length = j ∧
  (∀ p ∈ ps, ∃ nm dd kn, StAt G p nm dd kn ∧ Good 9 nm ∧ ∀ c ∈ kn, Good 9 c.1) ∧ (∃ c, (c, true) ∈ kn) ∧ ns'.length + kn.length = 24 ∧ kn.length ≤ 9 ∧ (∀ z ∈ ns', Good 9 z) ∧ (∀ c ∈ kn, Good 9 c.1) ∧ HandAt G h (n0 + 40 * j) ∧ But4 h N L S H0 G ∧ Fresh ns' kn ∧ ∃ dds : List (Str × Dd), DdsAt G ps dds ∧ Chain kn0 (dds.map (·.2)) kn
theorem Dd.At.ne {H : Hp} {vs : List V} {dd : Dd} (h : dd.At H vs) : vs ≠ [] := by
  cases dd with
  | put | within | before | given =>
    cases h
    simp
  | _ =>
    obtain ⟨t, rfl, _⟩ := h
    simp
theorem Dd.At.len {H : Hp} {vs : List V} {dd : Dd} (h : dd.At H vs) : vs.length ≤ 4 := by
  cases dd with
  | put | within | before | given =>
    cases h
    exact Nat.le_of_ble_eq_true rfl
  | _ =>
    obtain ⟨t, rfl, _⟩ := h
    exact Nat.le_of_ble_eq_true rfl
theorem Tst.b4 {h N L S : Addr} {H H' : Hp} (b : But4 h N L S H H') (eh : ∃ l, H h = some (.lst l)) (eN : ∃ l, H N = some (.lst l)) (eL : ∃ l, H L = some (.lst l)) (eS : ∃ l, H S = some (.lst l)) : Tst H H' := fun a xs e => by
  obtain ⟨_, eh⟩ := eh
  obtain ⟨_, eN⟩ := eN
  obtain ⟨_, eL⟩ := eL
  obtain ⟨_, eS⟩ := eS
  exact b a _ (tup_ne2 e eh) (tup_ne2 e eN) (tup_ne2 e eL) (tup_ne2 e eS) e
theorem tds_snoc {H : Hp} : ∀ {ds : List PyData} {d : PyData} {vs : List V}, TDs H vs (ds ++ [d]) → ∃ pv v, vs = pv ++ [v] ∧ TDs H pv ds ∧ TD H v d
  | [], d, vs, h => by
    obtain ⟨v, us, rfl, h1, h2⟩ := TDs.c (show TDs H vs [d] from h)
    cases h2.n
    exact ⟨[], v, rfl, trivial, h1⟩
  | d0 :: ds, d, vs, h => by
    obtain ⟨v, us, rfl, h1, h2⟩ := TDs.c (show TDs H vs (d0 :: (ds ++ [d])) from h)
    obtain ⟨pv, w, rfl, h3, h4⟩ := tds_snoc h2
    exact ⟨v :: pv, w, rfl, ⟨h1, h3⟩, h4⟩
/-- where a plan's parts stand -/
structure PA where
  aS : Addr
  aT : Addr
  s0 : Addr
  sh : Addr
  cA : Addr
  aI : Addr
  aO : Addr
  aP : Addr
  aB : Addr
  pv : List V
  ps : List Addr
  o : Obj
structure PlanAt (H : Hp) (a : Addr) (p : PlanD) (dds : List (Str × Dd)) (ad : PA) : Prop where
  e0 : H a = some (.tup [.ref ad.aS, .ref ad.aT])
  eS : H ad.aS = some (.frz ad.o (.tup [.ref ad.s0]))
  od : ad.o.dict = none
  e1 : H ad.s0 = some (.tup [.str p.sn, .ref ad.sh])
  eh : H ad.sh = some (.tup (ad.pv ++ [.ref ad.cA]))
  dh : TDs H ad.pv p.pre
  eC : H ad.cA = some (.tup (p.cols.map V.str))
  eT : H ad.aT = some (.tup [.ref ad.aI])
  eI : H ad.aI = some (.tup [.str p.nm, .ref ad.aO, .ref ad.aP, .ref ad.aB])
  eO : H ad.aO = some (.tup [.str "of", .str p.sn])
  eP : H ad.aP = some (.tup (ad.ps.map V.ref))
  dP : DdsAt H ad.ps dds
  eB : TD H (.ref ad.aB) (.tuple p.bs)
theorem PlanAt.keep {H H' : Hp} {a : Addr} {p : PlanD} {dds : List (Str × Dd)} {ad : PA} (h : PlanAt H a p dds ad) (s : Tst H H') (f : ∀ b o u, H b = some (.frz o u) → H' b = some (.frz o u)) : PlanAt H' a p dds ad :=
  ⟨s _ _ h.e0, f _ _ _ h.eS, h.od, s _ _ h.e1, s _ _ h.eh, h.dh.keep s, s _ _ h.eC, s _ _ h.eT, s _ _ h.eI, s _ _ h.eO, s _ _ h.eP, h.dP.keep s, h.eB.keep s⟩
theorem fresh_nil {ns : List Str} {kn : List (Str × Bool)} (h : Fresh ns kn) : Fresh [] kn := by
  unfold Fresh at h ⊢
  rw [List.nodup_cons] at h ⊢
  exact ⟨fun m => h.1 (List.mem_append_right _ m), (List.nodup_append.mp h.2).2.1⟩
structure PlanF (K : PySem.W.Frag) (mg : Str → Option Value) (fWo fSh fDe fBe : Addr) (dWo dSh dDe dBe : FuncData) : Prop where
  Wo : Fun K "_law_words" "_law_words" sWo fWo dWo
  bWo : Binds K dWo ["_law_box_here", "_law_many"] []
  gWo : mg "_law_words" = some (.ref fWo)
  Sh : Fun K "_law_shape" "_law_shape" sSh fSh dSh
  bSh : Binds K dSh ["_law_box_here", "_law_names"] []
  gSh : mg "_law_shape" = some (.ref fSh)
  De : Fun K "_law_deed" "_law_deed" sDe fDe dDe
  bDe : Binds K dDe ["_law_box_here", "_law_names", "_law_known"] []
  gDe : mg "_law_deed" = some (.ref fDe)
  Be : Fun K "_law_behinds" "_law_behinds" sBe fBe dBe
  bBe : Binds K dBe ["_law_steps"] []
  gBe : mg "_law_behinds" = some (.ref fBe)
section
variable {P : Program} {w : World} {K : PySem.W.Frag} {mg : Str → Option Value} {base : Heap} {fTk fPk : Addr} {dTk dPk : FuncData} {fCe fWr fFo : Addr} {dCe dWr dFo : FuncData} {fWi fPu fSp : Addr} {dWi dPu dSp : FuncData} {fTo fAp : Addr} {dTo dAp : FuncData} {fWo fSh fDe fBe : Addr} {dWo dSh dDe dBe : FuncData}
abbrev nPl : List Str := ["_law_box_here", "_law_most", "_law_names", "_law_calls", "_law_k", "_law_columns", "_law_known", "_law_steps", "_law_shape_here", "_law_its", "_law_column"]
theorem scPl : FnScope nPl ["_law_box_here", "_law_most"] (defScope sPl) := ⟨rfl, rfl, rfl, by decide +kernel, rfl, by decide +kernel, by decide +kernel⟩
def spPl : Sp := fun vs H Q _ => ∃ (h : Addr) (n : Nat) (m : Int), vs = [.ref h, .int m] ∧ HandAt H h n ∧ n < 960000 ∧ 0 ≤ m ∧ m ≤ 8 ∧
  ∀ (a : Addr) (p : PlanD) (dds : List (Str × Dd)) (kn : List (Str × Bool)) (ad : PA) (H' : Hp), PlanAt H' a p dds ad → p.ok 8 64 → p.steps = dds.map (fun d => d.2.step d.1) → Chain (p.cols.map fun z => (z, true)) (dds.map (·.2)) kn → kn.length ≤ 9 → Fresh [] kn → HandAt H' h (n + 400) → But h H H' → Q (.ref a) H'
theorem ok_plan {f : Addr} {fd : FuncData} (F : Fun K "_law_plan" "_law_plan" sPl f fd) (T : Free mg) (W : HandF K mg fTk fPk dTk dPk) (G : GenF K mg fCe fWr fFo dCe dWr dFo) (D : DeedF K mg fWi fPu fSp dWi dPu dSp) (U : TouchF K mg fTo dTo) (A : ApartF K mg fAp dAp) (Z : PlanF K mg fWo fSh fDe fBe dWo dSh dDe dBe) : FnOk P w K mg base CX0 6 f fd ["_law_box_here", "_law_most"] spPl := by
  have GTk : FnOk P w K mg base CX0 1 fTk dTk ["_law_box_here", "_law_many"] spTake := ok_take W.Tk
  have GWo : FnOk P w K mg base CX0 3 fWo dWo ["_law_box_here", "_law_many"] spWo := ok_words Z.Wo T W
  have GSh : FnOk P w K mg base CX0 3 fSh dSh ["_law_box_here", "_law_names"] (spSh K) := ok_shape Z.Sh T W
  have GDe : FnOk P w K mg base CX0 5 fDe dDe ["_law_box_here", "_law_names", "_law_known"] spDe := ok_deed Z.De T W G D
  have GBe : FnOk P w K mg base CX0 3 fBe dBe ["_law_steps"] spBe := ok_behinds Z.Be T U A
  have FTk := W.Tk
  have bTk := W.bTk
  have gTk := W.gTk
  have FWo := Z.Wo
  have bWo := Z.bWo
  have gWo := Z.gWo
  have FSh := Z.Sh
  have bSh := Z.bSh
  have gSh := Z.gSh
  have FDe := Z.De
  have bDe := Z.bDe
  have gDe := Z.gDe
  have FBe := Z.Be
  have bBe := Z.bBe
  have gBe := Z.gBe
  refine F.ok scPl (fun vs H Q E h => ?_) (fun cdv A outer s H vs Q E hr h => ?_)
  · obtain ⟨h, n, m, rfl, _⟩ := h
    rfl
  · obtain ⟨h, n, m, rfl, hd, nb, m0, m6, q⟩ := h
    refine ⟨_, pss_cons (ps_asg (pe_tup (pa_cons (pe_call GWo (hr.mono (by decide)) (by rfl) gWo FWo.kp bWo .nil pass0 (pa_cons (pv 0) (pa_cons pe_int pa_nil))) (pa_cons (pe_call GWo (hr.mono (by decide)) (by rfl) gWo FWo.kp bWo .nil pass0 (pa_cons (pv 0) (pa_cons pe_int pa_nil))) pa_nil))) (pg_tup rfl (pgs_cons (pg_name (i := 2) scPl.nd rfl (Or.inr rfl)) (pgs_cons (pg_name (i := 3) scPl.nd rfl (Or.inl rfl)) pgs_nil))))
      (pss_cons (ps_setLc (i := 5) (own := [("_law_k", 4)]) (g := gName 4) (tt := tYes) rfl scPl.nd rfl rfl (sw_true rfl rfl rfl rfl) (pi_range1 (by rfl) T.range (pa_cons (pe_op op_add pe_int (pe_call GTk (hr.mono (by decide)) (by rfl) gTk FTk.kp bTk .nil pass0 (pa_cons (pv 0) (pa_cons pe_int pa_nil)))) pa_nil)) (blkOk_by (own := [("_law_k", 4)]) (N := nPl) (sc := defScope sPl) (by decide +kernel)) (fun _ _ _ _ _ => (pg_name (i := 4) scPl.nd rfl (Or.inl rfl))) (fun _ _ _ _ _ => pts_nil) (fun _ _ _ _ _ => (pe_bm0Q (K := K) rfl PySem.F.plainAttrs_list PySem.F.slot_list_pop PySem.F.type_list_pop mt_pop (pv 2))))
      (pss_cons (ps_par (i := 6) (j := 7) rfl scPl.nd rfl rfl (by decide) rfl rfl (pa_cons (pe_lc (own := [("_law_column", 10)]) (g := gName 10) (tt := tYes) rfl scPl.nd (pi_list (pv 5)) (blkOk_by (own := [("_law_column", 10)]) (N := nPl) (sc := defScope sPl) (by decide +kernel)) (fun _ _ _ _ _ => (pg_name (i := 10) scPl.nd rfl (Or.inl rfl))) (fun _ _ _ _ _ => pts_nil) (fun _ _ _ _ _ => (pe_tup (pa_cons (pv 10) (pa_cons pe_str pa_nil))))) (pa_cons (pe_lst pa_nil) pa_nil)) (by rfl))
      (pss_cons (ps_set (i := 8) scPl.nd rfl (Or.inl rfl) (pe_call GSh (hr.mono (by decide)) (by rfl) gSh FSh.kp bSh .nil pass0 (pa_cons (pv 0) (pa_cons (pv 5) pa_nil))))
      (pss_cons (ps_for PassesOwn.never rfl (pi_range1 (by rfl) T.range (pa_cons (pe_call GTk (hr.mono (by decide)) (by rfl) gTk FTk.kp bTk .nil pass0 (pa_cons (pv 0) (pa_cons (pe_op op_add (pv 1) pe_int) pa_nil))) pa_nil)) (pg_name (i := 4) scPl.nd rfl (Or.inl rfl)) (pss_one (ps_expr (pe_bmK (K := K) rfl PySem.F.plainAttrs_list PySem.F.slot_list_append PySem.F.type_list_append mt_append (pv 7) (pa_cons (pe_op op_catT (pe_tup (pa_cons (pe_ix (ix_listK (K := K) rfl) (pv 3) (pv 4) (fun _ _ => rfl)) pa_nil)) (pe_call GDe (hr.mono (by decide)) (by rfl) gDe FDe.kp bDe .nil pass0 (pa_cons (pv 0) (pa_cons (pv 2) (pa_cons (pv 6) pa_nil))))) pa_nil)))))
      (pss_cons (ps_set (i := 9) scPl.nd rfl (Or.inl rfl) (pe_tup (pa_cons (pe_ix (ix_listK (K := K) rfl) (pv 3) pe_int (fun _ _ => rfl)) (pa_cons (pe_tup (pa_cons pe_str (pa_cons (pe_ix (ix_listK (K := K) rfl) (pv 3) pe_int (fun _ _ => rfl)) pa_nil))) (pa_cons (pe_callTy call_tuple_of (by rfl) T.tuple (by decide +kernel) (pa_cons (pv 7) pa_nil)) (pa_cons (pe_call GBe (hr.mono (by decide)) (by rfl) gBe FBe.kp bBe .nil pass0 (pa_cons (pv 7) pa_nil)) pa_nil))))))
      (pss_one (ps_ret (pe_tup (pa_cons (pe_tupN (pa_cons (pe_tup (pa_cons (pe_ix (ix_listK (K := K) rfl) (pv 3) pe_int (fun _ _ => rfl)) (pa_cons (pv 8) pa_nil))) pa_nil)) (pa_cons (pe_tup (pa_cons (pv 9) pa_nil)) pa_nil)))))))))), ?_⟩
    refine ⟨_, rfl, h, n, 24, rfl, hd, by omega, by decide, fun N ns H1 nN iwN eN hd1 bt1 => ?_⟩
    have Nh : N ≠ h := (hd.fresh nN).symm
    refine ⟨_, rfl, h, n + 4, 12, rfl, hd1, by omega, by decide, fun C cs H2 nC iwC eC hd2 bt2 => ?_⟩
    have Ch : C ≠ h := (hd1.fresh nC).symm
    have CN : C ≠ N := fun z => by rw [z, eN] at nC; cases nC
    have eN2 := bt2 N _ Nh eN
    have lcs := words_len iwC
    have gcs := words_good iwC
    have lns := words_len iwN
    have gns := words_good iwN
    have hfr0 : Fresh ns [] := by
      unfold Fresh
      rw [List.map_nil, List.append_nil]
      exact words_fresh iwN (by decide)
    refine ⟨(show 2 ≤ sizeLine by decide), fun t0 n0 => newO n0 fun H3 s3 e3 => ⟨t0, _, rfl, SqT.of e3, rfl, _, _, rfl, gN ⟨_, _, rfl, gN ⟨rfl, ?_⟩⟩⟩⟩
    try dsimp only
    have hd3 := hd2.mono s3 (Nat.le_refl _)
    have eN3 := s3 _ _ eN2
    have eC3 := s3 _ _ eC
    refine ⟨_, rfl, h, n + 4 + 4, 3, rfl, hd3, by omega, by decide, by decide, fun r2 H4 r20 r21 hd4 bt4 => ?_⟩
    have eN4 := bt4 N _ Nh eN3
    have eC4 := bt4 C _ Ch eC3
    refine ⟨_, _, rfl, rfl, 1 + r2, rfl, by omega, by omega, fun D2 nD2 => ?_⟩
    have D2N : D2 ≠ N := fun z => by rw [z, eN4] at nD2; cases nD2
    have D2C : D2 ≠ C := fun z => by rw [z, eC4] at nD2; cases nD2
    have D2h : D2 ≠ h := (hd4.fresh nD2).symm
    refine lc_map (walk_range (lo := 0) (n := (1 + r2).toNat)) (h := N) (Z := fun j x => True) (fun j G => Pop ns N j G) (fun j y _ => ∃ z, y = V.str z ∧ ns[ns.length - 1 - j]? = some z) nD2 D2N (fun j G x G' e => ⟨e.1, trivial⟩) (fun _ _ => trivial) (fun _ _ _ _ _ _ e => e) (by omega) (fun _ => rfl) ⟨ns, [], eN4, (List.append_nil ns).symm, rfl⟩ (fun j G l a => by
      obtain ⟨ns', us, e, g⟩ := a
      exact ⟨ns', us, by rw [upd_ne D2N.symm]; exact e, g⟩) ?_ ?_
    · rintro j x G Q2 hj _ btG ⟨ns', us, eN', eu', lu'⟩ _ kk
      refine ⟨_, rfl, pop_names eN' (by have := congrArg List.length eu'; rw [List.length_append] at this; omega) fun z ns2 ez => ?_⟩
      have st := Pop.step (G := upd G N (.lst (ns2.map V.str))) eu' lu' ez upd_same
      exact kk _ _ But.upd st.1 ⟨z, rfl, st.2⟩
    · rintro H5 ys bt5 pp5 eD5 ly hw
      obtain ⟨zs, ns5, rfl, eN5, ln5, mn5, hz, pm⟩ := pop_all pp5 ly hw
      rw [List.length_map] at ly
      have hfr5 : Fresh ns5 (zs.map fun z => (z, true)) := hfr0.move (e := zs.map fun z => (z, true)) (by rw [fst_map]; exact pm)
      have hd5 := hand_but hd4 Nh.symm bt5
      have eC5 := bt5 C _ CN eC4
      refine gN ?_
      try dsimp only
      refine ⟨_, rfl, D2, rfl, ⟨_, SqL.of eD5⟩, fun D3 nD3 => ?_⟩
      refine lc_new (walk_list (K := K) (a := D2) (xs := zs.map V.str)) (Z := fun j x => (zs.map V.str)[j]? = some x) (fun j y G => ∃ (t : Addr) (z : Str), y = .ref t ∧ zs[j]? = some z ∧ G t = some (.tup [.str z, .str (kw true)])) nD3 (fun j G x G' e => ⟨e.1, e.2⟩) (fun G sG => SqL.of (sG _ _ eD5)) (fun j y G G' keep ⟨l', eD⟩ ⟨t, z, e1, e2, e3⟩ => ⟨t, z, e1, e2, keep t _ (fun q => by rw [q, eD] at e3; cases e3) e3⟩) (by rw [List.length_map]; omega) (fun _ => rfl) ?_ ?_
      · rintro j x G Q2 hj hx sG kk
        rw [List.getElem?_map] at hx
        obtain ⟨z, hz2, rfl⟩ := Option.map_eq_some_iff.mp hx
        exact ⟨_, rfl, (show 2 ≤ sizeLine by decide), fun p m1 => newO m1 fun G2 s2 e2 => kk _ _ s2 ⟨p, z, rfl, hz2, e2⟩⟩
      · rintro H6 ys6 s6 eD6 ly6 hw6
        rw [List.length_map] at ly6
        obtain ⟨us, rfl, lus, hus⟩ := refs_of ly6 hw6
        have kA6 : KnownAt H6 D3 (zs.map fun z => (z, true)) := ⟨us, lus, eD6, hus⟩
        have hd6 := hd5.mono s6 (Nat.le_refl _)
        have eN6 := s6 _ _ eN5
        have eC6 := s6 _ _ eC5
        have eD26 := s6 _ _ eD5
        have D3N : D3 ≠ N := fun z => by rw [z, eN5] at nD3; cases nD3
        have D3C : D3 ≠ C := fun z => by rw [z, eC5] at nD3; cases nD3
        have D3h : D3 ≠ h := (hd5.fresh nD3).symm
        have gzs : ∀ z ∈ zs, Good 9 z := fun z h => gns z (hz z h)
        refine ⟨(show 0 ≤ sizeLine by decide), fun S nS => newO nS fun H7 s7 e7 => ?_⟩
        have hd7 := hd6.mono s7 (Nat.le_refl _)
        have eN7 := s7 _ _ eN6
        have eC7 := s7 _ _ eC6
        have eD27 := s7 _ _ eD26
        have SN : S ≠ N := fun z => by rw [z, eN6] at nS; cases nS
        have SC : S ≠ C := fun z => by rw [z, eC6] at nS; cases nS
        have SD3 : S ≠ D3 := fun z => by rw [z, eD6] at nS; cases nS
        have Sh : S ≠ h := (hd6.fresh nS).symm
        have kA7 : KnownAt H7 D3 (zs.map fun z => (z, true)) := ⟨us, lus, s7 _ _ eD6, fun j t c h1 h2 => s7 _ _ (hus j t c h1 h2)⟩
        refine ⟨_, _, rfl, ?_⟩
        try dsimp only
        refine ⟨_, rfl, _, rfl, h, D2, n + 4 + 4 + 1, zs, rfl, hd7, by omega, eD27, D2h, by omega, by omega, fun v H8 ish hd8 bt8 => ?_⟩
        obtain ⟨va, pre, rfl, tdv, lpre, gpre⟩ := shape_td ish (by omega)
        have eN8 := bt8 N _ Nh eN7
        have eC8 := bt8 C _ Ch eC7
        have eS8 := bt8 S _ Sh e7
        have kA8 := known_but hd7 kA7 D3h bt8
        refine gN ?_
        try dsimp only
        refine ⟨_, rfl, _, rfl, _, _, rfl, rfl, h, n + 4 + 4 + 1 + 10, m + 1, rfl, hd8, by omega, by omega, by omega, fun r3 H9 r30 r31 hd9 bt9 => ?_⟩
        have eN9 := bt9 N _ Nh eN8
        have eC9 := bt9 C _ Ch eC8
        have eS9 := bt9 S _ Sh eS8
        have kA9 := known_but hd8 kA8 D3h bt9
        have tdv9 := tdv.keep (Tst.hand hd8 bt9)
        have c9 : ∀ b o, b ≠ h → H b = some o → H9 b = some o ∧ b ≠ N ∧ b ≠ D3 ∧ b ≠ S := fun b o nb e => by
          have bN := ne_of_none e nN
          have e5 := bt5 b o bN (bt4 b o nb (s3 _ _ (bt2 b o nb (bt1 b o nb e))))
          have bD3 := ne_of_none e5 nD3
          have e6 := s6 _ _ e5
          exact ⟨bt9 b o nb (bt8 b o nb (s7 _ _ e6)), bN, bD3, ne_of_none e6 nS⟩
        have p0 : PlAt (zs.map fun z => (z, true)) h N D3 S (n + 24) H9 H9 0 := by
          refine ⟨_, ns5, [], eN9, kA9, eS9, rfl, (fun p hp => nomatch hp), ?_, ?_, ?_, fun z hz => gns z (mn5 z hz), fun c hc => ?_, hd9.up (by omega), But4.refl _ _ _ _ _, hfr5, [], ⟨rfl, fun i p d h1 h2 => by simp at h1⟩, rfl⟩
          · cases zs with
            | nil => exact absurd ly (by simp; omega)
            | cons z zs => exact ⟨z, List.mem_cons_self⟩
          · rw [List.length_map]
            omega
          · rw [List.length_map]
            omega
          · obtain ⟨z, hz2, rfl⟩ := List.mem_map.mp hc
            exact gzs z hz2
        refine ⟨r3, rfl, by omega, by omega, for_it (walk_range (lo := 0) (n := r3.toNat)) (fun j σ G => PlAt (zs.map fun z => (z, true)) h N D3 S (n + 24) H9 G j ∧ ∃ u4, σ = [some (.ref h), some (.int m), some (.ref N), some (.ref C), u4, some (.ref D2), some (.ref D3), some (.ref S), some (.ref va), none, none]) ⟨p0, _, rfl⟩ (fun _ _ _ _ _ => trivial) ?_ ?_⟩
        · rintro i x σ G G' hi ⟨⟨kn, ns', ps, eN', kA', eS', lps, hps, hc, l24, l9, gn', gk', hdG, b4, hfr', dds, hds, hch⟩, u4, rfl⟩ ⟨rfl, rfl⟩
          refine gN ?_
          dsimp only
          rw [Int.zero_add]
          have il : i < cs.length := by omega
          have eCi : (cs.map V.str)[i]? = some (V.str cs[i]) := by rw [List.getElem?_map, List.getElem?_eq_getElem il]; rfl
          have eC' : G' C = some (.lst (cs.map V.str)) := b4 C _ Ch CN D3C.symm SC.symm eC9
          have Gh : HandAt G' h (n + 24 + 40 * i) := hdG
          refine ⟨_, rfl, .inl ⟨rfl, _, SqL.of eS'⟩, _, rfl, _, rfl, C, _, _, V.str cs[i], rfl, rfl, SqL.of eC', atI_nat eCi, (show 1 ≤ sizeLine by decide), fun u nu => newO nu fun G1 sg eu => ?_⟩
          have kA1 : KnownAt G1 D3 kn := known_but hdG kA' D3h (But.of sg)
          refine ⟨_, rfl, _, rfl, _, rfl, h, N, D3, n + 24 + 40 * i, kn, ns', rfl, hdG.mono sg (Nat.le_refl _), by omega, sg _ _ eN', kA1, Nh, D3h, D3N.symm, hc, l24, l9, gn', gk', hfr', fun p G2 de => ?_⟩
          obtain ⟨vs, dd, kn2, ns2, ep, da, dw, kA2, eN2, ⟨ee, he⟩, l242, l92, gn2, gk2, hdG2, b3, ha2, hw2, hx2, hfr2⟩ := de
          have tt1 : Tst G' G1 := Tst.of sg
          have tt2 : Tst G1 G2 := Tst.b3 b3 (hand_lst (hdG.mono sg (Nat.le_refl _))) ⟨_, sg _ _ eN'⟩ (kA1.elim fun ts q => ⟨_, q.2.1⟩)
          have eS2 := b3 S _ Sh SN SD3 (sg _ _ eS')
          refine ⟨u, p, [V.str cs[i]], vs, rfl, rfl, SqT.of (tt2 _ _ eu), SqT.of ep, by simp, ?_, fun z => absurd z da.ne, fun _ t nt => newO nt fun G3 s3' et => ?_⟩
          · have := da.len
            rw [sizeLine_eq, List.length_singleton]
            omega
          have eS3 := s3' _ _ eS2
          refine ⟨S, _, _, rfl, rfl, eS3, by rw [List.length_map, sizeLine_eq]; omega, ?_⟩
          have b5 : But S G3 (upd G3 S (.lst (ps.map V.ref ++ [V.ref t]))) := But.upd
          have e5 : upd G3 S (.lst (ps.map V.ref ++ [V.ref t])) S = _ := upd_same
          generalize upd G3 S (.lst (ps.map V.ref ++ [V.ref t])) = G4 at b5 e5 ⊢
          have tt3 : Tst G2 G3 := Tst.of s3'
          have tt4 : Tst G3 G4 := Tst.but ⟨_, eS3⟩ b5
          have tt14 := ((tt1.trans tt2).trans tt3).trans tt4
          obtain ⟨c, hcc⟩ := hc
          obtain ⟨ts2, lts2, eL2, hts2⟩ := kA2
          refine ⟨⟨kn2, ns2, ps ++ [t], b5 N _ SN.symm (s3' _ _ eN2), ⟨ts2, lts2, b5 D3 _ SD3.symm (s3' _ _ eL2), fun j t c h1 h2 => tt4 _ _ (s3' _ _ (hts2 j t c h1 h2))⟩, by rw [List.map_append]; exact e5, by rw [List.length_append, lps]; rfl, fun x hx => ?_, ⟨c, by rw [he]; exact List.mem_append_left _ hcc⟩, l242, l92, gn2, gk2, ?_, ?_, hfr2, dds ++ [(cs[i], dd)], (hds.keep tt14).snoc ⟨vs, tt4 _ _ et, da.keep (tt3.trans tt4), dw⟩ (gcs _ (List.getElem_mem il)) gk2, by rw [List.map_append, ha2]; exact hch.snoc hw2 hx2⟩, _, rfl⟩
          · rcases List.mem_append.mp hx with hx | hx
            · obtain ⟨nm, dd', kn', a, g⟩ := hps x hx
              exact ⟨nm, dd', kn', a.keep tt14, g⟩
            · rw [List.mem_singleton.mp hx]
              exact ⟨cs[i], dd, kn2, ⟨vs, tt4 _ _ et, da.keep (tt3.trans tt4), dw⟩, gcs _ (List.getElem_mem il), gk2⟩
          · exact (hand_but (hdG2.mono s3' (Nat.le_refl _)) Sh.symm b5).up (by omega)
          · exact ((((b4.trans (But4.s sg)).trans (But4.t b3)).trans (But4.s s3'))).trans (But4.u b5)
        · rintro σ G ⟨⟨kn, ns', ps, eN', kA', eS', lps, hps, hc, l24, l9, gn', gk', hdG, b4, hfr', dds, hds, hch⟩, u4, rfl⟩
          try dsimp only
          have eC' : G C = some (.lst (cs.map V.str)) := b4 C _ Ch CN D3C.symm SC.symm eC9
          have at10 : atI (cs.map V.str) 10 = some (V.str cs[10]) := atI_nat (j := 10) (by rw [List.getElem?_map, List.getElem?_eq_getElem (by omega)]; rfl)
          have at11 : atI (cs.map V.str) 11 = some (V.str cs[11]) := atI_nat (j := 11) (by rw [List.getElem?_map, List.getElem?_eq_getElem (by omega)]; rfl)
          refine ⟨_, rfl, C, _, _, V.str cs[11], rfl, rfl, SqL.of eC', at11, _, rfl, C, _, _, V.str cs[10], rfl, rfl, SqL.of eC', at10, (show 2 ≤ sizeLine by decide), fun o no => newO no fun G1 z1 eo => ?_⟩
          refine ⟨_, rfl, S, _, rfl, .inl ⟨SqL.of (z1 _ _ eS'), fun t1 n1 => newO n1 fun G2 z2 et1 => ?_⟩⟩
          have z12 := z1.trans z2
          have hps2 : ∀ p ∈ ps, ∃ nm dd kn, StAt G2 p nm dd kn ∧ Good 9 nm ∧ ∀ c ∈ kn, Good 9 c.1 := fun p hp => by
            obtain ⟨nm, dd, kn, a, g⟩ := hps p hp
            exact ⟨nm, dd, kn, a.keep (Tst.of z12), g⟩
          refine ⟨_, rfl, S, ps, rfl, z12 _ _ eS', by omega, (fun p hp => by
            obtain ⟨nm, dd, kn, a, g⟩ := hps2 p hp
            exact ⟨nm, dd, kn, a, g.1⟩), fun t2 bs G3 tb lb gb z3 => ?_⟩
          refine ⟨(show 4 ≤ sizeLine by decide), fun i4 n4 => newO n4 fun G4 z4 ei4 => ?_⟩
          refine gN ?_
          dsimp only
          have z14 := (z12.trans z3).trans z4
          unfold tRet
          dsimp only
          refine ⟨_, rfl, C, _, _, V.str cs[10], rfl, rfl, SqL.of (z14 _ _ eC'), at10, _, rfl, (show 2 ≤ sizeLine by decide), fun a1 m1 => newO m1 fun G5 z5 e5 => ⟨(show 1 ≤ sizeLine by decide), fun a2 o2 m2 od2 => newO m2 fun G6 z6 e6 => ?_⟩⟩
          refine ⟨_, rfl, (show 1 ≤ sizeLine by decide), fun a3 m3 => newO m3 fun G7 z7 e7 => ⟨(show 2 ≤ sizeLine by decide), fun a4 m4 => newO m4 fun G8 z8 e8 => ?_⟩⟩
          have hds2 := hds.keep (Tst.of z12)
          obtain ⟨tss, gss⟩ := dds_td hds2
          have lss : (dds.map fun d => d.2.step d.1).length = ps.length := by rw [List.length_map, hds.1]
          have z58 := ((z6.trans z7).trans z8)
          have z48 := z5.trans z58
          have z38 := z4.trans z48
          have z28 := z3.trans z38
          have z18 := z2.trans z28
          have z08 := z1.trans z18
          have t9 : Tst H9 G := Tst.b4 b4 (hand_lst hd9) ⟨_, eN9⟩ (kA9.elim fun ts q => ⟨_, q.2.1⟩) ⟨_, eS9⟩
          have tv : TD G8 (.ref va) (.tuple (pre ++ [.tuple (zs.map .str)])) := tdv9.keep (t9.trans (Tst.of z08))
          obtain ⟨sh, svs, esh, eh8, dh8⟩ := TD.inv tv
          cases esh
          obtain ⟨pv, lv, rfl, dpv, dlv⟩ := tds_snoc dh8
          obtain ⟨cA, lus, rfl, eC8, dus⟩ := TD.inv dlv
          cases TDs.invS dus
          refine q a4 ⟨cs[10], pre, zs, cs[11], List.map (fun d : Str × Dd => Dd.step d.1 d.2) dds, bs⟩ dds kn ⟨a2, a3, a1, va, cA, i4, o, t1, t2, pv, ps, o2⟩ G8 ⟨e8, z8 _ _ (z7 _ _ e6), od2, z58 _ _ e5, eh8, dpv, eC8, z8 _ _ e7, z48 _ _ ei4, z18 _ _ eo, z28 _ _ et1, hds2.keep (Tst.of z28), tb.keep (Tst.of z38)⟩ ⟨gcs _ (List.getElem_mem _), gcs _ (List.getElem_mem _), ⟨lpre, gpre⟩, ?_, ?_, gzs, ?_, gss, lb, gb⟩ rfl hch l9 ?_ ((hdG.mono z08 (Nat.le_refl _)).up (by omega)) fun b o nb e => ?_
          · show 1 ≤ zs.length
            omega
          · show zs.length ≤ 3
            omega
          · show (dds.map fun d => d.2.step d.1).length ≤ 8
            omega
          · exact fresh_nil hfr'
          · obtain ⟨e9, nN, nD, nS⟩ := c9 b o nb e
            exact z08 _ _ (b4 b o nb nN nD nS e9)
end
end K86
set_option Elab.async false
set_option linter.all false
set_option maxRecDepth 100000
set_option maxHeartbeats 4000000
/-! Xj: a try with several named clauses, one of which takes what flies. -/
namespace Xg
open PySem PySem.Spec PyProof.Rows L2 Bs Xc
/-- the wishes behind a clause's suite: the name is gone -/
def gone (i : Nat) (D : Ends) : Ends := { nx := fun σ H => D.nx (σ.set i none) H, rt := D.rt, bk := fun σ H => D.bk (σ.set i none) H, ct := fun σ H => D.ct (σ.set i none) H }
/-- the clauses' wish: the first that names the class -/
def wN (K : PySem.W.Frag) (i : Nat) (D : Ends) : List (Value × (Addr → Value → Option Addr → TS)) → WX
  | [] => fun _ _ _ _ => False
  | (c, ts) :: r => fun cls d σ H => ∃ b, PySem.W.exmOne K cls c = some b ∧ (if b = true then ∀ a, H a = none → ts a cls d (gone i D) (σ.set i (some (.ref a))) H else wN K i D r cls d σ H)
inductive HdsN (X : Cx) (n : Str) : List ExceptHandler → List (Value × (Addr → Value → Option Addr → TS)) → Prop
  | nil : HdsN X n [] []
  | cons {x : Str} {c : Value} {ts : Addr → Value → Option Addr → TS} {b₀ : Stmt} {suite : List Stmt} {np pos' : Pos} {hds : List ExceptHandler} {l : List (Value × (Addr → Value → Option Addr → TS))} (hc : Names X x c)
      (su : ∀ (a : Addr) (oe : Obj) (cls : Value) (d : Option Addr) (pn : List (Addr × Obj)), Zc cls d oe → (∃ vs, oe.data = .fields vs) → PSs (X.suite a ((a, oe) :: pn)) (b₀ :: suite) (ts a cls d)) (r : HdsN X n hds l) :
      HdsN X n (.ExceptHandler (some (.Name x np)) (some n) (b₀ :: suite) pos' :: hds) ((c, ts) :: l)
/-- what is wanted of what the body lets fly -/
def sought (X : Cx) (pins : List (Addr × Obj)) (D : Ends) (hds : List ExceptHandler) (e : Value) (s1 : Shared) : Prop :=
  wpAny (model X.prog X.w) X.A (noteFrame e X.env) (fun _ s2 => wpAny (model X.prog X.w) X.A (setFlight e none) (fun _ s3 => wpAny (model X.prog X.w) X.A (handleBy e X.env hds) (SP X pins D) X.xe s3) X.xe s2) X.xe s1
section
variable {X : Cx} {n : Str} {i : Nat} {body : List Stmt} {h₀ : ExceptHandler} {hds : List ExceptHandler} {l : List (Value × (Addr → Value → Option Addr → TS))} {pos : Pos} {tb : WX → TS}
theorem ps_tryN (hs : X.stack = X.env :: X.outer) (hf : X.env.frame = some X.env.locals) (hN : X.N.Nodup) (hi : X.N[i]? = some n) (ln : X.env.kindOf n = some .local)
    (hb : ∀ (W : WX) (pn : List (Addr × Obj)) (xe : Value → Shared → Prop), Takes (X.tr pn xe) W → PSs (X.tr pn xe) body (tb W))
    (hh : HdsN X n (h₀ :: hds) l) : PS X (.Try body (h₀ :: hds) [] [] pos) (fun D σ H => tb (wN X.K i D l) D σ H) := by
  constructor
  intro pins s σ H D I h
  have ok := I.ok
  have fr : X.A.frames = some (X.env :: X.outer) := by
    rw [ok.frames, hs]
  have place : Loc X.env.scope n := .inl ln
  have caught : Takes (X.tr (X.pn ++ pins) (sought X pins D (h₀ :: hds))) (wN X.K i D l) := by
    rintro u s' ⟨a, B, sI, pins', σ', H', cls, d, rfl, J', nb, up, sky, na, os, ag, wish⟩
    have J : Inv X pins σ' H' sI := J'.ofTry ok
    have sky' : Sky B (X.env :: X.outer) a (Zc cls d) X.env.locals s'.heap := by
      rw [← hs]
      exact sky
    show wpAny _ _ (noteFrame (.ref a) X.env) _ _ _
    apply Sky.land Zc.steady fr hf sky'
    intro h3 fly up3
    have J3 : Inv X pins σ' H' { s' with heap := h3 } := J.landed nb fly.1 (up.trans up3) os ag
    obtain ⟨oe3, vs3, at3, z3, d3⟩ := fly.there
    have off : a ∉ frs (X.env :: X.outer) := by
      intro hm
      obtain ⟨_, o', e', notF⟩ := fly.2.2.1.mem hm
      rw [at3] at e'
      cases e'
      exact notF _ d3
    have offL : a ≠ X.env.locals := by
      intro z
      exact off (List.mem_filterMap.mpr ⟨X.env, List.mem_cons_self, by rw [hf, z]⟩)
    have offF : a ∉ X.fs := by
      intro hm
      obtain ⟨e, he, q⟩ := List.mem_filterMap.mp hm
      exact off (List.mem_filterMap.mpr ⟨e, List.mem_cons_of_mem _ he, q⟩)
    have S3 := J3.suite at3 d3 na offL offF
    have turn : ∀ {hds' : List ExceptHandler} {l' : List (Value × (Addr → Value → Option Addr → TS))}, HdsN X n hds' l' → wN X.K i D l' cls d σ' H' →
        wpAny (model X.prog X.w) X.A (handleBy (.ref a) X.env hds') (SP X pins D) X.xe { s' with heap := h3 } := by
      intro hds' l' hk
      induction hk with
      | nil =>
        intro z
        exact z.elim
      | @cons x c ts b₀ suite np pos' hds2 l2 hc su r ih =>
        rintro ⟨b, is, go⟩
        apply wpAny_handleBy_cons (codeAny_handlers_test _) (by intro q; cases q)
        have lt : PySem.W.Looks (model X.prog X.w) h3 (typeOf (.ref a)) cls := by
          intro A Q E s k q
          apply wpAny_typeOf_ref (k _ _ at3)
          rw [z3.1]
          exact q
        have lm := PySem.W.exm_one (M := model X.prog X.w) J3.kIn lt is
        have named : ∀ {Q : Value → Shared → Prop} {E : Value → Shared → Prop}, Q c { s' with heap := h3 } → wpAny (model X.prog X.w) (X.A.mark (some (.ref a))) (eval (.Name x np) X.env) Q E { s' with heap := h3 } := by
          intro Q E q
          obtain ⟨hg, hd, hm | ⟨hm, hv, nn⟩⟩ := hc
          · exact ld_glob (X := X.suite a ((a, oe3) :: (X.pn ++ pins))) S3 hg hm q hd
          · exact ld_blt (X := X.suite a ((a, oe3) :: (X.pn ++ pins))) S3 hg hm hv q nn hd
        apply named
        apply lm.here
        cases b with
        | false =>
          show wpAny _ X.A (handleBy (.ref a) X.env hds2) _ _ _
          exact ih go
        | true =>
          apply codeAny_handlers_suite_as
          apply HandSPX.lands_againZ fly
          intro h4 fly4 up4
          have J4 : Inv X pins σ' H' { s' with heap := h4 } := J.landed nb fly4.1 ((up.trans up3).trans up4) os ag
          obtain ⟨oe4, vs4, at4, z4, d4⟩ := fly4.there
          have S4 := J4.suite at4 d4 na offL offF
          refine store_ok (X := X.suite a ((a, oe4) :: (X.pn ++ pins))) (v := .ref a) S4 hN hi place rfl ?_ (.inr ln)
          intro s5 S5
          refine wpAny_mono ((su a oe4 cls d (X.pn ++ pins) z4 ⟨_, d4⟩).run [] s5 _ H' _ S5 (go a na)) ?_ (fun _ _ z => z.elim)
          intro f s6 sp
          have fin : ∀ {σ6 : L2.St} {H6 : Hp} {Q : Shared → Prop}, Inv (X.suite a ((a, oe4) :: (X.pn ++ pins))) [] σ6 H6 s6 → (∀ s7, Inv X pins (σ6.set i none) H6 s7 → Q s7) →
              wpAny (model X.prog X.w) X.A (do bindName X.env n .none; unbindBehindTheSuite X.env n pos') (fun _ s7 => Q s7) X.xe s6 := by
            intro σ6 H6 Q S6 q
            exact gone_ok (S6.unsuite ok) hN hi ln q
          match f, sp with
          | .next, ⟨σ6, H6, S6, q6⟩ => exact fin S6 fun s7 J7 => ⟨_, _, J7, q6⟩
          | .brk, ⟨σ6, H6, S6, q6⟩ => exact fin S6 fun s7 J7 => ⟨_, _, J7, q6⟩
          | .cont, ⟨σ6, H6, S6, q6⟩ => exact fin S6 fun s7 J7 => ⟨_, _, J7, q6⟩
          | .ret u, ⟨v6, σ6, H6, S6, r6, q6⟩ => exact fin S6 fun s7 J7 => ⟨_, _, _, J7, r6, q6⟩
    exact turn hh wish
  apply wpAny_Try_except
  refine wpAny_mono ((hb _ _ _ caught).run [] s σ H D (I.toTry _) h) ?_ (fun e s1 z => z)
  intro f s1 sp
  match f, sp with
  | .next, ⟨σ', H', J', q⟩ => exact wpAny_execs_nil ⟨σ', H', J'.ofTry ok, q⟩
  | .brk, ⟨σ', H', J', q⟩ => exact ⟨σ', H', J'.ofTry ok, q⟩
  | .cont, ⟨σ', H', J', q⟩ => exact ⟨σ', H', J'.ofTry ok, q⟩
  | .ret u, ⟨v, σ', H', J', r, q⟩ => exact ⟨v, σ', H', J'.ofTry ok, r, q⟩
end
end Xg
set_option Elab.async false
set_option linter.all false
set_option maxRecDepth 100000
set_option maxHeartbeats 4000000
/-! k87: the program's top -/
namespace K21
open PySem PySem.Spec PyProof.Rows L2 Bs Xg TL Gn
def top (i : Nat) : Stmt := PySem.Challenge.pw_cleanedtables_k87_rows_onward.main.body.getD i (.Pass ⟨0, 0, 0, 0⟩)
end K21
set_option Elab.async false
set_option linter.all false
set_option maxRecDepth 100000
set_option maxHeartbeats 4000000
/-! the mathematics of numbers read and written: lists of signs -/
namespace K02
open PySem TL
def dg (c : Nat) : Bool := decide (48 ≤ c) && decide (c ≤ 57)
def figs (k : Nat) (l : List Nat) : Bool := decide (1 ≤ l.length) && decide (l.length ≤ k) && l.all dg
def val (l : List Nat) : Nat := NumText.digitsVal l
def body (l : List Nat) : List Nat := if l.take 1 = [43] ∨ l.take 1 = [45] then l.drop 1 else l
def sgn (l : List Nat) (n : Nat) : Int := if l.take 1 = [45] then -(n : Int) else n
def cap (m : Nat) : Nat := if m = 0 then 9 else 8
def zs (k : Nat) : List Nat := List.replicate k 48
def due (m : Nat) (l : List Nat) : Option Int :=
  match par [46] [] (body l) with
  | none => if figs (cap m) (body l) = true then some (sgn l (val (body l ++ zs m))) else none
  | some (p, q) => if figs (cap m) p = true ∧ figs m q = true then some (sgn l (val (p ++ (q ++ zs (m - q.length))))) else none
theorem due_plain {m : Nat} {l : List Nat} (h : 46 ∉ body l) : due m l = if figs (cap m) (body l) = true then some (sgn l (val (body l ++ zs m))) else none := by
  unfold due
  rw [par_none1 h]
theorem due_dot {m : Nat} {l p q : List Nat} (e : body l = p ++ 46 :: q) (h : 46 ∉ p) : due m l = if figs (cap m) p = true ∧ figs m q = true then some (sgn l (val (p ++ (q ++ zs (m - q.length))))) else none := by
  unfold due
  have z : par [46] [] (body l) = some (p, q) := by
    rw [e]
    exact par_part1 (S := []) (acc := []) (rest := q) h
  rw [z]
theorem two_ways (l : List Nat) : (46 ∉ l) ∨ ∃ p q, l = p ++ 46 :: q ∧ 46 ∉ p := by
  by_cases h : 46 ∈ l
  · exact .inr (List.eq_append_cons_of_mem h)
  · exact .inl h
theorem dg_iff {c : Nat} : dg c = true ↔ 48 ≤ c ∧ c ≤ 57 := by simp [dg]
theorem figs_iff {k : Nat} {l : List Nat} : figs k l = true ↔ (1 ≤ l.length ∧ l.length ≤ k) ∧ NumText.AllDigits l := by
  unfold figs NumText.AllDigits
  rw [Bool.and_eq_true, Bool.and_eq_true, decide_eq_true_eq, decide_eq_true_eq, List.all_eq_true]
  constructor
  · rintro ⟨h, g⟩
    exact ⟨h, fun c hc => dg_iff.mp (g c hc)⟩
  · rintro ⟨h, g⟩
    exact ⟨h, fun c hc => dg_iff.mpr (g c hc)⟩
/-! values -/
theorem foldl_val : ∀ (l : List Nat) (a : Nat), l.foldl (fun acc c => acc * 10 + (c - 48)) a = a * 10 ^ l.length + val l
  | [], a => by simp [val, NumText.digitsVal]
  | c :: r, a => by
    have h1 := foldl_val r (a * 10 + (c - 48))
    have h2 := foldl_val r (0 * 10 + (c - 48))
    have h3 : val (c :: r) = r.foldl (fun acc c => acc * 10 + (c - 48)) (0 * 10 + (c - 48)) := rfl
    rw [List.foldl_cons, h1, h3, h2, List.length_cons, Nat.pow_succ]
    simp only [Nat.zero_mul, Nat.zero_add, Nat.add_mul, Nat.mul_assoc, Nat.add_assoc, Nat.mul_comm 10]
theorem val_app (a b : List Nat) : val (a ++ b) = val a * 10 ^ b.length + val b := by
  have e : val (a ++ b) = b.foldl (fun acc c => acc * 10 + (c - 48)) (val a) := by
    unfold val NumText.digitsVal
    rw [List.foldl_append]
  rw [e, foldl_val]
theorem val_zs : ∀ k, val (zs k) = 0
  | 0 => rfl
  | k + 1 => by
    have e : zs (k + 1) = zs k ++ [48] := by unfold zs; rw [List.replicate_succ']
    rw [e, val_app, val_zs k]
    rfl
theorem val_lt : ∀ {l : List Nat}, NumText.AllDigits l → val l < 10 ^ l.length
  | [], _ => by simp [val, NumText.digitsVal]
  | c :: r, h => by
    have e : val (c :: r) = val [c] * 10 ^ r.length + val r := val_app [c] r
    have i := val_lt (l := r) h.tail
    have hc := h.head
    have v1 : val [c] = c - 48 := by simp [val, NumText.digitsVal]
    rw [e, v1, List.length_cons, Nat.pow_succ]
    have : (c - 48) * 10 ^ r.length ≤ 9 * 10 ^ r.length := Nat.mul_le_mul_right _ (by omega)
    omega
theorem zs_len (k : Nat) : (zs k).length = k := List.length_replicate
theorem zs_digits (k : Nat) : NumText.AllDigits (zs k) := fun c hc => by
  have e := List.eq_of_mem_replicate hc
  omega
theorem digits_app {a b : List Nat} (h : NumText.AllDigits a) (g : NumText.AllDigits b) : NumText.AllDigits (a ++ b) := fun c hc => by
  rcases List.mem_append.mp hc with q | q
  · exact h c q
  · exact g c q
theorem due_small {m : Nat} {l : List Nat} {n : Int} (h : due m l = some n) : n.natAbs < 10 ^ (cap m + m) := by
  have sg : ∀ k : Nat, (sgn l k).natAbs = k := fun k => by
    unfold sgn
    split <;> omega
  have up : ∀ {x : List Nat}, NumText.AllDigits x → x.length ≤ cap m + m → val x < 10 ^ (cap m + m) := fun h g => Nat.lt_of_lt_of_le (val_lt h) (Nat.pow_le_pow_right (by decide) g)
  rcases two_ways (body l) with w | ⟨p, q, e, w⟩
  · rw [due_plain w] at h
    split at h
    · rename_i f
      obtain ⟨⟨_, f2⟩, f3⟩ := figs_iff.mp f
      rw [← Option.some.inj h, sg]
      exact up (digits_app f3 (zs_digits m)) (by rw [List.length_append, zs_len]; omega)
    · cases h
  · rw [due_dot e w] at h
    split at h
    · rename_i f
      obtain ⟨f, g⟩ := f
      obtain ⟨⟨_, f2⟩, f3⟩ := figs_iff.mp f
      obtain ⟨⟨_, g2⟩, g3⟩ := figs_iff.mp g
      rw [← Option.some.inj h, sg]
      exact up (digits_app f3 (digits_app g3 (zs_digits _))) (by rw [List.length_append, List.length_append, zs_len]; omega)
    · cases h
/-! figures of a number -/
def padL (k n : Nat) : List Nat := zs (k - (numL n).length) ++ numL n
def dig : Nat → Nat → List Nat
  | 0, _ => []
  | k + 1, n => dig k (n / 10) ++ [48 + n % 10]
theorem dig_len : ∀ k n, (dig k n).length = k
  | 0, _ => rfl
  | k + 1, n => by rw [dig, List.length_append, dig_len k]; rfl
theorem dig_cons : ∀ k n, dig (k + 1) n = (48 + n / 10 ^ k % 10) :: dig k n
  | 0, n => by simp [dig]
  | k + 1, n => by
    have i := dig_cons k (n / 10)
    rw [dig, i, dig]
    have e : n / 10 / 10 ^ k = n / 10 ^ (k + 1) := by rw [Nat.div_div_eq_div_mul, Nat.pow_succ, Nat.mul_comm 10]
    rw [e]
    rfl
theorem dig_zero : ∀ k, dig k 0 = zs k
  | 0 => rfl
  | k + 1 => by
    rw [dig, Nat.zero_div, dig_zero k]
    show zs k ++ [48] = zs (k + 1)
    unfold zs
    rw [List.replicate_succ']
theorem numL_pos (n : Nat) : 0 < (numL n).length := List.length_pos_iff.mpr (numL_ne n)
theorem dig_pad : ∀ k n, n < 10 ^ k → 0 < k → dig k n = padL k n
  | 0, _, _, h => by omega
  | k + 1, n, h, _ => by
    by_cases c : n < 10
    · have e : n / 10 = 0 := by omega
      have e2 : n % 10 = n := by omega
      rw [dig, e, e2, dig_zero]
      unfold padL
      rw [numL_lt c]
      show zs k ++ [48 + n] = zs (k + 1 - 1) ++ [48 + n]
      rw [Nat.add_sub_cancel]
    · have k0 : 0 < k := by
        cases k with
        | zero => simp at h; omega
        | succ k => omega
      have d : n / 10 < 10 ^ k := by
        rw [Nat.pow_succ] at h
        omega
      have i := dig_pad k (n / 10) d k0
      rw [dig, i]
      unfold padL
      rw [numL_step (n := n) (by omega), List.length_append]
      show (zs _ ++ numL (n / 10)) ++ [48 + n % 10] = zs (k + 1 - ((numL (n / 10)).length + 1)) ++ (numL (n / 10) ++ [48 + n % 10])
      rw [Nat.add_sub_add_right, List.append_assoc]
theorem numL_ge : ∀ k n, 10 ^ k ≤ n → k < (numL n).length
  | 0, n, _ => numL_pos n
  | k + 1, n, h => by
    rw [Nat.pow_succ] at h
    have p : 0 < 10 ^ k := Nat.pow_pos (by decide)
    have i := numL_ge k (n / 10) (by omega)
    rw [numL_step (n := n) (by omega), List.length_append]
    show k + 1 < (numL (n / 10)).length + 1
    omega
theorem loop_end {m k n : Nat} (h1 : n < 10 ^ k) (h2 : m + 1 ≤ k) (h3 : k = m + 1 ∨ 10 ^ (k - 1) ≤ n) : dig k n = padL (m + 1) n := by
  rw [dig_pad k n h1 (by omega)]
  rcases h3 with rfl | h3
  · rfl
  · have l1 := numL_ge (k - 1) n h3
    unfold padL
    rw [show k - (numL n).length = 0 by omega, show m + 1 - (numL n).length = 0 by omega]
theorem padL_val (k n : Nat) : val (padL k n) = n := by
  unfold padL
  rw [val_app, val_zs]
  show 0 * _ + NumText.digitsVal (numL n) = n
  rw [numL_val]
  omega
theorem padL_digits (k n : Nat) : NumText.AllDigits (padL k n) := digits_app (zs_digits _) (numL_digits n)
theorem padL_len (k n : Nat) : k ≤ (padL k n).length := by
  unfold padL
  rw [List.length_append, zs_len]
  omega
theorem padL_le {k n j : Nat} (h : n < 10 ^ j) (j0 : 0 < j) (kj : k ≤ j) : (padL k n).length ≤ j := by
  have := numL_len j0 h
  unfold padL
  rw [List.length_append, zs_len]
  omega
def shownL (m : Nat) (n : Int) : List Nat :=
  (if n < 0 then [45] else []) ++ (if m = 0 then padL 1 n.natAbs else (padL (m + 1) n.natAbs).take ((padL (m + 1) n.natAbs).length - m) ++ 46 :: (padL (m + 1) n.natAbs).drop ((padL (m + 1) n.natAbs).length - m))
theorem body_shown {m : Nat} {n : Int} {x : List Nat} {d : Nat} {r : List Nat} (hx : x = d :: r) (hd : 48 ≤ d ∧ d ≤ 57) : body ((if n < 0 then [45] else []) ++ x) = x ∧ ∀ k, sgn ((if n < 0 then [45] else []) ++ x) k = if n < 0 then -(k : Int) else k := by
  subst hx
  by_cases c : n < 0
  · rw [if_pos c]
    refine ⟨?_, fun k => ?_⟩
    · unfold body
      rw [if_pos (.inr rfl)]
      rfl
    · unfold sgn
      rw [if_pos c, if_pos (show List.take 1 ([45] ++ d :: r) = [45] from rfl)]
  · rw [if_neg c]
    refine ⟨?_, fun k => ?_⟩
    · unfold body
      rw [if_neg]
      · rfl
      · simp
        omega
    · unfold sgn
      rw [if_neg c, if_neg]
      simp
      omega
theorem dot_free {x : List Nat} (h : NumText.AllDigits x) : 46 ∉ x := fun q => by
  have := h 46 q
  omega
theorem back {m : Nat} {n : Int} (h : n.natAbs < 10 ^ (cap m + m)) : due m (shownL m n) = some n := by
  have cp : 0 < cap m := by unfold cap; split <;> omega
  have fin : ∀ k : Nat, k = n.natAbs → (if n < 0 then -(k : Int) else (k : Int)) = n := fun k e => by
    subst e
    split <;> omega
  by_cases m0 : m = 0
  · subst m0
    unfold shownL
    rw [if_pos rfl]
    have dgs := padL_digits 1 n.natAbs
    have len := padL_len 1 n.natAbs
    have le : (padL 1 n.natAbs).length ≤ 9 := padL_le h (by decide) (by decide)
    cases e : padL 1 n.natAbs with
    | nil =>
      rw [e] at len
      simp at len
    | cons d r =>
      have b := body_shown (m := 0) (n := n) (x := d :: r) rfl (dgs d (by rw [e]; exact List.mem_cons_self))
      rw [due_plain (by rw [b.1, ← e]; exact dot_free dgs), b.1, b.2, if_pos]
      · rw [← e, show zs 0 = [] from rfl, List.append_nil, padL_val, fin _ rfl]
      · rw [← e]
        exact figs_iff.mpr ⟨⟨len, le⟩, dgs⟩
  · unfold shownL
    rw [if_neg m0]
    have dgs := padL_digits (m + 1) n.natAbs
    have len := padL_len (m + 1) n.natAbs
    have le : (padL (m + 1) n.natAbs).length ≤ cap m + m := padL_le h (by omega) (by omega)
    have v := padL_val (m + 1) n.natAbs
    generalize padL (m + 1) n.natAbs = x at dgs len le v
    have dA : NumText.AllDigits (x.take (x.length - m)) := fun c hc => dgs c (List.mem_of_mem_take hc)
    have dB : NumText.AllDigits (x.drop (x.length - m)) := fun c hc => dgs c (List.mem_of_mem_drop hc)
    have lA : (x.take (x.length - m)).length = x.length - m := by rw [List.length_take]; omega
    have lB : (x.drop (x.length - m)).length = m := by rw [List.length_drop]; omega
    have AB : x.take (x.length - m) ++ x.drop (x.length - m) = x := List.take_append_drop _ _
    generalize x.take (x.length - m) = A at dA lA AB
    generalize x.drop (x.length - m) = B at dB lB AB
    cases A with
    | nil =>
      simp at lA
      omega
    | cons d r =>
      have b := body_shown (m := m) (n := n) (x := (d :: r) ++ 46 :: B) rfl (dA d List.mem_cons_self)
      rw [due_dot b.1 (dot_free dA), b.2, if_pos]
      · rw [lB, Nat.sub_self, show zs 0 = [] from rfl, List.append_nil, AB, v, fin _ rfl]
      · exact ⟨figs_iff.mpr ⟨⟨by simp, by omega⟩, dA⟩, figs_iff.mpr ⟨⟨by omega, by omega⟩, dB⟩⟩
end K02
set_option Elab.async false
set_option linter.all false
set_option maxRecDepth 100000
set_option maxHeartbeats 8000000
namespace K21
open PySem PySem.Spec PyProof.Rows L2 Bs Xg TL K02 Gn
abbrev sReadAs : Stmt := top 13
abbrev sIsFig : Stmt := top 14
abbrev sReadAm : Stmt := top 15
def S (l : List Nat) : Str := ⟨l.toArray⟩
theorem tl_S (l : List Nat) : tl (S l) = l := rfl
theorem S_len (l : List Nat) : (S l).length = l.length := by simp [S, Str.length]
theorem S_tl (z : Str) : S (tl z) = z := mk_tl z
def ov : Option Int → V
  | none => .non
  | some i => .int i
theorem asc_dig : ∀ c, c < 128 → Unicode.isDigit c = dg c := by decide +kernel
theorem is_figs {z : Str} {k : Nat} : (decide (1 ≤ z.length) && decide (z.length ≤ k) && (Txt.isascii z && Txt.isdigit z)) = figs k (tl z) := by
  unfold Txt.isascii Txt.isdigit figs
  have e1 : z.cps.all (· < 128) = (tl z).all (fun c => decide (c < 128)) := by simp [tl]
  have e2 : z.cps.all Unicode.isDigit = (tl z).all Unicode.isDigit := by simp [tl]
  rw [e1, e2, len_tl]
  by_cases h : 1 ≤ (tl z).length ∧ (tl z).length ≤ k
  · have p : decide ((tl z).length > 0) = true := decide_eq_true (by omega)
    rw [decide_eq_true h.1, decide_eq_true h.2, p]
    simp only [Bool.true_and]
    generalize tl z = l
    induction l with
    | nil => rfl
    | cons c r ih =>
      simp only [List.all_cons]
      by_cases a : c < 128
      · rw [asc_dig c a, decide_eq_true a]
        cases dg c
        · simp
        · simp only [Bool.true_and]
          exact ih
      · have n : dg c = false := by
          unfold dg
          rw [decide_eq_false (show ¬ c ≤ 57 by omega), Bool.and_false]
        rw [decide_eq_false a, n]
        rfl
  · have n : (decide (1 ≤ (tl z).length) && decide ((tl z).length ≤ k)) = false := by
      rw [Bool.and_eq_false_iff, decide_eq_false_iff_not, decide_eq_false_iff_not]
      omega
    rw [n]
    rfl
section
variable {P : Program} {w : World} {K : PySem.W.Frag} {mg : Str → Option Value} {base : Heap}
theorem scIF : FnScope ["text", "most"] ["text", "most"] (defScope sIsFig) := ⟨rfl, rfl, rfl, by decide +kernel, rfl, by decide +kernel, by decide +kernel⟩
def spIsFig : Sp := fun vs H Q _ => ∃ (z : Str) (k : Nat), vs = [.str z, .int (k : Int)] ∧ z.length ≤ 62000 ∧ Q (.bl (figs k (tl z))) H
theorem ok_isfig {f : Addr} {fd : FuncData} (F : Fun K "is_figures" "is_figures" sIsFig f fd) (T : Free mg) : FnOk P w K mg base CX0 1 f fd ["text", "most"] spIsFig := by
  refine F.ok scIF (fun vs H Q E h => ?_) (fun cdv A outer s H vs Q E hr h => ?_)
  · obtain ⟨z, k, rfl, _⟩ := h
    rfl
  · obtain ⟨z, k, rfl, zl, q⟩ := h
    refine ⟨_, pss_one (ps_ret (pe_and (pe_chain op_le op_le pe_int (pe_callB call_len_str (by rfl) T.len PySem.boot_len (pa_cons (pv 0) pa_nil)) (pv 1)) (pe_and (pe_m0 PySem.F.slot_str_isascii PySem.F.type_str_isascii mt_isascii (pv 0)) (pe_one (pe_m0 PySem.F.slot_str_isdigit PySem.F.type_str_isdigit mt_isdigit (pv 0)))))), ?_⟩
    have line : z.length ≤ sizeLine := Nat.le_trans zl (by decide)
    rw [← is_figs] at q
    refine ⟨_, rfl, _, rfl, line, _, _, rfl, rfl, _, rfl, ?_⟩
    by_cases c1 : (1 : Int) ≤ (z.length : Nat)
    · rw [decide_eq_true c1]
      refine iteT ?_
      refine ⟨_, rfl, _, _, rfl, rfl, _, rfl, ?_⟩
      rw [decide_eq_true (show 1 ≤ z.length by omega), Bool.true_and] at q
      by_cases c2 : ((z.length : Nat) : Int) ≤ (k : Int)
      · rw [decide_eq_true c2]
        refine iteT ?_
        rw [decide_eq_true (show z.length ≤ k by omega), Bool.true_and] at q
        refine ⟨_, rfl, ⟨_, rfl⟩, _, rfl, rfl, trivial, _, rfl, ?_⟩
        cases ea : Txt.isascii z with
        | true =>
          refine iteT ?_
          rw [ea, Bool.true_and] at q
          exact ⟨_, rfl, ⟨_, rfl⟩, _, rfl, rfl, trivial, q⟩
        | false =>
          refine iteF ?_
          rw [ea] at q
          exact q
      · rw [decide_eq_false c2]
        refine iteF ?_
        rw [decide_eq_false (show ¬ z.length ≤ k by omega)] at q
        exact q
    · rw [decide_eq_false c1]
      refine iteF ?_
      rw [decide_eq_false (show ¬ 1 ≤ z.length by omega)] at q
      exact ⟨_, rfl, q⟩
end
/-! slices, starts, pads as lists -/
theorem tl_cut_to (z : Str) (k : Nat) : tl (cutS z none (some (k : Int))) = (tl z).take k := by
  show ((tl z).drop (HT.sIx z.length 0 none)).take (HT.sIx z.length z.length (some (k : Int)) - HT.sIx z.length 0 none) = (tl z).take k
  rw [HT.sIx_none, HT.sIx_nat, List.drop_zero, Nat.sub_zero, len_tl]
  by_cases h : k ≤ (tl z).length
  · rw [Nat.min_eq_left h]
  · rw [Nat.min_eq_right (by omega), List.take_of_length_le (Nat.le_refl _), List.take_of_length_le (by omega)]
theorem tl_cut_from (z : Str) (k : Nat) : tl (cutS z (some (k : Int)) none) = (tl z).drop k := by
  show ((tl z).drop (HT.sIx z.length 0 (some (k : Int)))).take (HT.sIx z.length z.length none - HT.sIx z.length 0 (some (k : Int))) = (tl z).drop k
  rw [HT.sIx_none, HT.sIx_nat, len_tl]
  by_cases h : k ≤ (tl z).length
  · rw [Nat.min_eq_left h, List.take_of_length_le (by rw [List.length_drop]; omega)]
  · rw [Nat.min_eq_right (by omega), Nat.sub_self, List.take_zero, List.drop_of_length_le (by omega)]
theorem starts_minus (z : Str) : Txt.startswith z (Str.ofString "-") = decide ((tl z).take 1 = [45]) := by
  have hy : tl (Str.ofString "-") ≠ [] := by decide +kernel
  have key : Txt.startswith z (Str.ofString "-") = true ↔ pre (tl (Str.ofString "-")) ((tl z).drop 0) = true := by
    rw [← at_iff hy 0]
    unfold Txt.startswith
    rw [Bool.and_eq_true, decide_eq_true_eq]
    rfl
  have pe : (pre (tl (Str.ofString "-")) ((tl z).drop 0) = true) ↔ (tl z).take 1 = [45] := by
    have e : tl (Str.ofString "-") = [45] := by decide +kernel
    rw [e, List.drop_zero]
    unfold pre
    exact beq_iff_eq
  cases e : Txt.startswith z (Str.ofString "-") with
  | true => exact (decide_eq_true (pe.mp (key.mp e))).symm
  | false =>
    refine (decide_eq_false fun q => ?_).symm
    rw [key.mpr (pe.mpr q)] at e
    cases e
theorem tl_ljust (z : Str) (m : Nat) : tl (Txt.ljustF z (m : Int) 48) = tl z ++ zs (m - (tl z).length) := by
  unfold Txt.ljustF
  by_cases h : (m : Int) ≤ (z.length : Nat)
  · rw [if_pos h]
    rw [len_tl] at h
    rw [show m - (tl z).length = 0 by omega]
    exact (List.append_nil _).symm
  · rw [if_neg h, Int.toNat_natCast, len_tl]
    simp [Builtin.Str.padded, zs, tl]
theorem pad_ok (m : Nat) (h : m ≤ 1000) : PadOk (m : Int) = true := by
  have key : ∀ m : Nat, m ≤ 1000 → PadOk (m : Int) = true := by decide +kernel
  exact key m h
theorem part_plain {z : Str} (h : 46 ∉ tl z) : Txt.partition z (Str.ofString ".") = (z, Str.empty, Str.empty) := partition_none (s := 46) (S := []) (by decide +kernel) h
theorem part_dot {z : Str} {p q : List Nat} (e : tl z = p ++ 46 :: q) (h : 46 ∉ p) : Txt.partition z (Str.ofString ".") = (S p, Str.ofString ".", S q) := by
  have d : tl (Str.ofString ".") = [46] := by decide +kernel
  have e2 : z = S p ++ Str.ofString "." ++ S q := by
    apply ext_tl
    rw [tl_append, tl_append, d, e, tl_S, tl_S]
    simp
  rw [e2]
  exact partition_app (s := 46) (S := []) d h
theorem tl_empty : tl Str.empty = [] := by decide +kernel
theorem str_ne {x y : Str} (h : tl x ≠ tl y) : V.str x ≠ V.str y := fun q => h (by rw [V.str.inj q])
theorem intTextD {z : Str} (h : NumText.AllDigits (tl z)) (n : tl z ≠ []) (l : z.length ≤ 600) : intText? z = some ((val (tl z) : Nat) : Int) := intText_digits h n (Nat.le_trans l (by decide))
section
variable {P : Program} {w : World} {K : PySem.W.Frag} {mg : Str → Option Value} {base : Heap}
abbrev nRA : List Str := ["text", "most", "places", "unsigned", "whole", "point", "behind", "number"]
theorem scRA : FnScope nRA ["text", "most", "places"] (defScope sReadAm) := ⟨rfl, rfl, rfl, by decide +kernel, rfl, by decide +kernel, by decide +kernel⟩
def spReadAm : Sp := fun vs H Q _ => ∃ (z : Str) (m : Nat), vs = [.str z, .int (cap m : Nat), .int (m : Int)] ∧ z.length ≤ 60500 ∧ m ≤ 4 ∧ ∀ H', Same H H' → Q (ov (due m (tl z))) H'
theorem ok_readam {f fI : Addr} {fd fdI : FuncData} (F : Fun K "read_amount" "read_amount" sReadAm f fd) (T : Free mg) (FI : Fun K "is_figures" "is_figures" sIsFig fI fdI) (bI : Binds K fdI ["text", "most"] []) (gI : mg "is_figures" = some (.ref fI)) :
    FnOk P w K mg base CX0 2 f fd ["text", "most", "places"] spReadAm := by
  have GI : FnOk P w K mg base CX0 1 fI fdI ["text", "most"] spIsFig := ok_isfig FI T
  refine F.ok scRA (fun vs H Q E h => ?_) (fun cdv A outer s H vs Q E hr h => ?_)
  · obtain ⟨z, m, rfl, _⟩ := h
    rfl
  · obtain ⟨z, m, rfl, zl, ml, q⟩ := h
    have line : z.length ≤ sizeLine := Nat.le_trans zl (by decide)
    refine ⟨_,pss_cons (ps_set (i := 3) scRA.nd rfl (Or.inl rfl) (pe_ifExp (pt_cmpR op_in_seq (pe_slice sl_str (pv 0) po_none (po_some pe_int)) (pe_tup (pa_cons pe_str (pa_cons pe_str pa_nil))) (by rfl)) (pe_slice sl_str (pv 0) (po_some pe_int) po_none) (pv 0)))
      (pss_cons (ps_asg (pe_partition (pv 3) pe_str) (pg_tup rfl (pgs_cons (pg_name (i := 4) scRA.nd rfl (Or.inl rfl)) (pgs_cons (pg_name (i := 5) scRA.nd rfl (Or.inl rfl)) (pgs_cons (pg_name (i := 6) scRA.nd rfl (Or.inl rfl)) pgs_nil)))))
      (pss_cons (ps_if (pt_not (pt_val (pe_call GI hr (by rfl) gI FI.kp bI .nil pass0 (pa_cons (pv 4) (pa_cons (pv 1) pa_nil))))) (pss_one (ps_ret pe_non)) pss_nil)
      (pss_cons (ps_if (PW.pt (pw_and (pt_cmpR op_ne (pv 5) pe_str (nomark _)) (pw_and1 (pt_not (pt_val (pe_call GI hr (by rfl) gI FI.kp bI .nil pass0 (pa_cons (pv 6) (pa_cons (pv 2) pa_nil)))))))) (pss_one (ps_ret pe_non)) pss_nil)
      (pss_cons (ps_set (i := 7) scRA.nd rfl (Or.inl rfl) (pe_callTy call_int_str (by rfl) T.int (by decide +kernel) (pa_cons (pe_op op_add_str (pv 4) (pe_bm PySem.F.plainAttrs_str PySem.F.slot_str_ljust PySem.F.type_str_ljust mt_ljustF (pv 6) (pa_cons (pv 2) (pa_cons pe_str pa_nil)))) pa_nil)))
      (pss_one (ps_ret (pe_ifExp (pt_val (pe_m1 PySem.F.slot_str_startswith PySem.F.type_str_startswith mt_startswith (pv 0) pe_str)) (pe_un un_neg (pv 7)) (pv 7)))))))), ?_⟩
    refine cutA (fun v H' => v = .str (S (body (tl z))) ∧ Same H H') (fun Q' q' => ?_) ?_
    · refine ⟨_, rfl, _, rfl, z, rfl, line, (by show 2 ≤ sizeLine; decide), fun t ht => ⟨t, _, rfl, .inr (SqT.of upd_same), rfl, rfl, _, rfl, ?_⟩⟩
      have e1 : (if false = true then !inV (.str (cutS z none (some 1))) [V.str (Str.ofString "+"), V.str (Str.ofString "-")] else inV (.str (cutS z none (some 1))) [V.str (Str.ofString "+"), V.str (Str.ofString "-")]) = decide (List.take 1 (tl z) = [43] ∨ List.take 1 (tl z) = [45]) := by
        have c1 : tl (cutS z none (some 1)) = (tl z).take 1 := tl_cut_to z 1
        have b : ∀ y : Str, (y == cutS z none (some 1)) = decide ((tl z).take 1 = tl y) := by
          intro y
          rw [← c1]
          by_cases e : y = cutS z none (some 1)
          · rw [← e]
            simp
          · rw [decide_eq_false (fun q => e (ext_tl q.symm))]
            exact beq_eq_false_iff_ne.mpr e
        show (((Str.ofString "+") == cutS z none (some 1)) || (((Str.ofString "-") == cutS z none (some 1)) || false)) = _
        rw [b, b, show tl (Str.ofString "+") = [43] by decide +kernel, show tl (Str.ofString "-") = [45] by decide +kernel, Bool.or_false]
        simp
      rw [e1]
      refine ite2 (fun c => ?_) (fun c => ?_)
      · have c' := of_decide_eq_true c
        refine ⟨_, rfl, _, rfl, z, rfl, line, ?_⟩
        refine q' _ _ ⟨?_, Same.new ht⟩
        have e : body (tl z) = (tl z).drop 1 := if_pos c'
        rw [e, ← tl_cut_from z 1, S_tl]
        rfl
      · have c' : ¬ (List.take 1 (tl z) = [43] ∨ List.take 1 (tl z) = [45]) := fun x => c (decide_eq_true x)
        refine ⟨_, rfl, ?_⟩
        refine q' _ _ ⟨?_, Same.new ht⟩
        have e : body (tl z) = tl z := if_neg c'
        rw [e, S_tl]
    · rintro v H1 ⟨rfl, s1⟩
      have bl : (body (tl z)).length ≤ 60500 := by
        rw [len_tl] at zl
        unfold body
        split
        · rw [List.length_drop]; omega
        · exact zl
      have bline : (S (body (tl z))).length ≤ sizeLine := by rw [S_len]; exact Nat.le_trans bl (by decide)
      refine ⟨_, rfl, ⟨_, rfl⟩, _, _, rfl, rfl, rfl, bline, fun t ht => ?_⟩
      rcases two_ways (body (tl z)) with w | ⟨p, r, e, w⟩
      · rw [due_plain w] at q
        refine ⟨t, _, rfl, SqT.of upd_same, rfl, _, _, rfl, _, _, rfl, _, _, rfl, rfl, ?_⟩
        rw [part_plain (z := S (body (tl z))) w]
        have s2 : Same H (upd H1 t (.tup [.str (S (body (tl z))), .str Str.empty, .str Str.empty])) := s1.trans (Same.new ht)
        refine ⟨_, rfl, _, rfl, S (body (tl z)), cap m, rfl, by rw [S_len]; omega, _, rfl, ?_⟩
        show (if (!figs (cap m) (body (tl z))) = true then _ else _)
        cases hf : figs (cap m) (body (tl z)) with
        | false =>
          refine iteT ?_
          rw [hf] at q
          exact q _ s2
        | true =>
          refine iteF ?_
          rw [if_pos hf] at q
          have e0 : V.str Str.empty = V.str (Str.ofString "") := rfl
          refine ⟨_, rfl, rfl, _, rfl, ?_⟩
          rw [decide_eq_true e0]
          refine iteF ?_
          refine iteF ?_
          obtain ⟨⟨f1, f2⟩, f3⟩ := figs_iff.mp hf
          have cm9 : cap m ≤ 9 := by unfold cap; split <;> decide
          have jl : tl (Txt.ljustF Str.empty (m : Int) 48) = zs m := by
            rw [tl_ljust, tl_empty]
            rfl
          have nl : tl (S (body (tl z)) ++ Txt.ljustF Str.empty (m : Int) 48) = body (tl z) ++ zs m := by rw [tl_append, tl_S, jl]
          have ll : (Txt.ljustF Str.empty (m : Int) 48).length = m := by rw [len_tl, jl, zs_len]
          refine ⟨_, rfl, _, rfl, rfl, _, rfl, _, _, 48, rfl, rfl, pad_ok m (by omega), _, _, rfl, rfl, ?_, _, ((val (body (tl z) ++ zs m) : Nat) : Int), rfl, ?_, ?_, ?_⟩
          · rw [S_len, ll]
            exact Nat.le_trans (show _ ≤ 600 by omega) (by decide)
          · have g := intTextD (z := S (body (tl z)) ++ Txt.ljustF Str.empty (m : Int) 48) (by rw [nl]; exact digits_app f3 (zs_digits m)) (by rw [nl]; intro x; have y := congrArg List.length x; rw [List.length_append, List.length_nil] at y; omega) (by rw [len_tl, nl, List.length_append, zs_len]; omega)
            rw [nl] at g
            exact g
          · rw [len_tl, nl, List.length_append, zs_len]
            omega
          · refine ⟨_, rfl, ⟨_, rfl⟩, _, _, rfl, rfl, _, rfl, ?_⟩
            rw [starts_minus]
            have q2 := q _ s2
            unfold sgn at q2
            refine ite2 (fun c => ?_) (fun c => ?_)
            · rw [if_pos (of_decide_eq_true c)] at q2
              exact ⟨_, rfl, _, rfl, q2⟩
            · rw [if_neg (fun x => c (decide_eq_true x))] at q2
              exact ⟨_, rfl, q2⟩
      · rw [due_dot e w] at q
        have pl : p.length + r.length + 1 ≤ 60500 := by
          rw [e, List.length_append, List.length_cons] at bl
          omega
        refine ⟨t, _, rfl, SqT.of upd_same, rfl, _, _, rfl, _, _, rfl, _, _, rfl, rfl, ?_⟩
        rw [part_dot (z := S (body (tl z))) e w]
        have s2 : Same H (upd H1 t (.tup [.str (S p), .str (Str.ofString "."), .str (S r)])) := s1.trans (Same.new ht)
        refine ⟨_, rfl, _, rfl, S p, cap m, rfl, by rw [S_len]; omega, _, rfl, ?_⟩
        show (if (!figs (cap m) p) = true then _ else _)
        cases hf : figs (cap m) p with
        | false =>
          refine iteT ?_
          rw [if_neg (by rw [hf]; simp)] at q
          exact q _ s2
        | true =>
          refine iteF ?_
          have e0 : V.str (Str.ofString ".") ≠ V.str (Str.ofString "") := str_ne (by decide +kernel)
          refine ⟨_, rfl, rfl, _, rfl, ?_⟩
          rw [decide_eq_false e0]
          refine iteT ?_
          refine ⟨_, rfl, _, rfl, S r, m, rfl, by rw [S_len]; omega, _, rfl, ?_⟩
          show (if (!figs m r) = true then _ else _)
          cases hg : figs m r with
          | false =>
            refine iteT ?_
            rw [if_neg (by rw [hg]; simp)] at q
            exact q _ s2
          | true =>
            refine iteF ?_
            rw [if_pos ⟨hf, hg⟩] at q
            obtain ⟨⟨f1, f2⟩, f3⟩ := figs_iff.mp hf
            have cm9 : cap m ≤ 9 := by unfold cap; split <;> decide
            obtain ⟨⟨g1, g2⟩, g3⟩ := figs_iff.mp hg
            have jl : tl (Txt.ljustF (S r) (m : Int) 48) = r ++ zs (m - r.length) := tl_ljust (S r) m
            have nl : tl (S p ++ Txt.ljustF (S r) (m : Int) 48) = p ++ (r ++ zs (m - r.length)) := by rw [tl_append, tl_S, jl]
            have ll : (Txt.ljustF (S r) (m : Int) 48).length ≤ m := by rw [len_tl, jl, List.length_append, zs_len]; omega
            refine ⟨_, rfl, _, rfl, rfl, _, rfl, _, _, 48, rfl, rfl, pad_ok m (by omega), _, _, rfl, rfl, ?_, _, ((val (p ++ (r ++ zs (m - r.length))) : Nat) : Int), rfl, ?_, ?_, ?_⟩
            · show (S p).length + (Txt.ljustF (S r) (m : Int) 48).length ≤ sizeLine
              rw [S_len]
              exact Nat.le_trans (show _ ≤ 600 by omega) (by decide)
            · have g := intTextD (z := S p ++ Txt.ljustF (S r) (m : Int) 48) (by rw [nl]; exact digits_app f3 (digits_app g3 (zs_digits _))) (by rw [nl]; intro x; have y := congrArg List.length x; rw [List.length_append, List.length_nil] at y; omega) (by rw [len_tl, nl, List.length_append, List.length_append, zs_len]; omega)
              rw [nl] at g
              exact g
            · rw [len_tl, nl, List.length_append, List.length_append, zs_len]
              omega
            · refine ⟨_, rfl, ⟨_, rfl⟩, _, _, rfl, rfl, _, rfl, ?_⟩
              rw [starts_minus]
              have q2 := q _ s2
              unfold sgn at q2
              refine ite2 (fun c => ?_) (fun c => ?_)
              · rw [if_pos (of_decide_eq_true c)] at q2
                exact ⟨_, rfl, _, rfl, q2⟩
              · rw [if_neg (fun x => c (decide_eq_true x))] at q2
                exact ⟨_, rfl, q2⟩
end
end K21
set_option Elab.async false
set_option linter.all false
set_option maxRecDepth 100000
set_option maxHeartbeats 8000000
namespace K21
open PySem PySem.Spec PyProof.Rows L2 Bs Xg TL K02 Gn
abbrev sLeap : Stmt := top 3
abbrev sDin : Stmt := top 4
abbrev sAhead : Stmt := top 5
abbrev sNum : Stmt := top 6
/-! ### the calendar -/
def leapB (y : Nat) : Bool := decide (y % 4 = 0) && (!decide (y % 100 = 0) || decide (y % 400 = 0))
def monL : List Int := [31, 28, 31, 30, 31, 30, 31, 31, 30, 31, 30, 31]
def dinI (y m : Nat) : Int := monL.getD (m - 1) 0 + if m = 2 ∧ leapB y = true then 1 else 0
def aheadI (y : Nat) : Int := (((y - 1) * 365 + (y - 1) / 4 - (y - 1) / 100 + (y - 1) / 400 : Nat) : Int)
def sumI (y m : Nat) : Int := ((List.range (m - 1)).map fun j => dinI y (1 + j)).sum
def numI (y m d : Nat) : Option Int := if 1 ≤ y ∧ 1 ≤ m ∧ m ≤ 12 ∧ 1 ≤ d ∧ (d : Int) ≤ dinI y m then some (aheadI y + sumI y m + d - 1) else none
theorem mon_at : ∀ m : Nat, m < 13 → 1 ≤ m → atI (monL.map V.int) ((m : Int) - 1) = some (.int (monL.getD (m - 1) 0)) := by decide +kernel
section
variable {P : Program} {w : World} {K : PySem.W.Frag} {mg : Str → Option Value} {base : Heap}
theorem scLp : FnScope ["year"] ["year"] (defScope sLeap) := ⟨rfl, rfl, rfl, by decide +kernel, rfl, by decide +kernel, by decide +kernel⟩
def spLeap : Sp := fun vs H Q _ => ∃ y : Nat, vs = [.int (y : Int)] ∧ Q (.bl (leapB y)) H
theorem ok_leap {f : Addr} {fd : FuncData} (F : Fun K "is_leap" "is_leap" sLeap f fd) : FnOk P w K mg base CX0 1 f fd ["year"] spLeap := by
  refine F.ok scLp (fun vs H Q E h => ?_) (fun cdv A outer s H vs Q E hr h => ?_)
  · obtain ⟨y, rfl, _⟩ := h
    rfl
  · obtain ⟨y, rfl, q⟩ := h
    refine ⟨_, pss_one (ps_ret (pe_and (pe_cmpR op_eq (pe_op op_mod (pv 0) pe_int) pe_int (nomark _)) (pe_one (pe_or (pe_cmpR op_ne (pe_op op_mod (pv 0) pe_int) pe_int (nomark _)) (pe_one (pe_cmpR op_eq (pe_op op_mod (pv 0) pe_int) pe_int (nomark _))))))), ?_⟩
    have e4 : decide (V.int ((y : Int) % 4) = V.int 0) = decide (y % 4 = 0) := decide_eq_decide.mpr ⟨fun h => by have := V.int.inj h; omega, fun h => congrArg V.int (by omega)⟩
    have e100 : decide (V.int ((y : Int) % 100) = V.int 0) = decide (y % 100 = 0) := decide_eq_decide.mpr ⟨fun h => by have := V.int.inj h; omega, fun h => congrArg V.int (by omega)⟩
    have e400 : decide (V.int ((y : Int) % 400) = V.int 0) = decide (y % 400 = 0) := decide_eq_decide.mpr ⟨fun h => by have := V.int.inj h; omega, fun h => congrArg V.int (by omega)⟩
    unfold leapB at q
    refine ⟨_, rfl, _, _, rfl, rfl, (by decide : (0 : Int) < 4), rfl, _, rfl, ?_⟩
    rw [e4]
    cases c1 : decide (y % 4 = 0) with
    | false => rw [c1] at q; exact iteF q
    | true =>
      rw [c1, Bool.true_and] at q
      refine iteT ⟨_, rfl, _, _, rfl, rfl, (by decide : (0 : Int) < 100), rfl, _, rfl, ?_⟩
      rw [e100]
      cases c2 : decide (y % 100 = 0) with
      | false => rw [c2] at q; exact iteT q
      | true =>
        rw [c2] at q
        refine iteF ⟨_, rfl, _, _, rfl, rfl, (by decide : (0 : Int) < 400), rfl, ?_⟩
        rw [e400]
        exact q
theorem scDi : FnScope ["year", "month"] ["year", "month"] (defScope sDin) := ⟨rfl, rfl, rfl, by decide +kernel, rfl, by decide +kernel, by decide +kernel⟩
def spDin : Sp := fun vs H Q _ => ∃ y m : Nat, vs = [.int (y : Int), .int (m : Int)] ∧ 1 ≤ m ∧ m ≤ 12 ∧ Q (.int (dinI y m)) H
/-- the calendar's constants and defs -/
structure Cal (K : PySem.W.Frag) (mg : Str → Option Value) (cM fLp fDi fAh fNu : Addr) (dLp dDi dAh dNu : FuncData) : Prop where
  gM : mg "MONTHS" = some (.ref cM)
  sM : ∀ H, SqT K H cM (monL.map V.int)
  gF : ∃ t, mg "FEBRUARY" = some (.int 2 t)
  Lp : Fun K "is_leap" "is_leap" sLeap fLp dLp
  bLp : Binds K dLp ["year"] []
  gLp : mg "is_leap" = some (.ref fLp)
  Di : Fun K "days_in" "days_in" sDin fDi dDi
  bDi : Binds K dDi ["year", "month"] []
  gDi : mg "days_in" = some (.ref fDi)
  Ah : Fun K "days_ahead" "days_ahead" sAhead fAh dAh
  bAh : Binds K dAh ["year"] []
  gAh : mg "days_ahead" = some (.ref fAh)
  Nu : Fun K "number_of" "number_of" sNum fNu dNu
  bNu : Binds K dNu ["year", "month", "day"] []
  gNu : mg "number_of" = some (.ref fNu)
variable {cM fLp fDi fAh fNu : Addr} {dLp dDi dAh dNu : FuncData}
theorem ok_din (C : Cal K mg cM fLp fDi fAh fNu dLp dDi dAh dNu) : FnOk P w K mg base CX0 2 fDi dDi ["year", "month"] spDin := by
  have GLp : FnOk P w K mg base CX0 1 fLp dLp ["year"] spLeap := ok_leap C.Lp
  have FLp := C.Lp
  have bLp := C.bLp
  have gLp := C.gLp
  have gM := C.gM
  obtain ⟨tF, gF⟩ := C.gF
  refine C.Di.ok scDi (fun vs H Q E h => ?_) (fun cdv A outer s H vs Q E hr h => ?_)
  · obtain ⟨y, m, rfl, _⟩ := h
    rfl
  · obtain ⟨y, m, rfl, m1, m12, q⟩ := h
    refine ⟨_, pss_cons (ps_if (PW.pt (pw_and (pt_cmpR op_eq (pv 1) (pe_glob (v := V.int 2) rfl gF ⟨_, rfl⟩) (nomark _)) (pw_and1 (pt_val (pe_call GLp (hr.mono (by decide)) (by rfl) gLp FLp.kp bLp .nil pass0 (pa_cons (pv 0) pa_nil)))))) (pss_one (ps_ret (pe_op op_add (pe_ix ix_tup (pe_glob (v := V.ref cM) rfl gM rfl) (pe_op op_sub (pv 1) pe_int) (fun _ _ => rfl)) pe_int))) (pss_nil))
      (pss_one (ps_ret (pe_ix ix_tup (pe_glob (v := V.ref cM) rfl gM rfl) (pe_op op_sub (pv 1) pe_int) (fun _ _ => rfl)))), ?_⟩
    have e2 : decide (V.int (m : Int) = V.int 2) = decide (m = 2) := decide_eq_decide.mpr ⟨fun h => by have := V.int.inj h; omega, fun h => by rw [h]; rfl⟩
    have am := mon_at m (by omega) m1
    refine ⟨_, rfl, rfl, _, rfl, ?_⟩
    rw [e2]
    unfold dinI at q
    by_cases c2 : m = 2
    · rw [decide_eq_true c2]
      refine iteT ⟨_, rfl, y, rfl, _, rfl, ?_⟩
      cases cl : leapB y with
      | true =>
        rw [if_pos ⟨c2, cl⟩] at q
        exact iteT ⟨_, rfl, _, _, rfl, rfl, cM, _, _, _, rfl, rfl, C.sM H, am, _, _, rfl, rfl, q⟩
      | false =>
        rw [if_neg (fun h => by rw [cl] at h; exact nomatch h.2), Int.add_zero] at q
        exact iteF ⟨_, rfl, _, _, rfl, rfl, cM, _, _, _, rfl, rfl, C.sM H, am, q⟩
    · rw [decide_eq_false c2]
      rw [if_neg (fun h => c2 h.1), Int.add_zero] at q
      exact iteF ⟨_, rfl, _, _, rfl, rfl, cM, _, _, _, rfl, rfl, C.sM H, am, q⟩
theorem scAh : FnScope ["year", "past"] ["year"] (defScope sAhead) := ⟨rfl, rfl, rfl, by decide +kernel, rfl, by decide +kernel, by decide +kernel⟩
def spAhead : Sp := fun vs H Q _ => ∃ y : Nat, vs = [.int (y : Int)] ∧ 1 ≤ y ∧ y ≤ 100000 ∧ Q (.int (aheadI y)) H
theorem ok_ahead {f : Addr} {fd : FuncData} (F : Fun K "days_ahead" "days_ahead" sAhead f fd) : FnOk P w K mg base CX0 1 f fd ["year"] spAhead := by
  refine F.ok scAh (fun vs H Q E h => ?_) (fun cdv A outer s H vs Q E hr h => ?_)
  · obtain ⟨y, rfl, _⟩ := h
    rfl
  · obtain ⟨y, rfl, y1, y2, q⟩ := h
    refine ⟨_, pss_cons (ps_set (i := 1) scAh.nd rfl (Or.inl rfl) (pe_op op_sub (pv 0) pe_int))
      (pss_one (ps_ret (pe_op op_add (pe_op op_sub (pe_op op_add (pe_op op_mul (pv 1) pe_int) (pe_op op_fdiv (pv 1) pe_int)) (pe_op op_fdiv (pv 1) pe_int)) (pe_op op_fdiv (pv 1) pe_int)))), ?_⟩
    refine ⟨_, rfl, _, _, rfl, rfl, gN ?_⟩
    try dsimp only
    refine ⟨_, rfl, _, _, rfl, rfl, .inl ⟨by omega, by omega⟩, _, rfl, _, _, rfl, rfl, ⟨by decide, by decide⟩, _, _, rfl, rfl, _, rfl, _, _, rfl, rfl, ⟨by decide, by decide⟩, _, _, rfl, rfl, _, rfl, _, _, rfl, rfl, ⟨by decide, by decide⟩, _, _, rfl, rfl, ?_⟩
    have e : ((y : Int) - 1) * 365 + ((y : Int) - 1) / 4 - ((y : Int) - 1) / 100 + ((y : Int) - 1) / 400 = aheadI y := by
      unfold aheadI
      omega
    rw [← e] at q
    exact q
abbrev nNu : List Str := ["year", "month", "day", "months", "k"]
theorem scNu : FnScope nNu ["year", "month", "day"] (defScope sNum) := ⟨rfl, rfl, rfl, by decide +kernel, rfl, by decide +kernel, by decide +kernel⟩
def spNum : Sp := fun vs H Q _ => ∃ y m d : Nat, vs = [.int (y : Int), .int (m : Int), .int (d : Int)] ∧ y ≤ 9999 ∧ m ≤ 99 ∧ d ≤ 99 ∧ ∀ H', Same H H' → Q (ov (numI y m d)) H'
theorem ok_num (C : Cal K mg cM fLp fDi fAh fNu dLp dDi dAh dNu) (T : Free mg) : FnOk P w K mg base CX0 3 fNu dNu ["year", "month", "day"] spNum := by
  have GDi : FnOk P w K mg base CX0 2 fDi dDi ["year", "month"] spDin := ok_din C
  have GAh : FnOk P w K mg base CX0 1 fAh dAh ["year"] spAhead := ok_ahead C.Ah
  have FDi := C.Di
  have bDi := C.bDi
  have gDi := C.gDi
  have FAh := C.Ah
  have bAh := C.bAh
  have gAh := C.gAh
  have gM := C.gM
  refine C.Nu.ok scNu (fun vs H Q E h => ?_) (fun cdv A outer s H vs Q E hr h => ?_)
  · obtain ⟨y, m, d, rfl, _⟩ := h
    rfl
  · obtain ⟨y, m, d, rfl, yl, ml, dl, q⟩ := h
    refine ⟨_, pss_cons (ps_if (PW.pt (pw_or (pt_cmpR op_lt (pv 0) pe_int (nomark _)) (pw_or1 (pt_not (pt_chain op_le op_le pe_int (pv 1) (pe_callB call_len_seq (by rfl) T.len PySem.boot_len (pa_cons (pe_glob (v := V.ref cM) rfl gM rfl) pa_nil))))))) (pss_one (ps_ret pe_non)) (pss_nil))
      (pss_cons (ps_if (pt_not (pt_chain op_le op_le pe_int (pv 2) (pe_call GDi (hr.mono (by decide)) (by rfl) gDi FDi.kp bDi .nil pass0 (pa_cons (pv 0) (pa_cons (pv 1) pa_nil))))) (pss_one (ps_ret pe_non)) (pss_nil))
      (pss_cons (ps_setLc (i := 3) (own := [("k", 4)]) (g := gName 4) (tt := tYes) rfl scNu.nd rfl rfl (sw_true rfl rfl rfl rfl) (pi_range2 (by rfl) T.range (pa_cons pe_int (pa_cons (pv 1) pa_nil))) (blkOk_by (N := nNu) (sc := defScope sNum) (by decide +kernel)) (fun _ _ _ _ _ => pg_name (i := 4) scNu.nd rfl (Or.inl rfl)) (fun _ _ _ _ _ => pts_nil) (fun _ _ _ _ _ => (pe_call GDi (hr.mono (by decide)) (by rfl) gDi FDi.kp bDi .nil pass0 (pa_cons (pv 0) (pa_cons (pv 4) pa_nil)))))
      (pss_one (ps_ret (pe_op op_sub (pe_op op_add (pe_op op_add (pe_call GAh (hr.mono (by decide)) (by rfl) gAh FAh.kp bAh .nil pass0 (pa_cons (pv 0) pa_nil)) (pe_callB (cr_sum rfl) (by rfl) T.sum (by decide +kernel) (pa_cons (pv 3) pa_nil))) (pv 2)) pe_int))))), ?_⟩
    have qn : ¬ (1 ≤ y ∧ 1 ≤ m ∧ m ≤ 12 ∧ 1 ≤ d ∧ (d : Int) ≤ dinI y m) → ∀ H', Same H H' → Q .non H' := fun n H' s => by
      have z := q H' s
      unfold numI at z
      rw [if_neg n] at z
      exact z
    refine ⟨_, rfl, _, _, rfl, rfl, _, rfl, ?_⟩
    by_cases y1 : 1 ≤ y
    · rw [decide_eq_false (show ¬ (y : Int) < 1 by omega)]
      refine iteF ⟨_, rfl, _, _, rfl, rfl, _, rfl, ?_⟩
      by_cases m1 : 1 ≤ m
      · rw [decide_eq_true (show (1 : Int) ≤ (m : Int) by omega)]
        refine iteT ⟨cM, _, rfl, .inr (C.sM H), _, _, rfl, rfl, ?_⟩
        refine ⟨_, rfl, ?_⟩
        have l12 : (((monL.map V.int).length : Nat) : Int) = 12 := by decide
        rw [l12]
        by_cases m12 : m ≤ 12
        · rw [decide_eq_true (show (m : Int) ≤ 12 by omega)]
          refine iteF ?_
          refine ⟨_, rfl, _, _, rfl, rfl, _, rfl, ?_⟩
          by_cases d1 : 1 ≤ d
          · rw [decide_eq_true (show (1 : Int) ≤ (d : Int) by omega)]
            refine iteT ⟨_, rfl, _, rfl, y, m, rfl, m1, m12, _, _, rfl, rfl, ?_⟩
            refine ⟨_, rfl, ?_⟩
            by_cases dd : (d : Int) ≤ dinI y m
            · rw [decide_eq_true dd]
              refine iteF ?_
              unfold tNext
              dsimp only
              refine ⟨_, rfl, 1, (m : Int), rfl, ⟨by decide, by decide, by omega, by omega⟩, fun D nD => ?_⟩
              refine lc_val (walk_range (lo := 1) (n := ((m : Int) - 1).toNat)) (Z := fun j x => x = .int (1 + (j : Nat))) (fun j => .int (dinI y (1 + j))) nD (fun _ _ _ _ e => e) (fun _ _ => trivial) (by omega) (fun _ => rfl) ?_ ?_
              · rintro j x G Q' hj rfl sG kG
                exact ⟨_, rfl, _, rfl, y, 1 + j, by rw [Int.natCast_add]; rfl, by omega, by omega, kG G (Same.refl _)⟩
              · intro G sG eG
                refine gN ?_
                try dsimp only
                have em : ((m : Int) - 1).toNat = m - 1 := by omega
                rw [em] at eG
                refine ⟨_, rfl, y, rfl, y1, by omega, _, rfl, D, (List.range (m - 1)).map fun j => dinI y (1 + j), rfl, SqL.of ?_, _, _, rfl, rfl, _, rfl, _, _, rfl, rfl, _, _, rfl, rfl, ?_⟩
                · rw [eG, List.map_map]
                  rfl
                · have z := q G sG
                  unfold numI at z
                  rw [if_pos ⟨y1, m1, m12, d1, dd⟩] at z
                  exact z
            · rw [decide_eq_false dd]
              exact iteT (qn (fun h => dd h.2.2.2.2) H (Same.refl _))
          · rw [decide_eq_false (show ¬ (1 : Int) ≤ (d : Int) by omega)]
            exact iteF ⟨_, rfl, iteT (qn (fun h => d1 h.2.2.2.1) H (Same.refl _))⟩
        · rw [decide_eq_false (show ¬ (m : Int) ≤ 12 by omega)]
          exact iteT (qn (fun h => m12 h.2.2.1) H (Same.refl _))
      · rw [decide_eq_false (show ¬ (1 : Int) ≤ (m : Int) by omega)]
        exact iteF ⟨_, rfl, iteT (qn (fun h => m1 h.2.1) H (Same.refl _))⟩
    · rw [decide_eq_true (show (y : Int) < 1 by omega)]
      exact iteT (qn (fun h => y1 h.1) H (Same.refl _))
end
end K21
set_option Elab.async false
set_option linter.all false
set_option maxRecDepth 100000
set_option maxHeartbeats 4000000
/-! Xl: for a, b in zip(t, l): a tuple and a list. -/
namespace Xl
open PySem PySem.Spec PyProof.Rows L2 Xz
/-- the tuple at a and the list at b as they stand at each turn -/
def ItTL (K : PySem.W.Frag) (a b : Addr) : It :=
  ⟨fun i H => ∃ (xs ys : List V) (x y : V), SqT K H a xs ∧ SqL K H b ys ∧ xs[i]? = some x ∧ ys[i]? = some y,
    fun i H v H' => ∃ T x y, v = .ref T ∧ H T = none ∧ H' = upd H T (.tup [x, y]) ∧ (∀ xs, SqT K H a xs → xs[i]? = some x) ∧ ∀ ys, SqL K H b ys → ys[i]? = some y,
    fun i H => ∃ xs ys : List V, SqT K H a xs ∧ SqL K H b ys ∧ ((i = xs.length ∧ i ≤ ys.length) ∨ (i ≤ xs.length ∧ i = ys.length))⟩
theorem offT {h : Heap} {a ia : Addr} {i : Nat} {items : Array Value} (p : h.IsTupleIter ia a i) (q : h.IsTuple a items) : a ≠ ia := by
  rintro rfl
  obtain ⟨o1, g1, c1, _⟩ := p
  obtain ⟨o2, g2, c2, _⟩ := q
  rw [g1] at g2
  cases g2
  rw [c1] at c2
  simp at c2
theorem offL {h : Heap} {a ia : Addr} {i : Nat} {items : Array Value} (p : h.IsListIter ia a i) (q : h.IsList a items) : a ≠ ia := by
  rintro rfl
  obtain ⟨o1, g1, c1, _⟩ := p
  obtain ⟨o2, g2, c2, _⟩ := q
  rw [g1] at g2
  cases g2
  rw [c1] at c2
  simp at c2
theorem turnTL {P : Program} {w : World} {K : PySem.W.Frag} {elts : List Expr} {kk : Nat} {tpos : Pos} {a b zz ti to ia ib : Addr} (S : ZipSep2 zz ti to ia ib [ia, a] [ib, b]) :
    Turn P w K (.Tuple elts kk tpos) (ItTL K a b) [zz, ti, to, ia, ib] zz (fun i h => IsZip h zz ti to .none ∧ IsTupOf2 h ti (.ref ia) (.ref ib) ∧ (∃ x y, IsTupOf2 h to x y) ∧ h.IsTupleIter ia a i ∧ h.IsListIter ib b i) where
  mem := by simp
  obj := fun i h st c hc => by
    obtain ⟨q1, q2, ⟨x, y, q3⟩, ⟨o1, e1, _, d1⟩, ⟨o2, e2, _, d2⟩⟩ := st
    have e : c = zz ∨ c = ti ∨ c = to ∨ c = ia ∨ c = ib := by simpa using hc
    rcases e with rfl | rfl | rfl | rfl | rfl
    · exact ⟨_, q1, fun v q => nomatch q⟩
    · exact ⟨_, q2, fun v q => nomatch q⟩
    · exact ⟨_, q3, fun v q => nomatch q⟩
    · exact ⟨o1, e1, fun v q => by rw [d1] at q; cases q⟩
    · exact ⟨o2, e2, fun v q => by rw [d2] at q; cases q⟩
  keep := fun i h h' st kp => by
    obtain ⟨q1, q2, ⟨x, y, q3⟩, q4, q5⟩ := st
    exact ⟨kp zz (by simp) _ q1, kp ti (by simp) _ q2, ⟨x, y, kp to (by simp) _ q3⟩, q4.at fun o q => kp ia (by simp) o q, q5.at fun o q => kp ib (by simp) o q⟩
  item := by
    intro X hP hw hK hc i pins s σ H E I hf st hg
    subst hP hw hK
    obtain ⟨q1, q2, ⟨x0, y0, q3⟩, q4, q5⟩ := st
    obtain ⟨xs, ys, x, y, hqx, hqy, hx, hy⟩ := hg
    obtain ⟨its, rv, p, _⟩ := I.tuple hqx
    obtain ⟨its2, rv2, p2, _⟩ := I.list hqy
    obtain ⟨u, hu, ru⟩ := rv.get hx
    obtain ⟨u2, hu2, ru2⟩ := rv2.get hy
    have zl : zz < s.heap.objs.size := Heap.lt_size q1
    have calm : X.A.in1.handled = none := by simpa using I.ok.hd hc
    have D1 := Draws.tuple (prog := X.prog) (w := X.w) calm ia a (offT q4 p) its.toArray
    have D2 := Draws.list (prog := X.prog) (w := X.w) calm ib b (offL q5 p2.isList) its2.toArray
    have lx : i < its.toArray.size := by
      have := (List.getElem?_eq_some_iff.mp hu).1
      simpa using this
    have ly : i < its2.toArray.size := by
      have := (List.getElem?_eq_some_iff.mp hu2).1
      simpa using this
    refine wpAny_pyNext_zipD2_item S D1 D2 q1 q2 q3 ⟨q4, p⟩ ⟨q5, p2.isList⟩ lx ly fun x1 x2 h' tk y1 y2 z1 z2 z3 z4 z5 z6 kp => ?_
    rw [List.getElem?_toArray, hu] at y1
    rw [List.getElem?_toArray, hu2] at y2
    cases y1
    cases y2
    refine ⟨_, rfl, wpAny_letOwnedTupleGo_zip (s := { s with heap := h', toks := tk }) z1 fun h'' z'' sb => ?_⟩
    have hT2 : h''.get? s.heap.objs.size = some { cls := .type "tuple", data := .seq #[u, u2] } := (sb.2 _ (Nat.ne_of_gt zl)).trans z5
    have new : ObjOk X.prog X.w (upd H s.heap.objs.size (.tup [x, y])) h'' s.heap.objs.size (.tup [x, y]) :=
      ⟨by show 2 ≤ sizeLine; decide, [u, u2], .cons ru (.cons ru2 .nil), ⟨_, hT2, rfl, _, rfl⟩⟩
    have I1 : Inv X pins σ (upd H s.heap.objs.size (.tup [x, y])) { s with heap := h'', toks := tk } :=
      I.turnedNew (t' := tk) (ch := [zz, ti, to, ia, ib]) (fun c o hb q => (sb.2 c (fun q' => hb (by simp [q']))).trans (kp c o (fun q' => hb (by simp [q'])) (fun q' => hb (by simp [q'])) (fun q' => hb (by simp [q'])) (fun q' => hb (by simp [q'])) q)) hf (Nat.le_refl _) new
    refine ⟨.ref s.heap.objs.size, _, I1, rfl, ⟨_, x, y, rfl, I.hok.fresh (Nat.le_refl _), rfl, fun l hl => by rw [I.tuple_inj hl hqx]; exact hx, fun l hl => by rw [I.list_inj hl hqy]; exact hy⟩, ⟨z'', ?_, ⟨u, u2, ?_⟩, ?_, ?_⟩, fun c hcm => ?_⟩
    · exact (sb.2 _ S.TIz).trans (kp _ _ S.TIz S.TITO S.TIi1 S.TIi2 q2)
    · exact (sb.2 _ S.TOz).trans z2
    · exact z3.1.at fun o q => (sb.2 _ (Ne.symm S.zi1)).trans q
    · exact z4.1.at fun o q => (sb.2 _ (Ne.symm S.zi2)).trans q
    · have hlt : c < s.heap.objs.size := by
        have e : c = zz ∨ c = ti ∨ c = to ∨ c = ia ∨ c = ib := by simpa using hcm
        rcases e with rfl | rfl | rfl | rfl | rfl
        · exact zl
        · exact Heap.lt_size q2
        · exact Heap.lt_size q3
        · obtain ⟨_, e1, _⟩ := q4; exact Heap.lt_size e1
        · obtain ⟨_, e2, _⟩ := q5; exact Heap.lt_size e2
      rw [upd_ne (Nat.ne_of_lt hlt)]
      exact (hf c hcm).1
  done := by
    intro X hP hw hK hc i pins s σ H E I hf st hg
    subst hP hw hK
    obtain ⟨q1, q2, ⟨x0, y0, q3⟩, q4, q5⟩ := st
    obtain ⟨xs, ys, hqx, hqy, hend⟩ := hg
    obtain ⟨its, rv, p, _⟩ := I.tuple hqx
    obtain ⟨its2, rv2, p2, _⟩ := I.list hqy
    have l1 := rv.length
    have l2 := rv2.length
    have calm : X.A.in1.handled = none := by simpa using I.ok.hd hc
    have D1 := Draws.tuple (prog := X.prog) (w := X.w) calm ia a (offT q4 p) its.toArray
    have D2 := Draws.list (prog := X.prog) (w := X.w) calm ib b (offL q5 p2.isList) its2.toArray
    exact wpAny_pyNext_zipD2_end S D1 D2 q1 q2 q3 ⟨q4, p⟩ ⟨q5, p2.isList⟩ (by simp; omega) (by simp; omega) (by simp; omega) fun h' tk kp => ⟨rfl, I.turnedL (t' := tk) (ch := [zz, ti, to, ia, ib]) (fun c o hb q =>
      kp c o (fun q' => hb (by simp [q'])) (fun q' => hb (by simp [q'])) (fun q' => hb (by simp [q'])) (fun q' => hb (by simp [q'])) q) hf⟩
  self := fun A i s Q E st h => wpAny_pyIter_zip st.1 h
def iZipTL (K : PySem.W.Frag) (ta : TA) : TI := fun σ H R => ta σ H fun vs H1 => ∃ a b xs ys, vs = [.ref a, .ref b] ∧ SqT K H1 a xs ∧ SqL K H1 b ys ∧ R (ItTL K a b) H1
theorem pi_zipTL {X : Cx} {e e2 : Expr} {ta : TA} {p pos tpos : Pos} {elts : List Expr} {kk : Nat} (hg : Gl X "zip") (hm : X.mg "zip" = none) (ha : PA X [e, e2] ta)
    (hs : starEach [e, e2] X.env = (false, eval e X.env) :: starEach [e2] X.env := by rfl) (hpl : (backTo pos (starEach [e2] X.env)).any (·.1) = false := by rfl) :
    PI X (.Tuple elts kk tpos) (.Call (.Name "zip" p) [e, e2] [] pos) (iZipTL X.K ta) := by
  refine ⟨fun pins s σ H R I h => ?_⟩
  refine Call_ (ld_blt I hg hm PyProof.Rows.boot_zip (PyProof.Rows.callWith_type1 (thn (ha.run pos pins s σ H _ I h) fun us s1 ⟨vs, H1, I1, r1, q1⟩ => ?_) hs hpl))
  obtain ⟨a, b, xs, ys, ex, hqx, hqy, q⟩ := q1
  subst ex
  obtain ⟨u1, u2, eu, r, r'⟩ := vals2 r1
  subst eu
  cases r
  cases r'
  obtain ⟨its, rv, p1, _⟩ := I1.tuple hqx
  obtain ⟨its2, rv2, p2, _⟩ := I1.list hqy
  have la : a < s1.heap.objs.size := let ⟨_, e, _⟩ := p1; Heap.lt_size e
  have lb : b < s1.heap.objs.size := p2.lt
  have oa : ∀ k, s1.heap.objs.size + k ≠ a := fun k e => absurd la (by rw [← e]; exact Nat.not_lt.mpr (Nat.le_add_right _ _))
  have ob : ∀ k, s1.heap.objs.size + k ≠ b := fun k e => absurd lb (by rw [← e]; exact Nat.not_lt.mpr (Nat.le_add_right _ _))
  have ap : ZipSep2 (s1.heap.objs.size + 4) (s1.heap.objs.size + 2) (s1.heap.objs.size + 3) s1.heap.objs.size (s1.heap.objs.size + 1) [s1.heap.objs.size, a] [s1.heap.objs.size + 1, b] := by
    constructor
    · exact Nat.ne_of_lt (by omega)
    · exact Nat.ne_of_lt (by omega)
    · exact Nat.ne_of_lt (by omega)
    · exact Nat.ne_of_gt (by omega)
    · exact List.mem_cons_self
    · simpa using oa 4
    · simpa using oa 3
    · exact Nat.ne_of_gt (by omega)
    · exact List.mem_cons_self
    · simpa using ob 4
    · simpa using ob 3
    · simpa using ob 0
    · simpa using oa 1
  refine zip_begins2 (begins_tuple a its.toArray) (begins_list b its2.toArray) p1 p2.isList fun h' hz hti hto e1 e2 sz kp => wpAny_pyIter_zip hz ?_
  have I2 : Inv X pins σ H1 { s1 with heap := h' } := I1.kept (t' := s1.toks) kp
  refine ⟨s1.heap.objs.size + 4, [s1.heap.objs.size + 4, s1.heap.objs.size + 2, s1.heap.objs.size + 3, s1.heap.objs.size, s1.heap.objs.size + 1], _, _, H1, rfl, I2, turnTL ap, ⟨hz, hti, ⟨_, _, hto⟩, ⟨_, e1, rfl, rfl⟩, ⟨_, e2, rfl, rfl⟩⟩, fun c hcm => ?_, q⟩
  have e : c = s1.heap.objs.size + 4 ∨ c = s1.heap.objs.size + 2 ∨ c = s1.heap.objs.size + 3 ∨ c = s1.heap.objs.size ∨ c = s1.heap.objs.size + 1 := by simpa using hcm
  have le : s1.heap.objs.size ≤ c := by
    rcases e with rfl | rfl | rfl | rfl | rfl
    · exact Nat.le_add_right _ _
    · exact Nat.le_add_right _ _
    · exact Nat.le_add_right _ _
    · exact Nat.le_refl _
    · exact Nat.le_add_right _ _
  exact I1.fpOk le (I1.hok.fresh le)
end Xl
set_option Elab.async false
set_option linter.all false
set_option maxRecDepth 100000
set_option maxHeartbeats 4000000
/-! k21: days, forms -/
namespace K21
open PySem PySem.Spec PyProof.Rows L2 Bs Xg TL Xk K02 Gn
theorem u1 {n : Nat} (h : n + 64 < cLine) : n + 1 < cLine := by omega
abbrev sRs : Stmt := top 13
abbrev sRD : Stmt := top 16
abbrev sDo : Stmt := top 17
def dayP (Y M D : List Nat) : Option Int := if Y.length = 4 ∧ figs 4 Y = true ∧ figs 2 M = true ∧ figs 2 D = true then numI (val Y) (val M) (val D) else none
/-- year, month, day of three parts as a text tells their order -/
def ord3 (o : Str) (p : List Str) : Str × Str × Str :=
  if o = Str.ofString "ymd" then (p.getD 0 Str.empty, p.getD 1 Str.empty, p.getD 2 Str.empty)
  else if o = Str.ofString "dmy" then (p.getD 2 Str.empty, p.getD 1 Str.empty, p.getD 0 Str.empty)
  else (p.getD 2 Str.empty, p.getD 0 Str.empty, p.getD 1 Str.empty)
def dayQ (o : Str) (p : List Str) : Option Int := dayP (tl (ord3 o p).1) (tl (ord3 o p).2.1) (tl (ord3 o p).2.2)
def dayS (o z : Str) : List Str → Option Int
  | [] => none
  | s :: r => if (Txt.split z s).length = 3 then dayQ o (Txt.split z s) else dayS o z r
def btw : List Str := [Str.ofString "-", Str.ofString ".", Str.ofString "/"]
def IsOrd (o : Str) : Prop := o = Str.ofString "ymd" ∨ o = Str.ofString "dmy" ∨ o = Str.ofString "mdy"
section
variable {P : Program} {w : World} {K : PySem.W.Frag} {mg : Str → Option Value} {base : Heap}
variable {cM fLp fDi fAh fNu : Addr} {dLp dDi dAh dNu : FuncData}
theorem scDo : FnScope ["parts", "year", "month", "day"] ["parts"] (defScope sDo) := ⟨rfl, rfl, rfl, by decide +kernel, rfl, by decide +kernel, by decide +kernel⟩
def spDo : Sp := fun vs H Q _ => ∃ (p : Addr) (kvs : List (Key × V)) (Y M D : Str), vs = [.ref p] ∧ H p = some (.dK kvs) ∧ valV kvs (Sum.inr (Str.ofString "y")) = some (.str Y) ∧ valV kvs (Sum.inr (Str.ofString "m")) = some (.str M) ∧ valV kvs (Sum.inr (Str.ofString "d")) = some (.str D) ∧
  Y.length ≤ 60500 ∧ M.length ≤ 60500 ∧ D.length ≤ 60500 ∧ ∀ H', Same H H' → Q (ov (dayP (tl Y) (tl M) (tl D))) H'
structure Frm (K : PySem.W.Frag) (mg : Str → Option Value) (cB fIF fRA fRD fDo fRs : Addr) (dIF dRA dRD dDo dRs : FuncData) : Prop where
  gB : mg "BETWEEN" = some (.ref cB)
  sB : ∀ H, SqT K H cB (btw.map V.str)
  g9 : ∃ t, mg "WHOLE_FIGURES" = some (.int 9 t)
  g8 : ∃ t, mg "AMOUNT_FIGURES" = some (.int 8 t)
  gY : ∃ t, mg "YEAR_FIGURES" = some (.int 4 t)
  gD : ∃ t, mg "DAY_FIGURES" = some (.int 2 t)
  IF : Fun K "is_figures" "is_figures" sIsFig fIF dIF
  bIF : Binds K dIF ["text", "most"] []
  gIF : mg "is_figures" = some (.ref fIF)
  RA : Fun K "read_amount" "read_amount" sReadAm fRA dRA
  bRA : Binds K dRA ["text", "most", "places"] []
  gRA : mg "read_amount" = some (.ref fRA)
  RD : Fun K "read_day" "read_day" sRD fRD dRD
  bRD : Binds K dRD ["text", "order"] []
  gRD : mg "read_day" = some (.ref fRD)
  Do : Fun K "day_of" "day_of" sDo fDo dDo
  bDo : Binds K dDo ["parts"] []
  gDo : mg "day_of" = some (.ref fDo)
  Rs : Fun K "read_as" "read_as" sRs fRs dRs
  bRs : Binds K dRs ["form", "text"] []
  gRs : mg "read_as" = some (.ref fRs)
variable {cB fIF fRA fRD fDo fRs : Addr} {dIF dRA dRD dDo dRs : FuncData}
theorem ok_dayof (C : Cal K mg cM fLp fDi fAh fNu dLp dDi dAh dNu) (F : Frm K mg cB fIF fRA fRD fDo fRs dIF dRA dRD dDo dRs) (T : Free mg) : FnOk P w K mg base CX0 4 fDo dDo ["parts"] spDo := by
  have GIF : FnOk P w K mg base CX0 1 fIF dIF ["text", "most"] spIsFig := ok_isfig F.IF T
  have GNu : FnOk P w K mg base CX0 3 fNu dNu ["year", "month", "day"] spNum := ok_num C T
  have FIF := F.IF
  have bIF := F.bIF
  have gIF := F.gIF
  have FNu := C.Nu
  have bNu := C.bNu
  have gNu := C.gNu
  obtain ⟨t4, gY⟩ := F.gY
  obtain ⟨t2, gD⟩ := F.gD
  refine F.Do.ok scDo (fun vs H Q E h => ?_) (fun cdv A outer s H vs Q E hr h => ?_)
  · obtain ⟨p, kvs, Y, M, D, rfl, _⟩ := h
    rfl
  · obtain ⟨p, kvs, Y, M, D, rfl, hp, hY, hM, hD, lY, lM, lD, q⟩ := h
    refine ⟨_, pss_cons (ps_par3 (i := 1) (j := 2) (l := 3) rfl scDo.nd rfl rfl rfl (by decide) (by decide) (by decide) rfl rfl rfl (pa_cons (pe_dget (u1 hr.units) (pv 0) pe_str (fun _ _ => rfl)) (pa_cons (pe_dget (u1 hr.units) (pv 0) pe_str (fun _ _ => rfl)) (pa_cons (pe_dget (u1 hr.units) (pv 0) pe_str (fun _ _ => rfl)) pa_nil))) (by rfl))
      (pss_cons (ps_if (PW.pt (pw_or (pt_cmpR op_ne (pe_callB call_len_str (by rfl) T.len PySem.boot_len (pa_cons (pv 1) pa_nil)) (pe_glob (v := V.int 4) rfl gY ⟨_, rfl⟩) (nomark _)) (pw_or1 (pt_not (pt_val (pe_call GIF (hr.mono (by decide)) (by rfl) gIF FIF.kp bIF .nil pass0 (pa_cons (pv 1) (pa_cons (pe_glob (v := V.int 4) rfl gY ⟨_, rfl⟩) pa_nil)))))))) (pss_one (ps_ret pe_non)) (pss_nil))
      (pss_cons (ps_if (PW.pt (pw_or (pt_not (pt_val (pe_call GIF (hr.mono (by decide)) (by rfl) gIF FIF.kp bIF .nil pass0 (pa_cons (pv 2) (pa_cons (pe_glob (v := V.int 2) rfl gD ⟨_, rfl⟩) pa_nil))))) (pw_or1 (pt_not (pt_val (pe_call GIF (hr.mono (by decide)) (by rfl) gIF FIF.kp bIF .nil pass0 (pa_cons (pv 3) (pa_cons (pe_glob (v := V.int 2) rfl gD ⟨_, rfl⟩) pa_nil)))))))) (pss_one (ps_ret pe_non)) (pss_nil))
      (pss_one (ps_ret (pe_call GNu (hr.mono (by decide)) (by rfl) gNu FNu.kp bNu .nil pass0 (pa_cons (pe_callTy call_int_str (by rfl) T.int (by decide +kernel) (pa_cons (pv 1) pa_nil)) (pa_cons (pe_callTy call_int_str (by rfl) T.int (by decide +kernel) (pa_cons (pv 2) pa_nil)) (pa_cons (pe_callTy call_int_str (by rfl) T.int (by decide +kernel) (pa_cons (pv 3) pa_nil)) pa_nil)))))))), ?_⟩
    have no : ¬ ((tl Y).length = 4 ∧ figs 4 (tl Y) = true ∧ figs 2 (tl M) = true ∧ figs 2 (tl D) = true) → Q .non H := fun n => by
      have z := q H (Same.refl _)
      unfold dayP at z
      rw [if_neg n] at z
      exact z
    refine ⟨_, rfl, p, _, rfl, hY ▸ DGet.k hp, _, rfl, p, _, rfl, hM ▸ DGet.k hp, _, rfl, p, _, rfl, hD ▸ DGet.k hp, _, _, _, rfl, ?_⟩
    have line : ∀ {z : Str}, z.length ≤ 60500 → z.length ≤ sizeLine := fun h => Nat.le_trans h (by decide)
    refine ⟨_, rfl, Y, rfl, line lY, ?_⟩
    refine ⟨rfl, _, rfl, ?_⟩
    have e4 : decide (V.int (Y.length : Nat) = V.int 4) = decide ((tl Y).length = 4) := decide_eq_decide.mpr ⟨fun h => by have := V.int.inj h; rw [len_tl] at this; omega, fun h => congrArg V.int (by rw [len_tl]; omega)⟩
    rw [e4]
    by_cases y4 : (tl Y).length = 4
    · rw [decide_eq_true y4]
      refine iteF ⟨_, rfl, Y, 4, rfl, by omega, _, rfl, ?_⟩
      cases fy : figs 4 (tl Y) with
      | false => exact iteT (no fun h => by rw [fy] at h; exact absurd h.2.1 (by decide))
      | true =>
        refine iteF ?_
        unfold tNext
        dsimp only
        refine ⟨_, rfl, M, 2, rfl, by omega, _, rfl, ?_⟩
        cases fm : figs 2 (tl M) with
        | false => exact iteT (no fun h => by rw [fm] at h; exact absurd h.2.2.1 (by decide))
        | true =>
          refine iteF ⟨_, rfl, D, 2, rfl, by omega, _, rfl, ?_⟩
          cases fd : figs 2 (tl D) with
          | false => exact iteT (no fun h => by rw [fd] at h; exact absurd h.2.2.2 (by decide))
          | true =>
            refine iteF ?_
            dsimp only
            have gy := figs_iff.mp fy
            have gm := figs_iff.mp fm
            have gd := figs_iff.mp fd
            have ne : ∀ {l : List Nat}, 1 ≤ l.length → l ≠ [] := fun h e => by rw [e] at h; simp at h
            have z := q
            unfold dayP at z
            simp only [if_pos (show (tl Y).length = 4 ∧ figs 4 (tl Y) = true ∧ figs 2 (tl M) = true ∧ figs 2 (tl D) = true from ⟨y4, fy, fm, fd⟩)] at z
            have vy := val_lt gy.2
            have vm := val_lt gm.2
            have vd := val_lt gd.2
            have lY4 : Y.length ≤ 4 := by rw [len_tl]; exact gy.1.2
            have lM2 : M.length ≤ 2 := by rw [len_tl]; exact gm.1.2
            have lD2 : D.length ≤ 2 := by rw [len_tl]; exact gd.1.2
            have py : 10 ^ (tl Y).length ≤ 10 ^ 4 := Nat.pow_le_pow_right (by decide) gy.1.2
            have pm : 10 ^ (tl M).length ≤ 10 ^ 2 := Nat.pow_le_pow_right (by decide) gm.1.2
            have pd : 10 ^ (tl D).length ≤ 10 ^ 2 := Nat.pow_le_pow_right (by decide) gd.1.2
            refine ⟨_, rfl, Y, _, rfl, intTextD gy.2 (ne gy.1.1) (by omega), by omega, _, rfl, M, _, rfl, intTextD gm.2 (ne gm.1.1) (by omega), by omega, _, rfl, D, _, rfl, intTextD gd.2 (ne gd.1.1) (by omega), by omega, val (tl Y), val (tl M), val (tl D), rfl, by omega, by omega, by omega, z⟩
    · rw [decide_eq_false y4]
      exact iteT (no fun h => y4 h.1)
end
end K21
set_option Elab.async false
set_option linter.all false
set_option maxRecDepth 100000
set_option maxHeartbeats 4000000
/-! k21: a text cut at a sign -/
namespace K21
open PySem PySem.Spec PyProof.Rows L2 Bs Xg TL K02 Gn
def cutAt (s : Nat) : List Nat → List (List Nat)
  | [] => [[]]
  | c :: r => if c = s then [] :: cutAt s r else (c :: (cutAt s r).headD []) :: (cutAt s r).tail
theorem cutAt_cons (s c : Nat) (r : List Nat) : cutAt s (c :: r) = if c = s then [] :: cutAt s r else (c :: (cutAt s r).headD []) :: (cutAt s r).tail := rfl
theorem cutAt_ne (s : Nat) : ∀ l, cutAt s l ≠ []
  | [] => by simp [cutAt]
  | c :: r => by
    unfold cutAt
    split <;> simp
theorem headTail {α : Type} {l : List α} (d : α) (h : l ≠ []) : l.headD d :: l.tail = l := by
  cases l with
  | nil => exact absurd rfl h
  | cons a r => rfl
theorem spl_cut (s : Nat) : ∀ (l acc : List Nat), spl [s] 0 acc l = (acc ++ (cutAt s l).headD []) :: (cutAt s l).tail
  | [], acc => by simp [spl_nil, cutAt]
  | c :: r, acc => by
    by_cases e : c = s
    · have h : pre [s] (c :: r) = true := by simp [pre, e]
      rw [spl_hit h]
      show acc :: spl [s] 0 [] r = _
      rw [spl_cut s r [], cutAt_cons, if_pos e, List.nil_append, headTail _ (cutAt_ne s r)]
      simp
    · have h : pre [s] (c :: r) = false := by simp [pre, e]
      rw [spl_miss h, spl_cut s r (acc ++ [c])]
      rw [cutAt_cons, if_neg e]
      simp
theorem split_cut (z : Str) {s : Nat} (hs : s < 256) : Txt.split z ⟨#[s]⟩ = (cutAt s (tl z)).map K21.S := by
  have h := SX.split_S (a := tl z) (b := [s]) (by simp) (by simp [hs])
  have ez : SX.S (tl z) = z := S_tl z
  rw [ez, spl_cut, List.nil_append, headTail _ (cutAt_ne _ _)] at h
  exact h
theorem cutAt_mem (s : Nat) : ∀ l, ∀ p ∈ cutAt s l, p.length ≤ l.length ∧ s ∉ p ∧ ∀ c ∈ p, c ∈ l
  | [], p, hp => by
    have e : p = [] := by simpa [cutAt] using hp
    subst e
    simp
  | c :: r, p, hp => by
    have ih := cutAt_mem s r
    rw [cutAt_cons] at hp
    by_cases e : c = s
    · rw [if_pos e] at hp
      rcases List.mem_cons.mp hp with rfl | hp
      · simp
      · obtain ⟨h1, h2, h3⟩ := ih p hp
        exact ⟨by simp; omega, h2, fun d hd => List.mem_cons_of_mem _ (h3 d hd)⟩
    · rw [if_neg e] at hp
      have hh := headTail [] (cutAt_ne s r)
      rcases List.mem_cons.mp hp with rfl | hp
      · obtain ⟨h1, h2, h3⟩ := ih ((cutAt s r).headD []) (by rw [← hh]; simp)
        refine ⟨by simpa using h1, ?_, ?_⟩
        · intro q
          rcases List.mem_cons.mp q with q | q
          · exact e q.symm
          · exact h2 q
        · intro d hd
          rcases List.mem_cons.mp hd with rfl | hd
          · exact List.mem_cons_self
          · exact List.mem_cons_of_mem _ (h3 d hd)
      · obtain ⟨h1, h2, h3⟩ := ih p (by rw [← hh]; exact List.mem_cons_of_mem _ hp)
        exact ⟨by simp; omega, h2, fun d hd => List.mem_cons_of_mem _ (h3 d hd)⟩
theorem cutAt_count (s : Nat) : ∀ l, (cutAt s l).length = l.count s + 1
  | [] => by simp [cutAt]
  | c :: r => by
    have ih := cutAt_count s r
    rw [cutAt_cons]
    by_cases e : c = s
    · rw [if_pos e, e]
      simp [ih]
    · rw [if_neg e, List.count_cons_of_ne e]
      simp [ih]
/-- the parts' signs are all but the sign -/
theorem cutAt_flat (s : Nat) : ∀ l, (cutAt s l).flatten = l.filter (fun c => !decide (c = s))
  | [] => by simp [cutAt]
  | c :: r => by
    have ih := cutAt_flat s r
    rw [cutAt_cons]
    by_cases e : c = s
    · rw [if_pos e]
      simp [ih, e]
    · rw [if_neg e, List.flatten_cons, List.filter_cons]
      have hh := headTail [] (cutAt_ne s r)
      rw [← hh, List.flatten_cons] at ih
      simp only [decide_eq_false e, Bool.not_false, if_true]
      rw [← ih]
      simp
theorem ofS1 : Str.ofString "-" = ⟨#[45]⟩ ∧ Str.ofString "." = ⟨#[46]⟩ ∧ Str.ofString "/" = ⟨#[47]⟩ := by decide +kernel
end K21
set_option Elab.async false
set_option linter.all false
set_option maxRecDepth 100000
set_option maxHeartbeats 4000000
/-! k21: a day read -/
namespace K21
open PySem PySem.Spec PyProof.Rows L2 Bs Xg TL Xk K02 Gn
def ky (c : String) : Key := Sum.inr (Str.ofString c)
theorem merge3 {k1 k2 k3 : Key} {a b c : V} (n12 : k1 ≠ k2) (n13 : k1 ≠ k3) (n23 : k2 ≠ k3) : mergeK [] [(k1, a), (k2, b), (k3, c)] = [(k1, a), (k2, b), (k3, c)] := by
  simp [mergeK, putK, n12, n13, n23]
theorem ord_vals {o : Str} (h : IsOrd o) (a b c : Str) : ∃ kvs, mergeK [] ((o.cps.toList.map fun c => (Sum.inr (⟨#[c]⟩ : Str) : Key)).zip ([a, b, c].map V.str)) = kvs ∧
    valV kvs (ky "y") = some (.str (ord3 o [a, b, c]).1) ∧ valV kvs (ky "m") = some (.str (ord3 o [a, b, c]).2.1) ∧ valV kvs (ky "d") = some (.str (ord3 o [a, b, c]).2.2) := by
  have nym : ky "y" ≠ ky "m" := by decide +kernel
  have nyd : ky "y" ≠ ky "d" := by decide +kernel
  have nmd : ky "m" ≠ ky "d" := by decide +kernel
  have n1 : Str.ofString "dmy" ≠ Str.ofString "ymd" := by decide +kernel
  have n2 : Str.ofString "mdy" ≠ Str.ofString "ymd" := by decide +kernel
  have n3 : Str.ofString "mdy" ≠ Str.ofString "dmy" := by decide +kernel
  rcases h with rfl | rfl | rfl
  · have e : ((Str.ofString "ymd").cps.toList.map fun c => (Sum.inr (⟨#[c]⟩ : Str) : Key)) = [ky "y", ky "m", ky "d"] := by decide +kernel
    rw [e]
    refine ⟨_, merge3 nym nyd nmd, ?_, ?_, ?_⟩ <;> simp [valV, ord3, nym, nyd, nmd]
  · have e : ((Str.ofString "dmy").cps.toList.map fun c => (Sum.inr (⟨#[c]⟩ : Str) : Key)) = [ky "d", ky "m", ky "y"] := by decide +kernel
    rw [e]
    refine ⟨_, merge3 nmd.symm nyd.symm nym.symm, ?_, ?_, ?_⟩ <;> simp [valV, ord3, nym, nyd, nmd, nym.symm, nyd.symm, nmd.symm, n1]
  · have e : ((Str.ofString "mdy").cps.toList.map fun c => (Sum.inr (⟨#[c]⟩ : Str) : Key)) = [ky "m", ky "d", ky "y"] := by decide +kernel
    rw [e]
    refine ⟨_, merge3 nmd nym.symm nyd.symm, ?_, ?_, ?_⟩ <;> simp [valV, ord3, nym, nyd, nmd, nym.symm, nyd.symm, nmd.symm, n2, n3]
theorem ord_len {o : Str} (h : IsOrd o) : o.length = 3 := by
  rcases h with rfl | rfl | rfl <;> decide +kernel
theorem btw_at {i : Nat} {x : V} (h : (btw.map V.str)[i]? = some x) : ∃ s, s < 256 ∧ x = .str ⟨#[s]⟩ ∧ btw.drop i = (⟨#[s]⟩ : Str) :: btw.drop (i + 1) := by
  have e : btw = [⟨#[45]⟩, ⟨#[46]⟩, ⟨#[47]⟩] := by unfold btw; rw [ofS1.1, ofS1.2.1, ofS1.2.2]
  rw [e] at h ⊢
  match i, h with
  | 0, h => exact ⟨45, by decide, by simpa using h.symm, rfl⟩
  | 1, h => exact ⟨46, by decide, by simpa using h.symm, rfl⟩
  | 2, h => exact ⟨47, by decide, by simpa using h.symm, rfl⟩
  | n + 3, h => simp at h
theorem parts_le {z : Str} {s : Nat} (hs : s < 256) : ∀ p ∈ Txt.split z ⟨#[s]⟩, p.length ≤ z.length := by
  intro p hp
  rw [split_cut z hs] at hp
  obtain ⟨l, hl, rfl⟩ := List.mem_map.mp hp
  rw [S_len, len_tl]
  exact (cutAt_mem s _ l hl).1
section
variable {P : Program} {w : World} {K : PySem.W.Frag} {mg : Str → Option Value} {base : Heap}
variable {cM fLp fDi fAh fNu : Addr} {dLp dDi dAh dNu : FuncData} {cB fIF fRA fRD fDo fRs : Addr} {dIF dRA dRD dDo dRs : FuncData}
theorem scRD : FnScope ["text", "order", "sign", "parts"] ["text", "order"] (defScope sRD) := ⟨rfl, rfl, rfl, by decide +kernel, rfl, by decide +kernel, by decide +kernel⟩
def spRD : Sp := fun vs H Q _ => ∃ (z o : Str), vs = [.str z, .str o] ∧ z.length ≤ 60000 ∧ IsOrd o ∧ ∀ H', Same H H' → Q (ov (dayS o z btw)) H'
theorem ok_readday (C : Cal K mg cM fLp fDi fAh fNu dLp dDi dAh dNu) (F : Frm K mg cB fIF fRA fRD fDo fRs dIF dRA dRD dDo dRs) (T : Free mg) : FnOk P w K mg base CX0 5 fRD dRD ["text", "order"] spRD := by
  have GDo : FnOk P w K mg base CX0 4 fDo dDo ["parts"] spDo := ok_dayof C F T
  have FDo := F.Do
  have bDo := F.bDo
  have gDo := F.gDo
  have gB := F.gB
  refine F.RD.ok scRD (fun vs H Q E h => ?_) (fun cdv A outer s H vs Q E hr h => ?_)
  · obtain ⟨z, o, rfl, _⟩ := h
    rfl
  · obtain ⟨z, o, rfl, zl, io, q⟩ := h
    refine ⟨_, pss_cons (ps_for PassesOwn.never rfl (pi_tup (pe_glob (v := V.ref cB) rfl gB rfl)) (pg_name (i := 2) scRD.nd rfl (Or.inl rfl)) (pss_cons (ps_set (i := 3) scRD.nd rfl (Or.inl rfl) (pe_split (pv 0) (pv 2)))
      (pss_one (ps_if (pt_cmpR op_eq (pe_callB call_len_seq (by rfl) T.len PySem.boot_len (pa_cons (pv 3) pa_nil)) (pe_callB call_len_str (by rfl) T.len PySem.boot_len (pa_cons (pv 1) pa_nil)) (nomark _)) (pss_one (ps_ret (pe_call GDo (hr.mono (by decide)) (by rfl) gDo FDo.kp bDo .nil pass0 (pa_cons (pe_dictZip rfl rfl T.dict rfl T.zip (pa_cons (pv 1) (pa_cons (pv 3) pa_nil))) pa_nil)))) (pss_nil)))))
      (pss_one (ps_ret pe_non)), ?_⟩
    refine ⟨cB, rfl, ⟨_, F.sB _⟩, for_tup (xs := btw.map V.str) (fun j σ G => Same H G ∧ (∃ u3 u4, σ = [some (.str z), some (.str o), u3, u4]) ∧ dayS o z (btw.drop j) = dayS o z btw) ⟨Same.refl _, ⟨none, none, rfl⟩, rfl⟩ (fun j σ G _ pv => F.sB _) ?_ ?_⟩
    · rintro j x σ G hx ⟨sG, ⟨u3, u4, rfl⟩, hd⟩
      obtain ⟨s1, s1l, rfl, e1⟩ := btw_at hx
      refine gN ?_
      try dsimp only
      refine ⟨_, rfl, ⟨_, rfl⟩, _, rfl, z, ⟨#[s1]⟩, rfl, rfl, rfl, Nat.le_trans (Nat.add_le_add_right zl 2) (by decide), fun t ht => ?_⟩
      have lo := ord_len io
      refine ⟨_, rfl, t, _, rfl, .inl (SqL.of upd_same), _, rfl, o, rfl, by rw [lo]; decide, ?_⟩
      refine ⟨rfl, _, rfl, ?_⟩
      have e3 : decide (V.int (((Txt.split z ⟨#[s1]⟩).map V.str).length : Nat) = V.int (o.length : Nat)) = decide ((Txt.split z ⟨#[s1]⟩).length = 3) := decide_eq_decide.mpr ⟨fun h => by have := V.int.inj h; rw [List.length_map, lo] at this; omega, fun h => congrArg V.int (by rw [List.length_map, lo]; omega)⟩
      rw [e3]
      have sT : Same H (upd G t (.lst ((Txt.split z ⟨#[s1]⟩).map V.str))) := sG.trans (Same.new ht)
      by_cases l3 : (Txt.split z ⟨#[s1]⟩).length = 3
      · rw [decide_eq_true l3]
        refine iteT ?_
        have hd' : dayQ o (Txt.split z ⟨#[s1]⟩) = dayS o z btw := by
          rw [← hd, e1]
          exact (if_pos l3).symm
        have pl := parts_le (z := z) s1l
        generalize Txt.split z ⟨#[s1]⟩ = parts at *
        obtain ⟨a, b, c, rfl⟩ : ∃ a b c, parts = [a, b, c] := by
          match parts, l3 with
          | [a, b, c], _ => exact ⟨a, b, c, rfl⟩
        obtain ⟨kvs, ek, vy, vm, vd⟩ := ord_vals io a b c
        have la : a.length ≤ 60500 := Nat.le_trans (pl a (by simp)) (by omega)
        have lb : b.length ≤ 60500 := Nat.le_trans (pl b (by simp)) (by omega)
        have lc : c.length ≤ 60500 := Nat.le_trans (pl c (by simp)) (by omega)
        refine ⟨_, rfl, _, rfl, .str o, t, _, _, rfl, .inr ⟨o, rfl, ?_, rfl⟩, SqL.of upd_same, fun p np => ?_⟩
        · have : o.cps.size = 3 := lo
          rw [this]
          decide
        · rw [ek]
          have l1 : (ord3 o [a, b, c]).1.length ≤ 60500 ∧ (ord3 o [a, b, c]).2.1.length ≤ 60500 ∧ (ord3 o [a, b, c]).2.2.length ≤ 60500 := by
            unfold ord3
            split
            · exact ⟨la, lb, lc⟩
            · split
              · exact ⟨lc, lb, la⟩
              · exact ⟨lc, la, lb⟩
          refine ⟨p, kvs, _, _, _, rfl, upd_same, vy, vm, vd, l1.1, l1.2.1, l1.2.2, fun G2 s2 => ?_⟩
          have z1 := q G2 ((sT.trans (Same.new np)).trans s2)
          rw [← hd'] at z1
          exact z1
      · rw [decide_eq_false l3]
        refine iteF ?_
        unfold tNext
        dsimp only
        refine ⟨sT, ⟨_, _, rfl⟩, ?_⟩
        rw [← hd, e1]
        exact (if_neg l3).symm
    · rintro σ G ⟨sG, _, hd⟩
      have z1 := q G sG
      rw [← hd] at z1
      exact z1
end
end K21
set_option Elab.async false
set_option linter.all false
set_option maxRecDepth 100000
set_option maxHeartbeats 4000000
/-! k21: read as a form tells -/
namespace K21
open PySem PySem.Spec PyProof.Rows L2 Bs Xg TL Xk K02 Gn
inductive Fm where
  | whole | amount (m : Nat) | day (o : Str)
def Fm.vals : Fm → List V
  | .whole => [.str "whole"]
  | .amount m => [.str "amount", .int (m : Int)]
  | .day o => [.str "day", .str o]
def Fm.ok : Fm → Prop
  | .whole => True
  | .amount m => 1 ≤ m ∧ m ≤ 4
  | .day o => IsOrd o
def readP (f : Fm) (z : Str) : Option Int :=
  match f with
  | .whole => due 0 (tl z)
  | .amount m => due m (tl z)
  | .day o => dayS o z btw
section
variable {P : Program} {w : World} {K : PySem.W.Frag} {mg : Str → Option Value} {base : Heap}
variable {cM fLp fDi fAh fNu : Addr} {dLp dDi dAh dNu : FuncData} {cB fIF fRA fRD fDo fRs : Addr} {dIF dRA dRD dDo dRs : FuncData}
theorem scRs : FnScope ["form", "text"] ["form", "text"] (defScope sRs) := ⟨rfl, rfl, rfl, by decide +kernel, rfl, by decide +kernel, by decide +kernel⟩
def spRs (K : PySem.W.Frag) : Sp := fun vs H Q _ => ∃ (p : Addr) (f : Fm) (z : Str), vs = [.ref p, .str z] ∧ SqT K H p f.vals ∧ f.ok ∧ z.length ≤ 60000 ∧ ∀ H', Same H H' → Q (ov (readP f z)) H'
theorem ok_readas (C : Cal K mg cM fLp fDi fAh fNu dLp dDi dAh dNu) (F : Frm K mg cB fIF fRA fRD fDo fRs dIF dRA dRD dDo dRs) (T : Free mg) : FnOk P w K mg base CX0 6 fRs dRs ["form", "text"] (spRs K) := by
  have GRD : FnOk P w K mg base CX0 5 fRD dRD ["text", "order"] spRD := ok_readday C F T
  have FRD := F.RD
  have bRD := F.bRD
  have gRD := F.gRD
  have GRA : FnOk P w K mg base CX0 2 fRA dRA ["text", "most", "places"] spReadAm := ok_readam F.RA T F.IF F.bIF F.gIF
  have FRA := F.RA
  have bRA := F.bRA
  have gRA := F.gRA
  obtain ⟨t9, g9⟩ := F.g9
  obtain ⟨t8, g8⟩ := F.g8
  refine F.Rs.ok scRs (fun vs H Q E h => ?_) (fun cdv A outer s H vs Q E hr h => ?_)
  · obtain ⟨p, f, z, rfl, _⟩ := h
    rfl
  · obtain ⟨p, f, z, rfl, hp, fo, zl, q⟩ := h
    refine ⟨_, pss_cons (ps_if (pt_cmpR op_eq (pe_ix ix_tup (pv 0) pe_int (fun _ _ => rfl)) pe_str (nomark _)) (pss_one (ps_ret (pe_call GRA (hr.mono (by decide)) (by rfl) gRA FRA.kp bRA .nil pass0 (pa_cons (pv 1) (pa_cons (pe_glob (v := V.int 9) rfl g9 ⟨_, rfl⟩) (pa_cons pe_int pa_nil)))))) (pss_nil))
      (pss_cons (ps_if (pt_cmpR op_eq (pe_ix ix_tup (pv 0) pe_int (fun _ _ => rfl)) pe_str (nomark _)) (pss_one (ps_ret (pe_call GRA (hr.mono (by decide)) (by rfl) gRA FRA.kp bRA .nil pass0 (pa_cons (pv 1) (pa_cons (pe_glob (v := V.int 8) rfl g8 ⟨_, rfl⟩) (pa_cons (pe_ix ix_tup (pv 0) pe_int (fun _ _ => rfl)) pa_nil)))))) (pss_nil))
      (pss_one (ps_ret (pe_call GRD (hr.mono (by decide)) (by rfl) gRD FRD.kp bRD .nil pass0 (pa_cons (pv 1) (pa_cons (pe_ix ix_tup (pv 0) pe_int (fun _ _ => rfl)) pa_nil)))))), ?_⟩
    have d1 : V.str "amount" ≠ V.str "whole" := by decide +kernel
    have d2 : V.str "day" ≠ V.str "whole" := by decide +kernel
    have d3 : V.str "day" ≠ V.str "amount" := by decide +kernel
    cases f with
    | whole =>
      refine ⟨_, rfl, p, _, _, _, rfl, rfl, hp, rfl, ?_⟩
      refine ⟨rfl, _, rfl, ?_⟩
      rw [decide_eq_true rfl]
      exact iteT ⟨_, rfl, z, 0, rfl, by omega, by omega, q⟩
    | amount m =>
      obtain ⟨m1, m4⟩ := fo
      refine ⟨_, rfl, p, _, _, _, rfl, rfl, hp, rfl, ?_⟩
      refine ⟨rfl, _, rfl, ?_⟩
      rw [decide_eq_false d1]
      refine iteF ?_
      unfold tNext
      dsimp only
      refine ⟨_, rfl, p, _, _, _, rfl, rfl, hp, rfl, ?_⟩
      refine ⟨rfl, _, rfl, ?_⟩
      rw [decide_eq_true rfl]
      have cm : cap m = 8 := if_neg (by omega)
      refine iteT ⟨_, rfl, _, rfl, p, _, _, _, rfl, rfl, hp, rfl, z, m, ?_, by omega, m4, q⟩
      rw [cm]
      rfl
    | day o =>
      refine ⟨_, rfl, p, _, _, _, rfl, rfl, hp, rfl, ?_⟩
      refine ⟨rfl, _, rfl, ?_⟩
      rw [decide_eq_false d2]
      refine iteF ?_
      unfold tNext
      dsimp only
      refine ⟨_, rfl, p, _, _, _, rfl, rfl, hp, rfl, ?_⟩
      refine ⟨rfl, _, rfl, ?_⟩
      rw [decide_eq_false d3]
      refine iteF ?_
      try dsimp only
      exact ⟨_, rfl, _, rfl, p, _, _, _, rfl, rfl, hp, rfl, z, o, rfl, zl, fo, q⟩
end
end K21
set_option Elab.async false
set_option linter.all false
set_option maxRecDepth 100000
set_option maxHeartbeats 4000000
/-! k21: comprehensions of dicts -/
namespace K21
open PySem PySem.Spec PyProof.Rows L2 Bs Xg TL Xk Xl Gn
theorem walk_zipTL {K : PySem.W.Frag} {a b : Addr} {xs ys : List V} {n : Nat} (hx : xs.length = n) (hy : ys.length = n) : Walk (ItTL K a b) n (fun H => SqT K H a xs ∧ SqL K H b ys) (YPair (fun i => xs[i]?) (fun i => ys[i]?)) := by
  refine ⟨fun i _ hi q => ⟨xs, ys, xs[i], ys[i], q.1, q.2, by simp [hx, hi], by simp [hy, hi]⟩, fun _ q => ⟨xs, ys, q.1, q.2, .inl ⟨hx.symm, by omega⟩⟩, fun i G x G' _ q y => ?_⟩
  obtain ⟨T, x1, y1, e1, e2, e3, e4, e5⟩ := y
  exact ⟨T, x1, y1, e1, e2, e3, e4 xs q.1, e5 ys q.2⟩
theorem putK_new {kvs : List (Key × V)} {k : Key} {v : V} (h : k ∉ kvs.map Prod.fst) : putK kvs k v = kvs ++ [(k, v)] := by
  unfold putK
  rw [if_neg]
  intro q
  rw [List.any_eq_true] at q
  obtain ⟨x, hx, e⟩ := q
  exact h (List.mem_map.mpr ⟨x, hx, of_decide_eq_true e⟩)
theorem merge_new : ∀ {more kvs : List (Key × V)}, ((kvs ++ more).map Prod.fst).Nodup → mergeK kvs more = kvs ++ more
  | [], kvs, _ => by simp [mergeK]
  | (k, v) :: r, kvs, h => by
    have hk : k ∉ kvs.map Prod.fst := by
      rw [List.map_append, List.nodup_append] at h
      intro q
      exact h.2.2 k q k (by simp) rfl
    show mergeK (putK kvs k v) r = _
    rw [putK_new hk, merge_new (by simpa using h)]
    simp
section
variable {J : It} {n : Nat} {Gd : Hp → Prop} {Y : Nat → Hp → V → Hp → Prop}
theorem dc_val (w : Walk J n Gd Y) {g : TG} {tk tv : TE} {vs : List Nat} {σ : L2.St} {H : Hp} {D : Addr} {Q : Hp → Prop} (kvs : List (Key × V)) (len : kvs.length = n) (nod : (kvs.map Prod.fst).Nodup) (nD : H D = none) (hG : ∀ G, Same H G → Gd G) (small : n < 100000)
    (turn : ∀ j k v x G G' (R : V → V → Hp → Prop) (N : Hp → Prop), kvs[j]? = some (k, v) → Same H G → Y j G x G' → (∀ G2, Same G G2 → R (kV k) v G2) → g x (wipe σ vs) G' fun σ2 H2 => wipe σ2 vs = wipe σ vs ∧ tYes σ2 H2 fun b H3 =>
      if b = true then tk σ2 H3 fun y H4 => tv σ2 H4 fun z H5 => R y z H5 else N H3)
    (fin : ∀ G, Same H G → G D = some (.dK kvs) → Q G) :
    ∃ W : Nat → Nat → Hp → Prop, (∃ m, W 0 m (upd H D (.dK []))) ∧ ∀ i m G, W i m G →
      (J.stop i G ∧ Q G) ∨ (J.go i G ∧ ∃ Nx : Hp → Prop, (∀ H', Nx H' → ∃ m', m' < m ∧ W (i + 1) m' H') ∧ ∀ x H', J.yld i G x H' → g x (wipe σ vs) H' fun σ2 H2 => wipe σ2 vs = wipe σ vs ∧ tYes σ2 H2 fun b H3 =>
        if b = true then tk σ2 H3 fun y H4 => tv σ2 H4 fun z H5 => ∃ kvs k, y = kV k ∧ H5 D = some (.dK kvs) ∧ kvs.length < sizeLine ∧ Nx (upd H5 D (.dK (putK kvs k z))) else Nx H3) := by
  refine ⟨fun i m G => m = n - i ∧ i ≤ n ∧ Same H G ∧ G D = some (.dK (kvs.take i)), ⟨n, by simp, Nat.zero_le _, Same.new nD, upd_same⟩, ?_⟩
  rintro i m G ⟨rfl, hi, sG, eD⟩
  have q := hG G sG
  by_cases hlt : i < n
  · refine .inr ⟨w.goes i G hlt q, fun G2 => Same H G2 ∧ G2 D = some (.dK (kvs.take (i + 1))), fun H' p' => ⟨n - (i + 1), by omega, rfl, hlt, p'⟩, fun x H' y => ?_⟩
    have hk : kvs[i]? = some kvs[i] := List.getElem?_eq_getElem (by omega)
    refine turn i kvs[i].1 kvs[i].2 x G H' _ _ hk sG (w.yields i G x H' hlt q y) fun G2 s2 => ⟨kvs.take i, kvs[i].1, rfl, s2 _ _ eD, ?_, fun b o e => ?_, ?_⟩
    · rw [List.length_take, sizeLine_eq]
      omega
    · rw [upd_ne (ne_of_none e nD)]
      exact s2 _ _ (sG b o e)
    · have tk1 : kvs.take (i + 1) = kvs.take i ++ [kvs[i]] := by rw [List.take_succ, hk]; rfl
      have nk : kvs[i].1 ∉ (kvs.take i).map Prod.fst := by
        have nod2 : ((kvs.take (i + 1)).map Prod.fst).Nodup := by
          rw [List.map_take]
          exact nod.sublist (List.take_sublist _ _)
        rw [tk1, List.map_append, List.nodup_append] at nod2
        exact fun z => nod2.2.2 _ z _ (by simp) rfl
      rw [upd_same, putK_new nk, tk1]
  · have e : i = n := by omega
    subst e
    refine .inl ⟨w.stops G q, fin G sG ?_⟩
    rw [eD, List.take_of_length_le (by omega)]
end
end K21
set_option Elab.async false
set_option linter.all false
set_option maxRecDepth 100000
set_option maxHeartbeats 4000000
/-! k21: what a step does: cut -/
namespace K21
open PySem PySem.Spec PyProof.Rows L2 Bs Xg TL Xk Xl K02 Gn
abbrev sCW : Stmt := top 19
abbrev sCu : Stmt := top 22
def os : Option Str → V
  | none => .non
  | some z => .str z
def sp : Str := Str.ofString " "
def cw (z : Str) : Option Str := if Txt.stripChars z sp = Str.empty then none else some (Txt.stripChars z sp)
def tk (x : Str) : Key := Sum.inr x
def cutP (news : List Str) (sign : Str) : Option Str → List (Key × V) × Bool
  | none => (news.map fun x => (tk x, .non), false)
  | some z => if (Txt.split z sign).length = news.length then ((news.map tk).zip ((Txt.split z sign).map fun y => os (cw y)), false) else (news.map fun x => (tk x, .non), true)
theorem List.getElem?_map_eq_some {α β : Type} {f : α → β} {l : List α} {j : Nat} {y : β} (h : (l.map f)[j]? = some y) : ∃ x, l[j]? = some x ∧ f x = y := by
  rw [List.getElem?_map] at h
  exact Option.map_eq_some_iff.mp h
/-- a pair of a new dict and a truth -/
theorem fresh_same {H G : Hp} {D : Addr} (s : Same H G) (n : G D = none) : H D = none := by
  cases e : H D with
  | none => rfl
  | some o => rw [s D o e] at n; cases n
/-- of a heap that was H0 -/
def Res (H0 H : Hp) (p : Addr) (r : List (Key × V) × Bool) : Prop := ∃ d, H0 d = none ∧ H d = some (.dK r.1) ∧ H p = some (.tup [.ref d, .bl r.2])
section
variable {P : Program} {w : World} {K : PySem.W.Frag} {mg : Str → Option Value} {base : Heap}
theorem scCW : FnScope ["text", "worth"] ["text"] (defScope sCW) := ⟨rfl, rfl, rfl, by decide +kernel, rfl, by decide +kernel, by decide +kernel⟩
def spCW : Sp := fun vs H Q _ => ∃ z : Str, vs = [.str z] ∧ z.length ≤ 60500 ∧ Q (os (cw z)) H
theorem ok_cw {f : Addr} {fd : FuncData} (F : Fun K "cell_worth" "cell_worth" sCW f fd) : FnOk P w K mg base CX0 1 f fd ["text"] spCW := by
  refine F.ok scCW (fun vs H Q E h => ?_) (fun cdv A outer s H vs Q E hr h => ?_)
  · obtain ⟨z, rfl, _⟩ := h
    rfl
  · obtain ⟨z, rfl, zl, q⟩ := h
    refine ⟨_, pss_cons (ps_set (i := 1) scCW.nd rfl (Or.inl rfl) (pe_bm PySem.F.plainAttrs_str PySem.F.slot_str_strip PySem.F.type_str_strip mt_stripChars (pv 0) (pa_cons pe_str pa_nil)))
      (pss_one (ps_ret (pe_ifExp (pt_cmpR op_eq (pv 1) pe_str (nomark _)) pe_non (pv 1)))), ?_⟩
    refine ⟨_, rfl, rfl, _, _, rfl, rfl, Nat.le_trans zl (by decide), ?_⟩
    try dsimp only
    refine ⟨_, rfl, ?_⟩
    refine ⟨rfl, _, rfl, ?_⟩
    have ee : decide (V.str (Txt.stripChars z (Str.ofString " ")) = V.str (Str.ofString "")) = decide (Txt.stripChars z sp = Str.empty) := decide_eq_decide.mpr ⟨fun h => V.str.inj h, fun h => congrArg V.str h⟩
    rw [ee]
    unfold cw at q
    by_cases c : Txt.stripChars z sp = Str.empty
    · rw [decide_eq_true c]
      rw [if_pos c] at q
      exact iteT q
    · rw [decide_eq_false c]
      rw [if_neg c] at q
      exact iteF ⟨_, rfl, q⟩
abbrev nCu : List Str := ["step", "text", "_", "sign", "news", "parts", "new", "part"]
theorem scCu : FnScope nCu ["step", "text"] (defScope sCu) := ⟨rfl, rfl, rfl, by decide +kernel, rfl, by decide +kernel, by decide +kernel⟩
def spCu (K : PySem.W.Frag) : Sp := fun vs H Q _ => ∃ (p nw : Addr) (a b c : V) (s : Nat) (news : List Str) (x : Option Str), vs = [.ref p, os x] ∧ SqT K H p [a, b, c, .str ⟨#[s]⟩, .ref nw] ∧ SqT K H nw (news.map V.str) ∧ s < 256 ∧ news.Nodup ∧ news.length ≤ 4 ∧
  (∀ z, x = some z → z.length ≤ 60000) ∧ ∀ t H', Same H H' → Res H H' t (cutP news ⟨#[s]⟩ x) → Q (.ref t) H'
theorem ok_cut {f fCW : Addr} {fd dCW : FuncData} (F : Fun K "cut_done" "cut_done" sCu f fd) (T : Free mg) (FCW : Fun K "cell_worth" "cell_worth" sCW fCW dCW) (bCW : Binds K dCW ["text"] []) (gCW : mg "cell_worth" = some (.ref fCW)) :
    FnOk P w K mg base CX0 2 f fd ["step", "text"] (spCu K) := by
  have GCW : FnOk P w K mg base CX0 1 fCW dCW ["text"] spCW := ok_cw FCW
  refine F.ok scCu (fun vs H Q E h => ?_) (fun cdv A outer s H vs Q E hr h => ?_)
  · obtain ⟨p, nw, a, b, c, s, news, x, rfl, _⟩ := h
    rfl
  · obtain ⟨p, nw, a, b, c, s1, news, x, rfl, hp, hn, sl, nod, few, xl, q⟩ := h
    refine ⟨_, pss_cons (ps_asg (pv 0) (pg_tup rfl (pgs_cons (pg_name (i := 2) scCu.nd rfl (Or.inl rfl)) (pgs_cons (pg_name (i := 2) scCu.nd rfl (Or.inl rfl)) (pgs_cons (pg_name (i := 2) scCu.nd rfl (Or.inl rfl)) (pgs_cons (pg_name (i := 3) scCu.nd rfl (Or.inl rfl)) (pgs_cons (pg_name (i := 4) scCu.nd rfl (Or.inl rfl)) pgs_nil)))))))
      (pss_cons (ps_if (pt_cmpR op_isN (pv 1) pe_non (nomark _)) (pss_one (ps_ret (pe_tup (pa_cons (pe_dc (own := [("new", 6)]) (g := gName 6) (tt := tYes) rfl scCu.nd (pi_tup (pv 4)) (blkOk_by (own := [("new", 6)]) (N := nCu) (sc := defScope sCu) (by decide +kernel)) (fun _ _ _ _ _ => (pg_name (i := 6) scCu.nd rfl (Or.inl rfl))) (fun _ _ _ _ _ => pts_nil) (fun _ _ _ _ _ => (pv 6)) (fun _ _ _ _ _ => pe_non)) (pa_cons pe_bl pa_nil))))) (pss_nil))
      (pss_cons (ps_set (i := 5) scCu.nd rfl (Or.inl rfl) (pe_split (pv 1) (pv 3)))
      (pss_cons (ps_if (pt_cmpR op_ne (pe_callB call_len_seq (by rfl) T.len PySem.boot_len (pa_cons (pv 5) pa_nil)) (pe_callB call_len_seq (by rfl) T.len PySem.boot_len (pa_cons (pv 4) pa_nil)) (nomark _)) (pss_one (ps_ret (pe_tup (pa_cons (pe_dc (own := [("new", 6)]) (g := gName 6) (tt := tYes) rfl scCu.nd (pi_tup (pv 4)) (blkOk_by (own := [("new", 6)]) (N := nCu) (sc := defScope sCu) (by decide +kernel)) (fun _ _ _ _ _ => (pg_name (i := 6) scCu.nd rfl (Or.inl rfl))) (fun _ _ _ _ _ => pts_nil) (fun _ _ _ _ _ => (pv 6)) (fun _ _ _ _ _ => pe_non)) (pa_cons pe_bl pa_nil))))) (pss_nil))
      (pss_one (ps_ret (pe_tup (pa_cons (pe_dc (own := [("new", 6), ("part", 7)]) (g := gTup K 2 (gCons (gName 6) (gCons (gName 7) gNil))) (tt := tYes) rfl scCu.nd (pi_zipTL rfl T.zip (pa_cons (pv 4) (pa_cons (pv 5) pa_nil))) (blkOk_by (own := [("new", 6), ("part", 7)]) (N := nCu) (sc := defScope sCu) (by decide +kernel)) (fun _ _ _ _ _ => (pg_tup rfl (pgs_cons (pg_name (i := 6) scCu.nd rfl (Or.inl rfl)) (pgs_cons (pg_name (i := 7) scCu.nd rfl (Or.inl rfl)) pgs_nil)))) (fun _ _ _ _ _ => pts_nil) (fun _ _ _ _ _ => (pv 6)) (fun _ _ _ _ _ => (pe_call GCW (hr.mono (by decide)) (by rfl) gCW FCW.kp bCW .nil pass0 (pa_cons (pv 7) pa_nil)))) (pa_cons pe_bl pa_nil)))))))), ?_⟩
    refine ⟨_, rfl, p, _, rfl, hp, rfl, _, _, rfl, ?_⟩
    refine ⟨_, _, rfl, ?_⟩
    refine ⟨_, _, rfl, ?_⟩
    refine ⟨_, _, rfl, ?_⟩
    refine ⟨_, _, rfl, ?_⟩
    refine ⟨rfl, ?_⟩
    try dsimp only
    refine ⟨_, rfl, rfl, _, rfl, ?_⟩
    have nodK : (news.map tk).Nodup := List.pairwise_map.mpr (nod.imp fun h e => h (Sum.inr.inj e))
    have s0 : Same H H := Same.refl H
    cases x with
    | none =>
      rw [decide_eq_true (show os none = V.non from rfl)]
      refine iteT ?_
      refine ⟨_, rfl, nw, rfl, ⟨_, sameT s0 hn⟩, fun D nD => ?_⟩
      refine dc_val (walk_tup (K := K) (a := nw) (xs := news.map V.str)) (news.map fun x => (tk x, .non)) (by simp) (by simpa [Function.comp_def] using nodK) nD (fun G s => sameT (s0.trans s) hn) (by rw [List.length_map]; omega) ?_ ?_
      · rintro j k v x G G' R N hk sG hy r
        obtain ⟨rfl, hx⟩ := hy
        obtain ⟨y, hy, ek⟩ := List.getElem?_map_eq_some hk
        rw [List.getElem?_map, hy] at hx
        cases hx
        cases ek
        refine gN ⟨rfl, yes ⟨_, rfl, r _ (Same.refl _)⟩⟩
      · intro G sG eD
        refine (show 2 ≤ sizeLine ∧ ∀ t : Addr, G t = none → Q (.ref t) (upd G t (.tup [.ref D, .bl false])) from ⟨by decide, fun t ht => ?_⟩)
        exact q t _ ((s0.trans sG).trans (Same.new ht)) ⟨D, (by first | exact nD | exact fresh_same (by assumption) nD), (upd_ne (ne_of_none eD ht)).trans eD, upd_same⟩
    | some z =>
      have zl := xl z rfl
      rw [decide_eq_false (show ¬ os (some z) = V.non from fun h => nomatch h)]
      refine iteF ?_
      unfold tNext
      dsimp only
      refine ⟨_, rfl, ⟨_, rfl⟩, _, rfl, z, ⟨#[s1]⟩, rfl, rfl, rfl, Nat.le_trans (Nat.add_le_add_right zl 2) (by decide), fun D0 n0 => ?_⟩
      have sT : Same H (upd H D0 (.lst ((Txt.split z ⟨#[s1]⟩).map V.str))) := Same.new n0
      refine ⟨_, rfl, D0, _, rfl, .inl (SqL.of upd_same), _, rfl, nw, _, rfl, .inr (sameT sT hn), ?_⟩
      refine ⟨rfl, _, rfl, ?_⟩
      have ee : decide (V.int (((Txt.split z ⟨#[s1]⟩).map V.str).length : Nat) = V.int ((news.map V.str).length : Nat)) = decide ((Txt.split z ⟨#[s1]⟩).length = news.length) := decide_eq_decide.mpr ⟨fun h => by have := V.int.inj h; rw [List.length_map, List.length_map] at this; omega, fun h => congrArg V.int (by rw [List.length_map, List.length_map]; omega)⟩
      rw [ee]
      by_cases el : (Txt.split z ⟨#[s1]⟩).length = news.length
      · rw [decide_eq_true el]
        refine iteF ?_
        dsimp only
        have eP : cutP news ⟨#[s1]⟩ (some z) = ((news.map tk).zip ((Txt.split z ⟨#[s1]⟩).map fun y => os (cw y)), false) := if_pos el
        rw [eP] at q
        have pl := parts_le (z := z) sl
        generalize Txt.split z ⟨#[s1]⟩ = parts at *
        refine ⟨_, rfl, _, rfl, nw, D0, _, _, rfl, sameT sT hn, SqL.of upd_same, fun D nD => ?_⟩
        refine dc_val (walk_zipTL (K := K) (a := nw) (b := D0) (n := news.length) (List.length_map _) ((List.length_map _).trans el)) ((news.map tk).zip (parts.map fun y => os (cw y))) (by simp [el]) ?_ nD (fun G s => ⟨sameT (sT.trans s) hn, SqL.of (s _ _ upd_same)⟩) (by omega) ?_ ?_
        · rw [List.map_fst_zip (by simp [el])]
          exact nodK
        · rintro j k v x G G' R N hk sG ⟨TT, x1, y1, rfl, nT, rfl, e1, e2⟩ r
          obtain ⟨h1, h2⟩ := List.getElem?_zip_eq_some.mp hk
          replace e1 : (news.map V.str)[j]? = some x1 := e1
          replace e2 : (parts.map V.str)[j]? = some y1 := e2
          rw [List.getElem?_map] at h1 h2 e1 e2
          obtain ⟨a1, ha, rfl⟩ := Option.map_eq_some_iff.mp h1
          obtain ⟨b1, hb, rfl⟩ := Option.map_eq_some_iff.mp h2
          rw [ha] at e1
          rw [hb] at e2
          cases e1
          cases e2
          refine ⟨TT, _, rfl, SqT.of upd_same, rfl, _, _, rfl, ?_⟩
          refine ⟨_, _, rfl, ?_⟩
          refine ⟨rfl, rfl, yes ⟨_, rfl, _, rfl, b1, rfl, ?_, r _ (Same.new nT)⟩⟩
          exact Nat.le_trans (pl b1 (List.mem_of_getElem? hb)) (by omega)
        · intro G sG eD
          refine (show 2 ≤ sizeLine ∧ ∀ t : Addr, G t = none → Q (.ref t) (upd G t (.tup [.ref D, .bl false])) from ⟨by decide, fun t ht => ?_⟩)
          exact q t _ ((sT.trans sG).trans (Same.new ht)) ⟨D, (by first | exact nD | exact fresh_same (by assumption) nD), (upd_ne (ne_of_none eD ht)).trans eD, upd_same⟩
      · rw [decide_eq_false el]
        refine iteT ?_
        have eP : cutP news ⟨#[s1]⟩ (some z) = (news.map fun x => (tk x, .non), true) := if_neg el
        rw [eP] at q
        refine ⟨_, rfl, nw, rfl, ⟨_, sameT sT hn⟩, fun D nD => ?_⟩
        refine dc_val (walk_tup (K := K) (a := nw) (xs := news.map V.str)) (news.map fun x => (tk x, .non)) (by simp) (by simpa [Function.comp_def] using nodK) nD (fun G s => sameT (sT.trans s) hn) (by rw [List.length_map]; omega) ?_ ?_
        · rintro j k v x G G' R N hk sG hy r
          obtain ⟨rfl, hx⟩ := hy
          obtain ⟨y, hy, ek⟩ := List.getElem?_map_eq_some hk
          rw [List.getElem?_map, hy] at hx
          cases hx
          cases ek
          refine gN ⟨rfl, yes ⟨_, rfl, r _ (Same.refl _)⟩⟩
        · intro G sG eD
          refine (show 2 ≤ sizeLine ∧ ∀ t : Addr, G t = none → Q (.ref t) (upd G t (.tup [.ref D, .bl true])) from ⟨by decide, fun t ht => ?_⟩)
          exact q t _ ((sT.trans sG).trans (Same.new ht)) ⟨D, (by first | exact nD | exact fresh_same (by assumption) nD), (upd_ne (ne_of_none eD ht)).trans eD, upd_same⟩
end
end K21
set_option Elab.async false
set_option linter.all false
set_option maxRecDepth 100000
set_option maxHeartbeats 4000000
/-! k21: what a step does: glue, spell, read -/
namespace K21
open PySem PySem.Spec PyProof.Rows L2 Bs Xg TL Xk Xl K02 Gn
abbrev sGl : Stmt := top 23
abbrev sSp : Stmt := top 24
abbrev sRdn : Stmt := top 25
abbrev sMe : Stmt := top 26
section
variable {J : It} {n : Nat} {Gd : Hp → Prop} {Y : Nat → Hp → V → Hp → Prop} {α : Type}
theorem lc_fm (w : Walk J n Gd Y) {g : TG} {tt : TT} {te : TE} {vs : List Nat} {σ : L2.St} {H : Hp} {D : Addr} {Q : Hp → Prop} (xs : List α) (f : α → Option V) (len : xs.length = n) (nD : H D = none) (hG : ∀ G, Same H G → Gd G) (small : n < 100000)
    (turn : ∀ j a x G G' (R : V → Hp → Prop) (N : Hp → Prop), xs[j]? = some a → Same H G → Y j G x G' → (∀ v, f a = some v → ∀ G2, Same G G2 → R v G2) → (f a = none → ∀ G2, Same G G2 → N G2) → g x (wipe σ vs) G' fun σ2 H2 => wipe σ2 vs = wipe σ vs ∧ tt σ2 H2 fun b H3 =>
      if b = true then te σ2 H3 R else N H3)
    (fin : ∀ G, Same H G → G D = some (.lst (xs.filterMap f)) → Q G) :
    ∃ W : Nat → Nat → Hp → Prop, (∃ m, W 0 m (upd H D (.lst []))) ∧ ∀ i m G, W i m G →
      (J.stop i G ∧ Q G) ∨ (J.go i G ∧ ∃ Nx : Hp → Prop, (∀ H', Nx H' → ∃ m', m' < m ∧ W (i + 1) m' H') ∧ ∀ x H', J.yld i G x H' → g x (wipe σ vs) H' fun σ2 H2 => wipe σ2 vs = wipe σ vs ∧ tt σ2 H2 fun b H3 =>
        if b = true then te σ2 H3 fun y H4 => ∃ acc, H4 D = some (.lst acc) ∧ acc.length < sizeLine ∧ Nx (upd H4 D (.lst (acc ++ [y]))) else Nx H3) := by
  refine lc_it w (fun j G => Same H G ∧ G D = some (.lst ((xs.take j).filterMap f))) ⟨Same.new nD, by rw [List.take_zero]; exact upd_same⟩ (fun j G _ q => hG G q.1) ?_ ?_
  · rintro j x G G' hj ⟨sG, eD⟩ hy
    have hk : xs[j]? = some xs[j] := List.getElem?_eq_getElem (by omega)
    have tk : xs.take (j + 1) = xs.take j ++ [xs[j]] := by rw [List.take_succ, hk]; rfl
    refine turn j xs[j] x G G' _ _ hk sG hy (fun v hv G2 s2 => ⟨_, s2 _ _ eD, ?_, fun b o e => ?_, ?_⟩) (fun hv G2 s2 => ⟨sG.trans s2, ?_⟩)
    · have := List.length_filterMap_le f (xs.take j)
      rw [List.length_take] at this
      rw [sizeLine_eq]
      omega
    · rw [upd_ne (ne_of_none e nD)]
      exact s2 _ _ (sG b o e)
    · rw [upd_same, tk, List.filterMap_append]
      simp [hv]
    · rw [s2 _ _ eD, tk, List.filterMap_append]
      simp [hv]
  · rintro G ⟨sG, eD⟩
    rw [List.take_of_length_le (by omega)] at eD
    exact fin G sG eD
end
/-- a row: what stands at each column -/
def gluedP (f : Str → Option Str) (cols : List Str) (sep : Str) : Option Str := if cols.filterMap f = [] then none else some (Txt.join sep (cols.filterMap f))
section
variable {P : Program} {w : World} {K : PySem.W.Frag} {mg : Str → Option Value} {base : Heap}
abbrev nGl : List Str := ["step", "worths", "texts", "column"]
theorem scGl : FnScope nGl ["step", "worths"] (defScope sGl) := ⟨rfl, rfl, rfl, by decide +kernel, rfl, by decide +kernel, by decide +kernel⟩
def spGl (K : PySem.W.Frag) : Sp := fun vs H Q _ => ∃ (p r cs : Addr) (a b d : V) (sep : Str) (cols : List Str) (row : List (Key × V)) (f : Str → Option Str), vs = [.ref p, .ref r] ∧ SqT K H p [a, b, .ref cs, .str sep, d] ∧ SqT K H cs (cols.map V.str) ∧ H r = some (.dK row) ∧
  (∀ c ∈ cols, valV row (tk c) = some (os (f c)) ∧ ∀ z, f c = some z → z.length ≤ 60000) ∧ sep.length ≤ 1 ∧ cols.length ≤ 4 ∧ ∀ H', Same H H' → Q (os (gluedP f cols sep)) H'
theorem ok_glued {f : Addr} {fd : FuncData} (F : Fun K "glued" "glued" sGl f fd) (T : Free mg) : FnOk P w K mg base CX0 1 f fd ["step", "worths"] (spGl K) := by
  refine F.ok scGl (fun vs H Q E h => ?_) (fun cdv A outer s H vs Q E hr h => ?_)
  · obtain ⟨p, r, cs, a, b, d, sep, cols, row, f, rfl, _⟩ := h
    rfl
  · obtain ⟨p, r, cs, a, b, d, sep, cols, row, f, rfl, hp, hc, hrow, hv, sl, cl, q⟩ := h
    refine ⟨_, pss_cons (ps_setLc (i := 2) (own := [("column", 3)]) (g := gName 3) (tt := tTest (tOp (fun x y H Q => y = .non ∧ Q (.bl (!decide (x = .non))) H) (tDGet (tVar 1) (tVar 3)) (tC .non))) rfl scGl.nd rfl rfl (sw_true rfl rfl rfl rfl) (pi_tup (pe_ix ix_tup (pv 0) pe_int (fun _ _ => rfl))) (blkOk_by (own := [("column", 3)]) (N := nGl) (sc := defScope sGl) (by decide +kernel)) (fun _ _ _ _ _ => (pg_name (i := 3) scGl.nd rfl (Or.inl rfl))) (fun _ _ _ _ _ => pts_one (pt_cmpR op_notN (pe_dget (u1 hr.units) (pv 1) (pv 3) (fun _ _ => rfl)) pe_non (nomark _))) (fun _ _ _ _ _ => (pe_dget (u1 hr.units) (pv 1) (pv 3) (fun _ _ => rfl))))
      (pss_one (ps_ret (pe_ifExp (pt_cmpR op_eq (pe_callB call_len_seq (by rfl) T.len PySem.boot_len (pa_cons (pv 2) pa_nil)) pe_int (nomark _)) pe_non (pe_join (pe_ix ix_tup (pv 0) pe_int (fun _ _ => rfl)) (pv 2))))), ?_⟩
    refine ⟨_, rfl, p, _, _, _, rfl, rfl, hp, rfl, cs, rfl, ⟨_, hc⟩, fun D nD => ?_⟩
    refine lc_fm (walk_tup (K := K) (a := cs) (xs := cols.map V.str)) cols (fun c => (f c).map V.str) (by simp) nD (fun G s => sameT s hc) (by simp; omega) ?_ ?_
    · rintro j c1 x G G' R N hk sG ⟨rfl, hx⟩ keep drop
      rw [List.getElem?_map, hk] at hx
      cases hx
      have hm := hv c1 (List.mem_of_getElem? hk)
      have dg : DGet G' r (.str c1) (some (os (f c1))) := hm.1 ▸ DGet.k (k := tk c1) (sG _ _ hrow)
      refine gN ⟨rfl, ?_⟩
      refine ⟨_, rfl, _, rfl, r, _, rfl, dg, rfl, _, rfl, ?_⟩
      cases ef : f c1 with
      | none =>
        rw [decide_eq_true (show os none = V.non from rfl)]
        exact drop (by rw [ef]; rfl) _ (Same.refl _)
      | some z1 =>
        rw [decide_eq_false (show ¬ os (some z1) = V.non from fun h => nomatch h)]
        rw [ef] at dg
        exact ⟨_, rfl, _, rfl, r, _, rfl, dg, keep _ (by rw [ef]; rfl) _ (Same.refl _)⟩
    · intro G sG eD
      have eL : cols.filterMap (fun c => (f c).map V.str) = (cols.filterMap f).map V.str := by
        rw [List.map_filterMap]
      rw [eL] at eD
      try dsimp only
      refine ⟨_, rfl, D, _, rfl, .inl (SqL.of eD), ?_⟩
      refine ⟨rfl, _, rfl, ?_⟩
      have z1 := q G sG
      unfold gluedP at z1
      have ee : decide (V.int (((cols.filterMap f).map V.str).length : Nat) = V.int 0) = decide (cols.filterMap f = []) := decide_eq_decide.mpr ⟨fun h => by have := V.int.inj h; rw [List.length_map] at this; exact List.length_eq_zero_iff.mp (by omega), fun h => by rw [h]; rfl⟩
      rw [ee]
      by_cases c0 : cols.filterMap f = []
      · rw [decide_eq_true c0]
        rw [if_pos c0] at z1
        exact iteT z1
      · rw [decide_eq_false c0]
        rw [if_neg c0] at z1
        refine iteF ⟨_, rfl, p, _, _, _, rfl, rfl, sameT sG hp, rfl, ⟨_, rfl⟩, _, rfl, sep, D, cols.filterMap f, rfl, rfl, .inl (SqL.of eD), ?_, z1⟩
        have fl : (cols.filterMap f).length ≤ 4 := Nat.le_trans (List.length_filterMap_le _ _) cl
        have fz : ∀ x ∈ cols.filterMap f, x.length ≤ 60000 := by
          intro x hx
          obtain ⟨c2, h2, e2⟩ := List.mem_filterMap.mp hx
          exact (hv c2 h2).2 x e2
        have fs : ∀ l : List Str, (∀ x ∈ l, x.length ≤ 60000) → (l.map (·.length)).sum ≤ l.length * 60000 := by
          intro l
          induction l with
          | nil => intro _; simp
          | cons x l ih =>
            intro h
            have h1 := h x (by simp)
            have h2 := ih fun y hy => h y (by simp [hy])
            simp only [List.map_cons, List.sum_cons, List.length_cons]
            omega
        have s1 := fs _ fz
        have s2 : (cols.filterMap f).length * sep.length ≤ 4 * 1 := Nat.mul_le_mul fl sl
        omega
end
end K21
set_option Elab.async false
set_option linter.all false
set_option maxRecDepth 100000
set_option maxHeartbeats 4000000
/-! k21: what a step does: spell, read -/
namespace K21
open PySem PySem.Spec PyProof.Rows L2 Bs Xg TL Xk Xl K02 Gn
def spellP (x : Option Str) : List (Str × Option Str) → Option Str
  | [] => x
  | p :: r => if os x = .str p.1 then p.2 else spellP x r
/-- a tuple of pairs -/
def Pairs (K : PySem.W.Frag) (H : Hp) (a : Addr) (ps : List (Str × Option Str)) : Prop := ∃ qs : List Addr, qs.length = ps.length ∧ SqT K H a (qs.map V.ref) ∧ ∀ (j : Nat) (q : Addr) (p : Str × Option Str), qs[j]? = some q → ps[j]? = some p → SqT K H q [.str p.1, os p.2]
section
variable {P : Program} {w : World} {K : PySem.W.Frag} {mg : Str → Option Value} {base : Heap}
variable {cM fLp fDi fAh fNu : Addr} {dLp dDi dAh dNu : FuncData} {cB fIF fRA fRD fDo fRs : Addr} {dIF dRA dRD dDo dRs : FuncData}
theorem Pairs.same {H H' : Hp} {a : Addr} {ps : List (Str × Option Str)} (s : Same H H') (h : Pairs K H a ps) : Pairs K H' a ps := by
  obtain ⟨qs, l, h1, h2⟩ := h
  exact ⟨qs, l, sameT s h1, fun j q p e1 e2 => sameT s (h2 j q p e1 e2)⟩
theorem scSp : FnScope ["step", "text", "one", "other"] ["step", "text"] (defScope sSp) := ⟨rfl, rfl, rfl, by decide +kernel, rfl, by decide +kernel, by decide +kernel⟩
def spSp (K : PySem.W.Frag) : Sp := fun vs H Q _ => ∃ (p ts : Addr) (a b c : V) (ps : List (Str × Option Str)) (x : Option Str), vs = [.ref p, os x] ∧ SqT K H p [a, b, c, .ref ts] ∧ Pairs K H ts ps ∧ ∀ H', Same H H' → Q (os (spellP x ps)) H'
theorem ok_spelled {f : Addr} {fd : FuncData} (F : Fun K "spelled" "spelled" sSp f fd) : FnOk P w K mg base CX0 1 f fd ["step", "text"] (spSp K) := by
  refine F.ok scSp (fun vs H Q E h => ?_) (fun cdv A outer s H vs Q E hr h => ?_)
  · obtain ⟨p, ts, a, b, c, ps, x, rfl, _⟩ := h
    rfl
  · obtain ⟨p, ts, a, b, c, ps, x, rfl, hp, ⟨qs, lq, hq, hqs⟩, q⟩ := h
    refine ⟨_, pss_cons (ps_for PassesOwn.never rfl (pi_tup (pe_ix ix_tup (pv 0) pe_int (fun _ _ => rfl))) (pg_tup rfl (pgs_cons (pg_name (i := 2) scSp.nd rfl (Or.inl rfl)) (pgs_cons (pg_name (i := 3) scSp.nd rfl (Or.inl rfl)) pgs_nil))) (pss_one (ps_if (pt_cmpR op_eq (pv 2) (pv 1) (nomark _)) (pss_one (ps_ret (pv 3))) (pss_nil))))
      (pss_one (ps_ret (pv 1))), ?_⟩
    refine ⟨_, rfl, p, _, _, _, rfl, rfl, hp, rfl, ts, rfl, ⟨_, hq⟩, for_tup (xs := qs.map V.ref) (fun j σ G => Same H G ∧ (∃ u2 u3, σ = [some (.ref p), some (os x), u2, u3]) ∧ spellP x (ps.drop j) = spellP x ps) ⟨Same.refl _, ⟨none, none, rfl⟩, rfl⟩ (fun j σ G _ pv => sameT pv.1 hq) ?_ ?_⟩
    · rintro j x1 σ G hx ⟨sG, ⟨u2, u3, rfl⟩, hd⟩
      obtain ⟨q1, hq1, rfl⟩ := List.getElem?_map_eq_some hx
      have jl : j < ps.length := by
        rw [← lq]
        exact (List.getElem?_eq_some_iff.mp hq1).1
      have hp1 : ps[j]? = some ps[j] := List.getElem?_eq_getElem jl
      have e1 : ps.drop j = ps[j] :: ps.drop (j + 1) := List.drop_eq_getElem_cons jl
      have hT := sameT sG (hqs j q1 _ hq1 hp1)
      refine ⟨q1, _, rfl, hT, rfl, _, _, rfl, ?_⟩
      refine ⟨_, _, rfl, ?_⟩
      refine ⟨rfl, ?_⟩
      try dsimp only
      refine ⟨_, rfl, _, rfl, ?_⟩
      refine ⟨?_, _, rfl, ?_⟩
      · cases x <;> rfl
      have ee : decide (V.str ps[j].1 = os x) = decide (os x = .str ps[j].1) := decide_eq_decide.mpr ⟨fun h => h.symm, fun h => h.symm⟩
      rw [ee]
      by_cases c1 : os x = .str ps[j].1
      · rw [decide_eq_true c1]
        refine iteT ⟨_, rfl, ?_⟩
        have z := q G sG
        rw [← hd, e1] at z
        unfold spellP at z
        rw [if_pos c1] at z
        exact z
      · rw [decide_eq_false c1]
        refine iteF ?_
        unfold tNext
        dsimp only
        refine ⟨sG, ⟨_, _, rfl⟩, ?_⟩
        rw [← hd, e1]
        exact (if_neg c1).symm
    · rintro σ G ⟨sG, ⟨u2, u3, rfl⟩, hd⟩
      have z := q G sG
      rw [← hd, List.length_map, lq, List.drop_length] at z
      exact ⟨_, rfl, z⟩
theorem upd2 {H : Hp} {D : Addr} {o o' : HO} (n : H D = none) : Same H (upd (upd H D o) D o') := fun b u e => by rw [upd_ne (ne_of_none e n), upd_ne (ne_of_none e n)]; exact e
def readDP (f : Fm) (new : Str) : Option Str → List (Key × V) × Bool
  | none => ([(tk new, .non)], false)
  | some z => ([(tk new, ov (readP f z))], (readP f z).isNone)
theorem scRdn : FnScope ["step", "text", "number"] ["step", "text"] (defScope sRdn) := ⟨rfl, rfl, rfl, by decide +kernel, rfl, by decide +kernel, by decide +kernel⟩
def spRdn (K : PySem.W.Frag) : Sp := fun vs H Q _ => ∃ (p fo : Addr) (a b c : V) (f : Fm) (new : Str) (x : Option Str), vs = [.ref p, os x] ∧ SqT K H p [a, b, c, .ref fo, .str new] ∧ SqT K H fo f.vals ∧ f.ok ∧ (∀ z, x = some z → z.length ≤ 60000) ∧
  ∀ t H', Same H H' → Res H H' t (readDP f new x) → Q (.ref t) H'
theorem ok_rdn {f : Addr} {fd : FuncData} (F0 : Fun K "read_done" "read_done" sRdn f fd) (C : Cal K mg cM fLp fDi fAh fNu dLp dDi dAh dNu) (F : Frm K mg cB fIF fRA fRD fDo fRs dIF dRA dRD dDo dRs) (T : Free mg) : FnOk P w K mg base CX0 7 f fd ["step", "text"] (spRdn K) := by
  have GRs : FnOk P w K mg base CX0 6 fRs dRs ["form", "text"] (spRs K) := ok_readas C F T
  have FRs := F.Rs
  have bRs := F.bRs
  have gRs := F.gRs
  refine F0.ok scRdn (fun vs H Q E h => ?_) (fun cdv A outer s H vs Q E hr h => ?_)
  · obtain ⟨p, fo, a, b, c, f, new, x, rfl, _⟩ := h
    rfl
  · obtain ⟨p, fo, a, b, c, f, new, x, rfl, hp, hf, fok, xl, q⟩ := h
    refine ⟨_, pss_cons (ps_if (pt_cmpR op_isN (pv 1) pe_non (nomark _)) (pss_one (ps_ret (pe_tup (pa_cons (pe_disp (pps_cons (pe_ix ix_tup (pv 0) pe_int (fun _ _ => rfl)) pe_non pps_nil) (by rfl) (by rfl) (fun z => by cases z) (by decide)) (pa_cons pe_bl pa_nil))))) (pss_nil))
      (pss_cons (ps_set (i := 2) scRdn.nd rfl (Or.inl rfl) (pe_call GRs (hr.mono (by decide)) (by rfl) gRs FRs.kp bRs .nil pass0 (pa_cons (pe_ix ix_tup (pv 0) pe_int (fun _ _ => rfl)) (pa_cons (pv 1) pa_nil))))
      (pss_one (ps_ret (pe_tup (pa_cons (pe_disp (pps_cons (pe_ix ix_tup (pv 0) pe_int (fun _ _ => rfl)) (pv 2) pps_nil) (by rfl) (by rfl) (fun z => by cases z) (by decide)) (pa_cons (pe_cmpR op_isN (pv 2) pe_non (nomark _)) pa_nil)))))), ?_⟩
    refine ⟨_, rfl, rfl, _, rfl, ?_⟩
    cases x with
    | none =>
      rw [decide_eq_true (show os none = V.non from rfl)]
      refine iteT ?_
      refine fun D nD => ⟨_, rfl, p, _, _, _, rfl, rfl, sameT (Same.new nD) hp, rfl, ?_⟩
      refine ⟨upd_same, [(tk new, .non)], rfl, (show 1 ≤ 15 by decide), ?_⟩
      refine ⟨(show 2 ≤ sizeLine by decide), fun t ht => ?_⟩
      refine q t _ ((upd2 nD).trans (Same.new ht)) ⟨D, (by first | exact nD | exact fresh_same (by assumption) nD), (upd_ne (ne_of_none upd_same ht)).trans upd_same, upd_same⟩
    | some z =>
      rw [decide_eq_false (show ¬ os (some z) = V.non from fun h => nomatch h)]
      refine iteF ?_
      unfold tNext
      dsimp only
      refine ⟨_, rfl, p, _, _, _, rfl, rfl, hp, rfl, _, rfl, fo, f, z, rfl, hf, fok, xl z rfl, fun G sG => ?_⟩
      refine gN ?_
      try dsimp only
      refine fun D nD => ⟨_, rfl, p, _, _, _, rfl, rfl, sameT (sG.trans (Same.new nD)) hp, rfl, ?_⟩
      refine ⟨_, rfl, ?_⟩
      refine ⟨upd_same, [(tk new, ov (readP f z))], rfl, (show 1 ≤ 15 by decide), ?_⟩
      refine ⟨_, rfl, rfl, ?_⟩
      refine ⟨(show 2 ≤ sizeLine by decide), fun t ht => ?_⟩
      refine q t _ (sG.trans ((upd2 nD).trans (Same.new ht))) ⟨D, (by first | exact nD | exact fresh_same (by assumption) nD), (upd_ne (ne_of_none upd_same ht)).trans upd_same, upd_same.trans ?_⟩
      have eb : decide (ov (readP f z) = V.non) = (readP f z).isNone := by
        cases readP f z with
        | none => exact decide_eq_true rfl
        | some i => exact decide_eq_false (fun h => nomatch h)
      rw [eb]
      rfl
end
end K21
set_option Elab.async false
set_option linter.all false
set_option maxRecDepth 100000
set_option maxHeartbeats 4000000
/-! k21: is a step met -/
namespace K21
open PySem PySem.Spec PyProof.Rows L2 Bs Xg TL Xk Xl K02 Gn
def like : V → V → Prop
  | .int _, .int _ => True
  | .str _, .str _ => True
  | _, _ => False
def ltV : V → V → Bool
  | .int i, .int j => decide (i < j)
  | .str a, .str b => decide (a.cps.toList < b.cps.toList)
  | _, _ => false
def leV (a b : V) : Bool := !ltV b a
def rLt : R2 := fun x y H Q => like x y ∧ Q (.bl (ltV x y)) H
def rLe : R2 := fun x y H Q => like x y ∧ Q (.bl (leV x y)) H
section
variable {X : Cx}
theorem op_ltA : OpR X (compareOp .Lt) K21.rLt := by
  intro pins s σ H x y v u Q I rx ry h
  obtain ⟨hl, q⟩ := h
  cases x <;> cases y <;> try exact hl.elim
  · exact op_lt pins s σ H _ _ v u Q I rx ry ⟨_, _, rfl, rfl, q⟩
  · exact op_lt_str pins s σ H _ _ v u Q I rx ry ⟨_, _, rfl, rfl, q⟩
theorem op_leA : OpR X (compareOp .LtE) K21.rLe := by
  intro pins s σ H x y v u Q I rx ry h
  obtain ⟨hl, q⟩ := h
  cases x <;> cases y <;> try exact hl.elim
  · rename_i i j
    refine op_le pins s σ H _ _ v u Q I rx ry ⟨_, _, rfl, rfl, ?_⟩
    have e : decide (i ≤ j) = leV (.int i) (.int j) := by
      show _ = !decide (j < i)
      by_cases c : j < i
      · rw [decide_eq_true c, decide_eq_false (by omega)]
        rfl
      · rw [decide_eq_false c, decide_eq_true (by omega)]
        rfl
    show Q (.bl (decide (i ≤ j))) H
    rw [e]
    exact q
  · exact op_le_str pins s σ H _ _ v u Q I rx ry ⟨_, _, rfl, rfl, q⟩
end
inductive Mt where
  | given | within (lo hi : V) | among (q : Addr) (xs : List V) | before (c2 : Str) (v2 : V)
def Mt.word : Mt → Str
  | .given => "given"
  | .within _ _ => "within"
  | .among _ _ => "among"
  | .before _ _ => "before"
def Mt.rest : Mt → List V
  | .given => []
  | .within lo hi => [lo, hi]
  | .among q _ => [.ref q]
  | .before c2 _ => [.str c2]
def Mt.ok (K : PySem.W.Frag) (H : Hp) (row : List (Key × V)) (v : V) : Mt → Prop
  | .given => True
  | .within lo hi => v = .non ∨ (like lo v ∧ like v hi)
  | .among q xs => SqT K H q xs ∧ flatV v = true ∧ xs.all flatV = true
  | .before c2 v2 => valV row (tk c2) = some v2 ∧ (v = .non ∨ v2 = .non ∨ like v v2)
def metP (v : V) : Mt → Bool
  | .given => !decide (v = .non)
  | .within lo hi => decide (v = .non) || (leV lo v && leV v hi)
  | .among _ xs => decide (v = .non) || inV v xs
  | .before _ v2 => decide (v = .non) || (decide (v2 = .non) || ltV v v2)
section
variable {P : Program} {w : World} {K : PySem.W.Frag} {mg : Str → Option Value} {base : Heap}
theorem scMe : FnScope ["step", "worths", "worth", "word", "other"] ["step", "worths"] (defScope sMe) := ⟨rfl, rfl, rfl, by decide +kernel, rfl, by decide +kernel, by decide +kernel⟩
def spMe (K : PySem.W.Frag) : Sp := fun vs H Q _ => ∃ (p r : Addr) (a : V) (col : Str) (row : List (Key × V)) (v : V) (m : Mt), vs = [.ref p, .ref r] ∧ SqT K H p (a :: .str m.word :: .str col :: m.rest) ∧ H r = some (.dK row) ∧ valV row (tk col) = some v ∧ m.ok K H row v ∧ Q (.bl (metP v m)) H
theorem ok_met {f : Addr} {fd : FuncData} (F : Fun K "is_met" "is_met" sMe f fd) : FnOk P w K mg base CX0 1 f fd ["step", "worths"] (spMe K) := by
  refine F.ok scMe (fun vs H Q E h => ?_) (fun cdv A outer s H vs Q E hr h => ?_)
  · obtain ⟨p, r, a, col, row, v, m, rfl, _⟩ := h
    rfl
  · obtain ⟨p, r, a, col, row, v, m, rfl, hp, hrow, hv, hm, q⟩ := h
    refine ⟨_, pss_cons (ps_set (i := 2) scMe.nd rfl (Or.inl rfl) (pe_dget (u1 hr.units) (pv 1) (pe_ix ix_tup (pv 0) pe_int (fun _ _ => rfl)) (fun _ _ => rfl)))
      (pss_cons (ps_set (i := 3) scMe.nd rfl (Or.inl rfl) (pe_ix ix_tup (pv 0) pe_int (fun _ _ => rfl)))
      (pss_cons (ps_if (pt_cmpR op_eq (pv 3) pe_str (nomark _)) (pss_one (ps_ret (pe_cmpR op_notN (pv 2) pe_non (nomark _)))) (pss_nil))
      (pss_cons (ps_if (pt_cmpR op_isN (pv 2) pe_non (nomark _)) (pss_one (ps_ret pe_bl)) (pss_nil))
      (pss_cons (ps_if (pt_cmpR op_eq (pv 3) pe_str (nomark _)) (pss_one (ps_ret (pe_chain op_leA op_leA (pe_ix ix_tup (pv 0) pe_int (fun _ _ => rfl)) (pv 2) (pe_ix ix_tup (pv 0) pe_int (fun _ _ => rfl))))) (pss_nil))
      (pss_cons (ps_if (pt_cmpR op_eq (pv 3) pe_str (nomark _)) (pss_one (ps_ret (pe_cmpR op_in_seq (pv 2) (pe_ix ix_tup (pv 0) pe_int (fun _ _ => rfl)) rfl))) (pss_nil))
      (pss_cons (ps_set (i := 4) scMe.nd rfl (Or.inl rfl) (pe_dget (u1 hr.units) (pv 1) (pe_ix ix_tup (pv 0) pe_int (fun _ _ => rfl)) (fun _ _ => rfl)))
      (pss_one (ps_ret (pe_or (pe_cmpR op_isN (pv 4) pe_non (nomark _)) (pe_one (pe_cmpR op_ltA (pv 2) (pv 4) (nomark _)))))))))))), ?_⟩
    have dg : DGet H r (.str col) (some v) := hv ▸ DGet.k (k := tk col) hrow
    have w1 : V.str "within" ≠ V.str "given" := by decide +kernel
    have w2 : V.str "among" ≠ V.str "given" := by decide +kernel
    have w3 : V.str "before" ≠ V.str "given" := by decide +kernel
    have w4 : V.str "among" ≠ V.str "within" := by decide +kernel
    have w5 : V.str "before" ≠ V.str "within" := by decide +kernel
    have w6 : V.str "before" ≠ V.str "among" := by decide +kernel
    have a2 : atI (a :: V.str m.word :: V.str col :: m.rest) 2 = some (V.str col) := by cases m <;> rfl
    have a1 : atI (a :: V.str m.word :: V.str col :: m.rest) 1 = some (V.str m.word) := by cases m <;> rfl
    refine ⟨_, rfl, _, rfl, p, _, _, _, rfl, rfl, hp, a2, r, v, rfl, dg, ?_⟩
    try dsimp only
    refine ⟨_, rfl, p, _, _, _, rfl, rfl, hp, a1, ?_⟩
    try dsimp only
    refine ⟨_, rfl, ?_⟩
    refine ⟨rfl, _, rfl, ?_⟩
    cases m with
    | given =>
      rw [decide_eq_true (show V.str (Mt.word .given) = V.str "given" from rfl)]
      exact iteT ⟨_, rfl, rfl, q⟩
    | within lo hi =>
      rw [decide_eq_false (show ¬ V.str (Mt.word (.within lo hi)) = V.str "given" from w1)]
      refine iteF ?_
      unfold tNext
      dsimp only
      refine ⟨_, rfl, rfl, _, rfl, ?_⟩
      by_cases c : v = .non
      · rw [decide_eq_true c]
        refine iteT ?_
        have z := q
        unfold metP at z
        dsimp only at z
        rw [decide_eq_true c, Bool.true_or] at z
        exact z
      · rw [decide_eq_false c]
        refine iteF ?_
        dsimp only
        refine ⟨_, rfl, ?_⟩
        refine ⟨rfl, _, rfl, ?_⟩
        rw [decide_eq_true (show V.str (Mt.word (.within lo hi)) = V.str "within" from rfl)]
        obtain ⟨l1, l2⟩ := hm.resolve_left c
        have z := q
        unfold metP at z
        dsimp only at z
        rw [decide_eq_false c, Bool.false_or] at z
        refine iteT ⟨_, rfl, p, _, _, _, rfl, rfl, hp, rfl, _, rfl, ?_⟩
        refine ⟨l1, _, rfl, ?_⟩
        cases e : leV lo v with
        | true =>
          rw [e, Bool.true_and] at z
          exact iteT ⟨_, rfl, p, _, _, _, rfl, rfl, hp, rfl, l2, z⟩
        | false =>
          rw [e, Bool.false_and] at z
          exact iteF z
    | among q1 xs =>
      rw [decide_eq_false (show ¬ V.str (Mt.word (.among q1 xs)) = V.str "given" from w2)]
      refine iteF ?_
      unfold tNext
      dsimp only
      refine ⟨_, rfl, rfl, _, rfl, ?_⟩
      by_cases c : v = .non
      · rw [decide_eq_true c]
        refine iteT ?_
        have z := q
        unfold metP at z
        dsimp only at z
        rw [decide_eq_true c, Bool.true_or] at z
        exact z
      · rw [decide_eq_false c]
        refine iteF ?_
        dsimp only
        refine ⟨_, rfl, ?_⟩
        refine ⟨rfl, _, rfl, ?_⟩
        rw [decide_eq_false (show ¬ V.str (Mt.word (.among q1 xs)) = V.str "within" from w4)]
        refine iteF ?_
        dsimp only
        refine ⟨_, rfl, ?_⟩
        refine ⟨rfl, _, rfl, ?_⟩
        rw [decide_eq_true (show V.str (Mt.word (.among q1 xs)) = V.str "among" from rfl)]
        have z := q
        unfold metP at z
        dsimp only at z
        rw [decide_eq_false c, Bool.false_or] at z
        exact iteT ⟨_, rfl, _, rfl, p, _, _, _, rfl, rfl, hp, rfl, q1, xs, rfl, .inr hm.1, hm.2.1, hm.2.2, z⟩
    | before c2 v2 =>
      rw [decide_eq_false (show ¬ V.str (Mt.word (.before c2 v2)) = V.str "given" from w3)]
      refine iteF ?_
      unfold tNext
      dsimp only
      refine ⟨_, rfl, rfl, _, rfl, ?_⟩
      by_cases c : v = .non
      · rw [decide_eq_true c]
        refine iteT ?_
        have z := q
        unfold metP at z
        dsimp only at z
        rw [decide_eq_true c, Bool.true_or] at z
        exact z
      · rw [decide_eq_false c]
        refine iteF ?_
        dsimp only
        refine ⟨_, rfl, ?_⟩
        refine ⟨rfl, _, rfl, ?_⟩
        rw [decide_eq_false (show ¬ V.str (Mt.word (.before c2 v2)) = V.str "within" from w5)]
        refine iteF ?_
        dsimp only
        refine ⟨_, rfl, ?_⟩
        refine ⟨rfl, _, rfl, ?_⟩
        rw [decide_eq_false (show ¬ V.str (Mt.word (.before c2 v2)) = V.str "among" from w6)]
        refine iteF ?_
        dsimp only
        have z := q
        unfold metP at z
        dsimp only at z
        rw [decide_eq_false c, Bool.false_or] at z
        have dg2 : DGet H r (.str c2) (some v2) := hm.1 ▸ DGet.k (k := tk c2) hrow
        refine ⟨_, rfl, _, rfl, p, _, _, _, rfl, rfl, hp, rfl, r, v2, rfl, dg2, ?_⟩
        try dsimp only
        refine ⟨_, rfl, rfl, _, rfl, ?_⟩
        by_cases c3 : v2 = .non
        · rw [decide_eq_true c3]
          rw [decide_eq_true c3, Bool.true_or] at z
          exact iteT z
        · rw [decide_eq_false c3]
          rw [decide_eq_false c3, Bool.false_or] at z
          exact iteF ⟨_, rfl, _, rfl, (hm.2.resolve_left c).resolve_left c3, z⟩
end
end K21
set_option Elab.async false
set_option linter.all false
set_option maxRecDepth 100000
set_option maxHeartbeats 4000000
/-! k21: what a step does -/
namespace K21
open PySem PySem.Spec PyProof.Rows L2 Bs Xg TL Xk Xl K02 Gn
abbrev sDn : Stmt := top 21
inductive Deed where
  | cut (col : Str) (s : Nat) (nw : Addr) (news : List Str)
  | glue (cs : Addr) (cols : List Str) (sep : Str) (new : Str)
  | spell (col : Str) (ts : Addr) (ps : List (Str × Option Str))
  | read (col : Str) (fo : Addr) (f : Fm) (new : Str)
  | put (col : Str) (v : V)
  | met (col : Str) (m : Mt)
def Deed.items (a : V) : Deed → List V
  | .cut col s nw _ => [a, .str "cut", .str col, .str ⟨#[s]⟩, .ref nw]
  | .glue cs _ sep new => [a, .str "glue", .ref cs, .str sep, .str new]
  | .spell col ts _ => [a, .str "spell", .str col, .ref ts]
  | .read col fo _ new => [a, .str "read", .str col, .ref fo, .str new]
  | .put col v => [a, .str "put", .str col, v]
  | .met col m => a :: .str m.word :: .str col :: m.rest
def rowV (row : List (Key × V)) (c : Str) : V := (valV row (tk c)).getD .non
def txt : V → Option Str
  | .str z => some z
  | _ => none
/-- a column of texts -/
def TextCol (row : List (Key × V)) (c : Str) : Prop := ∃ x, valV row (tk c) = some (os x) ∧ (∀ z, x = some z → z.length ≤ 60000) ∧ ∀ z, x = some z → PyData.strOk z = true
theorem TextCol.val {row : List (Key × V)} {c : Str} (h : TextCol row c) : valV row (tk c) = some (os (txt (rowV row c))) ∧ ∀ z, txt (rowV row c) = some z → z.length ≤ 60000 := by
  obtain ⟨x, e, l, _⟩ := h
  have ev : rowV row c = os x := by unfold rowV; rw [e]; rfl
  have ex : txt (rowV row c) = x := by rw [ev]; cases x <;> rfl
  rw [ex]
  exact ⟨e, l⟩
theorem TextCol.good {row : List (Key × V)} {c : Str} (h : TextCol row c) : ∀ z, txt (rowV row c) = some z → PyData.strOk z = true := by
  obtain ⟨x, e, _, l⟩ := h
  have ev : rowV row c = os x := by unfold rowV; rw [e]; rfl
  have ex : txt (rowV row c) = x := by rw [ev]; cases x <;> rfl
  rw [ex]
  exact l
def Deed.ok (K : PySem.W.Frag) (H : Hp) (row : List (Key × V)) : Deed → Prop
  | .cut col s nw news => TextCol row col ∧ SqT K H nw (news.map V.str) ∧ s < 256 ∧ news.Nodup ∧ 1 ≤ news.length ∧ news.length ≤ 4
  | .glue cs cols sep _ => SqT K H cs (cols.map V.str) ∧ (∀ c ∈ cols, TextCol row c) ∧ sep.length ≤ 1 ∧ cols.length ≤ 4
  | .spell col ts ps => TextCol row col ∧ Pairs K H ts ps ∧ ps.length ≤ 10 ∧ ∀ pr ∈ ps, ∀ z, pr.2 = some z → PyData.strOk z = true
  | .read col fo f _ => TextCol row col ∧ SqT K H fo f.vals ∧ f.ok
  | .put col _ => (valV row (tk col)).isSome = true
  | .met col m => (valV row (tk col)).isSome = true ∧ m.ok K H row (rowV row col)
def doneP (row : List (Key × V)) : Deed → List (Key × V) × Bool
  | .cut col s _ news => cutP news ⟨#[s]⟩ (txt (rowV row col))
  | .glue _ cols sep new => ([(tk new, os (gluedP (fun c => txt (rowV row c)) cols sep))], false)
  | .spell col _ ps => ([(tk col, os (spellP (txt (rowV row col)) ps))], false)
  | .read col _ f new => readDP f new (txt (rowV row col))
  | .put col v => ([(tk col, if rowV row col = .non then v else rowV row col)], false)
  | .met col m => ([], !metP (rowV row col) m)
theorem rowV_some {row : List (Key × V)} {c : Str} (h : (valV row (tk c)).isSome = true) : valV row (tk c) = some (rowV row c) := by
  unfold rowV
  cases e : valV row (tk c) with
  | none => rw [e] at h; exact nomatch h
  | some v => rfl
theorem tupTy {K : PySem.W.Frag} {H : Hp} {a : Addr} {xs : List V} (e : SqT K H a xs) : TyX K H (.ref a) (.type "tuple") := by
  rcases e with (e | ⟨o, e⟩) | ⟨o, its, n, e, c, _⟩
  · exact .base (.tup e)
  · exact .fTuple e
  · exact .kTuple e c
theorem Mt.ok.same {K : PySem.W.Frag} {H H' : Hp} {row : List (Key × V)} {v : V} {m : Mt} (h : m.ok K H row v) (s : Same H H') : m.ok K H' row v := by
  cases m with
  | among q xs => exact ⟨sameT s h.1, h.2⟩
  | given => exact h
  | within lo hi => exact h
  | before c2 v2 => exact h
theorem mt_word (m : Mt) {x : Str} (a : V.str "given" ≠ .str x) (b : V.str "within" ≠ .str x) (c : V.str "among" ≠ .str x) (d : V.str "before" ≠ .str x) : ¬ V.str m.word = .str x := by
  cases m with
  | given => exact a
  | within _ _ => exact b
  | among _ _ => exact c
  | before _ _ => exact d
theorem updG {H G : Hp} {D : Addr} {o o' : HO} (s : Same (upd H D o) G) (n : H D = none) : Same H (upd G D o') := fun b u e => by
  rw [upd_ne (ne_of_none e n)]
  exact s b u (by rw [upd_ne (ne_of_none e n)]; exact e)
structure Stp (K : PySem.W.Frag) (mg : Str → Option Value) (fCW fCu fGl fSp fRdn fMe fDn : Addr) (dCW dCu dGl dSp dRdn dMe dDn : FuncData) : Prop where
  CW : Fun K "cell_worth" "cell_worth" sCW fCW dCW
  bCW : Binds K dCW ["text"] []
  gCW : mg "cell_worth" = some (.ref fCW)
  Cu : Fun K "cut_done" "cut_done" sCu fCu dCu
  bCu : Binds K dCu ["step", "text"] []
  gCu : mg "cut_done" = some (.ref fCu)
  Gl : Fun K "glued" "glued" sGl fGl dGl
  bGl : Binds K dGl ["step", "worths"] []
  gGl : mg "glued" = some (.ref fGl)
  Sp : Fun K "spelled" "spelled" sSp fSp dSp
  bSp : Binds K dSp ["step", "text"] []
  gSp : mg "spelled" = some (.ref fSp)
  Rdn : Fun K "read_done" "read_done" sRdn fRdn dRdn
  bRdn : Binds K dRdn ["step", "text"] []
  gRdn : mg "read_done" = some (.ref fRdn)
  Me : Fun K "is_met" "is_met" sMe fMe dMe
  bMe : Binds K dMe ["step", "worths"] []
  gMe : mg "is_met" = some (.ref fMe)
  Dn : Fun K "done" "done" sDn fDn dDn
  bDn : Binds K dDn ["step", "worths"] []
  gDn : mg "done" = some (.ref fDn)
section
variable {P : Program} {w : World} {K : PySem.W.Frag} {mg : Str → Option Value} {base : Heap}
variable {cM fLp fDi fAh fNu : Addr} {dLp dDi dAh dNu : FuncData} {cB fIF fRA fRD fDo fRs : Addr} {dIF dRA dRD dDo dRs : FuncData} {fCW fCu fGl fSp fRdn fMe fDn : Addr} {dCW dCu dGl dSp dRdn dMe dDn : FuncData}
theorem scDn : FnScope ["step", "worths", "word", "worth"] ["step", "worths"] (defScope sDn) := ⟨rfl, rfl, rfl, by decide +kernel, rfl, by decide +kernel, by decide +kernel⟩
def spDn (K : PySem.W.Frag) : Sp := fun vs H Q _ => ∃ (p r : Addr) (a : V) (row : List (Key × V)) (dd : Deed), vs = [.ref p, .ref r] ∧ SqT K H p (dd.items a) ∧ H r = some (.dK row) ∧ dd.ok K H row ∧ ∀ t H', Same H H' → Res H H' t (doneP row dd) → Q (.ref t) H'
theorem word_at (a : V) (dd : Deed) : ∃ wd, atI (dd.items a) 1 = some (.str wd) ∧ wd = (match dd with | .cut _ _ _ _ => ("cut" : Str) | .glue _ _ _ _ => "glue" | .spell _ _ _ => "spell" | .read _ _ _ _ => "read" | .put _ _ => "put" | .met _ m => m.word) := by
  cases dd with
  | met c m => cases m <;> exact ⟨_, rfl, rfl⟩
  | _ => exact ⟨_, rfl, rfl⟩
theorem ok_done (C : Cal K mg cM fLp fDi fAh fNu dLp dDi dAh dNu) (F : Frm K mg cB fIF fRA fRD fDo fRs dIF dRA dRD dDo dRs) (G : Stp K mg fCW fCu fGl fSp fRdn fMe fDn dCW dCu dGl dSp dRdn dMe dDn) (T : Free mg) : FnOk P w K mg base CX0 8 fDn dDn ["step", "worths"] (spDn K) := by
  have GCu : FnOk P w K mg base CX0 2 fCu dCu ["step", "text"] (spCu K) := ok_cut G.Cu T G.CW G.bCW G.gCW
  have GGl : FnOk P w K mg base CX0 1 fGl dGl ["step", "worths"] (spGl K) := ok_glued G.Gl T
  have GSp : FnOk P w K mg base CX0 1 fSp dSp ["step", "text"] (spSp K) := ok_spelled G.Sp
  have GRdn : FnOk P w K mg base CX0 7 fRdn dRdn ["step", "text"] (spRdn K) := ok_rdn G.Rdn C F T
  have GMe : FnOk P w K mg base CX0 1 fMe dMe ["step", "worths"] (spMe K) := ok_met G.Me
  have FCu := G.Cu
  have bCu := G.bCu
  have gCu := G.gCu
  have FGl := G.Gl
  have bGl := G.bGl
  have gGl := G.gGl
  have FSp := G.Sp
  have bSp := G.bSp
  have gSp := G.gSp
  have FRdn := G.Rdn
  have bRdn := G.bRdn
  have gRdn := G.gRdn
  have FMe := G.Me
  have bMe := G.bMe
  have gMe := G.gMe
  refine G.Dn.ok scDn (fun vs H Q E h => ?_) (fun cdv A outer s H vs Q E hr h => ?_)
  · obtain ⟨p, r, a, row, dd, rfl, _⟩ := h
    rfl
  · obtain ⟨p, r, a, row, dd, rfl, hp, hrow, ho, q⟩ := h
    refine ⟨_, pss_cons (ps_set (i := 2) scDn.nd rfl (Or.inl rfl) (pe_ix ix_tup (pv 0) pe_int (fun _ _ => rfl)))
      (pss_cons (ps_if (pt_cmpR op_eq (pv 2) pe_str (nomark _)) (pss_one (ps_ret (pe_call GCu (hr.mono (by decide)) (by rfl) gCu FCu.kp bCu .nil pass0 (pa_cons (pv 0) (pa_cons (pe_dget (u1 hr.units) (pv 1) (pe_ix ix_tup (pv 0) pe_int (fun _ _ => rfl)) (fun _ _ => rfl)) pa_nil))))) (pss_nil))
      (pss_cons (ps_if (pt_cmpR op_eq (pv 2) pe_str (nomark _)) (pss_one (ps_ret (pe_tup (pa_cons (pe_disp (pps_cons (pe_ix ix_tup (pv 0) pe_int (fun _ _ => rfl)) (pe_call GGl (hr.mono (by decide)) (by rfl) gGl FGl.kp bGl .nil pass0 (pa_cons (pv 0) (pa_cons (pv 1) pa_nil))) pps_nil) (by rfl) (by rfl) (fun z => by cases z) (by decide)) (pa_cons pe_bl pa_nil))))) (pss_nil))
      (pss_cons (ps_if (pt_cmpR op_eq (pv 2) pe_str (nomark _)) (pss_one (ps_ret (pe_tup (pa_cons (pe_disp (pps_cons (pe_ix ix_tup (pv 0) pe_int (fun _ _ => rfl)) (pe_call GSp (hr.mono (by decide)) (by rfl) gSp FSp.kp bSp .nil pass0 (pa_cons (pv 0) (pa_cons (pe_dget (u1 hr.units) (pv 1) (pe_ix ix_tup (pv 0) pe_int (fun _ _ => rfl)) (fun _ _ => rfl)) pa_nil))) pps_nil) (by rfl) (by rfl) (fun z => by cases z) (by decide)) (pa_cons pe_bl pa_nil))))) (pss_nil))
      (pss_cons (ps_if (pt_cmpR op_eq (pv 2) pe_str (nomark _)) (pss_one (ps_ret (pe_call GRdn (hr.mono (by decide)) (by rfl) gRdn FRdn.kp bRdn .nil pass0 (pa_cons (pv 0) (pa_cons (pe_dget (u1 hr.units) (pv 1) (pe_ix ix_tup (pv 0) pe_int (fun _ _ => rfl)) (fun _ _ => rfl)) pa_nil))))) (pss_nil))
      (pss_cons (ps_if (pt_cmpR op_eq (pv 2) pe_str (nomark _)) (pss_cons (ps_set (i := 3) scDn.nd rfl (Or.inl rfl) (pe_dget (u1 hr.units) (pv 1) (pe_ix ix_tup (pv 0) pe_int (fun _ _ => rfl)) (fun _ _ => rfl)))
      (pss_one (ps_ret (pe_tup (pa_cons (pe_disp (pps_cons (pe_ix ix_tup (pv 0) pe_int (fun _ _ => rfl)) (pe_ifExp (pt_cmpR op_isN (pv 3) pe_non (nomark _)) (pe_ix ix_tup (pv 0) pe_int (fun _ _ => rfl)) (pv 3)) pps_nil) (by rfl) (by rfl) (fun z => by cases z) (by decide)) (pa_cons pe_bl pa_nil)))))) (pss_nil))
      (pss_one (ps_ret (pe_tup (pa_cons pe_dnewK (pa_cons (pe_not (pe_call GMe (hr.mono (by decide)) (by rfl) gMe FMe.kp bMe .nil pass0 (pa_cons (pv 0) (pa_cons (pv 1) pa_nil)))) pa_nil)))))))))), ?_⟩
    obtain ⟨wd, ew, hw⟩ := word_at a dd
    refine ⟨_, rfl, p, _, _, _, rfl, rfl, hp, ew, ?_⟩
    try dsimp only
    have dgc : ∀ {c : Str} {v : V} {G : Hp}, Same H G → valV row (tk c) = some v → DGet G r (.str c) (some v) := fun s e => e ▸ DGet.k (k := tk _) (s _ _ hrow)
    have ss : Same H H := Same.refl H
    cases dd with
    | cut col s1 nw news =>
      subst hw
      refine ⟨_, rfl, ?_⟩
      refine ⟨rfl, _, rfl, ?_⟩
      rw [decide_eq_true (show V.str "cut" = V.str "cut" from rfl)]
      refine iteT ?_
      obtain ⟨tc, hn, sl, nod, _, few⟩ := ho
      exact ⟨_, rfl, _, rfl, _, rfl, p, _, _, _, rfl, rfl, hp, rfl, r, _, rfl, dgc ss tc.val.1, p, nw, _, _, _, s1, news, _, rfl, hp, hn, sl, nod, few, tc.val.2, q⟩
    | glue cs cols sep new =>
      subst hw
      refine ⟨_, rfl, ?_⟩
      refine ⟨rfl, _, rfl, ?_⟩
      rw [decide_eq_false (show ¬ V.str "glue" = V.str "cut" from by decide +kernel)]
      refine iteF ?_
      unfold tNext
      dsimp only
      refine ⟨_, rfl, ?_⟩
      refine ⟨rfl, _, rfl, ?_⟩
      rw [decide_eq_true (show V.str "glue" = V.str "glue" from rfl)]
      refine iteT ?_
      obtain ⟨hc, tc, sl, cl⟩ := ho
      refine fun D nD => ⟨_, rfl, p, _, _, _, rfl, rfl, sameT (Same.new nD) hp, rfl, _, rfl, _, rfl, p, r, cs, _, _, _, sep, cols, row, fun c => txt (rowV row c), rfl, sameT (Same.new nD) hp, sameT (Same.new nD) hc, Same.new nD _ _ hrow, fun c hm => (tc c hm).val, sl, cl, fun G2 s2 => ?_⟩
      refine ⟨s2 _ _ upd_same, [(tk new, os (gluedP (fun c => txt (rowV row c)) cols sep))], rfl, (show 1 ≤ 15 by decide), ?_⟩
      refine ⟨(show 2 ≤ sizeLine by decide), fun t ht => ?_⟩
      exact q t _ ((updG s2 nD).trans (Same.new ht)) ⟨D, (by first | exact nD | exact fresh_same (by assumption) nD), (upd_ne (ne_of_none upd_same ht)).trans upd_same, upd_same⟩
    | spell col ts ps =>
      subst hw
      refine ⟨_, rfl, ?_⟩
      refine ⟨rfl, _, rfl, ?_⟩
      rw [decide_eq_false (show ¬ V.str "spell" = V.str "cut" from by decide +kernel)]
      refine iteF ?_
      unfold tNext
      dsimp only
      refine ⟨_, rfl, ?_⟩
      refine ⟨rfl, _, rfl, ?_⟩
      rw [decide_eq_false (show ¬ V.str "spell" = V.str "glue" from by decide +kernel)]
      refine iteF ?_
      dsimp only
      refine ⟨_, rfl, ?_⟩
      refine ⟨rfl, _, rfl, ?_⟩
      rw [decide_eq_true (show V.str "spell" = V.str "spell" from rfl)]
      refine iteT ?_
      obtain ⟨tc, hps, _⟩ := ho
      refine fun D nD => ⟨_, rfl, p, _, _, _, rfl, rfl, sameT (Same.new nD) hp, rfl, _, rfl, _, rfl, _, rfl, p, _, _, _, rfl, rfl, sameT (Same.new nD) hp, rfl, r, _, rfl, dgc (Same.new nD) tc.val.1, p, ts, _, _, _, ps, _, rfl, sameT (Same.new nD) hp, hps.same (Same.new nD), fun G2 s2 => ?_⟩
      refine ⟨s2 _ _ upd_same, [(tk col, os (spellP (txt (rowV row col)) ps))], rfl, (show 1 ≤ 15 by decide), ?_⟩
      refine ⟨(show 2 ≤ sizeLine by decide), fun t ht => ?_⟩
      exact q t _ ((updG s2 nD).trans (Same.new ht)) ⟨D, (by first | exact nD | exact fresh_same (by assumption) nD), (upd_ne (ne_of_none upd_same ht)).trans upd_same, upd_same⟩
    | read col fo f new =>
      subst hw
      refine ⟨_, rfl, ?_⟩
      refine ⟨rfl, _, rfl, ?_⟩
      rw [decide_eq_false (show ¬ V.str "read" = V.str "cut" from by decide +kernel)]
      refine iteF ?_
      unfold tNext
      dsimp only
      refine ⟨_, rfl, ?_⟩
      refine ⟨rfl, _, rfl, ?_⟩
      rw [decide_eq_false (show ¬ V.str "read" = V.str "glue" from by decide +kernel)]
      refine iteF ?_
      dsimp only
      refine ⟨_, rfl, ?_⟩
      refine ⟨rfl, _, rfl, ?_⟩
      rw [decide_eq_false (show ¬ V.str "read" = V.str "spell" from by decide +kernel)]
      refine iteF ?_
      dsimp only
      refine ⟨_, rfl, ?_⟩
      refine ⟨rfl, _, rfl, ?_⟩
      rw [decide_eq_true (show V.str "read" = V.str "read" from rfl)]
      refine iteT ?_
      obtain ⟨tc, hf, fok⟩ := ho
      exact ⟨_, rfl, _, rfl, _, rfl, p, _, _, _, rfl, rfl, hp, rfl, r, _, rfl, dgc ss tc.val.1, p, fo, _, _, _, f, new, _, rfl, hp, hf, fok, tc.val.2, q⟩
    | put col v =>
      subst hw
      refine ⟨_, rfl, ?_⟩
      refine ⟨rfl, _, rfl, ?_⟩
      rw [decide_eq_false (show ¬ V.str "put" = V.str "cut" from by decide +kernel)]
      refine iteF ?_
      unfold tNext
      dsimp only
      refine ⟨_, rfl, ?_⟩
      refine ⟨rfl, _, rfl, ?_⟩
      rw [decide_eq_false (show ¬ V.str "put" = V.str "glue" from by decide +kernel)]
      refine iteF ?_
      dsimp only
      refine ⟨_, rfl, ?_⟩
      refine ⟨rfl, _, rfl, ?_⟩
      rw [decide_eq_false (show ¬ V.str "put" = V.str "spell" from by decide +kernel)]
      refine iteF ?_
      dsimp only
      refine ⟨_, rfl, ?_⟩
      refine ⟨rfl, _, rfl, ?_⟩
      rw [decide_eq_false (show ¬ V.str "put" = V.str "read" from by decide +kernel)]
      refine iteF ?_
      dsimp only
      refine ⟨_, rfl, ?_⟩
      refine ⟨rfl, _, rfl, ?_⟩
      rw [decide_eq_true (show V.str "put" = V.str "put" from rfl)]
      refine iteT ?_
      have hv := rowV_some ho
      refine ⟨_, rfl, _, rfl, p, _, _, _, rfl, rfl, hp, rfl, r, _, rfl, dgc ss hv, ?_⟩
      try dsimp only
      refine fun D nD => ⟨_, rfl, p, _, _, _, rfl, rfl, sameT (Same.new nD) hp, rfl, _, rfl, rfl, _, rfl, ?_⟩
      have fin : ∀ u : V, u = (if rowV row col = .non then v else rowV row col) → ∀ t, upd (upd H D (.dK [])) D (.dK (mergeK [] [(tk col, u)])) t = none → Q (.ref t) (upd (upd (upd H D (.dK [])) D (.dK (mergeK [] [(tk col, u)]))) t (.tup [.ref D, .bl false])) := by
        rintro u rfl t ht
        exact q t _ ((upd2 nD).trans (Same.new ht)) ⟨D, (by first | exact nD | exact fresh_same (by assumption) nD), (upd_ne (ne_of_none upd_same ht)).trans upd_same, upd_same⟩
      by_cases c : rowV row col = .non
      · rw [decide_eq_true c]
        refine iteT ⟨_, rfl, p, _, _, _, rfl, rfl, sameT (Same.new nD) hp, rfl, ?_⟩
        exact ⟨upd_same, [(tk col, v)], rfl, (show 1 ≤ 15 by decide), (show 2 ≤ sizeLine by decide), fin v (if_pos c).symm⟩
      · rw [decide_eq_false c]
        refine iteF ⟨_, rfl, ?_⟩
        exact ⟨upd_same, [(tk col, rowV row col)], rfl, (show 1 ≤ 15 by decide), (show 2 ≤ sizeLine by decide), fin _ (if_neg c).symm⟩
    | met col m =>
      subst hw
      refine ⟨_, rfl, ?_⟩
      refine ⟨rfl, _, rfl, ?_⟩
      rw [decide_eq_false (show ¬ V.str m.word = V.str "cut" from mt_word m (by decide +kernel) (by decide +kernel) (by decide +kernel) (by decide +kernel))]
      refine iteF ?_
      unfold tNext
      dsimp only
      refine ⟨_, rfl, ?_⟩
      refine ⟨rfl, _, rfl, ?_⟩
      rw [decide_eq_false (show ¬ V.str m.word = V.str "glue" from mt_word m (by decide +kernel) (by decide +kernel) (by decide +kernel) (by decide +kernel))]
      refine iteF ?_
      dsimp only
      refine ⟨_, rfl, ?_⟩
      refine ⟨rfl, _, rfl, ?_⟩
      rw [decide_eq_false (show ¬ V.str m.word = V.str "spell" from mt_word m (by decide +kernel) (by decide +kernel) (by decide +kernel) (by decide +kernel))]
      refine iteF ?_
      dsimp only
      refine ⟨_, rfl, ?_⟩
      refine ⟨rfl, _, rfl, ?_⟩
      rw [decide_eq_false (show ¬ V.str m.word = V.str "read" from mt_word m (by decide +kernel) (by decide +kernel) (by decide +kernel) (by decide +kernel))]
      refine iteF ?_
      dsimp only
      refine ⟨_, rfl, ?_⟩
      refine ⟨rfl, _, rfl, ?_⟩
      rw [decide_eq_false (show ¬ V.str m.word = V.str "put" from mt_word m (by decide +kernel) (by decide +kernel) (by decide +kernel) (by decide +kernel))]
      refine iteF ?_
      dsimp only
      obtain ⟨hs, hm⟩ := ho
      have hv := rowV_some hs
      refine fun D nD => ⟨_, rfl, _, rfl, p, r, a, col, row, _, m, rfl, sameT (Same.new nD) hp, Same.new nD _ _ hrow, hv, hm.same (Same.new nD), ?_⟩
      refine ⟨_, rfl, ?_⟩
      refine ⟨(show 2 ≤ sizeLine by decide), fun t ht => ?_⟩
      exact q t _ ((Same.new nD).trans (Same.new ht)) ⟨D, (by first | exact nD | exact fresh_same (by assumption) nD), (upd_ne (ne_of_none upd_same ht)).trans upd_same, upd_same⟩
end
end K21
set_option Elab.async false
set_option linter.all false
set_option maxRecDepth 100000
set_option maxHeartbeats 4000000
/-! Xv: list(zip(a, b)): the rule. -/
namespace Xv
open PySem PySem.Spec PyProof.Rows L2 Xz Xk
theorem zip_no_len : typeLookup (.type "zip") "__len__" = pure none := am_miss_of_fast (by decide +kernel)
theorem zip_no_hint : typeLookup (.type "zip") "__length_hint__" = pure none := am_miss_of_fast (by decide +kernel)
section
variable {prog : Program} {w : World} {A : Around} {E : Value → Shared → Prop} {s : Shared} {zz ti to ia ib S : Addr} {fa fb : List Addr} {na nb : Nat} {Pa Pb : Nat → Value → Prop} {Sa Sb : Nat → Heap → Prop}
/-- the zip under way, while the list at S is filled -/
def Sz (zz ti to ia ib S : Addr) (Sa Sb : Nat → Heap → Prop) (i : Nat) (h : Heap) : Prop := IsTupOf2 h ti (.ref ia) (.ref ib) ∧ Sa i h ∧ Sb i h ∧
  ((i = 0 ∧ IsZip h zz ti to .none ∧ ∃ x y, IsTupOf2 h to x y) ∨ ∃ tt fl ot, IsZipHeld h zz ti to tt fl ∧ h.get? tt = some ot ∧ tt ≠ zz ∧ tt ≠ ia ∧ tt ≠ ib ∧ tt ≠ S)
/-- the tuples made -/
def Mz (zz ia ib S : Addr) (Pa Pb : Nat → Value → Prop) (h : Heap) (acc : List Addr) (i : Nat) : Prop := acc.length = i ∧ ∀ (j : Nat) (T : Addr), acc[j]? = some T → ∃ x y, IsTupOf2 h T x y ∧ Pa j x ∧ Pb j y ∧ T ≠ zz ∧ T ≠ ia ∧ T ≠ ib ∧ T ≠ S
theorem sz_frame (Da : ∀ A : Around, A.handled = none → Draws prog w A ia fa na Pa Sa) (Db : ∀ A : Around, A.handled = none → Draws prog w A ib fb nb Pb Sb) (d0 : S ≠ zz) (d1 : S ≠ ti) (d2 : S ≠ to) (d3 : S ∉ fa) (d4 : S ∉ fb) {i : Nat} {h1 h2 : Heap}
    (st : Sz zz ti to ia ib S Sa Sb i h1) (kp : ∀ b o, b ≠ S → h1.get? b = some o → h2.get? b = some o) : Sz zz ti to ia ib S Sa Sb i h2 := by
  obtain ⟨p2, p4, p5, p1⟩ := st
  refine ⟨kp _ _ (Ne.symm d1) p2, (Da {} rfl).frame _ _ _ p4 fun b hb o e => kp b o (fun z => d3 (z ▸ hb)) e, (Db {} rfl).frame _ _ _ p5 fun b hb o e => kp b o (fun z => d4 (z ▸ hb)) e, ?_⟩
  rcases p1 with ⟨i0, p1, x, y, p3⟩ | ⟨tt, fl, ot, p1, p3, r1, r2, r3, r4⟩
  · exact .inl ⟨i0, kp _ _ (Ne.symm d0) p1, x, y, kp _ _ (Ne.symm d2) p3⟩
  · exact .inr ⟨tt, fl, ot, kp _ _ (Ne.symm d0) p1, kp _ _ r4 p3, r1, r2, r3, r4⟩
theorem z_item {i : Nat} {Q : Option Value → Shared → Prop} (Z : ZipSep2 zz ti to ia ib fa fb) (Da : ∀ A : Around, A.handled = none → Draws prog w A ia fa na Pa Sa) (Db : ∀ A : Around, A.handled = none → Draws prog w A ib fb nb Pb Sb) (hA : A.in1.handled = none)
    (hi : i < min na nb) (st : Sz zz ti to ia ib S Sa Sb i s.heap) (hds : S < s.heap.objs.size)
    (fin : ∀ x y h' tk, Pa i x → Pb i y → IsTupOf2 h' s.heap.objs.size x y → s.heap.objs.size ≠ zz → s.heap.objs.size ≠ ia → s.heap.objs.size ≠ ib → Sz zz ti to ia ib S Sa Sb (i + 1) h' → h'.objs.size = s.heap.objs.size + 1 →
      (∀ c o, c ≠ zz → c ≠ ia → c ≠ ib → (i = 0 → c ≠ to) → s.heap.get? c = some o → h'.get? c = some o) → Q (some (.ref s.heap.objs.size)) { s with heap := h', toks := tk }) :
    wpAny (model prog w) A (pyNext (.ref zz)) Q E s := by
  obtain ⟨p2, p4, p5, p1⟩ := st
  have ja : i < na := by omega
  have jb : i < nb := by omega
  have up : ∀ {c o}, s.heap.get? c = some o → s.heap.objs.size ≠ c := fun e => Nat.ne_of_gt (Heap.lt_size e)
  have u1 : s.heap.objs.size ≠ ia := let ⟨_, e⟩ := (Da {} rfl).live _ _ p4; up e
  have u2 : s.heap.objs.size ≠ ib := let ⟨_, e⟩ := (Db {} rfl).live _ _ p5; up e
  rcases p1 with ⟨i0, p1, x, y, p3⟩ | ⟨tt, fl, ot, p1, p3, r1, r2, r3, r4⟩
  · refine wpAny_pyNext_zipD2_item Z (Da _ hA) (Db _ hA) p1 p2 p3 p4 p5 ja jb fun x1 x2 h' tk y1 y2 z1 z2 z3 z4 z5 z6 kp => ?_
    exact fin _ _ h' tk y1 y2 z5 (up p1) u1 u2 ⟨kp _ _ Z.TIz Z.TITO Z.TIi1 Z.TIi2 p2, z3, z4, .inr ⟨s.heap.objs.size, false, _, z1, z5, up p1, u1, u2, Nat.ne_of_gt hds⟩⟩ z6
      fun c o h1 h2 h3 h4 e => kp c o h1 (h4 i0) h2 h3 e
  · refine turn_item Z (Da _ hA) (Db _ hA) p1 p3 p2 p4 p5 ja jb fun x1 x2 h' tk y1 y2 z1 z3 z4 z5 z6 kp => ?_
    exact fin _ _ h' tk y1 y2 z5 (up p1) u1 u2 ⟨kp _ _ Z.TIz Z.TIi1 Z.TIi2 p2, z3, z4, .inr ⟨tt, true, ot, z1, kp _ _ r1 r2 r3 p3, r1, r2, r3, r4⟩⟩ z6
      fun c o h1 h2 h3 _ e => kp c o h1 h2 h3 e
theorem z_done {Q : Option Value → Shared → Prop} (Z : ZipSep2 zz ti to ia ib fa fb) (Da : ∀ A : Around, A.handled = none → Draws prog w A ia fa na Pa Sa) (Db : ∀ A : Around, A.handled = none → Draws prog w A ib fb nb Pb Sb) (hA : A.in1.handled = none)
    (st : Sz zz ti to ia ib S Sa Sb (min na nb) s.heap)
    (fin : ∀ h' tk, (∀ c o, c ≠ zz → c ≠ ia → c ≠ ib → (min na nb = 0 → c ≠ to) → s.heap.get? c = some o → h'.get? c = some o) → Q none { s with heap := h', toks := tk }) :
    wpAny (model prog w) A (pyNext (.ref zz)) Q E s := by
  obtain ⟨p2, p4, p5, p1⟩ := st
  rcases p1 with ⟨i0, p1, x, y, p3⟩ | ⟨tt, fl, ot, p1, p3, r1, r2, r3, r4⟩
  · exact wpAny_pyNext_zipD2_end Z (Da _ hA) (Db _ hA) p1 p2 p3 p4 p5 (by omega) (by omega) (by omega) fun h' tk kp => fin h' tk fun c o h1 h2 h3 h4 e => kp c o h1 (h4 i0) h2 h3 e
  · exact turn_end Z (Da _ hA) (Db _ hA) p1 p3 p2 p4 p5 (by omega) (by omega) (by omega) fun h' tk kp => fin h' tk fun c o h1 h2 h3 _ e => kp c o h1 h2 h3 e
theorem z_loop {R : Result → Shared → Prop} (Z : ZipSep2 zz ti to ia ib fa fb) (Da : ∀ A : Around, A.handled = none → Draws prog w A ia fa na Pa Sa) (Db : ∀ A : Around, A.handled = none → Draws prog w A ib fb nb Pb Sb) (hA : A.handled = none)
    (d0 : S ≠ zz) (d1 : S ≠ ti) (d2 : S ≠ to) (d3 : S ∉ fa) (d4 : S ∉ fb) (d5 : S ≠ ia) (d6 : S ≠ ib) (few : min na nb ≤ sizeLine) (res : Value) :
    ∀ (k i : Nat) (s : Shared) (acc : List Addr) (c : Nat), min na nb - i = k → i ≤ min na nb → Sz zz ti to ia ib S Sa Sb i s.heap → s.heap.get? S = some { cls := .type "list", dict := none, data := .seq (acc.map Value.ref).toArray c, slots := #[] } → Mz zz ia ib S Pa Pb s.heap acc i → S < s.heap.objs.size → (0 < i → ∀ T ∈ acc, T < s.heap.objs.size) →
    (∀ h' tk acc' c', (∀ b o, b ≠ S → b ≠ zz → b ≠ ia → b ≠ ib → (i = 0 → b ≠ to) → s.heap.get? b = some o → h'.get? b = some o) → h'.get? S = some { cls := .type "list", dict := none, data := .seq (acc'.map Value.ref).toArray c', slots := #[] } → Mz zz ia ib S Pa Pb h' acc' (min na nb) → acc <+: acc' → (∀ T ∈ acc', T ∈ acc ∨ s.heap.objs.size ≤ T) → (acc.Nodup → acc'.Nodup) → R (.ok (.ret res)) { s with heap := h', toks := tk }) →
    codeAny (model prog w) A (.builtin "list.extend.loop" ⟨[.ref S, .ref zz, res], []⟩) R s := by
  have hA1 : A.in1.in1.handled = none := by simp [hA]
  intro k
  induction k with
  | zero =>
    intro i s acc c hk hi hst hS hacc hSs hal hR
    have hin : i = min na nb := by omega
    subst hin
    refine codeAny_builtin F.entry_extend_loop ?_
    rw [Around.under_plainId F.plain_extend_loop _]
    show wpAny _ A.in1 (pyNext (.ref zz) >>= _) _ _ s
    refine wpAny_bind (z_done Z Da Db hA1 hst fun h' tk kp => ?_)
    have hS' := kp S _ d0 d5 d6 (fun _ => d2) hS
    refine wpAny_pure (hR h' tk acc c (fun b o h0 h1 h2 h3 h4 e => kp b o h1 h2 h3 h4 e) hS' ⟨hacc.1, fun j T e => ?_⟩ (List.prefix_refl _) (fun T hT => .inl hT) fun h => h)
    obtain ⟨x, y, t, px, py, n1, n2, n3, n4⟩ := hacc.2 j T e
    refine ⟨x, y, kp T _ n1 n2 n3 (fun z => ?_) t, px, py, n1, n2, n3, n4⟩
    have := (List.getElem?_eq_some_iff.mp e).1
    have := hacc.1
    omega
  | succ k ih =>
    intro i s acc c hk hi hst hS hacc hSs hal hR
    have hlt : i < min na nb := by omega
    refine codeAny_builtin F.entry_extend_loop ?_
    rw [Around.under_plainId F.plain_extend_loop _]
    show wpAny _ A.in1 (pyNext (.ref zz) >>= _) _ _ s
    refine wpAny_bind (z_item Z Da Db hA1 hlt hst hSs fun x y h1 tk px py tT t1 t2 t3 st' sz kp => ?_)
    have hS' := kp S _ d0 d5 d6 (fun _ => d2) hS
    show wpAny _ A.in1 (updateSeq S (·.push (Value.ref s.heap.objs.size)) >>= _) _ _ _
    refine wpAny_bind ?_
    have szl : (acc.map Value.ref).toArray.size = i := by rw [List.size_toArray, List.length_map, hacc.1]
    refine wpAny_updateSeq hS' rfl (wpAny_pure ⟨plainId_quiet F.plain_extend_loop _, ?_⟩) (by rw [szl]; omega) (by show ((acc.map Value.ref).toArray.push _).size ≤ sizeLine + 1; rw [Array.size_push, szl]; omega)
    have tS : s.heap.objs.size ≠ S := Nat.ne_of_gt hSs
    have oth : ∀ b o, b ≠ S → h1.get? b = some o → (h1.update S (Obj.mapSeq (·.push (Value.ref s.heap.objs.size)))).get? b = some o := fun b o hb e => (Heap.get?_update_other _ _ (Ne.symm hb)).trans e
    have gS := Heap.get?_update_self (Obj.mapSeq (·.push (Value.ref s.heap.objs.size))) hS' rfl
    have eS : ((acc.map Value.ref).toArray.push (Value.ref s.heap.objs.size)) = ((acc ++ [s.heap.objs.size]).map Value.ref).toArray := by simp
    have sz2 : (h1.update S (Obj.mapSeq (·.push (Value.ref s.heap.objs.size)))).objs.size = s.heap.objs.size + 1 := by rw [Heap.size_update, sz]
    refine ih (i + 1) { s with heap := _, toks := tk } (acc ++ [s.heap.objs.size]) _ (by omega) hlt (sz_frame Da Db d0 d1 d2 d3 d4 st' oth) (by rw [← eS]; exact gS) ⟨by rw [List.length_append, hacc.1]; rfl, fun j T e => ?_⟩ (Nat.lt_of_lt_of_eq (Nat.lt_succ_of_lt hSs) sz2.symm) (fun _ T hT => ?_) fun h' tk' acc' c' kp' hS2 hacc' pf mem nd => ?_
    · by_cases hj : j < acc.length
      · rw [List.getElem?_append_left hj] at e
        obtain ⟨x', y', t, px', py', n1, n2, n3, n4⟩ := hacc.2 j T e
        exact ⟨x', y', oth T _ n4 (kp T _ n1 n2 n3 (fun z => by have := hacc.1; omega) t), px', py', n1, n2, n3, n4⟩
      · rw [List.getElem?_append_right (by omega)] at e
        have j0 : j - acc.length = 0 := by
          have := (List.getElem?_eq_some_iff.mp e).1
          simp at this
          omega
        rw [j0] at e
        cases e
        have ji : j = i := by have := hacc.1; omega
        subst ji
        exact ⟨x, y, oth _ _ tS tT, px, py, t1, t2, t3, tS⟩
    · refine Nat.lt_of_lt_of_eq ?_ sz2.symm
      rcases List.mem_append.mp hT with hT | hT
      · by_cases i0 : 0 < i
        · exact Nat.lt_succ_of_lt (hal i0 T hT)
        · have : acc = [] := List.eq_nil_of_length_eq_zero (by have := hacc.1; omega)
          rw [this] at hT
          exact absurd hT (List.not_mem_nil)
      · rw [List.mem_singleton.mp hT]
        exact Nat.lt_succ_self _
    · refine hR h' tk' acc' c' (fun b o h0 h1 h2 h3 h4 e => kp' b o h0 h1 h2 h3 (fun z => absurd z (Nat.succ_ne_zero i)) (oth b o h0 (kp b o h1 h2 h3 h4 e))) hS2 hacc' ((List.prefix_append _ _).trans pf) (fun T hT => ?_) fun ndA => nd ?_
      · rcases mem T hT with q | q
        · rcases List.mem_append.mp q with q | q
          · exact .inl q
          · exact .inr (by rw [List.mem_singleton.mp q]; exact Nat.le_refl _)
        · exact .inr (by
            have q' : (h1.update S (Obj.mapSeq (·.push (Value.ref s.heap.objs.size)))).objs.size ≤ T := q
            rw [sz2] at q'
            omega)
      · refine List.nodup_append.mpr ⟨ndA, by simp, fun a ha b hb => ?_⟩
        rw [List.mem_singleton.mp hb]
        by_cases i0 : 0 < i
        · exact Nat.ne_of_lt (hal i0 a ha)
        · have : acc = [] := List.eq_nil_of_length_eq_zero (by have := hacc.1; omega)
          rw [this] at ha
          exact absurd ha (List.not_mem_nil)
theorem z_extend {R : Result → Shared → Prop} {c₀ : Nat} {x0 y0 : Value} (Z : ZipSep2 zz ti to ia ib fa fb) (Da : ∀ A : Around, A.handled = none → Draws prog w A ia fa na Pa Sa) (Db : ∀ A : Around, A.handled = none → Draws prog w A ib fb nb Pb Sb) (hA : A.handled = none)
    (d0 : S ≠ zz) (d1 : S ≠ ti) (d2 : S ≠ to) (d3 : S ∉ fa) (d4 : S ∉ fb) (d5 : S ≠ ia) (d6 : S ≠ ib) (few : min na nb ≤ sizeLine) (res : Value)
    (hz : IsZip s.heap zz ti to .none) (hti : IsTupOf2 s.heap ti (.ref ia) (.ref ib)) (hto : IsTupOf2 s.heap to x0 y0) (sa : Sa 0 s.heap) (sb : Sb 0 s.heap) (hS : s.heap.get? S = some { cls := .type "list", data := .seq #[] c₀ })
    (hR : ∀ h' tk acc' c', (∀ b o, b ≠ S → b ≠ zz → b ≠ ia → b ≠ ib → b ≠ to → s.heap.get? b = some o → h'.get? b = some o) → h'.get? S = some { cls := .type "list", dict := none, data := .seq (acc'.map Value.ref).toArray c', slots := #[] } → Mz zz ia ib S Pa Pb h' acc' (min na nb) → (∀ T ∈ acc', s.heap.objs.size ≤ T) → acc'.Nodup → R (.ok (.ret res)) { s with heap := h', toks := tk }) :
    wpAny (model prog w) A.in1 (Builtin.List.listExtendWith (.ref S) (.ref zz) res)
      (fun fin s' => match fin with | .done f => R (.ok f) s' | .again c' => c'.quiet = true ∧ codeAny (model prog w) A c' R s') (fun e s' => R (.error e) s') s := by
  have ty : ∀ tk : Nat, Shared.TypeIs { s with toks := tk } (.ref zz) "zip" := fun _ => ⟨_, hz, rfl⟩
  unfold Builtin.List.listExtendWith
  refine wpAny_bind (wpAny_typeOf (T := "zip") ⟨_, hz, rfl⟩ ?_)
  have h1 : Builtin.List.listSameRef (.ref S) (.ref zz) = false := by simp [Builtin.List.listSameRef, d0]
  have h2 : (Value.type "zip" == Value.type "list") = false := by decide
  have h3 : (Value.type "zip" == Value.type "tuple") = false := by decide
  simp only [h1, h2, h3, Bool.or_false, Bool.false_eq_true, if_false]
  refine wpAny_bind (wpAny_pyIter_zip hz ?_)
  refine wpAny_bind (wpAny_holding ?_)
  unfold Builtin.List.listLengthHint
  refine wpAny_bind (wpAny_specialOf (T := "zip") ⟨_, hz, rfl⟩ zip_no_len ?_)
  show wpAny _ A.in1 (specialOf (Value.ref zz) (Str.ofString "__length_hint__") >>= _) _ _ _
  refine wpAny_bind (wpAny_specialOf (T := "zip") ⟨_, hz, rfl⟩ zip_no_hint ?_)
  refine wpAny_pure ?_
  show wpAny _ A.in1 (rule "list.extend.makes-room" >>= fun _ => Builtin.List.listTouch (.ref S) >>= fun _ =>
    again (.builtin "list.extend.loop" ⟨[.ref S, .ref zz, res], []⟩)) _ _ _
  refine wpAny_bind (wpAny_rule ?_)
  refine wpAny_bind ?_
  show wpAny _ A.in1 (updateSeq S (·.push .none) >>= fun _ => updateSeq S (·.pop)) _ _ _
  refine wpAny_bind (wpAny_updateSeq hS rfl ?_)
  have hS₂ := Heap.get?_update_self (Obj.mapSeq (·.push Value.none)) hS rfl
  refine wpAny_updateSeq (hz := by seq_fits) hS₂ rfl ?_
  have hS₃ := Heap.get?_update_self (Obj.mapSeq (·.pop)) hS₂ rfl
  have oth : ∀ b o, b ≠ S → s.heap.get? b = some o → ((s.heap.update S (Obj.mapSeq (·.push Value.none))).update S (Obj.mapSeq (·.pop))).get? b = some o :=
    fun b o hb e => (Heap.get?_update_other _ _ (Ne.symm hb)).trans ((Heap.get?_update_other _ _ (Ne.symm hb)).trans e)
  have sz : ((s.heap.update S (Obj.mapSeq (·.push Value.none))).update S (Obj.mapSeq (·.pop))).objs.size = s.heap.objs.size := by rw [Heap.size_update, Heap.size_update]
  refine wpAny_pure ⟨plainId_quiet F.plain_extend_loop _, z_loop Z Da Db hA d0 d1 d2 d3 d4 d5 d6 few res (min na nb) 0 { s with heap := _ } [] _ rfl (Nat.zero_le _)
    (sz_frame Da Db d0 d1 d2 d3 d4 (h1 := s.heap) ⟨hti, sa, sb, .inl ⟨rfl, hz, _, _, hto⟩⟩ oth) hS₃ ⟨rfl, fun j T e => by simp at e⟩ (Nat.lt_of_lt_of_eq (Heap.lt_size hS) sz.symm) (fun z => absurd z (Nat.lt_irrefl 0)) fun h' tk acc' c' kp hS' m _ mem nd => ?_⟩
  refine hR h' tk acc' c' (fun b o q0 q1 q2 q3 q4 e => kp b o q0 q1 q2 q3 (fun _ => q4) (oth b o q0 e)) hS' m (fun T hT => ?_) (nd List.nodup_nil)
  rcases mem T hT with q | q
  · exact absurd q (List.not_mem_nil)
  · exact Nat.le_trans (Nat.le_of_eq sz.symm) q
theorem z_init {R : Result → Shared → Prop} {x0 y0 : Value} (Z : ZipSep2 zz ti to ia ib fa fb) (Da : ∀ A : Around, A.handled = none → Draws prog w A ia fa na Pa Sa) (Db : ∀ A : Around, A.handled = none → Draws prog w A ib fb nb Pb Sb) (hA : A.handled = none)
    (d0 : S ≠ zz) (d1 : S ≠ ti) (d2 : S ≠ to) (d3 : S ∉ fa) (d4 : S ∉ fb) (d5 : S ≠ ia) (d6 : S ≠ ib) (few : min na nb ≤ sizeLine)
    (hz : IsZip s.heap zz ti to .none) (hti : IsTupOf2 s.heap ti (.ref ia) (.ref ib)) (hto : IsTupOf2 s.heap to x0 y0) (sa : Sa 0 s.heap) (sb : Sb 0 s.heap) (hS : s.heap.get? S = some { cls := .type "list", data := .seq #[] })
    (hR : ∀ h' tk acc' c', (∀ b o, b ≠ S → b ≠ zz → b ≠ ia → b ≠ ib → b ≠ to → s.heap.get? b = some o → h'.get? b = some o) → h'.get? S = some { cls := .type "list", dict := none, data := .seq (acc'.map Value.ref).toArray c', slots := #[] } → Mz zz ia ib S Pa Pb h' acc' (min na nb) → (∀ T ∈ acc', s.heap.objs.size ≤ T) → acc'.Nodup → R (.ok (.ret .none)) { s with heap := h', toks := tk }) :
    wpAny (model prog w) A.in1 (Builtin.«list.__init__» ⟨[.ref S, .ref zz], []⟩)
      (fun fin s' => match fin with | .done f => R (.ok f) s' | .again c' => c'.quiet = true ∧ codeAny (model prog w) A c' R s') (fun e s' => R (.error e) s') s := by
  show wpAny _ _ (do let old ← Builtin.List.listItems (.ref S); Builtin.List.listUpdate (.ref S) (fun _ => #[]); letGo old.toList.reverse; Builtin.List.listExtendWith (.ref S) (.ref zz) .none) _ _ s
  refine wpAny_bind ?_
  unfold Builtin.List.listItems
  refine wpAny_bind (wpAny_seqItems hS rfl (wpAny_pure ?_))
  show wpAny _ _ (updateSeq S (fun _ => #[]) >>= fun _ => letGo (#[] : Array Value).toList.reverse >>= fun _ => Builtin.List.listExtendWith (.ref S) (.ref zz) .none) _ _ s
  refine wpAny_bind (wpAny_updateSeq hS rfl ?_)
  have hS₂ := Heap.get?_update_self (Obj.mapSeq (fun _ => (#[] : Array Value))) hS rfl
  have oth : ∀ b o, b ≠ S → s.heap.get? b = some o → (s.heap.update S (Obj.mapSeq (fun _ => (#[] : Array Value)))).get? b = some o :=
    fun b o hb e => (Heap.get?_update_other _ _ (Ne.symm hb)).trans e
  refine wpAny_bind (wpAny_letGo ?_)
  refine z_extend Z Da Db hA d0 d1 d2 d3 d4 d5 d6 few .none (oth _ _ (Ne.symm d0) hz) (oth _ _ (Ne.symm d1) hti) (oth _ _ (Ne.symm d2) hto) ((Da {} rfl).frame _ _ _ sa fun b hb o e => oth b o (fun z => d3 (z ▸ hb)) e) ((Db {} rfl).frame _ _ _ sb fun b hb o e => oth b o (fun z => d4 (z ▸ hb)) e) hS₂ (fun h' tk acc' c' kp hS' m mem nd => ?_)
  exact hR h' tk acc' c' (fun b o q0 q1 q2 q3 q4 e => kp b o q0 q1 q2 q3 q4 (oth b o q0 e)) hS' m (fun T hT => Nat.le_trans (Nat.le_of_eq (Heap.size_update _ _ _).symm) (mem T hT)) nd
/-- list of a zip of two values -/
theorem call_zip_list {u1 u2 : Value} {n1 n2 : Nat} {P1 P2 : Nat → Value → Prop} {Q : Value → Shared → Prop} (g1 : Gives prog w s.heap u1 n1 P1) (g2 : Gives prog w s.heap u2 n2 P2) (calm : A.handled = none) (few : min n1 n2 ≤ sizeLine)
    (fin : ∀ (a : Addr) (Ts : List Addr) h' tk c, s.heap.objs.size ≤ a → (∀ T ∈ Ts, s.heap.objs.size ≤ T) → a ∉ Ts → Ts.Nodup → (∀ b o, s.heap.get? b = some o → h'.get? b = some o) → h'.get? a = some { cls := .type "list", dict := none, data := .seq (Ts.map Value.ref).toArray c, slots := #[] } → Ts.length = min n1 n2 →
      (∀ (j : Nat) (T : Addr), Ts[j]? = some T → ∃ x y, IsTupOf2 h' T x y ∧ P1 j x ∧ P2 j y) → Q (.ref a) { s with heap := h', toks := tk }) :
    wpAny (model prog w) A (call (.type "zip") [u1, u2]) (fun v s1 => wpAny (model prog w) A (call (.type "list") [v]) Q E s1) E s := by
  obtain ⟨o1, H1, f1, b1, x1, l1, r1⟩ := g1.ex
  obtain ⟨o2, H2, f2, b2, x2, l2, r2⟩ := g2.ex
  refine zip_begins2 b1 b2 x1 x2 fun h' hz hti hto e1 e2 sz kp => ?_
  have lo : ∀ b ∈ f1, b < s.heap.objs.size := fun b hb => let ⟨_, e⟩ := l1 b hb; Heap.lt_size e
  have lo2 : ∀ b ∈ f2, b < s.heap.objs.size := fun b hb => let ⟨_, e⟩ := l2 b hb; Heap.lt_size e
  have off : ∀ k, s.heap.objs.size + k ∉ f1 := fun k hm => absurd (lo _ hm) (Nat.not_lt.mpr (Nat.le_add_right _ _))
  have off2 : ∀ k, s.heap.objs.size + k ∉ f2 := fun k hm => absurd (lo2 _ hm) (Nat.not_lt.mpr (Nat.le_add_right _ _))
  obtain ⟨S1, D1, z1, t1⟩ := r1 s.heap.objs.size (off 0)
  obtain ⟨S2, D2, z2, t2⟩ := r2 (s.heap.objs.size + 1) (off2 1)
  have ap : ZipSep2 (s.heap.objs.size + 4) (s.heap.objs.size + 2) (s.heap.objs.size + 3) s.heap.objs.size (s.heap.objs.size + 1) (s.heap.objs.size :: f1) ((s.heap.objs.size + 1) :: f2) := by
    constructor
    · exact Nat.ne_of_lt (by omega)
    · exact Nat.ne_of_lt (by omega)
    · exact Nat.ne_of_lt (by omega)
    · exact Nat.ne_of_gt (by omega)
    · exact List.mem_cons_self
    · exact fun q => (List.mem_cons.mp q).elim (fun e => absurd e (Nat.ne_of_gt (by omega))) (off 4)
    · exact fun q => (List.mem_cons.mp q).elim (fun e => absurd e (Nat.ne_of_gt (by omega))) (off 3)
    · exact Nat.ne_of_gt (by omega)
    · exact List.mem_cons_self
    · exact fun q => (List.mem_cons.mp q).elim (fun e => absurd e (Nat.ne_of_gt (by omega))) (off2 4)
    · exact fun q => (List.mem_cons.mp q).elim (fun e => absurd e (Nat.ne_of_gt (by omega))) (off2 3)
    · exact fun q => (List.mem_cons.mp q).elim (fun e => absurd e (Nat.ne_of_lt (by omega))) (off2 0)
    · exact fun q => (List.mem_cons.mp q).elim (fun e => absurd e (Nat.ne_of_gt (by omega))) (off 1)
  refine callType_codes (Q₁ := fun obj s₁ => obj = .ref h'.objs.size ∧ s₁ = ({ s with heap := h'.push { cls := .type "list", data := .seq #[] } } : Shared)) PySem.F.called_list (PySem.F.typeCall_list_1 _) PySem.F.entry_list_init
    (code_list_new _ ⟨rfl, rfl⟩) fun obj s₁ h₁ => ?_
  obtain ⟨rfl, rfl⟩ := h₁
  have hS : (h'.push { cls := .type "list", data := .seq #[] }).get? h'.objs.size = some { cls := .type "list", data := .seq #[] } := Heap.get?_push_size _ rfl
  have up : ∀ {b o}, h'.get? b = some o → (h'.push { cls := .type "list", data := .seq #[] }).get? b = some o := fun e => Heap.get?_push_of_some _ e
  have lt : ∀ {b o}, h'.get? b = some o → h'.objs.size ≠ b := fun e => Nat.ne_of_gt (Heap.lt_size e)
  have n0 : h'.objs.size ≠ s.heap.objs.size := by omega
  have n1' : h'.objs.size ≠ s.heap.objs.size + 1 := by omega
  have n2' : h'.objs.size ≠ s.heap.objs.size + 2 := by omega
  have n3' : h'.objs.size ≠ s.heap.objs.size + 3 := by omega
  have n4' : h'.objs.size ≠ s.heap.objs.size + 4 := by omega
  have lt0 : ¬ h'.objs.size < s.heap.objs.size := by omega
  refine ⟨⟨_, hS, rfl⟩, PySem.F.args_list_init_2 _ _, z_init (A := A.in1) ap D1 D2 (by simp [calm]) n4' n2' n3'
    (fun q => (List.mem_cons.mp q).elim (fun e => n0 e) fun q => absurd (lo _ q) lt0) (fun q => (List.mem_cons.mp q).elim (fun e => n1' e) fun q => absurd (lo2 _ q) lt0) n0 n1' few
    (up hz) (up hti) (up hto) (z1 _ (up e1) fun b q e => up (kp b q e)) (z2 _ (up e2) fun b q e => up (kp b q e)) hS (fun h2 tk acc' c' kp2 hS2 m mem nd => ?_)⟩
  have szp : (h'.push { cls := .type "list", data := .seq #[] }).objs.size = h'.objs.size + 1 := Heap.size_push _ _
  have mem' : ∀ T ∈ acc', h'.objs.size + 1 ≤ T := fun T hT => Nat.le_trans (Nat.le_of_eq szp.symm) (mem T hT)
  have ge0 : s.heap.objs.size ≤ h'.objs.size := by omega
  have geT : ∀ T ∈ acc', s.heap.objs.size ≤ T := fun T hT => Nat.le_trans (Nat.le_trans ge0 (Nat.le_succ _)) (mem' T hT)
  have nm : h'.objs.size ∉ acc' := fun hm => Nat.lt_irrefl _ (mem' _ hm)
  have kq : ∀ b o, s.heap.get? b = some o → h2.get? b = some o := fun b o e => by
    have hb := Heap.lt_size e
    exact kp2 b o (fun z => by rw [z] at hb; exact absurd hb lt0) (fun z => by rw [z] at hb; exact Nat.not_lt.mpr (Nat.le_add_right _ 4) hb) (fun z => by rw [z] at hb; exact Nat.lt_irrefl _ hb) (fun z => by rw [z] at hb; exact Nat.not_lt.mpr (Nat.le_add_right _ 1) hb) (fun z => by rw [z] at hb; exact Nat.not_lt.mpr (Nat.le_add_right _ 3) hb) (up (kp b o e))
  refine ⟨rfl, fin h'.objs.size acc' h2 tk c' ge0 geT nm nd kq hS2 m.1 fun j T e => ?_⟩
  obtain ⟨x, y, t, p1, p2, _⟩ := m.2 j T e
  exact ⟨x, y, t, p1, p2⟩
end
end Xv
set_option Elab.async false
set_option linter.all false
set_option maxRecDepth 100000
set_option maxHeartbeats 4000000
/-! Xw: list(zip(a, b)) on the heap of the hand layer. -/
namespace Xw
open PySem PySem.Spec PyProof.Rows L2 Xz Xk Xv
/-- what a value gives, one by one: a tuple, a list, a text -/
def Srcs (K : PySem.W.Frag) (H : Hp) (x : V) (xs : List V) : Prop :=
  (∃ p, x = .ref p ∧ (SqT K H p xs ∨ SqL K H p xs)) ∨ ∃ t : Str, x = .str t ∧ t.cps.size ≤ sizeLine ∧ xs = t.cps.toList.map fun c => V.str ⟨#[c]⟩
theorem vals_at : ∀ {xs : List V} {us : List Value}, Vals xs us → ∀ (i : Nat) (v : Value), us[i]? = some v → ∃ x, xs[i]? = some x ∧ RelV x v
  | _, _, .nil, i, v, h => by simp at h
  | _, _, .cons r t, 0, v, h => by
    cases h
    exact ⟨_, rfl, r⟩
  | _, _, .cons r t, i + 1, v, h => vals_at t i v h
theorem srcs_give {X : Cx} {pins : List (Addr × Obj)} {σ : L2.St} {H : Hp} {s : Shared} {x : V} {u : Value} {xs : List V} (I : Inv X pins σ H s) (r : RelV x u) (k : Srcs X.K H x xs) :
    ∃ (n : Nat) (Pv : Nat → Value → Prop), Gives X.prog X.w s.heap u n Pv ∧ n = xs.length ∧ n ≤ sizeLine ∧ ∀ i v, Pv i v → ∃ y, xs[i]? = some y ∧ RelV y v := by
  rcases k with ⟨p, rfl, hq | hq⟩ | ⟨t, rfl, ht, rfl⟩
  · cases r
    obtain ⟨its, rv, pl, hz⟩ := I.tuple hq
    exact ⟨_, _, gives_tuple pl, by rw [List.size_toArray]; exact rv.length.symm, by rw [List.size_toArray, ← rv.length]; exact hz, fun i v e => vals_at rv i v (by simpa using e)⟩
  · cases r
    obtain ⟨its, rv, pl, hz⟩ := I.list hq
    exact ⟨_, _, gives_list pl.isList, by rw [List.size_toArray]; exact rv.length.symm, by rw [List.size_toArray, ← rv.length]; exact hz, fun i v e => vals_at rv i v (by simpa using e)⟩
  · obtain ⟨tk, rfl⟩ := r
    refine ⟨_, _, gives_text t tk, by simp, ht, ?_⟩
    rintro i v ⟨c, u, e, rfl⟩
    refine ⟨.str ⟨#[c]⟩, ?_, ⟨u, rfl⟩⟩
    rw [List.getElem?_map, Array.getElem?_toList, e]
    rfl
/-- pairs laid as tuples -/
def putT : Hp → List Addr → List (V × V) → Hp
  | H, a :: as, p :: ps => putT (upd H a (.tup [p.1, p.2])) as ps
  | H, _, _ => H
theorem putT_off {b : Addr} : ∀ (as : List Addr) (ps : List (V × V)) (H : Hp), b ∉ as → putT H as ps b = H b
  | [], _, _, _ => rfl
  | _ :: _, [], _, _ => rfl
  | a :: as, p :: ps, H, h => by
    show putT (upd H a (.tup [p.1, p.2])) as ps b = H b
    rw [putT_off as ps _ (fun z => h (List.mem_cons_of_mem _ z)), upd_ne (fun z => h (by rw [z]; exact List.mem_cons_self))]
theorem putT_at : ∀ (as : List Addr) (ps : List (V × V)) (H : Hp), as.length = ps.length → as.Nodup → ∀ (j : Nat) (T : Addr) (p : V × V), as[j]? = some T → ps[j]? = some p → putT H as ps T = some (.tup [p.1, p.2])
  | [], _, _, _, _, j, T, p, h, _ => by simp at h
  | _ :: _, [], _, h, _, _, _, _, _, _ => by simp at h
  | a :: as, p :: ps, H, h, hn, j, T, q, h1, h2 => by
    have hn' := List.nodup_cons.mp hn
    cases j with
    | zero =>
      cases h1
      cases h2
      show putT (upd H a (.tup [p.1, p.2])) as ps a = some (.tup [p.1, p.2])
      rw [putT_off as ps _ hn'.1, upd_same]
    | succ j => exact putT_at as ps (upd H a (.tup [p.1, p.2])) (Nat.succ.inj h) hn'.2 j T q h1 h2
theorem pairs_laid {X : Cx} {pins : List (Addr × Obj)} {σ : L2.St} {H : Hp} {s : Shared} {h' : Heap} {tk c : Nat} {a : Addr} {as : List Addr} {ps : List (V × V)} (I : Inv X pins σ H s) (hl : as.length = ps.length) (hz : ps.length ≤ sizeLine)
    (ha : s.heap.objs.size ≤ a) (has : ∀ T ∈ as, s.heap.objs.size ≤ T) (na : a ∉ as) (nd : as.Nodup) (hk : ∀ b o, s.heap.get? b = some o → h'.get? b = some o)
    (hS : h'.get? a = some { cls := .type "list", dict := none, data := .seq (as.map Value.ref).toArray c, slots := #[] })
    (hT : ∀ (j : Nat) (T : Addr), as[j]? = some T → ∃ (p : V × V) (u v : Value), ps[j]? = some p ∧ RelV p.1 u ∧ RelV p.2 v ∧ IsTupOf2 h' T u v) :
    ∃ H' : Hp, Same H H' ∧ H a = none ∧ H' a = some (.lst (as.map V.ref)) ∧ (∀ (j : Nat) (T : Addr) (p : V × V), as[j]? = some T → ps[j]? = some p → H' T = some (.tup [p.1, p.2])) ∧ Inv X pins σ H' { s with heap := h', toks := tk } := by
  have new : ∀ t ∈ as, H t = none := fun t ht => I.hok.fresh (has t ht)
  have newS : H a = none := I.hok.fresh ha
  have atP := putT_at as ps (upd H a (.lst (as.map V.ref))) hl nd
  have off : ∀ b, b ∉ as → b ≠ a → putT (upd H a (.lst (as.map V.ref))) as ps b = H b := fun b h1 h2 => by rw [putT_off as ps _ h1, upd_ne h2]
  have low : ∀ b o, s.heap.get? b = some o → b ∉ as ∧ b ≠ a := fun b o e => ⟨fun z => absurd (Heap.lt_size e) (Nat.not_lt.mpr (has b z)), Nat.ne_of_lt (Nat.lt_of_lt_of_le (Heap.lt_size e) ha)⟩
  have kp : ∀ b u, H b = some u → (putT (upd H a (.lst (as.map V.ref))) as ps) b = some u := fun b u e => by
    rw [off b (fun z => by rw [new b z] at e; cases e) (fun z => by rw [z, newS] at e; cases e)]
    exact e
  have eS : putT (upd H a (.lst (as.map V.ref))) as ps a = some (.lst (as.map V.ref)) := by rw [putT_off as ps _ na, upd_same]
  refine ⟨putT (upd H a (.lst (as.map V.ref))) as ps, fun b o e => kp b o e, newS, eS, atP, ?_⟩
  refine I.call' (ch := []) rfl ⟨fun b o q _ _ _ => hk b o q, fun b o q _ _ _ => ⟨o.slots, hk b o q⟩, fun b o q n _ => ?_, fun b o q _ => ⟨o, hk b o q⟩, fun b xs q => kp b _ q, fun b o u q => kp b _ q, fun b ps q => ⟨#[], by rw [kp b _ q]; simp⟩⟩ (fun b u q => ?_) I.bare fun b z => by simp at z
  · obtain ⟨z1, z2⟩ := low b o q
    rw [off b z1 z2]
    exact n
  · by_cases hb : b ∈ as
    · obtain ⟨j, hj⟩ := List.mem_iff_getElem?.mp hb
      obtain ⟨p, u1, v1, e1, e2, e3, e4⟩ := hT j b hj
      rw [atP j b p hj e1] at q
      cases q
      exact ⟨by show 2 ≤ sizeLine; decide, [u1, v1], .cons e2 (.cons e3 .nil), ⟨_, e4, rfl, _, rfl⟩⟩
    · by_cases hb2 : b = a
      · rw [hb2] at q ⊢
        rw [eS] at q
        cases q
        exact ⟨by rw [List.length_map]; omega, as.map Value.ref, c, LiI.vals_refs as, hS⟩
      · rw [off b hb hb2] at q
        exact (I.hok b u q).stay (fun d v _ y => hk d v y) (fun d y => kp d _ y) fun d xs y => kp d _ y
def ZipTs (H : Hp) (Ts : List Addr) (xs ys : List V) : Prop := Ts.length = min xs.length ys.length ∧ ∀ (j : Nat) (T : Addr), Ts[j]? = some T → ∃ x y, xs[j]? = some x ∧ ys[j]? = some y ∧ H T = some (.tup [x, y])
def tListZip (K : PySem.W.Frag) (ta : TA) : TE := fun σ H Q => ta σ H fun vs H1 => ∃ x y xs ys, vs = [x, y] ∧ Srcs K H1 x xs ∧ Srcs K H1 y ys ∧ ∀ (l : Addr) (Ts : List Addr) (H2 : Hp), Same H1 H2 → H1 l = none → H2 l = some (.lst (Ts.map V.ref)) → ZipTs H2 Ts xs ys → Q (.ref l) H2
section
variable {X : Cx}
theorem pe_listZip {e e2 : Expr} {ta : TA} {p p2 q pos : Pos} (hc : X.calm = true) (g1 : Gl X "list") (m1 : X.mg "list" = none) (g2 : Gl X "zip") (m2 : X.mg "zip" = none) (ha : PA X [e, e2] ta)
    (na : starEach [.Call (.Name "zip" p2) [e, e2] [] q] X.env = (false, eval (.Call (.Name "zip" p2) [e, e2] [] q) X.env) :: starEach [] X.env := by rfl)
    (hs : starEach [e, e2] X.env = (false, eval e X.env) :: starEach [e2] X.env := by rfl) (hpl : (backTo q (starEach [e2] X.env)).any (·.1) = false := by rfl) :
    PE X (.Call (.Name "list" p) [.Call (.Name "zip" p2) [e, e2] [] q] [] pos) (tListZip X.K ta) := by
  constructor
  intro pins s σ H Q I h
  refine Call_ (ld_blt I g1 m1 PyProof.Rows.boot_list ?_)
  refine callWith_type1 (args_cons ?_ na) na (by rfl)
  refine Call_ (ld_blt I g2 m2 PyProof.Rows.boot_zip (PyProof.Rows.callWith_type1 (thn (ha.run q pins s σ H _ I h) fun us s1 ⟨vs, H1, I1, r1, q1⟩ => ?_) hs hpl))
  obtain ⟨x, y, xs, ys, ex, hx, hy, q1⟩ := q1
  subst ex
  obtain ⟨u1, u2, eu, ru1, ru2⟩ := vals2 r1
  subst eu
  obtain ⟨n1, P1, gv1, l1, z1, is1⟩ := srcs_give I1 ru1 hx
  obtain ⟨n2, P2, gv2, l2, z2, is2⟩ := srcs_give I1 ru2 hy
  refine thn (call_zip_list gv1 gv2 (I1.ok.hd hc) (by omega) fun a Ts h' tk c la lT na nd kp hS len hT => ?_) fun v s2 q2 => PyProof.Rows.args_nil q2
  have lz : Ts.length = (xs.zip ys).length := by rw [List.length_zip, len, l1, l2]
  obtain ⟨H', sH, nS, eS, eT, J⟩ := pairs_laid (tk := tk) I1 lz (by rw [List.length_zip]; omega) la lT na nd kp hS fun j T e => by
    obtain ⟨u, v, t, p1, p2⟩ := hT j T e
    obtain ⟨x', ex, rx⟩ := is1 j u p1
    obtain ⟨y', ey, ry⟩ := is2 j v p2
    exact ⟨(x', y'), u, v, List.getElem?_zip_eq_some.mpr ⟨ex, ey⟩, rx, ry, t⟩
  refine ⟨.ref a, H', J, rfl, q1 a Ts H' sH nS eS ⟨by rw [len, l1, l2], fun j T e => ?_⟩⟩
  have hj : j < (xs.zip ys).length := by
    rw [← lz]
    exact (List.getElem?_eq_some_iff.mp e).1
  obtain ⟨pr, ep⟩ : ∃ pr, (xs.zip ys)[j]? = some pr := ⟨_, List.getElem?_eq_getElem hj⟩
  obtain ⟨e1, e2⟩ := List.getElem?_zip_eq_some.mp (show (xs.zip ys)[j]? = some (pr.1, pr.2) from ep)
  exact ⟨pr.1, pr.2, e1, e2, eT j T pr e ep⟩
end
end Xw
set_option Elab.async false
set_option linter.all false
set_option pp.maxSteps 4000
set_option maxRecDepth 100000
set_option maxHeartbeats 4000000
/-! k87: rows, and what steps make of them -/
namespace K87
open PySem PySem.Spec PyProof.Rows L2 Bs Xg TL Xm Xs Gn Gd Xu Xw K86
open K21 (tk os rowV txt TextCol Deed doneP cutP gluedP spellP readDP readP metP Mt Fm cw ov leV ltV like dayS dayP numI)
/-- a column's key -/
def ck (c : Str × Bool) : Key := tk c.1
/-- what stands in a cell of that kind -/
def Cell (L : Nat) (b : Bool) (v : V) : Prop := if b then ∃ x : Option Str, v = os x ∧ ∀ z, x = some z → Good L z else v = .non ∨ ∃ i : Int, v = .int i ∧ i.natAbs < 10 ^ 12
theorem Cell.up {L M : Nat} {b : Bool} {v : V} (h : Cell L b v) (l : L ≤ M) : Cell M b v := by
  unfold Cell at h ⊢
  cases b with
  | true =>
    rw [if_pos rfl] at h ⊢
    obtain ⟨x, e, g⟩ := h
    exact ⟨x, e, fun z hz => (g z hz).le l⟩
  | false => exact h
theorem cell_non (L : Nat) (b : Bool) : Cell L b .non := by
  unfold Cell
  cases b with
  | true =>
    rw [if_pos rfl]
    exact ⟨none, rfl, fun z h => nomatch h⟩
  | false => exact .inl rfl
theorem cell_txt {L : Nat} {x : Option Str} (g : ∀ z, x = some z → Good L z) : Cell L true (os x) := by
  unfold Cell
  rw [if_pos rfl]
  exact ⟨x, rfl, g⟩
theorem cell_num {L : Nat} {x : Option Int} (g : ∀ i, x = some i → i.natAbs < 10 ^ 12) : Cell L false (ov x) := by
  unfold Cell
  rw [if_neg (by decide)]
  cases x with
  | none => exact .inl rfl
  | some i => exact .inr ⟨i, rfl, g i rfl⟩
theorem cell_isTxt {L : Nat} {v : V} (h : Cell L true v) : v = os (txt v) ∧ ∀ z, txt v = some z → Good L z := by
  unfold Cell at h
  rw [if_pos rfl] at h
  obtain ⟨x, rfl, g⟩ := h
  have e : txt (os x) = x := by cases x <;> rfl
  rw [e]
  exact ⟨rfl, g⟩
theorem cell_isNum {L : Nat} {v : V} (h : Cell L false v) : v = .non ∨ ∃ i : Int, v = .int i ∧ i.natAbs < 10 ^ 12 := by
  unfold Cell at h
  rw [if_neg (by decide)] at h
  exact h
theorem cell_worth {L : Nat} {b : Bool} {v : V} (h : WorthOk b v) (l : 12 ≤ L) : Cell L b v := by
  unfold WorthOk at h
  cases b with
  | true =>
    rw [if_pos rfl] at h
    obtain ⟨z, hz, rfl⟩ := h
    exact cell_txt (x := some z) fun y e => by cases e; exact (cells_good z hz).le l
  | false =>
    rw [if_neg (by decide)] at h
    obtain ⟨i, rfl, hi⟩ := h
    exact cell_num (x := some i) fun y e => by cases e; exact Nat.lt_trans hi (by decide)
/-- a row by its columns -/
def RowAt (L : Nat) : List (Str × Bool) → List (Key × V) → Prop
  | [], [] => True
  | c :: kn, p :: row => p.1 = ck c ∧ Cell L c.2 p.2 ∧ RowAt L kn row
  | _, _ => False
theorem RowAt.up {L M : Nat} (l : L ≤ M) : ∀ {kn : List (Str × Bool)} {row : List (Key × V)}, RowAt L kn row → RowAt M kn row
  | [], [], _ => trivial
  | c :: kn, p :: row, h => ⟨h.1, h.2.1.up l, RowAt.up l h.2.2⟩
  | [], _ :: _, h => h.elim
  | _ :: _, [], h => h.elim
theorem RowAt.keys {L : Nat} : ∀ {kn : List (Str × Bool)} {row : List (Key × V)}, RowAt L kn row → row.map (·.1) = kn.map ck
  | [], [], _ => rfl
  | c :: kn, p :: row, h => by rw [List.map_cons, List.map_cons, h.1, RowAt.keys h.2.2]
  | [], _ :: _, h => h.elim
  | _ :: _, [], h => h.elim
theorem RowAt.app {L : Nat} : ∀ {kn es : List (Str × Bool)} {row more : List (Key × V)}, RowAt L kn row → RowAt L es more → RowAt L (kn ++ es) (row ++ more)
  | [], _, [], _, _, g => g
  | c :: kn, _, p :: row, _, h, g => ⟨h.1, h.2.1, RowAt.app h.2.2 g⟩
  | [], _, _ :: _, _, h, _ => h.elim
  | _ :: _, _, [], _, h, _ => h.elim
theorem RowAt.len {L : Nat} {kn : List (Str × Bool)} {row : List (Key × V)} (h : RowAt L kn row) : row.length = kn.length := by
  have := congrArg List.length h.keys
  rwa [List.length_map, List.length_map] at this
theorem ck_inj {c : Str × Bool} {z : Str} : ck c = tk z ↔ c.1 = z := ⟨fun h => Sum.inr.inj h, fun h => by unfold ck; rw [h]⟩
theorem RowAt.val {L : Nat} {col : Str} {b : Bool} : ∀ {kn : List (Str × Bool)} {row : List (Key × V)}, RowAt L kn row → (kn.map (·.1)).Nodup → (col, b) ∈ kn → ∃ v, valV row (tk col) = some v ∧ Cell L b v
  | [], _, _, _, m => nomatch m
  | c :: kn, p :: row, h, nd, m => by
    rw [List.map_cons, List.nodup_cons] at nd
    rcases List.mem_cons.mp m with e | m
    · subst e
      exact ⟨p.2, valV_pos h.1, h.2.1⟩
    · have ne : c.1 ≠ col := fun e => nd.1 (by rw [e]; exact List.mem_map.mpr ⟨_, m, rfl⟩)
      rw [valV_neg (show ¬ p.1 = tk col from fun e => ne (ck_inj.mp (h.1.symm.trans e)))]
      exact RowAt.val h.2.2 nd.2 m
  | _ :: _, [], h, _, _ => h.elim
theorem RowAt.cell {L : Nat} {col : Str} {b : Bool} {kn : List (Str × Bool)} {row : List (Key × V)} (h : RowAt L kn row) (nd : (kn.map (·.1)).Nodup) (m : (col, b) ∈ kn) : valV row (tk col) = some (rowV row col) ∧ Cell L b (rowV row col) := by
  obtain ⟨v, e, c⟩ := h.val nd m
  have er : rowV row col = v := by unfold rowV; rw [e]; rfl
  rw [er]
  exact ⟨e, c⟩
theorem RowAt.new {L : Nat} {col : Str} : ∀ {kn : List (Str × Bool)} {row : List (Key × V)}, RowAt L kn row → col ∉ kn.map (·.1) → valV row (tk col) = none
  | [], [], _, _ => rfl
  | c :: kn, p :: row, h, m => by
    rw [List.map_cons] at m
    have ne : c.1 ≠ col := fun e => m (by rw [e]; exact List.mem_cons_self)
    rw [valV_neg (show ¬ p.1 = tk col from fun e => ne (ck_inj.mp (h.1.symm.trans e)))]
    exact RowAt.new h.2.2 fun q => m (List.mem_cons_of_mem _ q)
  | [], _ :: _, h, _ => h.elim
  | _ :: _, [], h, _ => h.elim
theorem RowAt.repl {L : Nat} {col : Str} {b : Bool} {v : V} (hv : Cell L b v) : ∀ {kn : List (Str × Bool)} {row : List (Key × V)}, RowAt L kn row → (∀ c ∈ kn, c.1 = col → c.2 = b) → RowAt L kn (row.map fun kv => if kv.1 = tk col then (kv.1, v) else kv)
  | [], [], _, _ => trivial
  | c :: kn, p :: row, h, g => by
    refine ⟨?_, ?_, RowAt.repl hv h.2.2 fun c hc => g c (List.mem_cons_of_mem _ hc)⟩
    · show (if p.1 = tk col then (p.1, v) else p).1 = ck c
      split <;> exact h.1
    · show Cell L c.2 (if p.1 = tk col then (p.1, v) else p).2
      by_cases e : p.1 = tk col
      · rw [if_pos e]
        rw [g c List.mem_cons_self (ck_inj.mp (h.1.symm.trans e))]
        exact hv
      · rw [if_neg e]
        exact h.2.1
  | [], _ :: _, h, _ => h.elim
  | _ :: _, [], h, _ => h.elim
theorem kind_one {col : Str} {b : Bool} : ∀ {kn : List (Str × Bool)}, (kn.map (·.1)).Nodup → (col, b) ∈ kn → ∀ c ∈ kn, c.1 = col → c.2 = b
  | [], _, m => nomatch m
  | c0 :: kn, nd, m => by
    rw [List.map_cons, List.nodup_cons] at nd
    intro c hc e
    rcases List.mem_cons.mp m with m1 | m1
    · subst m1
      rcases List.mem_cons.mp hc with rfl | hc
      · rfl
      · exact absurd (List.mem_map.mpr ⟨c, hc, e⟩) nd.1
    · rcases List.mem_cons.mp hc with rfl | hc
      · have q : c.1 ∈ kn.map (·.1) := List.mem_map.mpr ⟨(col, b), m1, e.symm⟩
        exact absurd q nd.1
      · exact kind_one nd.2 m1 c hc e
theorem RowAt.put {L : Nat} {col : Str} {b : Bool} {v : V} {kn : List (Str × Bool)} {row : List (Key × V)} (h : RowAt L kn row) (nd : (kn.map (·.1)).Nodup) (m : (col, b) ∈ kn) (hv : Cell L b v) : RowAt L kn (putK row (tk col) v) := by
  obtain ⟨u, e, _⟩ := h.val nd m
  unfold putK
  rw [if_pos (by rw [valV_any, e]; rfl)]
  exact h.repl hv (kind_one nd m)
theorem merge_new {L : Nat} : ∀ {es kn : List (Str × Bool)} {more row : List (Key × V)}, RowAt L kn row → RowAt L es more → ((kn ++ es).map (·.1)).Nodup → mergeK row more = row ++ more
  | [], _, [], row, _, _, _ => by simp [mergeK]
  | c :: es, kn, p :: more, row, h, g, nd => by
    have nw : valV row (tk c.1) = none := h.new fun m => by
      rw [List.map_append, List.map_cons] at nd
      exact (List.nodup_append.mp nd).2.2 _ m _ List.mem_cons_self rfl
    have e1 : putK row p.1 p.2 = row ++ [p] := by
      rw [show p.1 = tk c.1 from g.1, putK_new p.2 nw]
      rw [← show p.1 = tk c.1 from g.1]
    have st : mergeK row (p :: more) = mergeK (putK row p.1 p.2) more := rfl
    rw [st, e1, merge_new (kn := kn ++ [c]) (h.app (es := [c]) (more := [p]) ⟨g.1, g.2.1, trivial⟩) g.2.2 (by rw [List.append_assoc]; exact nd), List.append_assoc]
    rfl
  | [], _, _ :: _, _, _, g, _ => g.elim
  | _ :: _, _, [], _, _, g, _ => g.elim
/-- how long a text may be, by how many columns there are -/
def LB (n : Nat) : Nat := 14 * 4 ^ min (n - 1) 6 - 2
theorem LB_pow (m : Nat) : 1 ≤ 4 ^ m := Nat.one_le_pow _ _ (by decide)
theorem LB_ge (n : Nat) : 12 ≤ LB n := by
  have := LB_pow (min (n - 1) 6)
  unfold LB
  omega
theorem LB_mono {n m : Nat} (h : n ≤ m) : LB n ≤ LB m := by
  unfold LB
  have : 4 ^ min (n - 1) 6 ≤ 4 ^ min (m - 1) 6 := Nat.pow_le_pow_right (by decide) (by omega)
  omega
theorem LB_max (n : Nat) : LB n ≤ 57342 := by
  unfold LB
  have : 4 ^ min (n - 1) 6 ≤ 4 ^ 6 := Nat.pow_le_pow_right (by decide) (by omega)
  have e : (4 : Nat) ^ 6 = 4096 := by decide
  omega
theorem LB_glue {n : Nat} (h1 : 1 ≤ n) (h6 : n ≤ 6) : 4 * (LB n + 1) ≤ LB (n + 1) := by
  unfold LB
  rw [show min (n - 1) 6 = n - 1 by omega, show min (n + 1 - 1) 6 = n - 1 + 1 by omega, Nat.pow_succ]
  have := LB_pow (n - 1)
  omega
end K87
set_option Elab.async false
set_option linter.all false
set_option pp.maxSteps 4000
set_option maxRecDepth 100000
set_option maxHeartbeats 4000000
/-! k87: a step's doing, by its data -/
namespace K87
open PySem PySem.Spec PyProof.Rows L2 Bs Xg TL Xm Xs Gn Gd Xu Xw K86
open K21 (tk os rowV txt TextCol Deed doneP cutP gluedP spellP readDP readP metP Mt Fm cw ov leV ltV like dayS dayP numI)
def sg (s : Str) : Nat := s.cps.toList.headD 0
def fmOf : List V → Fm
  | [_, .int m] => .amount m.toNat
  | [_, .str o] => .day o
  | _ => .whole
/-- a step as a deed; t: where its inner tuple stands -/
def deedOf (row : List (Key × V)) (t : Addr) : Dd → Deed
  | .cut col s news => .cut col (sg s) t news
  | .glue cols s new => .glue t cols s new
  | .spell col ps => .spell col t ps
  | .read col fv new => .read col t (fmOf fv) new
  | .put col v => .put col v
  | .within col lo hi => .met col (.within lo hi)
  | .among col xs => .met col (.among t xs)
  | .before col c2 => .met col (.before c2 (rowV row c2))
  | .given col => .met col .given
  | .fill col _ => .met col .given
def isFill : Dd → Bool
  | .fill _ _ => true
  | _ => false
def doneD (row : List (Key × V)) (d : Dd) : List (Key × V) × Bool := doneP row (deedOf row 0 d)
theorem doneD_t (row : List (Key × V)) (t : Addr) (d : Dd) : doneP row (deedOf row t d) = doneD row d := by cases d <;> rfl
theorem sg_one (c : Nat) : (⟨#[sg ⟨#[c]⟩]⟩ : Str) = ⟨#[c]⟩ := rfl
theorem worth_flat {b : Bool} {v : V} (h : WorthOk b v) : flatV v = true := by
  unfold WorthOk at h
  cases b with
  | true =>
    rw [if_pos rfl] at h
    obtain ⟨z, _, rfl⟩ := h
    rfl
  | false =>
    rw [if_neg (by decide)] at h
    obtain ⟨i, rfl, _⟩ := h
    rfl
theorem cell_flat {L : Nat} {b : Bool} {v : V} (h : Cell L b v) : flatV v = true := by
  cases b with
  | true =>
    rw [(cell_isTxt h).1]
    cases txt v <;> rfl
  | false =>
    rcases cell_isNum h with rfl | ⟨i, rfl, _⟩ <;> rfl
theorem cell_like {L : Nat} {b : Bool} {v u : V} (h : Cell L b v) (w : WorthOk b u) : v = .non ∨ (like u v ∧ like v u) := by
  unfold WorthOk at w
  cases b with
  | true =>
    rw [if_pos rfl] at w
    obtain ⟨z, _, rfl⟩ := w
    rw [(cell_isTxt h).1]
    cases txt v with
    | none => exact .inl rfl
    | some x => exact .inr ⟨trivial, trivial⟩
  | false =>
    rw [if_neg (by decide)] at w
    obtain ⟨i, rfl, _⟩ := w
    rcases cell_isNum h with rfl | ⟨j, rfl, _⟩
    · exact .inl rfl
    · exact .inr ⟨trivial, trivial⟩
theorem cell_like2 {L : Nat} {b : Bool} {v u : V} (h : Cell L b v) (w : Cell L b u) : v = .non ∨ u = .non ∨ like v u := by
  cases b with
  | true =>
    rw [(cell_isTxt h).1, (cell_isTxt w).1]
    cases txt v with
    | none => exact .inl rfl
    | some x =>
      cases txt u with
      | none => exact .inr (.inl rfl)
      | some y => exact .inr (.inr trivial)
  | false =>
    rcases cell_isNum h with rfl | ⟨j, rfl, _⟩
    · exact .inl rfl
    · rcases cell_isNum w with rfl | ⟨i, rfl, _⟩
      · exact .inr (.inl rfl)
      · exact .inr (.inr trivial)
theorem text_col {L : Nat} {kn : List (Str × Bool)} {row : List (Key × V)} {col : Str} (h : RowAt L kn row) (nd : (kn.map (·.1)).Nodup) (m : (col, true) ∈ kn) (l : L ≤ 60000) : TextCol row col := by
  obtain ⟨e, c⟩ := h.cell nd m
  obtain ⟨e2, g⟩ := cell_isTxt c
  refine ⟨txt (rowV row col), by rw [e]; exact congrArg some e2, fun z hz => Nat.le_trans (g z hz).1 l, fun z hz => (g z hz).ok⟩
theorem fm_vals {fv : List V} (h : FormOk fv) : (fmOf fv).vals = fv ∧ (fmOf fv).ok := by
  rcases h with rfl | ⟨m, rfl, m1, m4⟩ | ⟨o, rfl, ho⟩
  · exact ⟨rfl, trivial⟩
  · refine ⟨?_, ?_⟩
    · show [V.str "amount", V.int ((m.toNat : Nat) : Int)] = _
      rw [Int.toNat_of_nonneg (by omega)]
    · show 1 ≤ m.toNat ∧ m.toNat ≤ 4
      omega
  · exact ⟨rfl, ho⟩
theorem pairs_at {K : PySem.W.Frag} {H : Hp} {t : Addr} {ps : List (Str × Option Str)} (h : PairsAt H t ps) : K21.Pairs K H t ps := by
  obtain ⟨qs, l, e, g⟩ := h
  refine ⟨qs, l, SqT.of e, fun j q p h1 h2 => ?_⟩
  have := SqT.of (K := K) (g j q p h1 h2)
  have eo : osV p.2 = os p.2 := by cases p.2 <;> rfl
  rw [eo] at this
  exact this
/-- a step on a heap is a deed that is fit to be done -/
theorem deed_at {K : PySem.W.Frag} {H : Hp} {L : Nat} {kn : List (Str × Bool)} {row : List (Key × V)} {vs : List V} {d : Dd} (h : RowAt L kn row) (nd : (kn.map (·.1)).Nodup) (l : L ≤ 60000) (da : d.At H vs) (w : d.wt kn) (x : d.xt kn) (nf : isFill d = false) (a : V) :
    ∃ t, (deedOf row t d).items a = a :: vs ∧ (deedOf row t d).ok K H row := by
  cases d with
  | cut col s news =>
    obtain ⟨t, rfl, e⟩ := da
    obtain ⟨⟨c, rfl, c1⟩, nn⟩ := x
    refine ⟨t, rfl, text_col h nd w.1 l, SqT.of e, ?_, nn, ?_, w.2.2.1⟩
    · show c < 256
      omega
    · have := w.2.2.2.1
      omega
  | glue cols s new =>
    obtain ⟨t, rfl, e⟩ := da
    exact ⟨t, rfl, SqT.of e, fun c hc => text_col h nd (w.1 c hc) l, w.2.2.2.1.1, w.2.2.1⟩
  | spell col ps =>
    obtain ⟨t, rfl, e⟩ := da
    exact ⟨t, rfl, text_col h nd w.1 l, pairs_at e, Nat.le_trans w.2.1 (by decide), fun pr hp z hz => ((w.2.2 pr hp).2 z hz).ok⟩
  | read col fv new =>
    obtain ⟨t, rfl, e⟩ := da
    obtain ⟨f1, f2⟩ := fm_vals w.2.1
    exact ⟨t, rfl, text_col h nd w.1 l, by rw [f1]; exact SqT.of e, f2⟩
  | put col v =>
    cases da
    obtain ⟨k, m, _⟩ := w
    exact ⟨0, rfl, by show (valV row (tk col)).isSome = true; rw [(h.cell nd m).1]; rfl⟩
  | within col lo hi =>
    cases da
    obtain ⟨k, m, w1, w2⟩ := w
    obtain ⟨e, c⟩ := h.cell nd m
    refine ⟨0, rfl, by show (valV row (tk col)).isSome = true; rw [e]; rfl, ?_⟩
    rcases cell_like c w1 with q | q
    · exact .inl q
    · rcases cell_like c w2 with q2 | q2
      · exact .inl q2
      · exact .inr ⟨q.1, q2.2⟩
  | among col xs =>
    obtain ⟨t, rfl, e⟩ := da
    obtain ⟨k, m, _, w1⟩ := w
    obtain ⟨e1, c⟩ := h.cell nd m
    refine ⟨t, rfl, by show (valV row (tk col)).isSome = true; rw [e1]; rfl, SqT.of e, cell_flat c, List.all_eq_true.mpr fun v hv => worth_flat (w1 v hv)⟩
  | before col c2 =>
    cases da
    obtain ⟨k, m, m2⟩ := w
    obtain ⟨e1, c⟩ := h.cell nd m
    obtain ⟨e2, c'⟩ := h.cell nd m2
    exact ⟨0, rfl, by show (valV row (tk col)).isSome = true; rw [e1]; rfl, e2, cell_like2 c c'⟩
  | given col =>
    cases da
    obtain ⟨k, m⟩ := w
    exact ⟨0, rfl, by show (valV row (tk col)).isSome = true; rw [(h.cell nd m).1]; rfl, trivial⟩
  | fill col keys => cases nf
/-! ### what a step makes of a row -/
theorem split_good {L c : Nat} {z : Str} (g : Good L z) (hc : c < 256) : ∀ y ∈ Txt.split z ⟨#[c]⟩, Good L y := by
  intro y hy
  rw [K21.split_cut z hc] at hy
  obtain ⟨p, hp, rfl⟩ := List.mem_map.mp hy
  obtain ⟨h1, _, h3⟩ := K21.cutAt_mem c (tl z) p hp
  refine ⟨?_, fun d hd => ?_⟩
  · have e : (K21.S p).length = p.length := by rw [K21.S_len]
    rw [e]
    exact Nat.le_trans h1 (by rw [← len_tl]; exact g.1)
  · exact g.2 d (h3 d hd)
theorem cw_good {L : Nat} {y : Str} (g : Good L y) : ∀ z, cw y = some z → Good L z := by
  intro z e
  unfold cw at e
  split at e
  · cases e
  · cases e
    exact g.strip
theorem row_news {L : Nat} : ∀ {news : List Str} {xs : List (Option Str)}, news.length = xs.length → (∀ x ∈ xs, ∀ z, x = some z → Good L z) → RowAt L (news.map fun z => (z, true)) ((news.map tk).zip (xs.map K21.os))
  | [], [], _, _ => trivial
  | n :: news, x :: xs, l, g => ⟨rfl, cell_txt (g x List.mem_cons_self), row_news (by simpa using l) fun y hy => g y (List.mem_cons_of_mem _ hy)⟩
  | [], _ :: _, l, _ => by simp at l
  | _ :: _, [], l, _ => by simp at l
theorem row_nons {L : Nat} : ∀ {news : List Str}, RowAt L (news.map fun z => (z, true)) (news.map fun x => (tk x, .non))
  | [] => trivial
  | n :: news => ⟨rfl, cell_non L true, row_nons⟩
theorem join_good {L c : Nat} {ys : List Str} {sep : Str} (hs : Good 1 sep) (g : ∀ y ∈ ys, Good L y) (l : ys.length ≤ c) : Good (c * (L + 1)) (Txt.join sep ys) := (good_joinM hs g).le (Nat.mul_le_mul_right _ l)
theorem spell_good {L : Nat} {x : Option Str} (g : ∀ z, x = some z → Good L z) : ∀ {ps : List (Str × Option Str)}, (∀ p ∈ ps, ∀ z, p.2 = some z → Good L z) → ∀ z, spellP x ps = some z → Good L z
  | [], _, z, e => g z e
  | p :: ps, h, z, e => by
    unfold spellP at e
    split at e
    · exact h p List.mem_cons_self z e
    · exact spell_good g (fun q hq => h q (List.mem_cons_of_mem _ hq)) z e
theorem due_12 {m : Nat} {l : List Nat} {n : Int} (h : K02.due m l = some n) (hm : m ≤ 4) : n.natAbs < 10 ^ 12 := by
  have := K02.due_small h
  have c9 : K02.cap m + m ≤ 12 := by
    unfold K02.cap
    split <;> omega
  exact Nat.lt_of_lt_of_le this (Nat.pow_le_pow_right (by decide) c9)
end K87
set_option Elab.async false
set_option linter.all false
set_option pp.maxSteps 4000
set_option maxRecDepth 100000
set_option maxHeartbeats 4000000
/-! k87: what steps make of a row, one behind the other -/
namespace K87
open PySem PySem.Spec PyProof.Rows L2 Bs Xg TL Xm Xs Gn Gd Xu Xw K86
open K21 (tk os rowV txt TextCol Deed doneP cutP gluedP spellP readDP readP metP Mt Fm cw ov leV ltV like dayS dayP numI dinI aheadI sumI monL dayQ)
theorem din_le (y m : Nat) : 0 ≤ dinI y m ∧ dinI y m ≤ 32 := by
  have h : ∀ j : Nat, 0 ≤ monL.getD j 0 ∧ monL.getD j 0 ≤ 31 := by
    intro j
    by_cases hj : j < 12
    · have : ∀ j : Nat, j < 12 → 0 ≤ monL.getD j 0 ∧ monL.getD j 0 ≤ 31 := by decide +kernel
      exact this j hj
    · have e : monL.getD j 0 = 0 := by
        rw [List.getD_eq_getElem?_getD, List.getElem?_eq_none (by show monL.length ≤ j; have : monL.length = 12 := rfl; omega)]
        rfl
      rw [e]
      exact ⟨by decide, by decide⟩
  unfold dinI
  have := h (m - 1)
  split <;> omega
theorem sum_le (y : Nat) : ∀ n : Nat, 0 ≤ ((List.range n).map fun j => dinI y (1 + j)).sum ∧ ((List.range n).map fun j => dinI y (1 + j)).sum ≤ 32 * n
  | 0 => by simp
  | n + 1 => by
    have ih := sum_le y n
    have := din_le y (1 + n)
    rw [List.range_succ, List.map_append, List.sum_append]
    simp only [List.map_cons, List.map_nil, List.sum_cons, List.sum_nil]
    omega
theorem num_small {y m d : Nat} {n : Int} (h : numI y m d = some n) (hy : y < 10 ^ 4) : n.natAbs < 10 ^ 12 := by
  unfold numI at h
  split at h
  · rename_i c
    obtain ⟨c1, c2, c3, c4, c5⟩ := c
    cases h
    have hs := sum_le y (m - 1)
    have hd := din_le y m
    have ha : 0 ≤ aheadI y ∧ aheadI y ≤ 4000000 := by
      unfold aheadI
      omega
    unfold sumI
    have e12 : (10 : Nat) ^ 12 = 1000000000000 := by decide
    rw [e12]
    omega
  · cases h
theorem dayP_small {Y M D : List Nat} {n : Int} (h : dayP Y M D = some n) : n.natAbs < 10 ^ 12 := by
  unfold dayP at h
  split at h
  · rename_i c
    obtain ⟨c1, c2, _⟩ := c
    refine num_small h ?_
    have g := K02.figs_iff.mp c2
    have := K02.val_lt g.2
    rw [c1] at this
    exact this
  · cases h
theorem dayS_small {o z : Str} {n : Int} : ∀ {ss : List Str}, dayS o z ss = some n → n.natAbs < 10 ^ 12
  | [], h => by cases h
  | s :: ss, h => by
    unfold dayS at h
    split at h
    · exact dayP_small h
    · exact dayS_small h
theorem read_small {f : Fm} {z : Str} {n : Int} (ok : f.ok) (h : readP f z = some n) : n.natAbs < 10 ^ 12 := by
  cases f with
  | whole => exact due_12 h (by decide)
  | amount m => exact due_12 h ok.2
  | day o => exact dayS_small h
/-- what a step makes of a row -/
theorem step_row {kn : List (Str × Bool)} {row : List (Key × V)} {d : Dd} (h : RowAt (LB kn.length) kn row) (nd : ((kn ++ d.adds).map (·.1)).Nodup) (w : d.wt kn) (x : d.xt kn) (k1 : 1 ≤ kn.length) (nf : isFill d = false) :
    RowAt (LB (kn ++ d.adds).length) (kn ++ d.adds) (mergeK row (doneD row d).1) ∧ RowAt (LB (kn ++ d.adds).length) d.adds ((doneD row d).1.filter fun p => decide (valV row p.1 = none)) ∧ ((doneD row d).1.map (·.1)).Nodup ∧ (doneD row d).1.length ≤ 4 := by
  have nd0 : (kn.map (·.1)).Nodup := by
    rw [List.map_append] at nd
    exact (List.nodup_append.mp nd).1
  have lb : LB kn.length ≤ LB (kn ++ d.adds).length := LB_mono (by rw [List.length_append]; omega)
  have h' := h.up lb
  have fresh : ∀ {es : List (Str × Bool)} {more : List (Key × V)}, es = d.adds → RowAt (LB (kn ++ d.adds).length) es more → (doneD row d).1 = more → more.length ≤ 4 → RowAt (LB (kn ++ d.adds).length) (kn ++ d.adds) (mergeK row (doneD row d).1) ∧ RowAt (LB (kn ++ d.adds).length) d.adds ((doneD row d).1.filter fun p => decide (valV row p.1 = none)) ∧ ((doneD row d).1.map (·.1)).Nodup ∧ (doneD row d).1.length ≤ 4 := by
    rintro es more rfl g e l4
    rw [e]
    have ndk : ((d.adds).map (·.1)).Nodup := by
      rw [List.map_append] at nd
      exact (List.nodup_append.mp nd).2.1
    refine ⟨?_, ?_, ?_, l4⟩
    · rw [merge_new h' g nd]
      exact h'.app g
    · have ef : (more.filter fun p => decide (valV row p.1 = none)) = more := by
        refine List.filter_eq_self.mpr fun p hp => decide_eq_true ?_
        have hk : p.1 ∈ more.map (·.1) := List.mem_map.mpr ⟨p, hp, rfl⟩
        rw [g.keys] at hk
        obtain ⟨c, hc, ec⟩ := List.mem_map.mp hk
        rw [← ec]
        refine h.new fun m => ?_
        rw [List.map_append] at nd
        exact (List.nodup_append.mp nd).2.2 _ m _ (List.mem_map.mpr ⟨c, hc, rfl⟩) rfl
      rw [ef]
      exact g
    · rw [g.keys]
      have : (d.adds).map ck = ((d.adds).map (·.1)).map tk := by rw [List.map_map]; rfl
      rw [this]
      exact List.Pairwise.map tk (fun a b ne e => ne (Sum.inr.inj e)) ndk
  have same : ∀ {col : Str} {b : Bool} {v : V}, d.adds = [] → (col, b) ∈ kn → Cell (LB kn.length) b v → (doneD row d).1 = [(tk col, v)] → RowAt (LB (kn ++ d.adds).length) (kn ++ d.adds) (mergeK row (doneD row d).1) ∧ RowAt (LB (kn ++ d.adds).length) d.adds ((doneD row d).1.filter fun p => decide (valV row p.1 = none)) ∧ ((doneD row d).1.map (·.1)).Nodup ∧ (doneD row d).1.length ≤ 4 := by
    intro col b v ad m cv e
    rw [e, ad, List.append_nil]
    refine ⟨h.put nd0 m cv, ?_, by simp, by simp⟩
    obtain ⟨u, eu, _⟩ := h.val nd0 m
    have : ([(tk col, v)].filter fun p => decide (valV row p.1 = none)) = [] := by simp [eu]
    rw [this]
    trivial
  have none' : d.adds = [] → (doneD row d).1 = [] → RowAt (LB (kn ++ d.adds).length) (kn ++ d.adds) (mergeK row (doneD row d).1) ∧ RowAt (LB (kn ++ d.adds).length) d.adds ((doneD row d).1.filter fun p => decide (valV row p.1 = none)) ∧ ((doneD row d).1.map (·.1)).Nodup ∧ (doneD row d).1.length ≤ 4 := by
    intro ad e
    rw [e, ad, List.append_nil]
    exact ⟨h, trivial, by simp, by simp⟩
  cases d with
  | cut col s news =>
    obtain ⟨⟨c, rfl, c1⟩, nn⟩ := x
    obtain ⟨e, cc⟩ := h'.cell nd0 w.1
    obtain ⟨e2, g⟩ := cell_isTxt cc
    have base : ∀ b : Bool, doneD row (.cut col ⟨#[c]⟩ news) = (news.map fun x => (tk x, .non), b) → _ := fun b q => fresh (es := news.map fun z => (z, true)) (more := news.map fun x => (tk x, .non)) rfl row_nons (by rw [q]) (by rw [List.length_map]; exact w.2.2.1)
    show _
    cases hx : txt (rowV row col) with
    | none => exact base false (by show cutP news ⟨#[c]⟩ (txt (rowV row col)) = _; rw [hx]; rfl)
    | some z =>
      by_cases hl : (Txt.split z ⟨#[c]⟩).length = news.length
      · have ed : doneD row (.cut col ⟨#[c]⟩ news) = ((news.map tk).zip ((Txt.split z ⟨#[c]⟩).map fun y => os (cw y)), false) := by
          show cutP news ⟨#[c]⟩ (txt (rowV row col)) = _
          rw [hx]
          unfold cutP
          dsimp only
          rw [if_pos hl]
        refine fresh (es := news.map fun z => (z, true)) (more := (news.map tk).zip ((Txt.split z ⟨#[c]⟩).map fun y => os (cw y))) rfl ?_ (by rw [ed]) (by rw [List.length_zip, List.length_map]; have := w.2.2.1; omega)
        have er : ((Txt.split z ⟨#[c]⟩).map fun y => os (cw y)) = ((Txt.split z ⟨#[c]⟩).map cw).map K21.os := by rw [List.map_map]; rfl
        rw [er]
        refine row_news (by rw [List.length_map]; exact hl.symm) fun y hy z' hz' => ?_
        obtain ⟨y', hy', rfl⟩ := List.mem_map.mp hy
        exact cw_good (split_good (g z hx) (by omega) y' hy') z' hz'
      · refine base true ?_
        show cutP news ⟨#[c]⟩ (txt (rowV row col)) = _
        rw [hx]
        unfold cutP
        dsimp only
        rw [if_neg hl]
  | glue cols s new =>
    refine fresh (es := [(new, true)]) (more := [(tk new, os (gluedP (fun c => txt (rowV row c)) cols s))]) rfl ⟨rfl, cell_txt fun z hz => ?_, trivial⟩ rfl (show 1 ≤ 4 by decide)
    unfold gluedP at hz
    split at hz
    · cases hz
    · cases hz
      have gl := join_good (c := 4) (L := LB kn.length) w.2.2.2.1 (ys := cols.filterMap fun c => txt (rowV row c)) (fun y hy => by
        obtain ⟨c, hc, ec⟩ := List.mem_filterMap.mp hy
        exact (cell_isTxt (h.cell nd0 (w.1 c hc)).2).2 y ec) (Nat.le_trans (List.length_filterMap_le _ _) w.2.2.1)
      refine gl.le ?_
      rw [List.length_append]
      exact LB_glue k1 x
  | spell col ps =>
    have cc := (h.cell nd0 w.1).2
    refine same rfl w.1 (v := os (spellP (txt (rowV row col)) ps)) (cell_txt fun z hz => ?_) rfl
    exact spell_good (cell_isTxt cc).2 (fun p hp z hz => ((w.2.2 p hp).2 z hz).le (LB_ge _)) z hz
  | read col fv new =>
    obtain ⟨f1, f2⟩ := fm_vals w.2.1
    have er : (doneD row (.read col fv new)).1 = [(tk new, ov ((txt (rowV row col)).bind (readP (fmOf fv))))] := by
      show (readDP (fmOf fv) new (txt (rowV row col))).1 = _
      cases txt (rowV row col) <;> rfl
    refine fresh (es := [(new, false)]) (more := [(tk new, ov ((txt (rowV row col)).bind (readP (fmOf fv))))]) rfl ⟨rfl, cell_num fun i hi => ?_, trivial⟩ er (show 1 ≤ 4 by decide)
    obtain ⟨z, _, hz⟩ := Option.bind_eq_some_iff.mp hi
    exact read_small f2 hz
  | put col v =>
    obtain ⟨k, m, wk⟩ := w
    have cc := (h.cell nd0 m).2
    refine same rfl m (v := if rowV row col = .non then v else rowV row col) ?_ rfl
    split
    · exact cell_worth wk (LB_ge _)
    · exact cc
  | within col lo hi => exact none' rfl rfl
  | among col xs => exact none' rfl rfl
  | before col c2 => exact none' rfl rfl
  | given col => exact none' rfl rfl
  | fill col keys => cases nf
/-- row, what is given on, whether it stands -/
structure Wk where
  row : List (Key × V)
  bh : List V
  st : Bool
def fillW (held : List V) (col : Str) (s : Wk) : Wk :=
  ⟨if rowV s.row col = .non then putK s.row (tk col) (held.getD s.bh.length .non) else s.row, s.bh ++ [if s.st = true ∧ rowV s.row col ≠ .non then rowV s.row col else held.getD s.bh.length .non], s.st⟩
def stepW (held : List V) (d : Dd) (s : Wk) : Wk :=
  match d with
  | .fill col _ => fillW held col s
  | d => ⟨mergeK s.row (doneD s.row d).1, s.bh, s.st && !(doneD s.row d).2⟩
def goW (held : List V) (ds : List Dd) (s : Wk) : Wk := ds.foldl (fun s d => stepW held d s) s
/-- the columns that are filled, in order, with their kinds -/
def fillsOf : List Dd → List Str
  | [] => []
  | .fill col _ :: ds => col :: fillsOf ds
  | _ :: ds => fillsOf ds
end K87
set_option Elab.async false
set_option linter.all false
set_option pp.maxSteps 4000
set_option maxRecDepth 100000
set_option maxHeartbeats 4000000
/-! k87: the way of a row through the steps -/
namespace K87
open PySem PySem.Spec PyProof.Rows L2 Bs Xg TL Xm Xs Gn Gd Xu Xw K86
open K21 (tk os rowV txt TextCol Deed doneP)
theorem fills_app : ∀ (xs ys : List Dd), fillsOf (xs ++ ys) = fillsOf xs ++ fillsOf ys
  | [], _ => rfl
  | d :: xs, ys => by
    have ih := fills_app xs ys
    cases d <;> simp [fillsOf, ih]
theorem chain_grow : ∀ {ds : List Dd} {kn kn' : List (Str × Bool)}, Chain kn ds kn' → ∃ r, kn' = kn ++ r
  | [], kn, kn', h => ⟨[], by rw [List.append_nil]; exact (show kn = kn' from h).symm⟩
  | d :: ds, kn, kn', h => by
    obtain ⟨r, e⟩ := chain_grow h.2.2
    exact ⟨d.adds ++ r, by rw [e, List.append_assoc]⟩
theorem chain_split : ∀ {xs ys : List Dd} {kn kn' : List (Str × Bool)}, Chain kn (xs ++ ys) kn' → ∃ k, Chain kn xs k ∧ Chain k ys kn'
  | [], _, kn, _, h => ⟨kn, rfl, h⟩
  | d :: xs, ys, kn, kn', h => by
    obtain ⟨k, h1, h2⟩ := chain_split (xs := xs) h.2.2
    exact ⟨k, ⟨h.1, h.2.1, h1⟩, h2⟩
theorem chain_one : ∀ {xs : List Dd} {kn a b : List (Str × Bool)}, Chain kn xs a → Chain kn xs b → a = b
  | [], kn, a, b, h, g => (show kn = a from h).symm.trans (show kn = b from g)
  | d :: xs, kn, a, b, h, g => chain_one h.2.2 g.2.2
theorem chain_at {ds : List Dd} {kn kn' kj : List (Str × Bool)} {j : Nat} {d : Dd} (h : Chain kn ds kn') (e : ds[j]? = some d) (hj : Chain kn (ds.take j) kj) : d.wt kj ∧ d.xt kj ∧ Chain kn (ds.take (j + 1)) (kj ++ d.adds) ∧ ∃ r, kn' = (kj ++ d.adds) ++ r := by
  have hlt := (List.getElem?_eq_some_iff.mp e).1
  have e0 : ds[j] = d := (List.getElem?_eq_some_iff.mp e).2
  have sp : ds = ds.take j ++ d :: ds.drop (j + 1) := by
    have := List.take_append_drop j ds
    rw [List.drop_eq_getElem_cons hlt, e0] at this
    exact this.symm
  rw [sp] at h
  obtain ⟨k, h1, h2⟩ := chain_split h
  rw [chain_one h1 hj] at h2
  refine ⟨h2.1, h2.2.1, ?_, chain_grow h2.2.2⟩
  have tk : ds.take (j + 1) = ds.take j ++ [d] := by rw [List.take_succ, e]; rfl
  rw [tk]
  exact Chain.snoc hj h2.1 h2.2.1
theorem goW_snoc (held : List V) (ds : List Dd) (d : Dd) (s : Wk) : goW held (ds ++ [d]) s = stepW held d (goW held ds s) := by
  unfold goW
  rw [List.foldl_append]
  rfl
/-- what is held fits the columns that are filled -/
def HeldOk (kn : List (Str × Bool)) (ds : List Dd) (held : List V) : Prop := held.length = (fillsOf ds).length ∧ ∀ (i : Nat) (col : Str) (v : V) (b : Bool), (fillsOf ds)[i]? = some col → held[i]? = some v → (col, b) ∈ kn → Cell 12 b v
structure WOk (kn0 kn : List (Str × Bool)) (ds : List Dd) (held : List V) (j : Nat) (kj : List (Str × Bool)) (W : Wk) : Prop where
  ch : Chain kn0 (ds.take j) kj
  row : RowAt (LB kj.length) kj W.row
  nd : (kj.map (·.1)).Nodup
  k1 : 1 ≤ kj.length
  bl : W.bh.length = (fillsOf (ds.take j)).length
  bg : ∀ v ∈ W.bh, ∃ b, Cell 57342 b v
theorem nd_of {kj e r kn : List (Str × Bool)} (h : (kn.map (·.1)).Nodup) (q : kn = (kj ++ e) ++ r) : ((kj ++ e).map (·.1)).Nodup := by
  rw [q, List.map_append] at h
  exact (List.nodup_append.mp h).1
theorem WOk.step {kn0 kn kj : List (Str × Bool)} {ds : List Dd} {held : List V} {j : Nat} {W : Wk} {d : Dd} (h : WOk kn0 kn ds held j kj W) (hc : Chain kn0 ds kn) (nd : (kn.map (·.1)).Nodup) (ho : HeldOk kn ds held) (e : ds[j]? = some d) : WOk kn0 kn ds held (j + 1) (kj ++ d.adds) (stepW held d W) := by
  obtain ⟨w, x, c1, r, hr⟩ := chain_at hc e h.ch
  have nd1 := nd_of nd hr
  have tk : ds.take (j + 1) = ds.take j ++ [d] := by rw [List.take_succ, e]; rfl
  have k1 : 1 ≤ (kj ++ d.adds).length := by
    rw [List.length_append]
    have := h.k1
    omega
  cases hf : isFill d with
  | false =>
    have st := step_row h.row nd1 w x h.k1 hf
    have es : stepW held d W = ⟨mergeK W.row (doneD W.row d).1, W.bh, W.st && !(doneD W.row d).2⟩ := by
      cases d with
      | fill col keys => cases hf
      | _ => rfl
    have ef : fillsOf [d] = [] := by
      cases d with
      | fill col keys => cases hf
      | _ => rfl
    rw [es]
    exact ⟨c1, st.1, nd1, k1, by rw [tk, fills_app, ef, List.append_nil]; exact h.bl, h.bg⟩
  | true =>
    cases d with
    | fill col keys =>
      obtain ⟨⟨b, m⟩, _, _⟩ := w
      obtain ⟨ev, cv⟩ := h.row.cell h.nd m
      have mk : (col, b) ∈ kn := by
        rw [hr]
        exact List.mem_append_left _ (List.mem_append_left _ m)
      have fi : (fillsOf ds)[W.bh.length]? = some col := by
        have sp : ds = ds.take (j + 1) ++ ds.drop (j + 1) := (List.take_append_drop _ _).symm
        rw [sp, tk, fills_app, fills_app, h.bl, List.append_assoc, List.getElem?_append_right (Nat.le_refl _), Nat.sub_self]
        rfl
      have hl : W.bh.length < held.length := by
        rw [ho.1]
        exact (List.getElem?_eq_some_iff.mp fi).1
      have ek : held[W.bh.length]? = some (held.getD W.bh.length .non) := by rw [List.getD_eq_getElem?_getD, List.getElem?_eq_getElem hl]; rfl
      have ck := ho.2 _ col _ b fi ek mk
      refine ⟨c1, ?_, nd1, k1, ?_, ?_⟩
      · show RowAt (LB (kj ++ []).length) (kj ++ []) (if rowV W.row col = .non then putK W.row (K21.tk col) (held.getD W.bh.length .non) else W.row)
        rw [List.append_nil]
        split
        · exact h.row.put h.nd m (ck.up (LB_ge _))
        · exact h.row
      · show (W.bh ++ [_]).length = _
        rw [List.length_append, tk, fills_app, List.length_append, h.bl]
        rfl
      · intro v hv
        rcases List.mem_append.mp hv with hv | hv
        · exact h.bg v hv
        · rw [List.mem_singleton.mp hv]
          split
          · exact ⟨b, cv.up (LB_max _)⟩
          · exact ⟨b, ck.up (by decide)⟩
    | _ => cases hf
end K87
set_option Elab.async false
set_option linter.all false
set_option pp.maxSteps 4000
set_option maxRecDepth 100000
set_option maxHeartbeats 4000000
/-! k87: the program's onward -/
namespace K87
open PySem PySem.Spec PyProof.Rows L2 Bs Xg TL Xm Xs Gn Gd Xu Xw Xk K86
open K21 (tk os rowV txt TextCol Deed doneP u1 fresh_same)
abbrev sOn : Stmt := K21.top 28
def wordOf : Dd → Str
  | .cut _ _ _ => "cut" | .glue _ _ _ => "glue" | .spell _ _ => "spell" | .read _ _ _ => "read" | .put _ _ => "put"
  | .within _ _ _ => "within" | .among _ _ => "among" | .before _ _ => "before" | .given _ => "given" | .fill _ _ => "fill"
theorem at_word {H : Hp} {vs : List V} {d : Dd} (h : d.At H vs) : ∃ rs, vs = .str (wordOf d) :: rs := by
  cases d with
  | put | within | before | given =>
    cases h
    exact ⟨_, rfl⟩
  | _ =>
    obtain ⟨t, rfl, _⟩ := h
    exact ⟨_, rfl⟩
theorem word_fill (d : Dd) : decide (wordOf d = "fill") = isFill d := by
  cases d with
  | cut _ _ _ => exact (by decide +kernel : decide (Str.ofString "cut" = Str.ofString "fill") = false)
  | glue _ _ _ => exact (by decide +kernel : decide (Str.ofString "glue" = Str.ofString "fill") = false)
  | spell _ _ => exact (by decide +kernel : decide (Str.ofString "spell" = Str.ofString "fill") = false)
  | read _ _ _ => exact (by decide +kernel : decide (Str.ofString "read" = Str.ofString "fill") = false)
  | put _ _ => exact (by decide +kernel : decide (Str.ofString "put" = Str.ofString "fill") = false)
  | within _ _ _ => exact (by decide +kernel : decide (Str.ofString "within" = Str.ofString "fill") = false)
  | among _ _ => exact (by decide +kernel : decide (Str.ofString "among" = Str.ofString "fill") = false)
  | before _ _ => exact (by decide +kernel : decide (Str.ofString "before" = Str.ofString "fill") = false)
  | given _ => exact (by decide +kernel : decide (Str.ofString "given" = Str.ofString "fill") = false)
  | fill _ _ => exact decide_eq_true rfl
theorem str_dec (a b : Str) : decide (V.str a = V.str b) = decide (a = b) := by
  by_cases h : a = b
  · rw [h, decide_eq_true rfl, decide_eq_true rfl]
  · rw [decide_eq_false h, decide_eq_false fun e => h (V.str.inj e)]
theorem row_of {L : Nat} : ∀ {cols : List Str} {cells : List V}, cells.length = cols.length → (∀ v ∈ cells, Cell L true v) → RowAt L (cols.map fun z => (z, true)) ((cols.map tk).zip cells)
  | [], [], _, _ => trivial
  | c :: cols, v :: cells, l, g => ⟨rfl, g v List.mem_cons_self, row_of (by simpa using l) fun u hu => g u (List.mem_cons_of_mem _ hu)⟩
  | [], _ :: _, l, _ => by simp at l
  | _ :: _, [], l, _ => by simp at l
theorem merge_nil {L : Nat} {es : List (Str × Bool)} {more : List (Key × V)} (h : RowAt L es more) (nd : (es.map (·.1)).Nodup) : mergeK [] more = more := by
  have := merge_new (kn := []) (row := []) (show RowAt L [] [] from trivial) h (by simpa using nd)
  rwa [List.nil_append] at this
theorem set_mid (xs : List V) (y z : V) (ys : List V) : (xs ++ y :: ys).set xs.length z = xs ++ z :: ys := by
  induction xs with
  | nil => rfl
  | cons x xs ih => simp [ih]
theorem stay_old {H G : Hp} {R : Addr} {o : HO} (s : Same H G) (n : H R = none) : Same H (upd G R o) := fun b u e => by
  rw [upd_ne (ne_of_none e n)]
  exact s b u e
section
variable {P : Program} {w : World} {K : PySem.W.Frag} {mg : Str → Option Value} {base : Heap}
variable {fDn : Addr} {dDn : FuncData}
theorem scOn : FnScope ["program", "state", "worths", "_", "origin", "steps", "row", "gives", "fills", "stands", "step", "worth", "written", "marks"] ["program", "state", "worths"] (defScope sOn) := ⟨rfl, rfl, rfl, by decide +kernel, rfl, by decide +kernel, by decide +kernel⟩
/-- what a row's way tells: the row, whether it stands, what is given on -/
def OnRes (H : Hp) (t : Addr) (W : Wk) : Prop := ∃ r b c : Addr, H t = some (.tup [.ref r, .ref b]) ∧ H r = some (.tup [.ref c, .bl W.st]) ∧ H c = some (.tup (W.row.map (·.2))) ∧ H b = some (.tup W.bh)
/-- a row's cells -/
def rowOf (cols : List Str) (cells : List V) : List (Key × V) := (cols.map tk).zip cells
structure OnArg (K : PySem.W.Frag) (H : Hp) (a hs wt : Addr) (p : PlanD) (dds : List (Str × Dd)) (ad : PA) (kn : List (Str × Bool)) (held cells : List V) : Prop where
  pl : PlanAt H a p dds ad
  ok : p.ok 8 64
  ch : Chain (p.cols.map fun z => (z, true)) (dds.map (·.2)) kn
  l9 : kn.length ≤ 9
  fr : Fresh [] kn
  eh : SqT K H hs held
  ec : SqT K H wt cells
  ho : HeldOk kn (dds.map (·.2)) held
  cl : cells.length = p.cols.length
  cg : ∀ v ∈ cells, Cell 12 true v
def start (p : PlanD) (cells : List V) : Wk := ⟨rowOf p.cols cells, [], true⟩
def wayOf (p : PlanD) (dds : List (Str × Dd)) (held cells : List V) : Wk := goW held (dds.map (·.2)) (start p cells)
def spOn (K : PySem.W.Frag) : Sp := fun vs H Q _ => ∃ (a hs wt : Addr) (p : PlanD) (dds : List (Str × Dd)) (ad : PA) (kn : List (Str × Bool)) (held cells : List V), vs = [.ref a, .ref hs, .ref wt] ∧ OnArg K H a hs wt p dds ad kn held cells ∧
  ∀ t H', Same H H' → OnRes H' t (wayOf p dds held cells) → Q (.ref t) H'
theorem ok_onward {f : Addr} {fd : FuncData} (F : Fun K "onward" "onward" sOn f fd) (T : Free mg) (GDn : FnOk P w K mg base CX0 8 fDn dDn ["step", "worths"] (K21.spDn K)) (FDn : Fun K "done" "done" K21.sDn fDn dDn) (bDn : Binds K dDn ["step", "worths"] []) (gDn : mg "done" = some (.ref fDn)) : FnOk P w K mg base CX0 9 f fd ["program", "state", "worths"] (spOn K) := by
  refine F.ok scOn (fun vs H Q E h => ?_) (fun cdv A outer s H vs Q E hr h => ?_)
  · obtain ⟨a, hs, wt, p, dds, ad, kn, held, cells, rfl, _⟩ := h
    rfl
  · obtain ⟨a, hs, wt, p, dds, ad, kn, held, cells, rfl, O, q⟩ := h
    have A0 := O.pl
    refine ⟨_, pss_cons (ps_asg (pe_ix (ix_tupK (K := K) rfl) (pe_ix (ix_tupK (K := K) rfl) (pv 0) pe_int (fun _ _ => rfl)) pe_int (fun _ _ => rfl)) (pg_tup rfl (pgs_cons (pg_name (i := 3) scOn.nd rfl (Or.inl rfl)) (pgs_cons (pg_name (i := 4) scOn.nd rfl (Or.inl rfl)) (pgs_cons (pg_name (i := 5) scOn.nd rfl (Or.inl rfl)) (pgs_cons (pg_name (i := 3) scOn.nd rfl (Or.inl rfl)) pgs_nil))))))
      (pss_cons (ps_set (i := 6) scOn.nd rfl (Or.inl rfl) (pe_dictZipT rfl rfl T.dict rfl T.zip (pa_cons (pe_ix (ix_tupK (K := K) rfl) (pe_dget (u1 hr.units) (pe_callTy (call_dictT1 (K := K) rfl rfl) (by rfl) T.dict (by decide +kernel) (pa_cons (pe_ix (ix_tupK (K := K) rfl) (pv 0) pe_int (fun _ _ => rfl)) pa_nil)) (pe_ix (ix_tupK (K := K) rfl) (pv 4) pe_int (fun _ _ => rfl)) (fun _ _ => rfl)) (pe_un un_neg pe_int) (fun _ _ => rfl)) (pa_cons (pv 2) pa_nil))))
      (pss_cons (ps_set (i := 7) scOn.nd rfl (Or.inl rfl) (pe_callTy call_list_of (by rfl) T.list (by decide +kernel) (pa_cons (pv 1) pa_nil)))
      (pss_cons (ps_set (i := 8) scOn.nd rfl (Or.inl rfl) pe_int)
      (pss_cons (ps_set (i := 9) scOn.nd rfl (Or.inl rfl) pe_bl)
      (pss_cons (ps_for PassesOwn.never rfl (pi_tup (pv 5)) (pg_name (i := 10) scOn.nd rfl (Or.inl rfl)) (pss_one (ps_if (pt_cmpR op_eq (pe_ix (ix_tupK (K := K) rfl) (pv 10) pe_int (fun _ _ => rfl)) pe_str (nomark _)) (pss_cons (ps_set (i := 11) scOn.nd rfl (Or.inl rfl) (pe_dget (u1 hr.units) (pv 6) (pe_ix (ix_tupK (K := K) rfl) (pv 10) pe_int (fun _ _ => rfl)) (fun _ _ => rfl)))
      (pss_cons (ps_if (pt_cmpR op_isN (pv 11) pe_non (nomark _)) (pss_one (ps_dput (u1 hr.units) (pv 6) (pe_ix (ix_tupK (K := K) rfl) (pv 10) pe_int (fun _ _ => rfl)) (pe_ix (ix_listK (K := K) rfl) (pv 7) (pv 8) (fun _ _ => rfl)) rfl)) (pss_one (ps_if (pt_val (pv 9)) (pss_one (ps_asg (pv 11) (pg_sub (pv 7) (pv 8) set_list))) (pss_nil))))
      (pss_one (ps_aug (i := 8) scOn.nd rfl (Or.inl rfl) pe_int ip_add)))) (pss_cons (ps_asg (pe_call GDn (hr.mono (by decide)) (by rfl) gDn FDn.kp bDn .nil pass0 (pa_cons (pv 10) (pa_cons (pv 6) pa_nil))) (pg_tup rfl (pgs_cons (pg_name (i := 12) scOn.nd rfl (Or.inl rfl)) (pgs_cons (pg_name (i := 13) scOn.nd rfl (Or.inl rfl)) pgs_nil))))
      (pss_cons (ps_expr (pe_bmK (K := K) rfl PySem.F.plainAttrs_dict PySem.F.slot_dict_update PySem.F.type_dict_update mt_updK (pv 6) (pa_cons (pv 12) pa_nil)))
      (pss_one (ps_set (i := 9) scOn.nd rfl (Or.inl rfl) (pe_and (pv 9) (pe_one (pe_not (pv 13)))))))))))
      (pss_one (ps_ret (pe_tup (pa_cons (pe_tup (pa_cons (pe_callTy call_tuple_of (by rfl) T.tuple (by decide +kernel) (pa_cons (pe_callTy (call_listV rfl) (by rfl) T.list (by decide +kernel) (pa_cons (pe_bm0Q (K := K) rfl PySem.F.plainAttrs_dict PySem.F.slot_dict_values PySem.F.type_dict_values mt_vals (pv 6)) pa_nil)) pa_nil)) (pa_cons (pv 9) pa_nil))) (pa_cons (pe_callTy call_tuple_of (by rfl) T.tuple (by decide +kernel) (pa_cons (pv 7) pa_nil)) pa_nil)))))))))), ?_⟩
    refine ⟨_, rfl, a, _, _, .ref ad.aT, rfl, rfl, SqT.of A0.e0, atI_nat (j := 1) rfl, ad.aT, _, _, .ref ad.aI, rfl, rfl, SqT.of A0.eT, atI_nat (j := 0) rfl, ?_⟩
    refine ⟨ad.aI, _, rfl, SqT.of A0.eI, rfl, _, _, rfl, gN ⟨_, _, rfl, gN ⟨_, _, rfl, gN ⟨_, _, rfl, gN ⟨rfl, ?_⟩⟩⟩⟩⟩
    try dsimp only
    refine ⟨_, rfl, a, _, _, .ref ad.aS, rfl, rfl, SqT.of A0.e0, atI_nat (j := 0) rfl, ad.aS, ad.s0, tk p.sn, .ref ad.sh, rfl, ⟨ad.o, A0.eS, A0.od⟩, SqT.of A0.e1, fun d0 n0 => newO n0 fun H1 s1 e1 => ?_⟩
    refine ⟨_, rfl, ad.aO, _, _, .str p.sn, rfl, rfl, SqT.of (s1 _ _ A0.eO), atI_nat (j := 1) rfl, d0, .ref ad.sh, rfl, (valV_pos rfl : valV [(tk p.sn, V.ref ad.sh)] (tk p.sn) = some (.ref ad.sh)) ▸ DGet.k (k := tk p.sn) e1, ?_⟩
    refine ⟨1, rfl, ad.sh, _, -1, .ref ad.cA, rfl, rfl, SqT.of (s1 _ _ A0.eh), atI_last _ _, _, rfl, ?_⟩
    refine ⟨.ref ad.cA, wt, p.cols.map tk, cells, rfl, .inl ⟨ad.cA, rfl, .inl (by rw [List.map_map]; exact SqT.of (s1 _ _ A0.eC))⟩, sameT s1 O.ec, fun R nR => newO nR fun H2 s2 e2 => ?_⟩
    have hrow0 : RowAt 12 (p.cols.map fun z => (z, true)) (rowOf p.cols cells) := row_of O.cl O.cg
    have ndk : (kn.map (·.1)).Nodup := by
      have := (List.nodup_cons.mp O.fr).2
      rwa [List.nil_append] at this
    obtain ⟨rr, hrr⟩ := chain_grow O.ch
    have nd0 : ((p.cols.map fun z => (z, true)).map (·.1)).Nodup := by
      rw [hrr, List.map_append] at ndk
      exact (List.nodup_append.mp ndk).1
    replace e2 : H2 R = some (.dK (rowOf p.cols cells)) := e2.trans (congrArg (fun z => some (HO.dK z)) (merge_nil hrow0 nd0))
    refine gN ?_
    try dsimp only
    refine ⟨_, rfl, hs, held, rfl, .inr (sameT (s1.trans s2) O.eh), fun Gv nG => newO nG fun H3 s3 e3 => ?_⟩
    refine gN ?_
    try dsimp only
    have RG : R ≠ Gv := fun z => by rw [← z, e2] at nG; cases nG
    have HR : H R = none := fresh_same s1 nR
    have HG : H Gv = none := fresh_same (s1.trans s2) nG
    have s03 : Same H H3 := (s1.trans s2).trans s3
    refine ⟨_, rfl, ad.aP, rfl, ⟨_, SqT.of (s03 _ _ A0.eP)⟩, for_it (walk_tup (K := K) (a := ad.aP) (xs := ad.ps.map V.ref)) (fun j σ G => Same H G ∧ (∃ kj, WOk (p.cols.map fun z => (z, true)) kn (dds.map (·.2)) held j kj (goW held ((dds.map (·.2)).take j) (start p cells))) ∧ G R = some (.dK (goW held ((dds.map (·.2)).take j) (start p cells)).row) ∧
      G Gv = some (.lst ((goW held ((dds.map (·.2)).take j) (start p cells)).bh ++ held.drop (goW held ((dds.map (·.2)).take j) (start p cells)).bh.length)) ∧
      ∃ u1 u2 u3 u4 u5, σ = [some (.ref a), some (.ref hs), some (.ref wt), u1, some (.ref ad.aO), some (.ref ad.aP), some (.ref R), some (.ref Gv), some (.int ((goW held ((dds.map (·.2)).take j) (start p cells)).bh.length : Nat)), some (.bl (goW held ((dds.map (·.2)).take j) (start p cells)).st), u2, u3, u4, u5])
      ⟨s03, ⟨_, ⟨rfl, hrow0.up (LB_ge _), nd0, by rw [List.length_map]; exact O.ok.c1, rfl, fun v hv => nomatch hv⟩⟩, s3 _ _ e2, e3, _, _, _, _, _, rfl⟩ (fun j σ G _ pv => SqT.of (pv.1 _ _ A0.eP)) ?_ ?_⟩
    · rintro j x σ G G' hj ⟨sG, ⟨kj, wk⟩, eR, eG, u1', u2, u3, u4, u5, rfl⟩ ⟨rfl, hx⟩
      rw [List.getElem?_map] at hx
      obtain ⟨qa, hq, rfl⟩ := Option.map_eq_some_iff.mp hx
      have hjl := (List.getElem?_eq_some_iff.mp hq).1
      obtain ⟨dn, hdn⟩ : ∃ dn, dds[j]? = some dn := ⟨_, List.getElem?_eq_getElem (by have := A0.dP.1; omega)⟩
      obtain ⟨kn', ⟨vs, eq0, da, _⟩, _⟩ := A0.dP.2 j qa dn hq hdn
      have hd : (dds.map (·.2))[j]? = some dn.2 := by rw [List.getElem?_map, hdn]; rfl
      have tk1 : (dds.map (·.2)).take (j + 1) = (dds.map (·.2)).take j ++ [dn.2] := by rw [List.take_succ, hd]; rfl
      have wk' := wk.step O.ch ndk O.ho hd
      have stp : goW held ((dds.map (·.2)).take (j + 1)) (start p cells) = stepW held dn.2 (goW held ((dds.map (·.2)).take j) (start p cells)) := by rw [tk1, goW_snoc]
      obtain ⟨ww, wx, _, _⟩ := chain_at O.ch hd wk.ch
      generalize goW held ((dds.map (·.2)).take j) (start p cells) = W at wk wk' eR eG stp
      rw [stp]
      have hlW : W.bh.length ≤ held.length := by
        rw [wk.bl, O.ho.1]
        have := congrArg List.length (fills_app ((dds.map (·.2)).take j) ((dds.map (·.2)).drop j))
        rw [List.take_append_drop, List.length_append] at this
        omega
      generalize dn.2 = d at da hd wk' stp ww wx tk1
      obtain ⟨rs, rfl⟩ := at_word da
      have eq1 := sG _ _ eq0
      refine gN ?_
      dsimp only
      refine ⟨_, rfl, qa, _, _, .str (wordOf d), rfl, rfl, SqT.of eq1, atI_nat (j := 1) rfl, rfl, _, rfl, ?_⟩
      rw [str_dec, word_fill]
      cases hf : isFill d with
      | true =>
        refine iteT ?_
        cases d with
        | fill col keys =>
          obtain ⟨t, hvs, ht⟩ := da
          cases hvs
          obtain ⟨⟨b, m⟩, _, _⟩ := ww
          obtain ⟨ev, cv⟩ := wk.row.cell wk.nd m
          have dg : DGet G' R (.str col) (some (rowV W.row col)) := ev ▸ DGet.k (k := tk col) eR
          have fi : (fillsOf (dds.map (·.2)))[W.bh.length]? = some col := by
            have sp : dds.map (·.2) = (dds.map (·.2)).take (j + 1) ++ (dds.map (·.2)).drop (j + 1) := (List.take_append_drop _ _).symm
            rw [sp, tk1, fills_app, fills_app, wk.bl, List.append_assoc, List.getElem?_append_right (Nat.le_refl _), Nat.sub_self]
            rfl
          have hl : W.bh.length < held.length := by
            rw [O.ho.1]
            exact (List.getElem?_eq_some_iff.mp fi).1
          have ek : held[W.bh.length] = held.getD W.bh.length .non := by rw [List.getD_eq_getElem?_getD, List.getElem?_eq_getElem hl]; rfl
          have edr : held.drop W.bh.length = held.getD W.bh.length .non :: held.drop (W.bh.length + 1) := by rw [List.drop_eq_getElem_cons hl, ek]
          rw [edr] at eG
          have ix : (W.bh ++ held.getD W.bh.length .non :: held.drop (W.bh.length + 1))[W.bh.length]? = some (held.getD W.bh.length .non) := by
            rw [List.getElem?_append_right (Nat.le_refl _), Nat.sub_self]
            rfl
          have lrow : W.row.length < sizeLine := by
            rw [wk.row.len, sizeLine_eq]
            have := congrArg List.length (show kn = _ from Classical.choose_spec (chain_at O.ch hd wk.ch).2.2.2)
            rw [List.length_append, List.length_append] at this
            have := O.l9
            omega
          have lb : ∀ x : V, ((W.bh.length : Nat) : Int) + 1 = (((W.bh ++ [x]).length : Nat) : Int) := fun x => by rw [List.length_append]; rfl
          refine ⟨_, rfl, _, rfl, qa, _, _, .str col, rfl, rfl, SqT.of eq1, atI_nat (j := 2) rfl, R, _, rfl, dg, ?_⟩
          refine gN ?_
          dsimp only
          refine ⟨_, rfl, rfl, _, rfl, ?_⟩
          by_cases c : rowV W.row col = .non
          · rw [decide_eq_true c]
            refine iteT ?_
            refine ⟨_, rfl, _, rfl, Gv, _, _, held.getD W.bh.length .non, rfl, rfl, SqL.of eG, atI_nat ix, _, rfl, _, rfl, qa, _, _, .str col, rfl, rfl, SqT.of eq1, atI_nat (j := 2) rfl, R, _, rfl, DPut.k (k := tk col) eR lrow, ?_⟩
            have eW : stepW held (.fill col keys) W = ⟨putK W.row (tk col) (held.getD W.bh.length .non), W.bh ++ [held.getD W.bh.length .non], W.st⟩ := by
              show fillW held col W = _
              unfold fillW
              rw [if_pos c, if_neg fun z => z.2 c]
            refine ⟨_, rfl, _, _, rfl, rfl, ?_⟩
            rw [eW]
            rw [eW] at wk'
            dsimp only
            rw [← lb (held.getD W.bh.length .non)]
            refine ⟨stay_old sG HR, ⟨_, wk'⟩, upd_same, ?_, u1', _, _, _, _, rfl⟩
            rw [upd_ne RG.symm, eG]
            simp
          · rw [decide_eq_false c]
            refine iteF ?_
            refine ⟨_, rfl, _, rfl, ?_⟩
            cases hst : W.st with
            | true =>
              refine iteT ?_
              refine ⟨_, rfl, _, rfl, _, rfl, Gv, _, _, W.bh.length, rfl, rfl, eG, ?_, ?_⟩
              · unfold ixN
                rw [if_pos (Int.natCast_nonneg _), if_pos (by rw [List.length_append, List.length_cons]; omega), Int.toNat_natCast]
              have eW : stepW held (.fill col keys) W = ⟨W.row, W.bh ++ [rowV W.row col], true⟩ := by
                show fillW held col W = _
                unfold fillW
                rw [if_neg c, if_pos ⟨hst, c⟩, hst]
              rw [set_mid]
              have e4 : upd G' Gv (.lst (W.bh ++ rowV W.row col :: held.drop (W.bh.length + 1))) Gv = _ := upd_same
              have s4 : Same H (upd G' Gv (.lst (W.bh ++ rowV W.row col :: held.drop (W.bh.length + 1)))) := stay_old sG HG
              have e5 : upd G' Gv (.lst (W.bh ++ rowV W.row col :: held.drop (W.bh.length + 1))) R = _ := (upd_ne RG).trans eR
              generalize upd G' Gv (.lst (W.bh ++ rowV W.row col :: held.drop (W.bh.length + 1))) = G5 at e4 s4 e5 ⊢
              dsimp only
              refine ⟨_, rfl, _, _, rfl, rfl, ?_⟩
              rw [eW]
              rw [eW] at wk'
              dsimp only
              rw [← lb (rowV W.row col)]
              refine ⟨s4, ⟨_, wk'⟩, e5, ?_, u1', _, _, _, _, rfl⟩
              rw [e4]
              simp
            | false =>
              refine iteF ?_
              have eW : stepW held (.fill col keys) W = ⟨W.row, W.bh ++ [held.getD W.bh.length .non], false⟩ := by
                show fillW held col W = _
                unfold fillW
                rw [if_neg c, if_neg (fun z => by rw [hst] at z; cases z.1), hst]
              unfold tNext
              dsimp only
              refine ⟨_, rfl, _, _, rfl, rfl, ?_⟩
              rw [eW]
              rw [eW] at wk'
              dsimp only
              rw [← lb (held.getD W.bh.length .non)]
              refine ⟨sG, ⟨_, wk'⟩, eR, ?_, u1', _, _, _, _, rfl⟩
              rw [eG]
              simp
        | _ => cases hf
      | false =>
        refine iteF ?_
        obtain ⟨t, eit, okd⟩ := deed_at wk.row wk.nd (Nat.le_trans (LB_max _) (by decide)) (da.keep (Tst.of sG)) ww wx hf (.str dn.1)
        refine ⟨_, rfl, _, rfl, qa, R, .str dn.1, W.row, deedOf W.row t d, rfl, by rw [eit]; exact SqT.of eq1, eR, okd, fun t' H' s' res => ?_⟩
        obtain ⟨dd, hdn', ed, et⟩ := res
        rw [doneD_t] at ed et
        refine ⟨t', _, rfl, SqT.of et, rfl, _, _, rfl, gN ⟨_, _, rfl, gN ⟨rfl, ?_⟩⟩⟩
        dsimp only
        have eR' := s' _ _ eR
        refine ⟨_, rfl, .inr (.inr (.inl ⟨rfl, .inl ⟨_, eR'⟩⟩)), _, rfl, R, dd, W.row, _, rfl, rfl, ne_of_none eR hdn', eR', ed, ?_, ?_⟩
        · have l4 := (step_row wk.row (nd_of ndk (Classical.choose_spec (chain_at O.ch hd wk.ch).2.2.2)) ww wx wk.k1 hf).2.2.2
          have lk := congrArg List.length (Classical.choose_spec (chain_at O.ch hd wk.ch).2.2.2)
          rw [List.length_append, List.length_append] at lk
          have := O.l9
          rw [wk.row.len, sizeLine_eq]
          omega
        have eW : stepW held d W = ⟨mergeK W.row (doneD W.row d).1, W.bh, W.st && !(doneD W.row d).2⟩ := by
          cases d with
          | fill col keys => cases hf
          | _ => rfl
        rw [eW]
        rw [eW] at wk'
        have e4 : upd H' R (.dK (mergeK W.row (doneD W.row d).1)) R = _ := upd_same
        have s4 : Same H (upd H' R (.dK (mergeK W.row (doneD W.row d).1))) := stay_old (sG.trans s') HR
        have e5 : upd H' R (.dK (mergeK W.row (doneD W.row d).1)) Gv = _ := (upd_ne RG.symm).trans (s' _ _ eG)
        generalize upd H' R (.dK (mergeK W.row (doneD W.row d).1)) = G5 at e4 s4 e5 ⊢
        dsimp only
        refine ⟨_, rfl, W.st, rfl, ?_⟩
        cases hst : W.st with
        | true =>
          refine iteT ?_
          rw [hst] at wk'
          exact ⟨_, rfl, _, rfl, gN ⟨s4, ⟨_, wk'⟩, e4, e5, u1', _, _, _, _, rfl⟩⟩
        | false =>
          refine iteF ?_
          rw [hst] at wk'
          exact gN ⟨s4, ⟨_, wk'⟩, e4, e5, u1', _, _, _, _, rfl⟩
    · rintro σ G ⟨sG, ⟨kj, wk⟩, eR, eG, u1', u2, u3, u4, u5, rfl⟩
      have eall : (dds.map (·.2)).take (ad.ps.map V.ref).length = dds.map (·.2) := List.take_of_length_le (by rw [List.length_map, List.length_map, A0.dP.1]; exact Nat.le_refl _)
      rw [eall] at eR eG
      have wk2 := wk.bl
      rw [eall] at wk2 ⊢
      have edr : held.drop (goW held (dds.map (·.2)) (start p cells)).bh.length = [] := List.drop_eq_nil_of_le (by rw [wk2, O.ho.1]; exact Nat.le_refl _)
      rw [edr, List.append_nil] at eG
      have q' : ∀ t H', Same H H' → OnRes H' t (goW held (dds.map (·.2)) (start p cells)) → Q (.ref t) H' := q
      generalize goW held (dds.map (·.2)) (start p cells) = W at eR eG q' ⊢
      unfold tRet
      dsimp only
      refine ⟨_, rfl, .inr (.inr (.inl ⟨rfl, .inl ⟨_, eR⟩⟩)), R, W.row, rfl, rfl, eR, fun v nv => newO nv fun G1 z1 ev1 => ?_⟩
      refine ⟨v, R, W.row, rfl, ev1, z1 _ _ eR, fun l nl => newO nl fun G2 z2 el => ?_⟩
      refine ⟨l, _, rfl, .inl ⟨SqL.of el, fun c nc => newO nc fun G3 z3 ec => ?_⟩⟩
      refine ⟨_, rfl, (show 2 ≤ sizeLine by decide), fun r nr => newO nr fun G4 z4 er => ?_⟩
      refine ⟨_, rfl, Gv, _, rfl, .inl ⟨SqL.of (z4 _ _ (z3 _ _ (z2 _ _ (z1 _ _ eG)))), fun b nb => newO nb fun G5 z5 eb => ?_⟩⟩
      refine ⟨(show 2 ≤ sizeLine by decide), fun t nt => newO nt fun G6 z6 et => ?_⟩
      have z46 := z5.trans z6
      exact q' t G6 (((((sG.trans z1).trans z2).trans z3).trans z4).trans z46) ⟨r, b, c, et, z46 _ _ er, z46 _ _ (z4 _ _ ec), z6 _ _ eb⟩
end
end K87
set_option Elab.async false
set_option linter.all false
set_option maxRecDepth 100000
set_option maxHeartbeats 4000000
/-! k21: days by their signs -/
namespace K21
open PySem PySem.Spec PyProof.Rows L2 Bs Xg TL Xk K02 Gn
def signs (z : Str) : List Nat := (tl z).filter fun c => !dg c
def Sep (s : Nat) : Prop := s = 45 ∨ s = 46 ∨ s = 47
theorem Sep.lt {s : Nat} (h : Sep s) : s < 256 := by rcases h with rfl | rfl | rfl <;> decide
theorem Sep.nd {s : Nat} (h : Sep s) : dg s = false := by rcases h with rfl | rfl | rfl <;> decide
theorem btw_eq : btw = [⟨#[45]⟩, ⟨#[46]⟩, ⟨#[47]⟩] := by unfold btw; rw [ofS1.1, ofS1.2.1, ofS1.2.2]
theorem filter_nd {s : Nat} (hs : dg s = false) : ∀ {l : List Nat}, (∀ c ∈ l, c ≠ s → dg c = true) → l.filter (fun c => !dg c) = List.replicate (l.count s) s
  | [], _ => by simp
  | c :: r, h => by
    have ih := filter_nd hs (l := r) fun d hd => h d (List.mem_cons_of_mem _ hd)
    by_cases e : c = s
    · subst e
      rw [List.filter_cons, hs, List.count_cons_self]
      simp [ih, List.replicate_succ]
    · have hc := h c List.mem_cons_self e
      rw [List.filter_cons, hc, List.count_cons_of_ne e]
      simpa using ih
theorem split_len (z : Str) {s : Nat} (hs : s < 256) : (Txt.split z ⟨#[s]⟩).length = (tl z).count s + 1 := by
  rw [split_cut z hs, List.length_map, cutAt_count]
theorem dayS_ne {o z : Str} : ∀ {l : List Str} {i : Int}, dayS o z l = some i → ∃ s ∈ l, (Txt.split z s).length = 3 ∧ dayQ o (Txt.split z s) = some i
  | [], i, h => nomatch h
  | s :: r, i, h => by
    unfold dayS at h
    by_cases c : (Txt.split z s).length = 3
    · rw [if_pos c] at h
      exact ⟨s, List.mem_cons_self, c, h⟩
    · rw [if_neg c] at h
      obtain ⟨t, ht, q⟩ := dayS_ne h
      exact ⟨t, List.mem_cons_of_mem _ ht, q⟩
theorem dayP_figs {Y M D : List Nat} {i : Int} (h : dayP Y M D = some i) : NumText.AllDigits Y ∧ NumText.AllDigits M ∧ NumText.AllDigits D := by
  unfold dayP at h
  by_cases c : Y.length = 4 ∧ figs 4 Y = true ∧ figs 2 M = true ∧ figs 2 D = true
  · exact ⟨(figs_iff.mp c.2.1).2, (figs_iff.mp c.2.2.1).2, (figs_iff.mp c.2.2.2).2⟩
  · rw [if_neg c] at h
    cases h
theorem ord3_all {o a b c : Str} {p : Str → Prop} (h : p (ord3 o [a, b, c]).1 ∧ p (ord3 o [a, b, c]).2.1 ∧ p (ord3 o [a, b, c]).2.2) : p a ∧ p b ∧ p c := by
  unfold ord3 at h
  split at h
  · exact h
  · split at h
    · exact ⟨h.2.2, h.2.1, h.1⟩
    · exact ⟨h.2.1, h.2.2, h.1⟩
theorem ord3_mk {o a b c : Str} {p : Str → Prop} (ha : p a) (hb : p b) (hc : p c) : p (ord3 o [a, b, c]).1 ∧ p (ord3 o [a, b, c]).2.1 ∧ p (ord3 o [a, b, c]).2.2 := by
  unfold ord3
  split
  · exact ⟨ha, hb, hc⟩
  · split
    · exact ⟨hc, hb, ha⟩
    · exact ⟨hc, ha, hb⟩
theorem three {α : Type} {l : List α} (h : l.length = 3) : ∃ a b c, l = [a, b, c] := by
  match l, h with
  | [a, b, c], _ => exact ⟨a, b, c, rfl⟩
theorem dg_of {l : List Nat} (h : NumText.AllDigits l) : ∀ c ∈ l, dg c = true := fun c hc => dg_iff.mpr (h c hc)
theorem dayS_some {o z : Str} {i : Int} (h : dayS o z btw = some i) : ∃ s, Sep s ∧ signs z = [s, s] := by
  obtain ⟨t, ht, l3, hq⟩ := dayS_ne h
  obtain ⟨s, hs, rfl⟩ : ∃ s, Sep s ∧ t = ⟨#[s]⟩ := by
    rw [btw_eq] at ht
    rcases List.mem_cons.mp ht with rfl | ht
    · exact ⟨45, .inl rfl, rfl⟩
    rcases List.mem_cons.mp ht with rfl | ht
    · exact ⟨46, .inr (.inl rfl), rfl⟩
    · exact ⟨47, .inr (.inr rfl), List.mem_singleton.mp ht⟩
  refine ⟨s, hs, ?_⟩
  obtain ⟨a, b, c, e⟩ := three l3
  rw [e] at hq
  have fg := dayP_figs hq
  have fa := ord3_all (o := o) (p := fun x => NumText.AllDigits (tl x)) ⟨fg.1, fg.2.1, fg.2.2⟩
  have hl := l3
  rw [split_len z hs.lt] at hl
  have ec := e
  rw [split_cut z hs.lt] at ec
  have fl := cutAt_flat s (tl z)
  have em : (cutAt s (tl z)) = [tl a, tl b, tl c] := by
    have h2 := congrArg (List.map tl) ec
    rw [List.map_map] at h2
    simpa [Function.comp_def, tl_S] using h2
  rw [em] at fl
  unfold signs
  rw [filter_nd hs.nd fun c1 hc1 n1 => ?_]
  · rw [show (tl z).count s = 2 by omega]
    rfl
  · have : c1 ∈ (tl z).filter fun c => !decide (c = s) := List.mem_filter.mpr ⟨hc1, by simp [n1]⟩
    rw [← fl] at this
    simp only [List.flatten_cons, List.flatten_nil, List.append_nil, List.mem_append] at this
    rcases this with q | q | q
    · exact dg_of fa.1 _ q
    · exact dg_of fa.2.1 _ q
    · exact dg_of fa.2.2 _ q
theorem dayS_at {o z : Str} {s : Nat} (hs : Sep s) (hg : signs z = [s, s]) : dayS o z btw = dayQ o (Txt.split z ⟨#[s]⟩) ∧ (Txt.split z ⟨#[s]⟩).length = 3 ∧ ∀ p ∈ Txt.split z ⟨#[s]⟩, NumText.AllDigits (tl p) ∧ p.length ≤ z.length := by
  have mem : ∀ c ∈ tl z, c ≠ s → dg c = true := by
    intro c hc n
    cases d : dg c with
    | true => rfl
    | false =>
      have : c ∈ signs z := List.mem_filter.mpr ⟨hc, by rw [d]; rfl⟩
      rw [hg] at this
      exact absurd (by simpa using this) n
  have cs : (tl z).count s = 2 := by
    have h1 := filter_nd hs.nd mem
    have h2 : (signs z).length = (tl z).count s := by unfold signs; rw [h1, List.length_replicate]
    rw [hg] at h2
    exact h2.symm
  have co : ∀ t, Sep t → t ≠ s → (tl z).count t = 0 := by
    intro t ht n
    refine List.count_eq_zero.mpr fun q => ?_
    have := mem t q n
    rw [ht.nd] at this
    cases this
  have l3 : (Txt.split z ⟨#[s]⟩).length = 3 := by rw [split_len z hs.lt, cs]
  have ln : ∀ t, Sep t → t ≠ s → ¬ (Txt.split z ⟨#[t]⟩).length = 3 := fun t ht n => by rw [split_len z ht.lt, co t ht n]; decide
  refine ⟨?_, l3, fun p hp => ⟨?_, parts_le hs.lt p hp⟩⟩
  · rw [btw_eq]
    have s1 : Sep 45 := .inl rfl
    have s2 : Sep 46 := .inr (.inl rfl)
    rcases hs with rfl | rfl | rfl
    · unfold dayS
      rw [if_pos l3]
    · unfold dayS
      rw [if_neg (ln 45 s1 (by decide))]
      unfold dayS
      rw [if_pos l3]
    · unfold dayS
      rw [if_neg (ln 45 s1 (by decide))]
      unfold dayS
      rw [if_neg (ln 46 s2 (by decide))]
      unfold dayS
      rw [if_pos l3]
  · rw [split_cut z hs.lt] at hp
    obtain ⟨l, hl, rfl⟩ := List.mem_map.mp hp
    obtain ⟨_, h2, h3⟩ := cutAt_mem s _ l hl
    rw [tl_S]
    intro c hc
    exact dg_iff.mp (mem c (h3 c hc) fun e => h2 (e ▸ hc))
theorem figs_digits {k : Nat} {l : List Nat} (h : NumText.AllDigits l) : figs k l = true ↔ 1 ≤ l.length ∧ l.length ≤ k := by
  rw [figs_iff]
  exact ⟨fun q => q.1, fun q => ⟨q, h⟩⟩
theorem dayP_digits {Y M D : List Nat} (hY : NumText.AllDigits Y) (hM : NumText.AllDigits M) (hD : NumText.AllDigits D) :
    dayP Y M D = if Y.length = 4 ∧ (1 ≤ M.length ∧ M.length ≤ 2) ∧ (1 ≤ D.length ∧ D.length ≤ 2) then numI (val Y) (val M) (val D) else none := by
  unfold dayP
  by_cases c : Y.length = 4 ∧ (1 ≤ M.length ∧ M.length ≤ 2) ∧ (1 ≤ D.length ∧ D.length ≤ 2)
  · rw [if_pos c, if_pos ⟨c.1, (figs_digits hY).mpr (by omega), (figs_digits hM).mpr c.2.1, (figs_digits hD).mpr c.2.2⟩]
  · rw [if_neg c, if_neg fun q => c ⟨q.1, (figs_digits hM).mp q.2.2.1, (figs_digits hD).mp q.2.2.2⟩]
/-- the law's months -/
def monB (b : Bool) : List Int := [31, 28 + (if b then 1 else 0), 31, 30, 31, 30, 31, 31, 30, 31, 30, 31]
def dinB (b : Bool) (m : Nat) : Int := monL.getD (m - 1) 0 + if m = 2 ∧ b = true then 1 else 0
theorem monB_din : ∀ b : Bool, ∀ m : Nat, m < 13 → 1 ≤ m → (monB b).getD (m - 1) 0 = dinB b m := by decide +kernel
theorem monB_sum : ∀ b : Bool, ∀ m : Nat, m < 13 → 1 ≤ m → ((monB b).take (m - 1)).sum = ((List.range (m - 1)).map fun j => dinB b (1 + j)).sum := by decide +kernel
theorem din_B (y m : Nat) : dinI y m = dinB (leapB y) m := rfl
theorem sum_B (y m : Nat) : sumI y m = ((List.range (m - 1)).map fun j => dinB (leapB y) (1 + j)).sum := rfl
end K21
set_option Elab.async false
set_option linter.all false
set_option pp.maxSteps 4000
set_option maxRecDepth 100000
set_option maxHeartbeats 4000000
/-! k87: the law's figures and days -/
namespace K87
open PySem PySem.Spec PyProof.Rows L2 Bs Xg TL Xm Xs Gn Gd Xu Xw Xk K86 K02
open K21 (tk os ov u1 dayS dayP dayQ numI dinI aheadI sumI leapB IsOrd ord3 btw dayS_at dayS_some dayP_digits intTextD monB monB_din monB_sum din_B three)
abbrev sLF : Stmt := K21.top 46
abbrev sLDy : Stmt := K21.top 47
def digs : Str := Str.ofString "0123456789"
theorem digs_mem (c : Nat) : decide (c ∈ digs.cps.toList) = dg c := by
  have e : digs.cps.toList = [48, 49, 50, 51, 52, 53, 54, 55, 56, 57] := by decide +kernel
  rw [e]
  unfold dg
  rw [← Bool.decide_and]
  exact decide_eq_decide.mpr (by simp; omega)
def figB (l : List Nat) : Bool := decide (1 ≤ l.length) && l.all dg
theorem figs_B (k : Nat) (l : List Nat) : figs k l = (figB l && decide (l.length ≤ k)) := by
  unfold figs figB
  cases decide (1 ≤ l.length) <;> cases decide (l.length ≤ k) <;> cases l.all dg <;> rfl
section
variable {P : Program} {w : World} {K : PySem.W.Frag} {mg : Str → Option Value} {base : Heap}
abbrev nLF : List Str := ["_law_word", "_law_sign"]
theorem scLF : FnScope nLF ["_law_word"] (defScope sLF) := ⟨rfl, rfl, rfl, by decide +kernel, rfl, by decide +kernel, by decide +kernel⟩
def spLF : Sp := fun vs H Q _ => ∃ z : Str, vs = [.str z] ∧ z.length ≤ 62000 ∧ ∀ H', Same H H' → Q (.bl (figB (tl z))) H'
theorem ok_lf {f : Addr} {fd : FuncData} (F : Fun K "_law_figures" "_law_figures" sLF f fd) (T : Free mg) : FnOk P w K mg base CX0 1 f fd ["_law_word"] spLF := by
  refine F.ok scLF (fun vs H Q E h => ?_) (fun cdv A outer s H vs Q E hr h => ?_)
  · obtain ⟨z, rfl, _⟩ := h
    rfl
  · obtain ⟨z, rfl, zl, q⟩ := h
    refine ⟨_, pss_one (ps_ret (pe_and (pe_cmpR op_ne (pv 0) pe_str (nomark _)) (pe_one (pe_callB (cr_all rfl) (by rfl) T.all (by decide +kernel) (pa_cons (pe_lc (own := [("_law_sign", 1)]) (g := gName 1) (tt := tYes) rfl scLF.nd (pi_str (pv 0)) (blkOk_by (own := [("_law_sign", 1)]) (N := nLF) (sc := defScope sLF) (by decide +kernel)) (fun _ _ _ _ _ => (pg_name (i := 1) scLF.nd rfl (Or.inl rfl))) (fun _ _ _ _ _ => pts_nil) (fun _ _ _ _ _ => (pe_cmpR op_in_sign (pv 1) pe_str rfl))) pa_nil))))), ?_⟩
    have ll : z.length = (tl z).length := len_tl z
    have zs : z.cps.size = z.length := rfl
    refine ⟨_, rfl, rfl, _, rfl, ?_⟩
    have e0 : (!decide (V.str z = V.str (Str.ofString ""))) = decide (1 ≤ (tl z).length) := by
      rw [str_dec]
      by_cases e : z = Str.ofString ""
      · rw [decide_eq_true e]
        have : (tl z).length = 0 := by
          rw [e]
          decide +kernel
        rw [decide_eq_false (by omega)]
        rfl
      · rw [decide_eq_false e]
        have : (tl z).length ≠ 0 := fun h => e (by
          have h1 : tl z = [] := List.eq_nil_of_length_eq_zero h
          have h2 : tl (Str.ofString "") = [] := by decide +kernel
          exact ext_tl (h1.trans h2.symm))
        rw [decide_eq_true (by omega)]
        rfl
    rw [e0]
    by_cases c1 : 1 ≤ (tl z).length
    · rw [decide_eq_true c1]
      refine iteT ?_
      refine ⟨_, rfl, z, rfl, fun D nD => ?_⟩
      refine lc_val (walk_str (z := z)) (Z := fun j x => ∃ c, z.cps[j]? = some c ∧ x = .str ⟨#[c]⟩) (fun j => .bl (dg (z.cps.toList.getD j 0))) nD (fun _ _ _ _ e => e) (fun _ _ => trivial) (by omega) (fun _ => rfl) ?_ ?_
      · rintro j x G Q' hj ⟨c, hc, rfl⟩ _ kG
        have kG := kG G (Same.refl _)
        have ec : z.cps.toList.getD j 0 = c := by
          rw [List.getD_eq_getElem?_getD, Array.getElem?_toList, hc]
          rfl
        rw [ec, ← digs_mem] at kG
        exact ⟨_, rfl, c, digs, rfl, rfl, kG⟩
      · intro G sG eD
        refine ⟨D, (List.range z.cps.size).map (fun j => dg (z.cps.toList.getD j 0)), rfl, SqL.of ?_, ?_⟩
        · rw [eD, List.map_map]
          rfl
        · have e : ((List.range z.cps.size).map fun j => dg (z.cps.toList.getD j 0)).all id = figB (tl z) := by
            have e2 := range_at z.cps.toList dg (fun j => dg (z.cps.toList.getD j 0)) (fun j x hx => by rw [List.getD_eq_getElem?_getD, hx]; rfl)
            rw [Array.length_toList] at e2
            rw [e2, List.all_map]
            unfold figB
            rw [decide_eq_true c1]
            rfl
          rw [e]
          exact q G sG
    · rw [decide_eq_false c1]
      have z1 := q H (Same.refl _)
      unfold figB at z1
      rw [decide_eq_false c1, Bool.false_and] at z1
      exact iteF z1
theorem paired_ix {α β : Type} {F : α → β → Prop} : ∀ {xs : List α} {ys : List β}, xs.length = ys.length → (∀ (j : Nat) (x : α) (y : β), xs[j]? = some x → ys[j]? = some y → F x y) → Paired F xs ys
  | [], [], _, _ => .nil
  | x :: xs, y :: ys, l, g => .cons (g 0 x y rfl rfl) (paired_ix (by simpa using l) fun j a b h1 h2 => g (j + 1) a b (by simpa using h1) (by simpa using h2))
  | [], _ :: _, l, _ => by simp at l
  | _ :: _, [], l, _ => by simp at l
theorem zip_paired {H : Hp} {Ts : List Addr} {ks : List Key} {xs ys : List V} (ex : xs = ks.map kV) (z : ZipTs H Ts xs ys) : Paired (fun (T : Addr) (kv : Key × V) => SqT K H T [kV kv.1, kv.2]) Ts (ks.zip ys) := by
  subst ex
  refine paired_ix (by rw [z.1, List.length_zip, List.length_map]) fun j T kv h1 h2 => ?_
  obtain ⟨x, y, e1, e2, e3⟩ := z.2 j T h1
  obtain ⟨h3, h4⟩ := List.getElem?_zip_eq_some.mp (show (ks.zip ys)[j]? = some (kv.1, kv.2) from h2)
  rw [List.getElem?_map, h3] at e1
  cases e1
  rw [h4] at e2
  cases e2
  exact SqT.of e3
theorem cutV_to (xs : List V) (k : Nat) : cutV xs none (some (k : Int)) = xs.take k := by
  show (xs.drop (HT.sIx xs.length 0 none)).take (HT.sIx xs.length xs.length (some (k : Int)) - HT.sIx xs.length 0 none) = xs.take k
  rw [HT.sIx_none, HT.sIx_nat, List.drop_zero, Nat.sub_zero]
  by_cases h : k ≤ xs.length
  · rw [Nat.min_eq_left h]
  · rw [Nat.min_eq_right (by omega), List.take_of_length_le (Nat.le_refl _), List.take_of_length_le (by omega)]
abbrev nLDy : List Str := ["_law_order", "_law_word", "_law_signs", "_law_parts", "_law_told", "_law_y", "_law_m", "_law_d", "_law_longer", "_law_months", "_law_leaps", "_law_sign", "_law_part"]
theorem scLDy : FnScope nLDy ["_law_order", "_law_word"] (defScope sLDy) := ⟨rfl, rfl, rfl, by decide +kernel, rfl, by decide +kernel, by decide +kernel⟩
def spLDy : Sp := fun vs H Q _ => ∃ (o z : Str), vs = [.str o, .str z] ∧ z.length ≤ 60000 ∧ IsOrd o ∧ ∀ H', Same H H' → Q (ov (dayS o z btw)) H'
instance (s : Nat) : Decidable (K21.Sep s) := by unfold K21.Sep; infer_instance
theorem ok_lday {f fLF : Addr} {fd dLF : FuncData} (F : Fun K "_law_day" "_law_day" sLDy f fd) (T : Free mg) (FLF : Fun K "_law_figures" "_law_figures" sLF fLF dLF) (bLF : Binds K dLF ["_law_word"] []) (gLF : mg "_law_figures" = some (.ref fLF)) : FnOk P w K mg base CX0 2 f fd ["_law_order", "_law_word"] spLDy := by
  have GLF : FnOk P w K mg base CX0 1 fLF dLF ["_law_word"] spLF := ok_lf FLF T
  refine F.ok scLDy (fun vs H Q E h => ?_) (fun cdv A outer s H vs Q E hr h => ?_)
  · obtain ⟨o, z, rfl, _⟩ := h
    rfl
  · obtain ⟨o, z, rfl, zl, io, q⟩ := h
    refine ⟨_, pss_cons (ps_setLc (i := 2) (own := [("_law_sign", 11)]) (g := gName 11) (tt := (tTest (tOp (fun x y H Q => ∃ (c : Nat) (z : Str), x = .str ⟨#[c]⟩ ∧ y = .str z ∧ Q (.bl (!decide (c ∈ z.cps.toList))) H) (tVar 11) (tC (.str "0123456789"))))) rfl scLDy.nd rfl rfl (sw_true rfl rfl rfl rfl) (pi_str (pv 1)) (blkOk_by (own := [("_law_sign", 11)]) (N := nLDy) (sc := defScope sLDy) (by decide +kernel)) (fun _ _ _ _ _ => (pg_name (i := 11) scLDy.nd rfl (Or.inl rfl))) (fun _ _ _ _ _ => pts_one (pt_cmpR op_notIn_sign (pv 11) pe_str rfl)) (fun _ _ _ _ _ => (pv 11)))
      (pss_cons (ps_if (PW.pt (pw_or (pt_cmpR op_ne (pe_callB (call_len_seqK (K := K) rfl) (by rfl) T.len PySem.boot_len (pa_cons (pv 2) pa_nil)) pe_int (nomark _)) (pw_or (pt_cmpR op_ne (pe_ix (ix_listK (K := K) rfl) (pv 2) pe_int (fun _ _ => rfl)) (pe_ix (ix_listK (K := K) rfl) (pv 2) pe_int (fun _ _ => rfl)) (nomark _)) (pw_or1 (pt_cmpR op_notIn_sign (pe_ix (ix_listK (K := K) rfl) (pv 2) pe_int (fun _ _ => rfl)) pe_str rfl))))) (pss_one (ps_ret pe_non)) (pss_nil))
      (pss_cons (ps_set (i := 3) scLDy.nd rfl (Or.inl rfl) (pe_split (pv 1) (pe_ix (ix_listK (K := K) rfl) (pv 2) pe_int (fun _ _ => rfl))))
      (pss_cons (ps_set (i := 4) scLDy.nd rfl (Or.inl rfl) (pe_callTy (call_dictP rfl) (by rfl) T.dict (by decide +kernel) (pa_cons (pe_listZip rfl rfl T.list rfl T.zip (pa_cons (pv 0) (pa_cons (pv 3) pa_nil))) pa_nil)))
      (pss_cons (ps_if (PW.pt (pw_or (pt_not (pt_val (pe_callB (cr_all rfl) (by rfl) T.all (by decide +kernel) (pa_cons (pe_lc (own := [("_law_part", 12)]) (g := gName 12) (tt := tYes) rfl scLDy.nd (pi_list (pv 3)) (blkOk_by (own := [("_law_part", 12)]) (N := nLDy) (sc := defScope sLDy) (by decide +kernel)) (fun _ _ _ _ _ => (pg_name (i := 12) scLDy.nd rfl (Or.inl rfl))) (fun _ _ _ _ _ => pts_nil) (fun _ _ _ _ _ => (pe_call GLF (hr.mono (by decide)) (by rfl) gLF FLF.kp bLF .nil pass0 (pa_cons (pv 12) pa_nil)))) pa_nil)))) (pw_or1 (pt_cmpR op_ne (pe_callB call_len_str (by rfl) T.len PySem.boot_len (pa_cons (pe_dget (u1 hr.units) (pv 4) pe_str (fun _ _ => rfl)) pa_nil)) pe_int (nomark _))))) (pss_one (ps_ret pe_non)) (pss_nil))
      (pss_cons (ps_if (PW.pt (pw_or (pt_cmpR op_gt (pe_callB call_len_str (by rfl) T.len PySem.boot_len (pa_cons (pe_dget (u1 hr.units) (pv 4) pe_str (fun _ _ => rfl)) pa_nil)) pe_int (nomark _)) (pw_or1 (pt_cmpR op_gt (pe_callB call_len_str (by rfl) T.len PySem.boot_len (pa_cons (pe_dget (u1 hr.units) (pv 4) pe_str (fun _ _ => rfl)) pa_nil)) pe_int (nomark _))))) (pss_one (ps_ret pe_non)) (pss_nil))
      (pss_cons (ps_par3 (i := 5) (j := 6) (l := 7) rfl scLDy.nd rfl rfl rfl (by decide) (by decide) (by decide) rfl rfl rfl (pa_cons (pe_callTy call_int_str (by rfl) T.int (by decide +kernel) (pa_cons (pe_dget (u1 hr.units) (pv 4) pe_str (fun _ _ => rfl)) pa_nil)) (pa_cons (pe_callTy call_int_str (by rfl) T.int (by decide +kernel) (pa_cons (pe_dget (u1 hr.units) (pv 4) pe_str (fun _ _ => rfl)) pa_nil)) (pa_cons (pe_callTy call_int_str (by rfl) T.int (by decide +kernel) (pa_cons (pe_dget (u1 hr.units) (pv 4) pe_str (fun _ _ => rfl)) pa_nil)) pa_nil))) (by rfl))
      (pss_cons (ps_set (i := 8) scLDy.nd rfl (Or.inl rfl) (pe_callTy call_int1 (by rfl) T.int (by decide +kernel) (pa_cons (pe_and (pe_cmpR op_eq (pe_op op_mod (pv 5) pe_int) pe_int (nomark _)) (pe_one (pe_or (pe_cmpR op_gt (pe_op op_mod (pv 5) pe_int) pe_int (nomark _)) (pe_one (pe_cmpR op_eq (pe_op op_mod (pv 5) pe_int) pe_int (nomark _)))))) pa_nil)))
      (pss_cons (ps_set (i := 9) scLDy.nd rfl (Or.inl rfl) (pe_lst (pa_cons pe_int (pa_cons (pe_op op_add pe_int (pv 8)) (pa_cons pe_int (pa_cons pe_int (pa_cons pe_int (pa_cons pe_int (pa_cons pe_int (pa_cons pe_int (pa_cons pe_int (pa_cons pe_int (pa_cons pe_int (pa_cons pe_int pa_nil))))))))))))))
      (pss_cons (ps_if (PW.pt (pw_or (pt_cmpR op_eq (pv 5) pe_int (nomark _)) (pw_or (pt_not (pt_chain op_le op_le pe_int (pv 6) pe_int)) (pw_or1 (pt_not (pt_chain op_le op_le pe_int (pv 7) (pe_ix (ix_listK (K := K) rfl) (pv 9) (pe_op op_sub (pv 6) pe_int) (fun _ _ => rfl)))))))) (pss_one (ps_ret pe_non)) (pss_nil))
      (pss_cons (ps_set (i := 10) scLDy.nd rfl (Or.inl rfl) (pe_op op_add (pe_op op_sub (pe_op op_fdiv (pe_op op_sub (pv 5) pe_int) pe_int) (pe_op op_fdiv (pe_op op_sub (pv 5) pe_int) pe_int)) (pe_op op_fdiv (pe_op op_sub (pv 5) pe_int) pe_int)))
      (pss_one (ps_ret (pe_op op_sub (pe_op op_add (pe_op op_add (pe_op op_add (pe_op op_mul pe_int (pe_op op_sub (pv 5) pe_int)) (pv 10)) (pe_callB (cr_sum rfl) (by rfl) T.sum (by decide +kernel) (pa_cons (pe_slice sl_list (pv 9) po_none (po_some (pe_op op_sub (pv 6) pe_int))) pa_nil))) (pv 7)) pe_int))))))))))))), ?_⟩
    have line : ∀ {x : Str}, x.length ≤ 60000 → x.length ≤ sizeLine := fun h => Nat.le_trans h (by decide)
    have no : (¬ ∃ s, K21.Sep s ∧ K21.signs z = [s, s]) → ∀ G, Same H G → Q .non G := fun n G sG => by
      have z1 := q G sG
      cases e : dayS o z btw with
      | none => rw [e] at z1; exact z1
      | some i => exact absurd (dayS_some e) n
    have zs : z.cps.size = z.length := rfl
    refine ⟨_, rfl, z, rfl, fun D nD => ?_⟩
    refine lc_fm (walk_str (z := z)) (tl z) (fun c => if dg c = true then none else some (V.str ⟨#[c]⟩)) (by rw [← len_tl]; rfl) nD (fun _ _ => trivial) (by omega) ?_ ?_
    · rintro j c x G G' R N hk sG ⟨rfl, c', hc', rfl⟩ keep drop
      have ec : c' = c := by
        have h2 : (tl z)[j]? = some c' := by rw [← hc']; exact Array.getElem?_toList
        rw [hk] at h2
        exact (Option.some.inj h2).symm
      subst ec
      refine gN ⟨rfl, ?_⟩
      refine ⟨_, rfl, c', digs, rfl, rfl, _, rfl, ?_⟩
      rw [digs_mem]
      cases e : dg c' with
      | true => exact drop (by simp [e]) _ (Same.refl _)
      | false => exact ⟨_, rfl, keep _ (by simp [e]) _ (Same.refl _)⟩
    · intro G1 s1 eD
      have eS : (tl z).filterMap (fun c => if dg c = true then none else some (V.str ⟨#[c]⟩)) = (K21.signs z).map fun c => V.str ⟨#[c]⟩ := by
        unfold K21.signs
        generalize tl z = l
        induction l with
        | nil => rfl
        | cons c r ih =>
          cases e : dg c with
          | true => rw [List.filterMap_cons, List.filter_cons]; simp [e, ih]
          | false => rw [List.filterMap_cons, List.filter_cons]; simp [e, ih]
      rw [eS] at eD
      refine gN ?_
      try dsimp only
      refine ⟨_, rfl, D, _, rfl, .inl (SqL.of eD), ?_⟩
      refine ⟨rfl, _, rfl, ?_⟩
      have e2 : (!decide (V.int (((K21.signs z).map fun c => V.str ⟨#[c]⟩).length : Nat) = V.int 2)) = !decide ((K21.signs z).length = 2) := congrArg Bool.not (decide_eq_decide.mpr ⟨fun h => by have := V.int.inj h; rw [List.length_map] at this; omega, fun h => congrArg V.int (by rw [List.length_map]; omega)⟩)
      rw [e2]
      by_cases l2 : (K21.signs z).length = 2
      · rw [decide_eq_true l2]
        obtain ⟨a, b, eab⟩ : ∃ a b, K21.signs z = [a, b] := by
          match h : K21.signs z, l2 with
          | [a, b], _ => exact ⟨a, b, rfl⟩
        rw [eab] at eD
        have eD' : G1 D = some (.lst [V.str ⟨#[a]⟩, V.str ⟨#[b]⟩]) := eD
        refine iteF ⟨_, rfl, D, _, _, _, rfl, rfl, SqL.of eD', rfl, _, rfl, D, _, _, _, rfl, rfl, SqL.of eD', rfl, ?_⟩
        refine ⟨rfl, _, rfl, ?_⟩
        have e3 : (!decide (V.str (⟨#[a]⟩ : Str) = V.str ⟨#[b]⟩)) = !decide (a = b) := congrArg Bool.not (decide_eq_decide.mpr ⟨fun h => by have := V.str.inj h; simpa using this, fun h => by rw [h]⟩)
        rw [e3]
        by_cases ab : a = b
        · subst ab
          rw [decide_eq_true rfl]
          have eM : decide (a ∈ (Str.ofString "-./").cps.toList) = decide (K21.Sep a) := by
            have e : (Str.ofString "-./").cps.toList = [45, 46, 47] := by decide +kernel
            rw [e]
            exact decide_eq_decide.mpr (by unfold K21.Sep; simp)
          refine iteF ⟨_, rfl, D, _, _, _, rfl, rfl, SqL.of eD', rfl, a, Str.ofString "-./", rfl, rfl, _, rfl, ?_⟩
          rw [eM]
          by_cases sa : K21.Sep a
          · rw [decide_eq_true sa]
            refine iteF ?_
            unfold tNext
            dsimp only
            have at_ := dayS_at (o := o) sa eab
            refine ⟨_, rfl, ⟨_, rfl⟩, _, rfl, D, _, _, _, rfl, rfl, SqL.of eD', rfl, z, ⟨#[a]⟩, rfl, rfl, rfl, Nat.le_trans (Nat.add_le_add_right zl 2) (by decide), fun D1 n1 => newO n1 fun G2 s2 e2p => ?_⟩
            refine gN ?_
            try dsimp only
            generalize Txt.split z ⟨#[a]⟩ = parts at *
            obtain ⟨eQ, l3, pp⟩ := at_
            obtain ⟨x1, x2, x3, rfl⟩ := three l3
            have px : ∀ x ∈ [x1, x2, x3], NumText.AllDigits (tl x) ∧ x.length ≤ 60000 := fun x hx => by have := pp x hx; exact ⟨this.1, by omega⟩
            have pr := K21.ord3_mk (o := o) (p := fun x => NumText.AllDigits (tl x) ∧ x.length ≤ 60000 ∧ x ∈ [x1, x2, x3]) (a := x1) (b := x2) (c := x3) (by have := px x1 (by simp); exact ⟨this.1, this.2, by simp⟩) (by have := px x2 (by simp); exact ⟨this.1, this.2, by simp⟩) (by have := px x3 (by simp); exact ⟨this.1, this.2, by simp⟩)
            have pall := fun (p : Str → Prop) => K21.ord3_all (o := o) (a := x1) (b := x2) (c := x3) (p := p)
            obtain ⟨kvs, ekv, vy, vm, vd⟩ := K21.ord_vals io x1 x2 x3
            have osz : o.cps.size = 3 := K21.ord_len io
            refine ⟨_, rfl, _, rfl, .str o, .ref D1, _, _, rfl, .inr ⟨o, rfl, by rw [osz]; decide, rfl⟩, .inl ⟨D1, rfl, .inr (SqL.of e2p)⟩, fun l Ts G3 s3 nl el zt => ?_⟩
            refine ⟨l, Ts, (o.cps.toList.map fun c => (Sum.inr (⟨#[c]⟩ : Str) : Key)).zip (([x1, x2, x3] : List Str).map V.str), rfl, SqL.of el, zip_paired (by rw [List.map_map]; rfl) zt, fun Dd nDd => newO nDd fun G4 s4 e4 => ?_⟩
            rw [ekv] at e4
            refine gN ?_
            try dsimp only
            have sG4 : Same H G4 := ((s1.trans s2).trans s3).trans s4
            have e2q := s4 _ _ (s3 _ _ e2p)
            unfold dayQ at eQ
            generalize (ord3 o [x1, x2, x3]).1 = Y at pr pall vy eQ
            generalize (ord3 o [x1, x2, x3]).2.1 = M at pr pall vm eQ
            generalize (ord3 o [x1, x2, x3]).2.2 = W at pr pall vd eQ
            obtain ⟨⟨aY, lY, mY⟩, ⟨aM, lM, mM⟩, aW, lW, mW⟩ := pr
            rw [dayP_digits aY aM aW] at eQ
            have qq : ∀ G, Same H G → Q (ov (if (tl Y).length = 4 ∧ (1 ≤ (tl M).length ∧ (tl M).length ≤ 2) ∧ (1 ≤ (tl W).length ∧ (tl W).length ≤ 2) then numI (val (tl Y)) (val (tl M)) (val (tl W)) else none)) G := fun G s => by
              have z1 := q G s
              rw [eQ] at z1
              exact z1
            have fB : ∀ {x : Str}, NumText.AllDigits (tl x) → figB (tl x) = decide (1 ≤ (tl x).length) := fun h => by
              unfold figB
              rw [List.all_eq_true.mpr (K21.dg_of h), Bool.and_true]
            refine ⟨_, rfl, D1, rfl, ⟨_, SqL.of e2q⟩, fun D2 n2 => ?_⟩
            refine lc_val (walk_list (K := K) (a := D1) (xs := ([x1, x2, x3] : List Str).map V.str)) (Z := fun j x => (([x1, x2, x3] : List Str).map V.str)[j]? = some x) (fun j => .bl (figB (tl (([x1, x2, x3] : List Str).getD j Str.empty)))) n2 yat (fun G s => SqL.of (s _ _ e2q)) (show 3 < 100000 by decide) (fun _ => rfl) ?_ ?_
            · rintro j x G Q' hj hx sG kG
              rw [List.getElem?_map] at hx
              obtain ⟨u, hu, rfl⟩ := Option.map_eq_some_iff.mp hx
              have eu : ([x1, x2, x3] : List Str).getD j Str.empty = u := by rw [List.getD_eq_getElem?_getD, hu]; rfl
              rw [eu] at kG
              exact ⟨_, rfl, u, rfl, Nat.le_trans (px u (List.mem_of_getElem? hu)).2 (by decide), fun G' s' => kG G' s'⟩
            · intro G5 s5 e5
              have sG5 := sG4.trans s5
              have e4' := s5 _ _ e4
              refine ⟨D2, [figB (tl x1), figB (tl x2), figB (tl x3)], rfl, SqL.of e5, _, rfl, ?_⟩
              have eL : ([figB (tl x1), figB (tl x2), figB (tl x3)].all id) = decide (1 ≤ (tl x1).length ∧ 1 ≤ (tl x2).length ∧ 1 ≤ (tl x3).length) := by
                show (figB (tl x1) && (figB (tl x2) && (figB (tl x3) && true))) = _
                rw [fB (px x1 (by simp)).1, fB (px x2 (by simp)).1, fB (px x3 (by simp)).1, Bool.and_true, ← Bool.decide_and, ← Bool.decide_and]
              rw [eL]
              by_cases hb : 1 ≤ (tl x1).length ∧ 1 ≤ (tl x2).length ∧ 1 ≤ (tl x3).length
              · rw [decide_eq_true hb]
                have one : ∀ x ∈ [x1, x2, x3], 1 ≤ (tl x).length := fun x hx => by
                  simp only [List.mem_cons, List.not_mem_nil, or_false] at hx
                  rcases hx with rfl | rfl | rfl
                  · exact hb.1
                  · exact hb.2.1
                  · exact hb.2.2
                have oY := one Y mY
                have oM := one M mM
                have oW := one W mW
                refine iteF ?_
                have dY : DGet G5 Dd (.str (Str.ofString "y")) (some (.str Y)) := vy ▸ DGet.k (k := K21.ky "y") e4'
                have dM : DGet G5 Dd (.str (Str.ofString "m")) (some (.str M)) := vm ▸ DGet.k (k := K21.ky "m") e4'
                have dW : DGet G5 Dd (.str (Str.ofString "d")) (some (.str W)) := vd ▸ DGet.k (k := K21.ky "d") e4'
                refine ⟨_, rfl, Dd, _, rfl, dY, Y, rfl, line lY, ?_⟩
                refine ⟨rfl, _, rfl, ?_⟩
                have e4 : (!decide (V.int (Y.length : Nat) = V.int 4)) = !decide ((tl Y).length = 4) := congrArg Bool.not (decide_eq_decide.mpr ⟨fun h => by have := V.int.inj h; rw [len_tl] at this; omega, fun h => congrArg V.int (by rw [len_tl]; omega)⟩)
                rw [e4]
                by_cases y4 : (tl Y).length = 4
                · rw [decide_eq_true y4]
                  refine iteF ?_
                  dsimp only
                  refine ⟨_, rfl, Dd, _, rfl, dM, M, rfl, line lM, _, _, rfl, rfl, _, rfl, ?_⟩
                  have lMt := len_tl M
                  have lWt := len_tl W
                  have lYt := len_tl Y
                  by_cases m2 : (tl M).length ≤ 2
                  · rw [decide_eq_false (show ¬ (2 : Int) < (M.length : Nat) by omega)]
                    refine iteF ?_
                    refine ⟨_, rfl, Dd, _, rfl, dW, W, rfl, line lW, _, _, rfl, rfl, _, rfl, ?_⟩
                    by_cases w2 : (tl W).length ≤ 2
                    · rw [decide_eq_false (show ¬ (2 : Int) < (W.length : Nat) by omega)]
                      refine iteF ?_
                      dsimp only
                      have q3 : ∀ G, Same H G → Q (ov (numI (val (tl Y)) (val (tl M)) (val (tl W)))) G := fun G s => by
                        have z1 := qq G s
                        rw [if_pos ⟨y4, ⟨oM, m2⟩, oW, w2⟩] at z1
                        exact z1
                      clear qq
                      have vy9 := val_lt aY
                      have vm9 := val_lt aM
                      have vw9 := val_lt aW
                      have py : 10 ^ (tl Y).length ≤ 10 ^ 4 := Nat.pow_le_pow_right (by decide) (by omega)
                      have pm : 10 ^ (tl M).length ≤ 10 ^ 2 := Nat.pow_le_pow_right (by decide) m2
                      have pw : 10 ^ (tl W).length ≤ 10 ^ 2 := Nat.pow_le_pow_right (by decide) w2
                      have ne : ∀ {l : List Nat}, 1 ≤ l.length → l ≠ [] := fun h z => by rw [z] at h; exact absurd h (by decide)
                      refine ⟨_, rfl, Dd, _, rfl, dY, Y, _, rfl, intTextD aY (ne oY) (by omega), by omega, _, rfl, Dd, _, rfl, dM, M, _, rfl, intTextD aM (ne oM) (by omega), by omega, _, rfl, Dd, _, rfl, dW, W, _, rfl, intTextD aW (ne oW) (by omega), by omega, _, _, _, rfl, ?_⟩
                      have by1 : val (tl Y) ≤ 9999 := by omega
                      have bm1 : val (tl M) ≤ 99 := by omega
                      have bw1 : val (tl W) ≤ 99 := by omega
                      generalize val (tl Y) = y at *
                      generalize val (tl M) = m at *
                      generalize val (tl W) = d at *
                      try dsimp only
                      refine cutA (fun v H' => v = .int (if leapB y = true then 1 else 0) ∧ H' = G5) (fun Q' q' => ?_) ?_
                      · have e4' : decide (V.int ((y : Int) % 4) = V.int 0) = decide (y % 4 = 0) := decide_eq_decide.mpr ⟨fun h => by have := V.int.inj h; omega, fun h => congrArg V.int (by omega)⟩
                        have e400 : decide (V.int ((y : Int) % 400) = V.int 0) = decide (y % 400 = 0) := decide_eq_decide.mpr ⟨fun h => by have := V.int.inj h; omega, fun h => congrArg V.int (by omega)⟩
                        have e100 : decide ((0 : Int) < (y : Int) % 100) = !decide (y % 100 = 0) := by
                          rw [← decide_not]
                          exact decide_eq_decide.mpr (by omega)
                        refine ⟨_, rfl, _, _, rfl, rfl, (by decide : (0 : Int) < 4), rfl, _, rfl, ?_⟩
                        rw [e4']
                        cases c1 : decide (y % 4 = 0) with
                        | false =>
                          refine iteF (.inr ⟨false, rfl, q' _ _ ⟨?_, rfl⟩⟩)
                          unfold leapB
                          rw [c1]
                          rfl
                        | true =>
                          refine iteT ⟨_, rfl, _, _, rfl, rfl, (by decide : (0 : Int) < 100), _, _, rfl, rfl, _, rfl, ?_⟩
                          rw [e100]
                          cases c2 : decide (y % 100 = 0) with
                          | false =>
                            refine iteT (.inr ⟨true, rfl, q' _ _ ⟨?_, rfl⟩⟩)
                            unfold leapB
                            rw [c1, c2]
                            rfl
                          | true =>
                            refine iteF ⟨_, rfl, _, _, rfl, rfl, (by decide : (0 : Int) < 400), rfl, ?_⟩
                            rw [e400]
                            refine .inr ⟨_, rfl, q' _ _ ⟨?_, rfl⟩⟩
                            unfold leapB
                            rw [c1, c2]
                            rfl
                      · rintro v H' ⟨rfl, rfl⟩
                        refine gN ?_
                        try dsimp only
                        refine ⟨_, rfl, _, _, rfl, rfl, (show 12 ≤ sizeLine by decide), fun L nL => newO nL fun H5 sL0 eL0 => ?_⟩
                        have sL : Same H H5 := sG5.trans sL0
                        have eL : H5 L = some (.lst ((monB (leapB y)).map V.int)) := eL0
                        clear eL0
                        refine gN ?_
                        try dsimp only
                        have none_ : ¬ (1 ≤ y ∧ 1 ≤ m ∧ m ≤ 12 ∧ 1 ≤ d ∧ (d : Int) ≤ dinI y m) → Q .non H5 := fun n => by
                          have z1 := q3 H5 sL
                          unfold numI at z1
                          rw [if_neg n] at z1
                          exact z1
                        refine ⟨_, rfl, rfl, _, rfl, ?_⟩
                        have e0 : decide (V.int (y : Int) = V.int 0) = decide (y = 0) := decide_eq_decide.mpr ⟨fun h => by have := V.int.inj h; omega, fun h => congrArg V.int (by omega)⟩
                        rw [e0]
                        by_cases y0 : y = 0
                        · rw [decide_eq_true y0]
                          exact iteT (none_ fun h => by omega)
                        · rw [decide_eq_false y0]
                          refine iteF ⟨_, rfl, _, _, rfl, rfl, _, rfl, ?_⟩
                          by_cases m1 : 1 ≤ m
                          · rw [decide_eq_true (show (1 : Int) ≤ (m : Int) by omega)]
                            refine iteT ⟨_, _, rfl, rfl, ?_⟩
                            refine ⟨_, rfl, ?_⟩
                            by_cases m12 : m ≤ 12
                            · rw [decide_eq_true (show (m : Int) ≤ 12 by omega)]
                              refine iteF ⟨_, rfl, _, _, rfl, rfl, _, rfl, ?_⟩
                              by_cases d1 : 1 ≤ d
                              · rw [decide_eq_true (show (1 : Int) ≤ (d : Int) by omega)]
                                have em1 : (m : Int) - 1 = ((m - 1 : Nat) : Int) := by omega
                                have ml : (monB (leapB y)).length = 12 := rfl
                                have atm : atI ((monB (leapB y)).map V.int) ((m : Int) - 1) = some (.int (dinI y m)) := by
                                  rw [em1]
                                  refine atI_nat ?_
                                  have hm : m - 1 < (monB (leapB y)).length := by omega
                                  rw [List.getElem?_map, List.getElem?_eq_getElem hm]
                                  have := monB_din (leapB y) m (by omega) m1
                                  rw [List.getD_eq_getElem?_getD, List.getElem?_eq_getElem hm] at this
                                  rw [din_B]
                                  exact congrArg (fun x => some (V.int x)) this
                                refine iteT ⟨_, rfl, _, rfl, _, _, rfl, rfl, L, _, _, _, rfl, rfl, SqL.of eL, atm, _, _, rfl, rfl, ?_⟩
                                refine ⟨_, rfl, ?_⟩
                                by_cases dd : (d : Int) ≤ dinI y m
                                · rw [decide_eq_true dd]
                                  refine iteF ?_
                                  try dsimp only
                                  refine ⟨_, rfl, _, _, rfl, rfl, _, _, rfl, rfl, ⟨by decide, by decide⟩, _, rfl, _, _, rfl, rfl, _, _, rfl, rfl, ⟨by decide, by decide⟩, _, _, rfl, rfl, _, rfl, _, _, rfl, rfl, _, _, rfl, rfl, ⟨by decide, by decide⟩, _, _, rfl, rfl, ?_⟩
                                  refine gN ?_
                                  dsimp only
                                  refine ⟨_, rfl, _, _, rfl, rfl, _, _, rfl, rfl, .inl ⟨by decide, by decide⟩, _, rfl, _, _, rfl, rfl, ?_⟩
                                  refine ⟨_, rfl, _, rfl, _, _, rfl, rfl, _, rfl, L, _, rfl, SqL.of eL, fun D5 n5 => ?_⟩
                                  have ec : cutV ((monB (leapB y)).map V.int) none (some ((m : Int) - 1)) = ((monB (leapB y)).take (m - 1)).map V.int := by
                                    rw [em1, cutV_to]
                                    exact (List.map_take).symm
                                  rw [ec]
                                  refine ⟨D5, (monB (leapB y)).take (m - 1), rfl, SqL.of upd_same, _, _, rfl, rfl, _, rfl, _, _, rfl, rfl, _, _, rfl, rfl, ?_⟩
                                  have z1 := q3 (upd H5 D5 (.lst (((monB (leapB y)).take (m - 1)).map V.int))) (sL.trans (Same.new n5))
                                  unfold numI at z1
                                  rw [if_pos ⟨by omega, m1, m12, d1, dd⟩] at z1
                                  have ea : 365 * ((y : Int) - 1) + (((y : Int) - 1) / 4 - ((y : Int) - 1) / 100 + ((y : Int) - 1) / 400) = aheadI y := by
                                    unfold aheadI
                                    omega
                                  have es : ((monB (leapB y)).take (m - 1)).sum = sumI y m := monB_sum (leapB y) m (by omega) m1
                                  rw [← ea, ← es] at z1
                                  exact z1
                                · rw [decide_eq_false dd]
                                  exact iteT (none_ fun h => dd h.2.2.2.2)
                              · rw [decide_eq_false (show ¬ (1 : Int) ≤ (d : Int) by omega)]
                                exact iteF ⟨_, rfl, iteT (none_ fun h => d1 h.2.2.2.1)⟩
                            · rw [decide_eq_false (show ¬ (m : Int) ≤ 12 by omega)]
                              exact iteT (none_ fun h => m12 h.2.2.1)
                          · rw [decide_eq_false (show ¬ (1 : Int) ≤ (m : Int) by omega)]
                            exact iteF ⟨_, rfl, iteT (none_ fun h => m1 h.2.1)⟩
                    · rw [decide_eq_true (show (2 : Int) < (W.length : Nat) by omega)]
                      refine iteT ?_
                      have z1 := qq _ sG5
                      rw [if_neg fun h => w2 h.2.2.2] at z1
                      exact z1
                  · rw [decide_eq_true (show (2 : Int) < (M.length : Nat) by omega)]
                    refine iteT ?_
                    refine iteT ?_
                    have z1 := qq _ sG5
                    rw [if_neg fun h => m2 h.2.1.2] at z1
                    exact z1
                · rw [decide_eq_false y4]
                  refine iteT ?_
                  have z1 := qq _ sG5
                  rw [if_neg fun h => y4 h.1] at z1
                  exact z1
              · rw [decide_eq_false hb]
                refine iteT ?_
                refine iteT ?_
                unfold tRet
                dsimp only
                have z1 := qq _ sG5
                rw [if_neg fun h => hb (pall (fun x => 1 ≤ (tl x).length) ⟨by omega, h.2.1.1, h.2.2.1⟩)] at z1
                exact z1
          · rw [decide_eq_false sa]
            refine iteT (no ?_ _ s1)
            rintro ⟨s, hs, e⟩
            rw [eab] at e
            cases e
            exact sa hs
        · rw [decide_eq_false ab]
          refine iteT (no ?_ _ s1)
          rintro ⟨s, hs, e⟩
          rw [eab] at e
          cases e
          exact ab rfl
      · rw [decide_eq_false l2]
        refine iteT (no ?_ _ s1)
        rintro ⟨s, hs, e⟩
        rw [e] at l2
        exact l2 rfl
end
end K87
set_option Elab.async false
set_option linter.all false
set_option pp.maxSteps 4000
set_option maxRecDepth 100000
set_option maxHeartbeats 4000000
/-! k87: the law's number -/
namespace K87
open PySem PySem.Spec PyProof.Rows L2 Bs Xg TL Xm Xs Gn Gd Xu Xw Xk K86 K02
open K21 (tk os ov u1 dayS IsOrd intTextD readP Fm btw S S_tl S_len tl_S tl_cut_to tl_cut_from part_plain part_dot str_ne)
abbrev sLNu : Stmt := K21.top 48
def fmWord : Fm → Str
  | .whole => "whole" | .amount _ => "amount" | .day _ => "day"
theorem fm_at (f : Fm) : atI f.vals 0 = some (.str (fmWord f)) := by cases f <;> rfl
theorem pad_take (r : List Nat) (m : Nat) (h : r.length ≤ m) (h4 : m ≤ 4) : (r ++ zs 4).take m = r ++ zs (m - r.length) := by
  rw [List.take_append, List.take_of_length_le h]
  unfold zs
  rw [List.take_replicate, Nat.min_eq_left (by omega)]
section
variable {P : Program} {w : World} {K : PySem.W.Frag} {mg : Str → Option Value} {base : Heap}
abbrev nLNu : List Str := ["_law_form_here", "_law_word", "_law_places", "_law_most", "_law_body", "_law_whole", "_law_point", "_law_rest", "_law_number_here"]
theorem scLNu : FnScope nLNu ["_law_form_here", "_law_word"] (defScope sLNu) := ⟨rfl, rfl, rfl, by decide +kernel, rfl, by decide +kernel, by decide +kernel⟩
def spLNu (K : PySem.W.Frag) : Sp := fun vs H Q _ => ∃ (fo : Addr) (f : Fm) (z : Str), vs = [.ref fo, .str z] ∧ SqT K H fo f.vals ∧ f.ok ∧ z.length ≤ 60000 ∧ ∀ H', Same H H' → Q (ov (readP f z)) H'
theorem ok_lnum {f fLF fLDy : Addr} {fd dLF dLDy : FuncData} (F : Fun K "_law_number" "_law_number" sLNu f fd) (T : Free mg) (FLF : Fun K "_law_figures" "_law_figures" sLF fLF dLF) (bLF : Binds K dLF ["_law_word"] []) (gLF : mg "_law_figures" = some (.ref fLF)) (FLDy : Fun K "_law_day" "_law_day" sLDy fLDy dLDy) (bLDy : Binds K dLDy ["_law_order", "_law_word"] []) (gLDy : mg "_law_day" = some (.ref fLDy)) : FnOk P w K mg base CX0 3 f fd ["_law_form_here", "_law_word"] (spLNu K) := by
  have GLF : FnOk P w K mg base CX0 1 fLF dLF ["_law_word"] spLF := ok_lf FLF T
  have GLDy : FnOk P w K mg base CX0 2 fLDy dLDy ["_law_order", "_law_word"] spLDy := ok_lday FLDy T FLF bLF gLF
  refine F.ok scLNu (fun vs H Q E h => ?_) (fun cdv A outer s H vs Q E hr h => ?_)
  · obtain ⟨fo, f, z, rfl, _⟩ := h
    rfl
  · obtain ⟨fo, f, z, rfl, hfo, fok, zl, q⟩ := h
    refine ⟨_, pss_cons (ps_if (pt_cmpR op_eq (pe_ix (ix_tupK (K := K) rfl) (pv 0) pe_int (fun _ _ => rfl)) pe_str (nomark _)) (pss_one (ps_ret (pe_call GLDy (hr.mono (by decide)) (by rfl) gLDy FLDy.kp bLDy .nil pass0 (pa_cons (pe_ix (ix_tupK (K := K) rfl) (pv 0) pe_int (fun _ _ => rfl)) (pa_cons (pv 1) pa_nil))))) (pss_nil))
      (pss_cons (ps_asg (pe_ifExp (pt_cmpR op_eq (pe_ix (ix_tupK (K := K) rfl) (pv 0) pe_int (fun _ _ => rfl)) pe_str (nomark _)) (pe_tup (pa_cons pe_int (pa_cons pe_int pa_nil))) (pe_tup (pa_cons (pe_ix (ix_tupK (K := K) rfl) (pv 0) pe_int (fun _ _ => rfl)) (pa_cons pe_int pa_nil)))) (pg_tup rfl (pgs_cons (pg_name (i := 2) scLNu.nd rfl (Or.inl rfl)) (pgs_cons (pg_name (i := 3) scLNu.nd rfl (Or.inl rfl)) pgs_nil))))
      (pss_cons (ps_set (i := 4) scLNu.nd rfl (Or.inl rfl) (pe_ifExp (pt_cmpR (op_in_seqK (K := K) rfl) (pe_slice sl_str (pv 1) po_none (po_some pe_int)) (pe_tup (pa_cons pe_str (pa_cons pe_str pa_nil))) rfl) (pe_slice sl_str (pv 1) (po_some pe_int) po_none) (pv 1)))
      (pss_cons (ps_asg (pe_partition (pv 4) pe_str) (pg_tup rfl (pgs_cons (pg_name (i := 5) scLNu.nd rfl (Or.inl rfl)) (pgs_cons (pg_name (i := 6) scLNu.nd rfl (Or.inl rfl)) (pgs_cons (pg_name (i := 7) scLNu.nd rfl (Or.inl rfl)) pgs_nil)))))
      (pss_cons (ps_if (PW.pt (pw_or (pt_not (pt_val (pe_call GLF (hr.mono (by decide)) (by rfl) gLF FLF.kp bLF .nil pass0 (pa_cons (pv 5) pa_nil)))) (pw_or1 (pt_cmpR op_gt (pe_callB call_len_str (by rfl) T.len PySem.boot_len (pa_cons (pv 5) pa_nil)) (pv 3) (nomark _))))) (pss_one (ps_ret pe_non)) (pss_nil))
      (pss_cons (ps_if (PW.pt (pw_and (pt_cmpR op_ne (pv 6) pe_str (nomark _)) (pw_and1 (PW.pt (pw_or (pt_not (pt_val (pe_call GLF (hr.mono (by decide)) (by rfl) gLF FLF.kp bLF .nil pass0 (pa_cons (pv 7) pa_nil)))) (pw_or1 (pt_cmpR op_gt (pe_callB call_len_str (by rfl) T.len PySem.boot_len (pa_cons (pv 7) pa_nil)) (pv 2) (nomark _)))))))) (pss_one (ps_ret pe_non)) (pss_nil))
      (pss_cons (ps_set (i := 8) scLNu.nd rfl (Or.inl rfl) (pe_callTy call_int_str (by rfl) T.int (by decide +kernel) (pa_cons (pe_op op_add_str (pv 5) (pe_slice sl_str (pe_op op_add_str (pv 7) pe_str) po_none (po_some (pv 2)))) pa_nil)))
      (pss_one (ps_ret (pe_ifExp (pt_cmpR op_eq (pe_slice sl_str (pv 1) po_none (po_some pe_int)) pe_str (nomark _)) (pe_un un_neg (pv 8)) (pv 8)))))))))), ?_⟩
    have line : z.length ≤ sizeLine := Nat.le_trans zl (by decide)
    refine ⟨_, rfl, fo, f.vals, _, .str (fmWord f), rfl, rfl, hfo, fm_at f, rfl, _, rfl, ?_⟩
    rw [str_dec]
    by_cases hd : ∃ o, f = .day o
    · obtain ⟨o, rfl⟩ := hd
      rw [decide_eq_true (show fmWord (.day o) = Str.ofString "day" from rfl)]
      refine iteT ?_
      unfold tRet
      dsimp only
      exact ⟨_, rfl, fo, _, _, .str o, rfl, rfl, hfo, rfl, _, rfl, o, z, rfl, zl, fok, fun H' s' => q H' s'⟩
    · rw [decide_eq_false (by
        cases f with
        | whole => exact (by decide +kernel : ¬ (Str.ofString "whole" = Str.ofString "day"))
        | amount m => exact (by decide +kernel : ¬ (Str.ofString "amount" = Str.ofString "day"))
        | day o => exact absurd ⟨o, rfl⟩ hd)]
      refine iteF ?_
      unfold tNext
      dsimp only
      refine cutA (fun v H' => ∃ (t : Addr) (m : Nat), v = .ref t ∧ H' t = some (.tup [.int (m : Int), .int ((cap m : Nat) : Int)]) ∧ Same H H' ∧ m ≤ 4 ∧ readP f z = due m (tl z)) (fun Q' q' => ?_) ?_
      · refine ⟨_, rfl, fo, f.vals, _, .str (fmWord f), rfl, rfl, hfo, fm_at f, rfl, _, rfl, ?_⟩
        rw [str_dec]
        cases f with
        | whole =>
          rw [decide_eq_true (show fmWord .whole = Str.ofString "whole" from rfl)]
          exact iteT ⟨(show 2 ≤ sizeLine by decide), fun t nt => q' _ _ ⟨t, 0, rfl, upd_same, Same.new nt, by decide, rfl⟩⟩
        | amount m =>
          rw [decide_eq_false (show ¬ fmWord (.amount m) = Str.ofString "whole" from (by decide +kernel : ¬ (Str.ofString "amount" = Str.ofString "whole")))]
          refine iteF ⟨_, rfl, fo, _, _, .int (m : Int), rfl, rfl, hfo, rfl, (show 2 ≤ sizeLine by decide), fun t nt => q' _ _ ⟨t, m, rfl, ?_, Same.new nt, fok.2, rfl⟩⟩
          have c8 : cap m = 8 := if_neg (by have := fok.1; omega)
          rw [c8]
          exact upd_same
        | day o => exact absurd ⟨o, rfl⟩ hd
      · rintro v H0 ⟨t0, m, rfl, et, s0, ml, er⟩
        rw [er] at q
        refine ⟨t0, _, rfl, SqT.of et, rfl, _, _, rfl, gN ⟨_, _, rfl, gN ⟨rfl, ?_⟩⟩⟩
        try dsimp only
        refine cutA (fun v H' => v = .str (S (body (tl z))) ∧ Same H H') (fun Q' q' => ?_) ?_
        · refine ⟨_, rfl, _, rfl, z, rfl, line, (by show 2 ≤ sizeLine; decide), fun t ht => ⟨t, _, rfl, .inr (SqT.of upd_same), rfl, rfl, _, rfl, ?_⟩⟩
          have e1 : (if false = true then !inV (.str (cutS z none (some 1))) [V.str (Str.ofString "+"), V.str (Str.ofString "-")] else inV (.str (cutS z none (some 1))) [V.str (Str.ofString "+"), V.str (Str.ofString "-")]) = decide (List.take 1 (tl z) = [43] ∨ List.take 1 (tl z) = [45]) := by
            have c1 : tl (cutS z none (some 1)) = (tl z).take 1 := tl_cut_to z 1
            have b : ∀ y : Str, (y == cutS z none (some 1)) = decide ((tl z).take 1 = tl y) := by
              intro y
              rw [← c1]
              by_cases e : y = cutS z none (some 1)
              · rw [← e]
                simp
              · rw [decide_eq_false (fun q => e (ext_tl q.symm))]
                exact beq_eq_false_iff_ne.mpr e
            show (((Str.ofString "+") == cutS z none (some 1)) || (((Str.ofString "-") == cutS z none (some 1)) || false)) = _
            rw [b, b, show tl (Str.ofString "+") = [43] by decide +kernel, show tl (Str.ofString "-") = [45] by decide +kernel, Bool.or_false]
            simp
          rw [e1]
          refine ite2 (fun c => ?_) (fun c => ?_)
          · have c' := of_decide_eq_true c
            refine ⟨_, rfl, _, rfl, z, rfl, line, ?_⟩
            refine q' _ _ ⟨?_, s0.trans (Same.new ht)⟩
            have e : body (tl z) = (tl z).drop 1 := if_pos c'
            rw [e, ← tl_cut_from z 1, S_tl]
            rfl
          · have c' : ¬ (List.take 1 (tl z) = [43] ∨ List.take 1 (tl z) = [45]) := fun x => c (decide_eq_true x)
            refine ⟨_, rfl, ?_⟩
            refine q' _ _ ⟨?_, s0.trans (Same.new ht)⟩
            have e : body (tl z) = tl z := if_neg c'
            rw [e, S_tl]
        · rintro v H1 ⟨rfl, s1⟩
          have bl : (body (tl z)).length ≤ 60000 := by
            rw [len_tl] at zl
            unfold body
            split
            · rw [List.length_drop]; omega
            · exact zl
          have bline : (S (body (tl z))).length ≤ sizeLine := by rw [S_len]; exact Nat.le_trans bl (by decide)
          have minus : ∀ (G : Hp), True := fun _ => trivial
          refine ⟨_, rfl, ⟨_, rfl⟩, _, _, rfl, rfl, rfl, bline, fun t ht => ?_⟩
          have e12 : decide (V.str (cutS z none (some 1)) = V.str (Str.ofString "-")) = decide (List.take 1 (tl z) = [45]) := by
            have c1 : tl (cutS z none (some 1)) = (tl z).take 1 := tl_cut_to z 1
            have c2 : tl (Str.ofString "-") = [45] := by decide +kernel
            rw [str_dec, ← c1, ← c2]
            exact decide_eq_decide.mpr ⟨fun h => by rw [h], fun h => ext_tl h⟩
          have t4 : tl (Str.ofString "0000") = zs 4 := by decide +kernel
          rcases two_ways (body (tl z)) with w | ⟨p, r, e, w⟩
          · rw [due_plain w] at q
            refine ⟨t, _, rfl, SqT.of upd_same, rfl, _, _, rfl, _, _, rfl, _, _, rfl, rfl, ?_⟩
            rw [part_plain (z := S (body (tl z))) w]
            have s2 : Same H (upd H1 t (.tup [.str (S (body (tl z))), .str Str.empty, .str Str.empty])) := s1.trans (Same.new ht)
            generalize upd H1 t (.tup [.str (S (body (tl z))), .str Str.empty, .str Str.empty]) = H2 at s2 ⊢
            have eS : tl (S (body (tl z))) = body (tl z) := tl_S _
            have e0 : V.str Str.empty = V.str (Str.ofString "") := rfl
            refine ⟨_, rfl, S (body (tl z)), rfl, by rw [S_len]; omega, fun H3 s3 => ⟨_, rfl, ?_⟩⟩
            have s23 := s2.trans s3
            rw [eS]
            rw [figs_B] at q
            cases hB : figB (body (tl z)) with
            | false =>
              refine iteT ?_
              refine iteT ?_
              rw [hB, Bool.false_and, if_neg (by decide)] at q
              exact q _ s23
            | true =>
              rw [hB, Bool.true_and] at q
              refine iteF ?_
              refine ⟨_, rfl, S (body (tl z)), rfl, bline, _, rfl, _, _, rfl, rfl, _, rfl, ?_⟩
              rw [S_len]
              by_cases cl : (body (tl z)).length ≤ cap m
              · rw [decide_eq_false (show ¬ ((cap m : Nat) : Int) < ((body (tl z)).length : Nat) by omega)]
                rw [if_pos (decide_eq_true cl)] at q
                refine iteF ?_
                try dsimp only
                refine ⟨_, rfl, rfl, _, rfl, ?_⟩
                rw [decide_eq_true e0]
                refine iteF ?_
                refine iteF ?_
                try dsimp only
                have nl : tl (S (body (tl z)) ++ cutS (Str.empty ++ Str.ofString "0000") none (some (m : Int))) = body (tl z) ++ zs m := by
                  rw [tl_append, tl_S, tl_cut_to, tl_append, t4]
                  have : tl Str.empty = [] := tl_empty
                  rw [this, pad_take [] m (Nat.zero_le _) ml]
                  rfl
                have ad : NumText.AllDigits (body (tl z)) := fun c hc => dg_iff.mp (by
                  unfold figB at hB
                  exact List.all_eq_true.mp (Bool.and_eq_true_iff.mp hB).2 c hc)
                have ne1 : 1 ≤ (body (tl z)).length := by
                  unfold figB at hB
                  exact of_decide_eq_true (Bool.and_eq_true_iff.mp hB).1
                have cm9 : cap m ≤ 9 := by unfold cap; split <;> decide
                have l0 : (cutS (Str.empty ++ Str.ofString "0000") none (some (m : Int))).length ≤ 4 := by
                  rw [len_tl, tl_cut_to, tl_append, t4, List.length_take]
                  omega
                refine ⟨_, rfl, _, rfl, _, _, rfl, rfl, (by decide +kernel), _, rfl, _, rfl, _, rfl, (by decide +kernel), _, _, rfl, rfl, ?_, _, ((val (body (tl z) ++ zs m) : Nat) : Int), rfl, ?_, ?_, ?_⟩
                · rw [S_len]
                  exact Nat.le_trans (show _ ≤ 600 by omega) (by decide)
                · have g := intTextD (z := S (body (tl z)) ++ cutS (Str.empty ++ Str.ofString "0000") none (some (m : Int))) (by rw [nl]; exact digits_app ad (zs_digits m)) (by rw [nl]; intro x; have y := congrArg List.length x; rw [List.length_append, List.length_nil] at y; omega) (by rw [len_tl, nl, List.length_append, zs_len]; omega)
                  rw [nl] at g
                  exact g
                · rw [len_tl, nl, List.length_append, zs_len]
                  omega
                · refine gN ?_
                  try dsimp only
                  unfold tRet
                  dsimp only
                  refine ⟨_, rfl, _, rfl, z, rfl, line, rfl, _, rfl, ?_⟩
                  rw [e12]
                  unfold sgn at q
                  refine ite2 (fun c => ?_) (fun c => ?_)
                  · rw [if_pos (of_decide_eq_true c)] at q
                    exact ⟨_, rfl, _, rfl, q _ s23⟩
                  · rw [if_neg (fun x => c (decide_eq_true x))] at q
                    exact ⟨_, rfl, q _ s23⟩
              · rw [decide_eq_true (show ((cap m : Nat) : Int) < ((body (tl z)).length : Nat) by omega)]
                rw [if_neg (by rw [decide_eq_false cl]; decide)] at q
                refine iteT ?_
                exact q _ s23
          · rw [due_dot e w] at q
            have pl : p.length + r.length + 1 ≤ 60000 := by
              rw [e, List.length_append, List.length_cons] at bl
              omega
            refine ⟨t, _, rfl, SqT.of upd_same, rfl, _, _, rfl, _, _, rfl, _, _, rfl, rfl, ?_⟩
            rw [part_dot (z := S (body (tl z))) e w]
            have s2 : Same H (upd H1 t (.tup [.str (S p), .str (Str.ofString "."), .str (S r)])) := s1.trans (Same.new ht)
            generalize upd H1 t (.tup [.str (S p), .str (Str.ofString "."), .str (S r)]) = H2 at s2 ⊢
            have eP : tl (S p) = p := tl_S _
            have eR : tl (S r) = r := tl_S _
            have e0 : V.str (Str.ofString ".") ≠ V.str (Str.ofString "") := str_ne (by decide +kernel)
            refine ⟨_, rfl, S p, rfl, by rw [S_len]; omega, fun H3 s3 => ⟨_, rfl, ?_⟩⟩
            have s23 := s2.trans s3
            rw [eP]
            rw [figs_B, figs_B] at q
            cases hB : figB p with
            | false =>
              refine iteT ?_
              refine iteT ?_
              rw [hB, Bool.false_and, if_neg (fun h => nomatch h.1)] at q
              exact q _ s23
            | true =>
              rw [hB, Bool.true_and] at q
              refine iteF ?_
              refine ⟨_, rfl, S p, rfl, by rw [S_len]; exact Nat.le_trans (show _ ≤ 60000 by omega) (by decide), _, rfl, _, _, rfl, rfl, _, rfl, ?_⟩
              rw [S_len]
              by_cases cl : p.length ≤ cap m
              · rw [decide_eq_false (show ¬ ((cap m : Nat) : Int) < (p.length : Nat) by omega)]
                rw [decide_eq_true cl] at q
                refine iteF ?_
                try dsimp only
                refine ⟨_, rfl, rfl, _, rfl, ?_⟩
                rw [decide_eq_false e0]
                refine iteT ?_
                refine ⟨_, rfl, S r, rfl, by rw [S_len]; omega, fun H4 s4 => ⟨_, rfl, ?_⟩⟩
                have s24 := s23.trans s4
                rw [eR]
                cases hR : figB r with
                | false =>
                  refine iteT ?_
                  refine iteT ?_
                  rw [hR, Bool.false_and, if_neg (fun h => nomatch h.2)] at q
                  exact q _ s24
                | true =>
                  rw [hR, Bool.true_and] at q
                  refine iteF ?_
                  refine ⟨_, rfl, S r, rfl, by rw [S_len]; exact Nat.le_trans (show _ ≤ 60000 by omega) (by decide), _, rfl, _, _, rfl, rfl, _, rfl, ?_⟩
                  rw [S_len]
                  by_cases cr : r.length ≤ m
                  · rw [decide_eq_false (show ¬ ((m : Nat) : Int) < (r.length : Nat) by omega)]
                    rw [if_pos ⟨rfl, decide_eq_true cr⟩] at q
                    refine iteF ?_
                    try dsimp only
                    have nl : tl (S p ++ cutS (S r ++ Str.ofString "0000") none (some (m : Int))) = p ++ (r ++ zs (m - r.length)) := by
                      rw [tl_append, tl_S, tl_cut_to, tl_append, t4, tl_S, pad_take r m cr ml]
                    have adp : NumText.AllDigits p := fun c hc => dg_iff.mp (by
                      unfold figB at hB
                      exact List.all_eq_true.mp (Bool.and_eq_true_iff.mp hB).2 c hc)
                    have adr : NumText.AllDigits r := fun c hc => dg_iff.mp (by
                      unfold figB at hR
                      exact List.all_eq_true.mp (Bool.and_eq_true_iff.mp hR).2 c hc)
                    have ne1 : 1 ≤ p.length := by
                      unfold figB at hB
                      exact of_decide_eq_true (Bool.and_eq_true_iff.mp hB).1
                    have cm9 : cap m ≤ 9 := by unfold cap; split <;> decide
                    have l0 : (cutS (S r ++ Str.ofString "0000") none (some (m : Int))).length ≤ 4 := by
                      rw [len_tl, tl_cut_to, List.length_take]
                      omega
                    have l1 : (Str.ofString "0000").length = 4 := by decide +kernel
                    have l2 : (S r ++ Str.ofString "0000").length = r.length + 4 := by rw [len_tl, tl_append, t4, tl_S, List.length_append, zs_len]
                    refine ⟨_, rfl, _, rfl, _, _, rfl, rfl, ?_, _, rfl, _, rfl, _, rfl, ?_, _, _, rfl, rfl, ?_, _, ((val (p ++ (r ++ zs (m - r.length))) : Nat) : Int), rfl, ?_, ?_, ?_⟩
                    · rw [S_len, l1]
                      exact Nat.le_trans (show _ ≤ 600 by omega) (by decide)
                    · rw [l2]
                      exact Nat.le_trans (show _ ≤ 600 by omega) (by decide)
                    · rw [S_len]
                      exact Nat.le_trans (show _ ≤ 600 by omega) (by decide)
                    · have g := intTextD (z := S p ++ cutS (S r ++ Str.ofString "0000") none (some (m : Int))) (by rw [nl]; exact digits_app adp (digits_app adr (zs_digits _))) (by rw [nl]; intro x; have y := congrArg List.length x; rw [List.length_append, List.length_nil] at y; omega) (by rw [len_tl, nl, List.length_append, List.length_append, zs_len]; omega)
                      rw [nl] at g
                      exact g
                    · rw [len_tl, nl, List.length_append, List.length_append, zs_len]
                      omega
                    · refine gN ?_
                      try dsimp only
                      unfold tRet
                      dsimp only
                      refine ⟨_, rfl, _, rfl, z, rfl, line, rfl, _, rfl, ?_⟩
                      rw [e12]
                      unfold sgn at q
                      refine ite2 (fun c => ?_) (fun c => ?_)
                      · rw [if_pos (of_decide_eq_true c)] at q
                        exact ⟨_, rfl, _, rfl, q _ s24⟩
                      · rw [if_neg (fun x => c (decide_eq_true x))] at q
                        exact ⟨_, rfl, q _ s24⟩
                  · rw [decide_eq_true (show ((m : Nat) : Int) < (r.length : Nat) by omega)]
                    rw [if_neg (fun h => by have := h.2; rw [decide_eq_false cr] at this; cases this)] at q
                    refine iteT ?_
                    exact q _ s24
              · rw [decide_eq_true (show ((cap m : Nat) : Int) < (p.length : Nat) by omega)]
                rw [if_neg (fun h => by have := h.1; rw [decide_eq_false cl] at this; cases this)] at q
                refine iteT ?_
                exact q _ s23
end
end K87
set_option Elab.async false
set_option linter.all false
set_option pp.maxSteps 4000
set_option maxRecDepth 100000
set_option maxHeartbeats 4000000
/-! k87: the law's cut -/
namespace K87
open PySem PySem.Spec PyProof.Rows L2 Bs Xg TL Xm Xs Gn Gd Xu Xw Xk K86 K02
open K21 (tk os ov u1 cw cutP doneP Deed rowV txt sp)
abbrev sCt : Stmt := K21.top 49
/-- a pair of a list of pairs and a truth -/
def LRes (K : PySem.W.Frag) (H : Hp) (t : Addr) (r : List (Key × V) × Bool) : Prop := ∃ (l : Addr) (Ts : List Addr), H t = some (.tup [.ref l, .bl r.2]) ∧ H l = some (.lst (Ts.map V.ref)) ∧ Paired (fun (T : Addr) (kv : Key × V) => SqT K H T [kV kv.1, kv.2]) Ts r.1
theorem lres_mk {K : PySem.W.Frag} {H : Hp} {t l : Addr} {Ts : List Addr} {kvs : List (Key × V)} {b : Bool} (et : H t = some (.tup [.ref l, .bl b])) (el : H l = some (.lst (Ts.map V.ref))) (p : Paired (fun (T : Addr) (kv : Key × V) => SqT K H T [kV kv.1, kv.2]) Ts kvs) : LRes K H t (kvs, b) := ⟨l, Ts, et, el, p⟩
theorem paired_map {α β : Type} {F G : α → β → Prop} (h : ∀ x y, F x y → G x y) : ∀ {xs : List α} {ys : List β}, Paired F xs ys → Paired G xs ys
  | _, _, .nil => .nil
  | _, _, .cons r t => .cons (h _ _ r) (paired_map h t)
theorem paired_same {K : PySem.W.Frag} {H H' : Hp} {Ts : List Addr} {kvs : List (Key × V)} (s : Same H H') (p : Paired (fun (T : Addr) (kv : Key × V) => SqT K H T [kV kv.1, kv.2]) Ts kvs) : Paired (fun (T : Addr) (kv : Key × V) => SqT K H' T [kV kv.1, kv.2]) Ts kvs := paired_map (fun _ _ h => sameT s h) p
theorem refs_at2 {G : Hp} {F : Nat → Addr → Prop} : ∀ {ys : List V} {k : Nat}, (∀ (j : Nat) (y : V), ys[j]? = some y → ∃ T, y = .ref T ∧ F (k + j) T) → ∃ Ts : List Addr, ys = Ts.map V.ref ∧ Ts.length = ys.length ∧ ∀ (j : Nat) (T : Addr), Ts[j]? = some T → F (k + j) T
  | [], _, _ => ⟨[], rfl, rfl, fun j T h => by simp at h⟩
  | y :: ys, k, h => by
    obtain ⟨T, rfl, f0⟩ := h 0 y rfl
    obtain ⟨Ts, rfl, l, g⟩ := refs_at2 (G := G) (F := F) (ys := ys) (k := k + 1) fun j y hy => by
      obtain ⟨T, e, f1⟩ := h (j + 1) y (by simpa using hy)
      exact ⟨T, e, by rw [show k + 1 + j = k + (j + 1) by omega]; exact f1⟩
    refine ⟨T :: Ts, rfl, by simp, fun j T' e => ?_⟩
    cases j with
    | zero =>
      cases e
      exact f0
    | succ j =>
      rw [show k + (j + 1) = k + 1 + j by omega]
      exact g j T' (by simpa using e)
section
variable {P : Program} {w : World} {K : PySem.W.Frag} {mg : Str → Option Value} {base : Heap}
abbrev nCt : List Str := ["_law_step", "_law_mine", "_law_parts", "_law_part", "_law_new"]
theorem scCt : FnScope nCt ["_law_step", "_law_mine"] (defScope sCt) := ⟨rfl, rfl, rfl, by decide +kernel, rfl, by decide +kernel, by decide +kernel⟩
def spCt (K : PySem.W.Frag) : Sp := fun vs H Q _ => ∃ (p nw : Addr) (a b c : V) (s : Nat) (news : List Str) (x : Option Str), vs = [.ref p, os x] ∧ SqT K H p [a, b, c, .str ⟨#[s]⟩, .ref nw] ∧ SqT K H nw (news.map V.str) ∧ s < 256 ∧ 1 ≤ news.length ∧ news.length ≤ 4 ∧
  (∀ z, x = some z → z.length ≤ 60000) ∧ ∀ t H', Same H H' → LRes K H' t (cutP news ⟨#[s]⟩ x) → Q (.ref t) H'
theorem ok_lcut {f : Addr} {fd : FuncData} (F : Fun K "_law_cut" "_law_cut" sCt f fd) (T : Free mg) : FnOk P w K mg base CX0 1 f fd ["_law_step", "_law_mine"] (spCt K) := by
  refine F.ok scCt (fun vs H Q E h => ?_) (fun cdv A outer s H vs Q E hr h => ?_)
  · obtain ⟨p, nw, a, b, c, s, news, x, rfl, _⟩ := h
    rfl
  · obtain ⟨p, nw, a, b, c, s1, news, x, rfl, hp, hn, sl, n1, n4, zl, q⟩ := h
    refine ⟨_, pss_cons (ps_set (i := 2) scCt.nd rfl (Or.inl rfl) (pe_ifExp (pt_cmpR op_isN (pv 1) pe_non (nomark _)) (pe_lst pa_nil) (pe_lc (own := [("_law_part", 3)]) (g := gName 3) (tt := tYes) rfl scCt.nd (pi_list (pe_split (pv 1) (pe_ix (ix_tupK (K := K) rfl) (pv 0) pe_int (fun _ _ => rfl)))) (blkOk_by (own := [("_law_part", 3)]) (N := nCt) (sc := defScope sCt) (by decide +kernel)) (fun _ _ _ _ _ => (pg_name (i := 3) scCt.nd rfl (Or.inl rfl))) (fun _ _ _ _ _ => pts_nil) (fun _ _ _ _ _ => (pe_bmK (K := K) rfl PySem.F.plainAttrs_str PySem.F.slot_str_strip PySem.F.type_str_strip mt_stripChars (pv 3) (pa_cons pe_str pa_nil))))))
      (pss_cons (ps_if (pt_cmpR op_ne (pe_callB (call_len_seqK (K := K) rfl) (by rfl) T.len PySem.boot_len (pa_cons (pv 2) pa_nil)) (pe_callB (call_len_seqK (K := K) rfl) (by rfl) T.len PySem.boot_len (pa_cons (pe_ix (ix_tupK (K := K) rfl) (pv 0) pe_int (fun _ _ => rfl)) pa_nil)) (nomark _)) (pss_one (ps_ret (pe_tup (pa_cons (pe_lc (own := [("_law_new", 4)]) (g := gName 4) (tt := tYes) rfl scCt.nd (pi_tup (pe_ix (ix_tupK (K := K) rfl) (pv 0) pe_int (fun _ _ => rfl))) (blkOk_by (own := [("_law_new", 4)]) (N := nCt) (sc := defScope sCt) (by decide +kernel)) (fun _ _ _ _ _ => (pg_name (i := 4) scCt.nd rfl (Or.inl rfl))) (fun _ _ _ _ _ => pts_nil) (fun _ _ _ _ _ => (pe_tup (pa_cons (pv 4) (pa_cons pe_non pa_nil))))) (pa_cons (pe_cmpR op_notN (pv 1) pe_non (nomark _)) pa_nil))))) (pss_nil))
      (pss_one (ps_ret (pe_tup (pa_cons (pe_listZip rfl rfl T.list rfl T.zip (pa_cons (pe_ix (ix_tupK (K := K) rfl) (pv 0) pe_int (fun _ _ => rfl)) (pa_cons (pe_lc (own := [("_law_part", 3)]) (g := gName 3) (tt := tYes) rfl scCt.nd (pi_list (pv 2)) (blkOk_by (own := [("_law_part", 3)]) (N := nCt) (sc := defScope sCt) (by decide +kernel)) (fun _ _ _ _ _ => (pg_name (i := 3) scCt.nd rfl (Or.inl rfl))) (fun _ _ _ _ _ => pts_nil) (fun _ _ _ _ _ => (pe_ifExp (pt_cmpR op_eq (pv 3) pe_str (nomark _)) pe_non (pv 3)))) pa_nil))) (pa_cons pe_bl pa_nil)))))), ?_⟩
    have hpK : ∀ {G : Hp}, Same H G → SqT K G p [a, b, c, .str ⟨#[s1]⟩, .ref nw] := fun s => sameT s hp
    refine cutA (fun v G => ∃ (D : Addr) (ys : List Str), v = .ref D ∧ G D = some (.lst (ys.map V.str)) ∧ Same H G ∧ ys = (match x with | none => [] | some z => (Txt.split z ⟨#[s1]⟩).map fun y => Txt.stripChars y sp)) (fun Q' q' => ?_) ?_
    · refine ⟨_, rfl, rfl, _, rfl, ?_⟩
      cases x with
      | none =>
        rw [decide_eq_true (show os none = V.non from rfl)]
        exact iteT ⟨(show 0 ≤ sizeLine by decide), fun D nD => q' _ _ ⟨D, [], rfl, upd_same, Same.new nD, rfl⟩⟩
      | some z =>
        rw [decide_eq_false (show ¬ os (some z) = V.non from fun h => nomatch h)]
        refine iteF ?_
        have zl' := zl z rfl
        refine ⟨_, rfl, ⟨_, rfl⟩, _, rfl, p, _, _, .str ⟨#[s1]⟩, rfl, rfl, hp, rfl, z, ⟨#[s1]⟩, rfl, rfl, rfl, Nat.le_trans (Nat.add_le_add_right zl' 2) (by decide), fun D0 n0 => newO n0 fun G1 z1 e1 => ?_⟩
        have pl := K21.parts_le (z := z) sl
        have pn : (Txt.split z ⟨#[s1]⟩).length < 100000 := by
          rw [K21.split_len z sl]
          have := List.count_le_length (l := tl z) (a := s1)
          rw [← len_tl] at this
          omega
        generalize hP : Txt.split z ⟨#[s1]⟩ = parts at pl pn e1 ⊢
        refine ⟨D0, rfl, ⟨_, SqL.of e1⟩, fun D nD => ?_⟩
        refine lc_val (walk_list (K := K) (a := D0) (xs := parts.map V.str)) (Z := fun j x => (parts.map V.str)[j]? = some x) (fun j => .str (Txt.stripChars (parts.getD j Str.empty) sp)) nD yat (fun G s => SqL.of (s _ _ e1)) (by rw [List.length_map]; exact pn) (fun _ => rfl) ?_ ?_
        · rintro j x G Q2 hj hx sG kG
          rw [List.getElem?_map] at hx
          obtain ⟨u, hu, rfl⟩ := Option.map_eq_some_iff.mp hx
          have eu : parts.getD j Str.empty = u := by rw [List.getD_eq_getElem?_getD, hu]; rfl
          rw [eu] at kG
          exact ⟨_, rfl, rfl, u, sp, rfl, rfl, Nat.le_trans (Nat.le_trans (pl u (List.mem_of_getElem? hu)) zl') (by decide), kG _ (Same.refl _)⟩
        · intro G2 s2 e2
          rw [List.length_map, range_at parts (fun y => V.str (Txt.stripChars y sp)) _ (fun j y hy => by rw [List.getD_eq_getElem?_getD, hy]; rfl)] at e2
          exact q' _ _ ⟨D, parts.map fun y => Txt.stripChars y sp, rfl, by rw [e2, List.map_map]; rfl, z1.trans s2, (by
            show _ = (Txt.split z ⟨#[s1]⟩).map fun y => Txt.stripChars y sp
            rw [hP])⟩
    · rintro v H1 ⟨D, ys, rfl, eD, sH, ey⟩
      refine gN ?_
      try dsimp only
      refine ⟨_, rfl, D, _, rfl, .inl (SqL.of eD), _, rfl, p, _, _, .ref nw, rfl, rfl, hpK sH, rfl, nw, _, rfl, .inr (sameT sH hn), ?_⟩
      refine ⟨rfl, _, rfl, ?_⟩
      have el : (!decide (V.int ((ys.map V.str).length : Nat) = V.int ((news.map V.str).length : Nat))) = !decide (ys.length = news.length) := congrArg Bool.not (decide_eq_decide.mpr ⟨fun h => by have := V.int.inj h; rw [List.length_map, List.length_map] at this; omega, fun h => congrArg V.int (by rw [List.length_map, List.length_map, h])⟩)
      rw [el]
      by_cases ll : ys.length = news.length
      · rw [decide_eq_true ll]
        refine iteF ?_
        cases x with
        | none =>
          rw [ey] at ll
          simp at ll
          omega
        | some z =>
          have ey' : ys = (Txt.split z ⟨#[s1]⟩).map fun y => Txt.stripChars y sp := ey
          have lz : (Txt.split z ⟨#[s1]⟩).length = news.length := by rw [← ll, ey', List.length_map]
          have ecut : cutP news ⟨#[s1]⟩ (some z) = ((news.map tk).zip ((Txt.split z ⟨#[s1]⟩).map fun y => os (cw y)), false) := by
            unfold cutP
            dsimp only
            rw [if_pos lz]
          rw [ecut] at q
          unfold tNext
          dsimp only
          unfold tRet
          dsimp only
          refine ⟨_, rfl, p, _, _, .ref nw, rfl, rfl, hpK sH, rfl, _, rfl, D, rfl, ⟨_, SqL.of eD⟩, fun D2 n2 => ?_⟩
          refine lc_val (walk_list (K := K) (a := D) (xs := ys.map V.str)) (Z := fun j x => (ys.map V.str)[j]? = some x) (fun j => if ys.getD j Str.empty = Str.empty then V.non else V.str (ys.getD j Str.empty)) n2 yat (fun G s => SqL.of (s _ _ eD)) (by rw [List.length_map]; omega) (fun _ => rfl) ?_ ?_
          · rintro j x G Q2 hj hx sG kG
            rw [List.getElem?_map] at hx
            obtain ⟨u, hu, rfl⟩ := Option.map_eq_some_iff.mp hx
            have eu : ys.getD j Str.empty = u := by rw [List.getD_eq_getElem?_getD, hu]; rfl
            rw [eu] at kG
            have e0 : Str.ofString "" = Str.empty := by decide +kernel
            refine ⟨_, rfl, rfl, _, rfl, ?_⟩
            rw [str_dec, e0]
            by_cases c : u = Str.empty
            · rw [decide_eq_true c]
              rw [if_pos c] at kG
              exact iteT (kG _ (Same.refl _))
            · rw [decide_eq_false c]
              rw [if_neg c] at kG
              exact iteF ⟨_, rfl, kG _ (Same.refl _)⟩
          · intro G2 s2 e2
            rw [List.length_map, range_at ys (fun y => if y = Str.empty then V.non else V.str y) _ (fun j y hy => by rw [List.getD_eq_getElem?_getD, hy]; rfl)] at e2
            have ev : (ys.map fun y => if y = Str.empty then V.non else V.str y) = (Txt.split z ⟨#[s1]⟩).map fun y => os (cw y) := by
              rw [ey', List.map_map]
              refine List.map_congr_left fun y _ => ?_
              show (if Txt.stripChars y sp = Str.empty then V.non else V.str (Txt.stripChars y sp)) = os (cw y)
              unfold cw
              split <;> rfl
            rw [ev] at e2
            refine ⟨.ref nw, .ref D2, news.map V.str, _, rfl, .inl ⟨nw, rfl, .inl (sameT (sH.trans s2) hn)⟩, .inl ⟨D2, rfl, .inr (SqL.of e2)⟩, fun l Ts G3 s3 nl el3 zt => ?_⟩
            refine ⟨(show 2 ≤ sizeLine by decide), fun t nt => newO nt fun G4 s4 e4 => ?_⟩
            exact q t G4 (((sH.trans s2).trans s3).trans s4) (lres_mk e4 (s4 _ _ el3) (paired_same s4 (zip_paired (by rw [List.map_map]; rfl) zt)))
      · rw [decide_eq_false ll]
        refine iteT ?_
        unfold tRet
        dsimp only
        refine ⟨_, rfl, p, _, _, .ref nw, rfl, rfl, hpK sH, rfl, nw, rfl, ⟨_, sameT sH hn⟩, fun D2 n2 => ?_⟩
        refine lc_new (walk_tup (K := K) (a := nw) (xs := news.map V.str)) (Z := fun j x => (news.map V.str)[j]? = some x) (fun j y G => ∃ (T : Addr) (z : Str), y = .ref T ∧ news[j]? = some z ∧ G T = some (.tup [.str z, .non])) n2 (fun j G x G' e => ⟨e.1, e.2⟩) (fun G sG => sameT (sH.trans sG) hn) (fun j y G G' keep ⟨l', eD⟩ ⟨t, z, e1, e2, e3⟩ => ⟨t, z, e1, e2, keep t _ (fun q => by rw [q, eD] at e3; cases e3) e3⟩) (by rw [List.length_map]; omega) (fun _ => rfl) ?_ ?_
        · rintro j x G Q2 hj hx sG kk
          rw [List.getElem?_map] at hx
          obtain ⟨z, hz2, rfl⟩ := Option.map_eq_some_iff.mp hx
          exact ⟨_, rfl, (show 2 ≤ sizeLine by decide), fun T m1 => newO m1 fun G2 s2 e2 => kk _ _ s2 ⟨T, z, rfl, hz2, e2⟩⟩
        · intro G3 ys3 s3 e3 ly3 hw3
          rw [List.length_map] at ly3
          obtain ⟨Ts, rfl, lT, wT⟩ := refs_at2 (G := G3) (k := 0) (F := fun j T => ∃ z, news[j]? = some z ∧ G3 T = some (.tup [.str z, .non])) (fun j y hy => by
            obtain ⟨T, z, e1, e2, e4⟩ := hw3 j y hy
            exact ⟨T, e1, z, by rw [Nat.zero_add]; exact e2, e4⟩)
          refine ⟨_, rfl, rfl, (show 2 ≤ sizeLine by decide), fun t nt => newO nt fun G4 s4 e4 => ?_⟩
          have pr : Paired (fun (T : Addr) (kv : Key × V) => SqT K G4 T [kV kv.1, kv.2]) Ts (news.map fun x => (tk x, V.non)) := paired_ix (by rw [List.length_map]; omega) fun j T kv h1 h2 => by
            obtain ⟨z, hz, eT⟩ := wT j T h1
            rw [Nat.zero_add] at hz
            rw [List.getElem?_map, hz] at h2
            cases h2
            exact SqT.of (s4 _ _ eT)
          refine q t G4 ((sH.trans s3).trans s4) ?_
          cases x with
          | none => exact lres_mk e4 (s4 _ _ e3) pr
          | some z =>
            have nl : ¬ (Txt.split z ⟨#[s1]⟩).length = news.length := fun h => ll (by rw [ey, List.length_map]; exact h)
            unfold cutP
            dsimp only
            rw [if_neg nl]
            exact lres_mk e4 (s4 _ _ e3) pr
end
end K87
set_option Elab.async false
set_option linter.all false
set_option pp.maxSteps 4000
set_option maxRecDepth 100000
set_option maxHeartbeats 4000000
/-! k87: what a step does, by the law -/
namespace K87
open PySem PySem.Spec PyProof.Rows L2 Bs Xg TL Xm Xs Gn Gd Xu Xw Xk K86 K02
open K21 (tk os ov u1 cw cutP doneP Deed rowV txt sp gluedP spellP readDP readP metP Mt Fm ltV leV like rLt rLe)
abbrev sDid : Stmt := K21.top 50
section
variable {X : Cx}
def rGe : R2 := fun x y H Q => like x y ∧ Q (.bl (!ltV x y)) H
theorem op_geA : OpR X (compareOp .GtE) rGe := by
  intro pins s σ H x y v u Q I rx ry h
  obtain ⟨hl, q⟩ := h
  cases x <;> cases y <;> try exact hl.elim
  · rename_i i j
    refine op_ge pins s σ H _ _ v u Q I rx ry ⟨_, _, rfl, rfl, ?_⟩
    have e : decide (j ≤ i) = !ltV (.int i) (.int j) := by
      show _ = !decide (i < j)
      by_cases c : i < j
      · rw [decide_eq_true c, decide_eq_false (by omega)]
        rfl
      · rw [decide_eq_false c, decide_eq_true (by omega)]
        rfl
    show Q (.bl (decide (j ≤ i))) H
    rw [e]
    exact q
  · exact op_ge_str pins s σ H _ _ v u Q I rx ry ⟨_, _, rfl, rfl, q⟩
end
theorem spell_some (z : Str) : ∀ ps : List (Str × Option Str), (valV (ps.map fun (pw : Str × Option Str) => ((tk pw.1, K21.os pw.2) : Key × V)) (tk z)).getD (.str z) = K21.os (spellP (some z) ps)
  | [] => rfl
  | p :: ps => by
    unfold spellP
    by_cases e : z = p.1
    · rw [if_pos (show K21.os (some z) = .str p.1 from congrArg V.str e), List.map_cons, valV_pos (show tk p.1 = tk z from congrArg Sum.inr e.symm)]
      rfl
    · rw [if_neg (show ¬ K21.os (some z) = .str p.1 from fun h => e (V.str.inj h)), List.map_cons, valV_neg (show ¬ tk p.1 = tk z from fun h => e (Sum.inr.inj h).symm)]
      exact spell_some z ps
theorem spell_none : ∀ ps : List (Str × Option Str), K21.os (spellP none ps) = .non
  | [] => rfl
  | p :: ps => by
    unfold spellP
    rw [if_neg (show ¬ K21.os none = .str p.1 from fun h => nomatch h)]
    exact spell_none ps
theorem len_sum_le : ∀ l : List Str, (∀ x ∈ l, x.length ≤ 60000) → (l.map (·.length)).sum ≤ l.length * 60000 := by
  intro l
  induction l with
  | nil => intro _; simp
  | cons x l ih =>
    intro h
    have h1 := h x (by simp)
    have h2 := ih fun y hy => h y (by simp [hy])
    simp only [List.map_cons, List.sum_cons, List.length_cons]
    omega
section
variable {P : Program} {w : World} {K : PySem.W.Frag} {mg : Str → Option Value} {base : Heap}
abbrev nDid : List Str := ["_law_step", "_law_here", "_law_word", "_law_mine", "_law_some", "_law_number_here", "_law_column"]
theorem scDid : FnScope nDid ["_law_step", "_law_here"] (defScope sDid) := ⟨rfl, rfl, rfl, by decide +kernel, rfl, by decide +kernel, by decide +kernel⟩
def spDid (K : PySem.W.Frag) : Sp := fun vs H Q _ => ∃ (p r : Addr) (a : V) (row : List (Key × V)) (dd : Deed), vs = [.ref p, .ref r] ∧ SqT K H p (dd.items a) ∧ H r = some (.dK row) ∧ dd.ok K H row ∧ (∀ col ts ps, dd = .spell col ts ps → (ps.map (·.1)).Nodup) ∧
  ∀ t H', Same H H' → LRes K H' t (doneP row dd) → Q (.ref t) H'
theorem ok_ldid {f fCt fLNu fLF fLDy : Addr} {fd dCt dLNu dLF dLDy : FuncData} (F : Fun K "_law_did" "_law_did" sDid f fd) (T : Free mg) (FCt : Fun K "_law_cut" "_law_cut" sCt fCt dCt) (bCt : Binds K dCt ["_law_step", "_law_mine"] []) (gCt : mg "_law_cut" = some (.ref fCt))
    (FLNu : Fun K "_law_number" "_law_number" sLNu fLNu dLNu) (bLNu : Binds K dLNu ["_law_form_here", "_law_word"] []) (gLNu : mg "_law_number" = some (.ref fLNu)) (FLF : Fun K "_law_figures" "_law_figures" sLF fLF dLF) (bLF : Binds K dLF ["_law_word"] []) (gLF : mg "_law_figures" = some (.ref fLF)) (FLDy : Fun K "_law_day" "_law_day" sLDy fLDy dLDy) (bLDy : Binds K dLDy ["_law_order", "_law_word"] []) (gLDy : mg "_law_day" = some (.ref fLDy)) : FnOk P w K mg base CX0 4 f fd ["_law_step", "_law_here"] (spDid K) := by
  have GCt : FnOk P w K mg base CX0 1 fCt dCt ["_law_step", "_law_mine"] (spCt K) := ok_lcut FCt T
  have GLNu : FnOk P w K mg base CX0 3 fLNu dLNu ["_law_form_here", "_law_word"] (spLNu K) := ok_lnum FLNu T FLF bLF gLF FLDy bLDy gLDy
  refine F.ok scDid (fun vs H Q E h => ?_) (fun cdv A outer s H vs Q E hr h => ?_)
  · obtain ⟨p, r, a, row, dd, rfl, _⟩ := h
    rfl
  · obtain ⟨p, r, a, row, dd, rfl, hp, hr', ho, hsp, q⟩ := h
    refine ⟨_, pss_cons (ps_par (i := 2) (j := 3) rfl scDid.nd rfl rfl (by decide) rfl rfl (pa_cons (pe_ix (ix_tupK (K := K) rfl) (pv 0) pe_int (fun _ _ => rfl)) (pa_cons (pe_ifExp (pt_cmpR op_ne (pe_ix (ix_tupK (K := K) rfl) (pv 0) pe_int (fun _ _ => rfl)) pe_str (nomark _)) (pe_dget (u1 hr.units) (pv 1) (pe_ix (ix_tupK (K := K) rfl) (pv 0) pe_int (fun _ _ => rfl)) (fun _ _ => rfl)) pe_non) pa_nil)) (by rfl))
      (pss_cons (ps_if (pt_cmpR op_eq (pv 2) pe_str (nomark _)) (pss_one (ps_ret (pe_call GCt (hr.mono (by decide)) (by rfl) gCt FCt.kp bCt .nil pass0 (pa_cons (pv 0) (pa_cons (pv 3) pa_nil))))) (pss_nil))
      (pss_cons (ps_if (pt_cmpR op_eq (pv 2) pe_str (nomark _)) (pss_cons (ps_setLc (i := 4) (own := [("_law_column", 6)]) (g := gName 6) (tt := (tTest (tOp (fun x y H Q => y = .non ∧ Q (.bl (!decide (x = .non))) H) (tDGet (tVar 1) (tVar 6)) (tC .non)))) rfl scDid.nd rfl rfl (sw_true rfl rfl rfl rfl) (pi_tup (pe_ix (ix_tupK (K := K) rfl) (pv 0) pe_int (fun _ _ => rfl))) (blkOk_by (own := [("_law_column", 6)]) (N := nDid) (sc := defScope sDid) (by decide +kernel)) (fun _ _ _ _ _ => (pg_name (i := 6) scDid.nd rfl (Or.inl rfl))) (fun _ _ _ _ _ => pts_one (pt_cmpR op_notN (pe_dget (u1 hr.units) (pv 1) (pv 6) (fun _ _ => rfl)) pe_non (nomark _))) (fun _ _ _ _ _ => (pe_dget (u1 hr.units) (pv 1) (pv 6) (fun _ _ => rfl))))
      (pss_one (ps_ret (pe_tup (pa_cons (pe_lst (pa_cons (pe_tup (pa_cons (pe_ix (ix_tupK (K := K) rfl) (pv 0) pe_int (fun _ _ => rfl)) (pa_cons (pe_ifExp (pt_cmpR (op_eqD hr.units) (pv 4) (pe_lst pa_nil) (nomark _)) pe_non (pe_join (pe_ix (ix_tupK (K := K) rfl) (pv 0) pe_int (fun _ _ => rfl)) (pv 4))) pa_nil))) pa_nil)) (pa_cons pe_bl pa_nil)))))) (pss_nil))
      (pss_cons (ps_if (pt_cmpR op_eq (pv 2) pe_str (nomark _)) (pss_one (ps_ret (pe_tup (pa_cons (pe_lst (pa_cons (pe_tup (pa_cons (pe_ix (ix_tupK (K := K) rfl) (pv 0) pe_int (fun _ _ => rfl)) (pa_cons (pe_dget2N (u1 hr.units) (pe_callTy (call_dictP rfl) (by rfl) T.dict (by decide +kernel) (pa_cons (pe_callTy call_list_of (by rfl) T.list (by decide +kernel) (pa_cons (pe_ix (ix_tupK (K := K) rfl) (pv 0) pe_int (fun _ _ => rfl)) pa_nil)) pa_nil)) (pv 3) (pv 3) ⟨rfl, rfl, rfl, rfl⟩) pa_nil))) pa_nil)) (pa_cons pe_bl pa_nil))))) (pss_nil))
      (pss_cons (ps_if (pt_cmpR op_eq (pv 2) pe_str (nomark _)) (pss_cons (ps_set (i := 5) scDid.nd rfl (Or.inl rfl) (pe_ifExp (pt_cmpR op_isN (pv 3) pe_non (nomark _)) pe_non (pe_call GLNu (hr.mono (by decide)) (by rfl) gLNu FLNu.kp bLNu .nil pass0 (pa_cons (pe_ix (ix_tupK (K := K) rfl) (pv 0) pe_int (fun _ _ => rfl)) (pa_cons (pv 3) pa_nil)))))
      (pss_one (ps_ret (pe_tup (pa_cons (pe_lst (pa_cons (pe_tup (pa_cons (pe_ix (ix_tupK (K := K) rfl) (pv 0) pe_int (fun _ _ => rfl)) (pa_cons (pv 5) pa_nil))) pa_nil)) (pa_cons (pe_and (pe_cmpR op_notN (pv 3) pe_non (nomark _)) (pe_one (pe_cmpR op_isN (pv 5) pe_non (nomark _)))) pa_nil)))))) (pss_nil))
      (pss_cons (ps_if (pt_cmpR op_eq (pv 2) pe_str (nomark _)) (pss_one (ps_ret (pe_tup (pa_cons (pe_lst (pa_cons (pe_tup (pa_cons (pe_ix (ix_tupK (K := K) rfl) (pv 0) pe_int (fun _ _ => rfl)) (pa_cons (pe_ifExp (pt_cmpR op_isN (pv 3) pe_non (nomark _)) (pe_ix (ix_tupK (K := K) rfl) (pv 0) pe_int (fun _ _ => rfl)) (pv 3)) pa_nil))) pa_nil)) (pa_cons pe_bl pa_nil))))) (pss_nil))
      (pss_cons (ps_if (pt_cmpR op_eq (pv 2) pe_str (nomark _)) (pss_one (ps_ret (pe_tup (pa_cons (pe_lst pa_nil) (pa_cons (pe_cmpR op_isN (pv 3) pe_non (nomark _)) pa_nil))))) (pss_nil))
      (pss_cons (ps_if (pt_cmpR op_eq (pv 2) pe_str (nomark _)) (pss_one (ps_ret (pe_tup (pa_cons (pe_lst pa_nil) (pa_cons (pe_and (pe_cmpR op_notN (pv 3) pe_non (nomark _)) (pe_one (pe_not (pe_chain K21.op_leA K21.op_leA (pe_ix (ix_tupK (K := K) rfl) (pv 0) pe_int (fun _ _ => rfl)) (pv 3) (pe_ix (ix_tupK (K := K) rfl) (pv 0) pe_int (fun _ _ => rfl)))))) pa_nil))))) (pss_nil))
      (pss_cons (ps_if (pt_cmpR op_eq (pv 2) pe_str (nomark _)) (pss_one (ps_ret (pe_tup (pa_cons (pe_lst pa_nil) (pa_cons (pe_and (pe_cmpR op_notN (pv 3) pe_non (nomark _)) (pe_one (pe_cmpR (op_notIn_seqK (K := K) rfl) (pv 3) (pe_ix (ix_tupK (K := K) rfl) (pv 0) pe_int (fun _ _ => rfl)) rfl))) pa_nil))))) (pss_nil))
      (pss_one (ps_ret (pe_tup (pa_cons (pe_lst pa_nil) (pa_cons (pe_and (pe_cmpR op_notN (pv 3) pe_non (nomark _)) (pe_and (pe_cmpR op_notN (pe_dget (u1 hr.units) (pv 1) (pe_ix (ix_tupK (K := K) rfl) (pv 0) pe_int (fun _ _ => rfl)) (fun _ _ => rfl)) pe_non (nomark _)) (pe_one (pe_cmpR op_geA (pv 3) (pe_dget (u1 hr.units) (pv 1) (pe_ix (ix_tupK (K := K) rfl) (pv 0) pe_int (fun _ _ => rfl)) (fun _ _ => rfl)) (nomark _))))) pa_nil))))))))))))), ?_⟩
    cases dd with
    | cut col s nw news =>
      obtain ⟨tc, hn, sl, nn, n1, n4⟩ := ho
      have dg : DGet H r (.str col) (some (os (txt (rowV row col)))) := tc.val.1 ▸ DGet.k (k := tk col) hr'
      refine ⟨_, rfl, p, _, _, .str "cut", rfl, rfl, hp, rfl, _, rfl, p, _, _, .str "cut", rfl, rfl, hp, rfl, rfl, _, rfl, ?_⟩
      refine iteB1 (by decide +kernel) ⟨_, rfl, _, rfl, p, _, _, .str col, rfl, rfl, hp, rfl, r, _, rfl, dg, _, _, rfl, ?_⟩
      try dsimp only
      refine ⟨_, rfl, rfl, _, rfl, iteYe rfl ?_⟩
      try unfold tRet
      try dsimp only
      exact ⟨_, rfl, _, rfl, p, nw, a, .str "cut", .str col, s, news, txt (rowV row col), rfl, hp, hn, sl, n1, n4, tc.val.2, fun t H' s' res => q t H' s' res⟩
    | glue cs cols sep new =>
      obtain ⟨hc, tcs, sl, cl⟩ := ho
      refine ⟨_, rfl, p, _, _, .str "glue", rfl, rfl, hp, rfl, _, rfl, p, _, _, .str "glue", rfl, rfl, hp, rfl, rfl, _, rfl, ?_⟩
      refine iteB0 (by decide +kernel) ⟨_, _, rfl, ?_⟩
      try dsimp only
      refine ⟨_, rfl, rfl, _, rfl, iteNo (by decide +kernel) ?_⟩
      try unfold tNext
      try dsimp only
      refine ⟨_, rfl, rfl, _, rfl, iteYe rfl ?_⟩
      try unfold tRet
      try dsimp only
      refine ⟨_, rfl, p, _, _, .ref cs, rfl, rfl, hp, rfl, cs, rfl, ⟨_, hc⟩, fun D nD => ?_⟩
      have q : ∀ t H', Same H H' → LRes K H' t ([(tk new, os (gluedP (fun c => txt (rowV row c)) cols sep))], false) → Q (.ref t) H' := q
      obtain ⟨gg, hgg⟩ : ∃ gg : Str → Option Str, gg = fun c => txt (rowV row c) := ⟨_, rfl⟩
      rw [← hgg] at q
      have hv : ∀ c ∈ cols, valV row (tk c) = some (os (gg c)) ∧ ∀ z, gg c = some z → z.length ≤ 60000 := fun c hm => by rw [hgg]; exact (tcs c hm).val
      refine lc_fm (walk_tup (K := K) (a := cs) (xs := cols.map V.str)) cols (fun c => (gg c).map V.str) (by simp) nD (fun G s => sameT s hc) (by simp; omega) ?_ ?_
      · rintro j c1 x G G' R N hk sG ⟨rfl, hx⟩ keep drop
        rw [List.getElem?_map, hk] at hx
        cases hx
        have hm := hv c1 (List.mem_of_getElem? hk)
        have dg : DGet G' r (.str c1) (some (os (gg c1))) := hm.1 ▸ DGet.k (k := tk c1) (sG _ _ hr')
        refine gN ⟨rfl, ?_⟩
        refine ⟨_, rfl, _, rfl, r, _, rfl, dg, rfl, _, rfl, ?_⟩
        cases ef : gg c1 with
        | none =>
          rw [decide_eq_true (show os none = V.non from rfl)]
          exact drop (by rw [ef]; rfl) _ (Same.refl _)
        | some z1 =>
          rw [decide_eq_false (show ¬ os (some z1) = V.non from fun h => nomatch h)]
          rw [ef] at dg
          exact ⟨_, rfl, _, rfl, r, _, rfl, dg, keep _ (by rw [ef]; rfl) _ (Same.refl _)⟩
      · intro G sG eD
        have eL : cols.filterMap (fun c => (gg c).map V.str) = (cols.filterMap gg).map V.str := by
          rw [List.map_filterMap]
        rw [eL] at eD
        refine gN ?_
        try dsimp only
        refine ⟨_, rfl, p, _, _, .str new, rfl, rfl, sameT sG hp, rfl, _, rfl, (show 0 ≤ sizeLine by decide), fun L0 n0 => newO n0 fun G1 z1 e1 => ?_⟩
        have fin : ∀ u : V, u = os (gluedP gg cols sep) → 2 ≤ sizeLine ∧ ∀ T : Addr, G1 T = none → 1 ≤ sizeLine ∧ ∀ l : Addr, upd G1 T (.tup [.str new, u]) l = none → 2 ≤ sizeLine ∧ ∀ t : Addr, upd (upd G1 T (.tup [.str new, u])) l (.lst [.ref T]) t = none → Q (.ref t) (upd (upd (upd G1 T (.tup [.str new, u])) l (.lst [.ref T])) t (.tup [.ref l, .bl false])) := by
          rintro u rfl
          exact ⟨by decide, fun T nT => newO nT fun G2 z2 e2 => ⟨by decide, fun l nl => newO nl fun G3 z3 e3 => ⟨by decide, fun t nt => newO nt fun G4 z4 e4 => q t G4 ((((sG.trans z1).trans z2).trans z3).trans z4) (lres_mk (Ts := [T]) e4 (z4 _ _ e3) (.cons (SqT.of (z4 _ _ (z3 _ _ e2))) .nil))⟩⟩⟩
        refine ⟨_, _, short_dp (SqL.of (z1 _ _ eD)), .lst (SqL.of e1) .nil, short_shaped fun z hz => ?_, by decide +kernel, _, rfl, ?_⟩
        · obtain ⟨c2, h2, e3⟩ := List.mem_filterMap.mp hz
          rw [hgg] at e3
          exact (tcs c2 h2).good _ e3
        rw [eqv_nil]
        by_cases c0 : cols.filterMap gg = []
        · rw [decide_eq_true c0]
          exact iteT (fin _ (by unfold gluedP; rw [if_pos c0]; rfl))
        · rw [decide_eq_false c0]
          have fl : (cols.filterMap gg).length ≤ 4 := Nat.le_trans (List.length_filterMap_le _ _) cl
          have fz : ∀ x ∈ cols.filterMap gg, x.length ≤ 60000 := by
            intro x hx
            obtain ⟨c2, h2, e2⟩ := List.mem_filterMap.mp hx
            exact (hv c2 h2).2 x e2
          have s1' := len_sum_le _ fz
          have s2' : (cols.filterMap gg).length * sep.length ≤ 4 * 1 := Nat.mul_le_mul fl sl
          refine iteF ⟨_, rfl, p, _, _, .str sep, rfl, rfl, sameT (sG.trans z1) hp, rfl, ⟨_, rfl⟩, _, rfl, sep, D, cols.filterMap gg, rfl, rfl, .inl (SqL.of (z1 _ _ eD)), by omega, fin _ ?_⟩
          unfold gluedP
          rw [if_neg c0]
          rfl
    | spell col ts ps =>
      obtain ⟨tc, hps, p10, gp⟩ := ho
      have dg : DGet H r (.str col) (some (os (txt (rowV row col)))) := tc.val.1 ▸ DGet.k (k := tk col) hr'
      refine ⟨_, rfl, p, _, _, .str "spell", rfl, rfl, hp, rfl, _, rfl, p, _, _, .str "spell", rfl, rfl, hp, rfl, rfl, _, rfl, ?_⟩
      refine iteB1 (by decide +kernel) ⟨_, rfl, _, rfl, p, _, _, .str col, rfl, rfl, hp, rfl, r, _, rfl, dg, _, _, rfl, ?_⟩
      try dsimp only
      refine ⟨_, rfl, rfl, _, rfl, iteNo (by decide +kernel) ?_⟩
      try unfold tNext
      try dsimp only
      refine ⟨_, rfl, rfl, _, rfl, iteNo (by decide +kernel) ?_⟩
      try unfold tNext
      try dsimp only
      refine ⟨_, rfl, rfl, _, rfl, iteYe rfl ?_⟩
      try unfold tRet
      try dsimp only
      have ndp := hsp col ts ps rfl
      obtain ⟨qs, lq, hqs, hq2⟩ := hps
      have q : ∀ t H', Same H H' → LRes K H' t ([(tk col, os (spellP (txt (rowV row col)) ps))], false) → Q (.ref t) H' := q
      generalize txt (rowV row col) = x at dg q
      have mg0 : mergeK [] (ps.map fun (pw : Str × Option Str) => ((tk pw.1, K21.os pw.2) : Key × V)) = ps.map fun (pw : Str × Option Str) => ((tk pw.1, K21.os pw.2) : Key × V) := by
        have gen : ∀ (ps : List (Str × Option Str)) (acc : List (Key × V)), (∀ p ∈ ps, valV acc (tk p.1) = none) → (ps.map (·.1)).Nodup → mergeK acc (ps.map fun (pw : Str × Option Str) => ((tk pw.1, K21.os pw.2) : Key × V)) = acc ++ ps.map fun (pw : Str × Option Str) => ((tk pw.1, K21.os pw.2) : Key × V) := by
          intro ps
          induction ps with
          | nil => intro acc _ _; simp [mergeK]
          | cons p ps ih =>
            intro acc ha nd
            rw [List.map_cons, List.nodup_cons] at nd
            show mergeK (putK acc (tk p.1) (K21.os p.2)) _ = _
            rw [putK_new _ (ha p List.mem_cons_self), ih _ (fun p2 h2 => ?_) nd.2, List.append_assoc]
            · rfl
            · rw [valV_snoc _ _ _ _ (ha p List.mem_cons_self), if_neg (show ¬ tk p2.1 = tk p.1 from fun e => nd.1 (List.mem_map.mpr ⟨p2, h2, Sum.inr.inj e⟩))]
              exact ha p2 (List.mem_cons_of_mem _ h2)
        have := gen ps [] (fun p _ => rfl) ndp
        rwa [List.nil_append] at this
      have vsp := fun z : Str => spell_some z ps
      have spn := spell_none ps
      have pr : Paired (fun (T : Addr) (kv : Key × V) => SqT K H T [kV kv.1, kv.2]) qs (ps.map fun (pw : Str × Option Str) => ((tk pw.1, K21.os pw.2) : Key × V)) := paired_ix (by rw [List.length_map, lq]) fun j T kv h1 h2 => by
        rw [List.getElem?_map] at h2
        obtain ⟨p2, h3, rfl⟩ := Option.map_eq_some_iff.mp h2
        exact hq2 j T p2 h1 h3
      refine ⟨_, rfl, p, _, _, .str col, rfl, rfl, hp, rfl, _, rfl, p, _, _, .ref ts, rfl, rfl, hp, rfl, ts, _, rfl, .inr hqs, fun l nl => newO nl fun G1 z1 e1 => ?_⟩
      refine ⟨l, qs, _, rfl, SqL.of e1, paired_same z1 pr, fun d nd => newO nd fun G2 z2 e2 => ?_⟩
      rw [mg0] at e2
      refine ⟨d, rfl, .inl ⟨_, .inl e2⟩, _, rfl, _, rfl, ?_⟩
      have fin : ∀ u : V, u = os (spellP x ps) → 2 ≤ sizeLine ∧ ∀ T : Addr, G2 T = none → 1 ≤ sizeLine ∧ ∀ l : Addr, upd G2 T (.tup [.str col, u]) l = none → 2 ≤ sizeLine ∧ ∀ t : Addr, upd (upd G2 T (.tup [.str col, u])) l (.lst [.ref T]) t = none → Q (.ref t) (upd (upd (upd G2 T (.tup [.str col, u])) l (.lst [.ref T])) t (.tup [.ref l, .bl false])) := by
        rintro u rfl
        exact ⟨by decide, fun T nT => newO nT fun G3 z3 e3 => ⟨by decide, fun l nl => newO nl fun G4 z4 e4 => ⟨by decide, fun t nt => newO nt fun G5 z5 e5 => q t G5 ((((z1.trans z2).trans z3).trans z4).trans z5) (lres_mk (Ts := [T]) e5 (z5 _ _ e4) (.cons (SqT.of (z5 _ _ (z4 _ _ e3))) .nil))⟩⟩⟩
      cases x with
      | none => exact .inr ⟨rfl, ⟨_, e2⟩, fin _ spn.symm⟩
      | some z => exact .inl ⟨_, DGet.k (k := tk z) e2, fin _ (vsp z)⟩
    | read col fo f new =>
      obtain ⟨tc, hf, fok⟩ := ho
      have dg : DGet H r (.str col) (some (os (txt (rowV row col)))) := tc.val.1 ▸ DGet.k (k := tk col) hr'
      refine ⟨_, rfl, p, _, _, .str "read", rfl, rfl, hp, rfl, _, rfl, p, _, _, .str "read", rfl, rfl, hp, rfl, rfl, _, rfl, ?_⟩
      refine iteB1 (by decide +kernel) ⟨_, rfl, _, rfl, p, _, _, .str col, rfl, rfl, hp, rfl, r, _, rfl, dg, _, _, rfl, ?_⟩
      try dsimp only
      refine ⟨_, rfl, rfl, _, rfl, iteNo (by decide +kernel) ?_⟩
      try unfold tNext
      try dsimp only
      refine ⟨_, rfl, rfl, _, rfl, iteNo (by decide +kernel) ?_⟩
      try unfold tNext
      try dsimp only
      refine ⟨_, rfl, rfl, _, rfl, iteNo (by decide +kernel) ?_⟩
      try unfold tNext
      try dsimp only
      refine ⟨_, rfl, rfl, _, rfl, iteYe rfl ?_⟩
      try unfold tRet
      try dsimp only
      have q : ∀ t H', Same H H' → LRes K H' t (readDP f new (txt (rowV row col))) → Q (.ref t) H' := q
      have xl := tc.val.2
      generalize txt (rowV row col) = x at dg q xl
      refine cutA (fun v H' => v = ov (x.bind (readP f)) ∧ Same H H') (fun Q' q' => ?_) ?_
      · refine ⟨_, rfl, rfl, _, rfl, ?_⟩
        cases x with
        | none =>
          rw [decide_eq_true (show os none = V.non from rfl)]
          exact iteT (q' _ _ ⟨rfl, Same.refl _⟩)
        | some z =>
          rw [decide_eq_false (show ¬ os (some z) = V.non from fun h => nomatch h)]
          exact iteF ⟨_, rfl, p, _, _, .ref fo, rfl, rfl, hp, rfl, _, rfl, fo, f, z, rfl, hf, fok, xl z rfl, fun G sG => q' _ _ ⟨rfl, sG⟩⟩
      · rintro v G ⟨rfl, sG⟩
        refine gN ?_
        try dsimp only
        refine ⟨_, rfl, p, _, _, .str new, rfl, rfl, sameT sG hp, rfl, _, rfl, (show 2 ≤ sizeLine by decide), fun T nT => newO nT fun G2 z2 e2 => ⟨(show 1 ≤ sizeLine by decide), fun l nl => newO nl fun G3 z3 e3 => ?_⟩⟩
        have fin : ∀ b : Bool, (readDP f new x) = ([(tk new, ov (x.bind (readP f)))], b) → 2 ≤ sizeLine ∧ ∀ t : Addr, G3 t = none → Q (.ref t) (upd G3 t (.tup [.ref l, .bl b])) := fun b e => ⟨by decide, fun t nt => newO nt fun G4 z4 e4 =>
          q t G4 (((sG.trans z2).trans z3).trans z4) (by rw [e]; exact lres_mk (Ts := [T]) e4 (z4 _ _ e3) (.cons (SqT.of (z4 _ _ (z3 _ _ e2))) .nil))⟩
        refine ⟨_, rfl, rfl, _, rfl, ?_⟩
        cases x with
        | none =>
          rw [decide_eq_true (show os none = V.non from rfl)]
          exact iteF (fin false rfl)
        | some z =>
          rw [decide_eq_false (show ¬ os (some z) = V.non from fun h => nomatch h)]
          refine iteT ⟨_, rfl, rfl, ?_⟩
          have eb : decide (ov ((some z).bind (readP f)) = V.non) = (readP f z).isNone := by
            show decide (ov (readP f z) = V.non) = _
            cases readP f z with
            | none => exact decide_eq_true rfl
            | some i => exact decide_eq_false (fun h => nomatch h)
          rw [eb]
          exact fin _ rfl
    | put col v =>
      have ev := K21.rowV_some ho
      have dg : DGet H r (.str col) (some (rowV row col)) := ev ▸ DGet.k (k := tk col) hr'
      refine ⟨_, rfl, p, _, _, .str "put", rfl, rfl, hp, rfl, _, rfl, p, _, _, .str "put", rfl, rfl, hp, rfl, rfl, _, rfl, ?_⟩
      refine iteB1 (by decide +kernel) ⟨_, rfl, _, rfl, p, _, _, .str col, rfl, rfl, hp, rfl, r, _, rfl, dg, _, _, rfl, ?_⟩
      try dsimp only
      refine ⟨_, rfl, rfl, _, rfl, iteNo (by decide +kernel) ?_⟩
      try unfold tNext
      try dsimp only
      refine ⟨_, rfl, rfl, _, rfl, iteNo (by decide +kernel) ?_⟩
      try unfold tNext
      try dsimp only
      refine ⟨_, rfl, rfl, _, rfl, iteNo (by decide +kernel) ?_⟩
      try unfold tNext
      try dsimp only
      refine ⟨_, rfl, rfl, _, rfl, iteNo (by decide +kernel) ?_⟩
      try unfold tNext
      try dsimp only
      refine ⟨_, rfl, rfl, _, rfl, iteYe rfl ?_⟩
      try unfold tRet
      try dsimp only
      have fin : ∀ u : V, u = (if rowV row col = .non then v else rowV row col) → 2 ≤ sizeLine ∧ ∀ T : Addr, H T = none → 1 ≤ sizeLine ∧ ∀ l : Addr, upd H T (.tup [.str col, u]) l = none → 2 ≤ sizeLine ∧ ∀ t : Addr, upd (upd H T (.tup [.str col, u])) l (.lst [.ref T]) t = none → Q (.ref t) (upd (upd (upd H T (.tup [.str col, u])) l (.lst [.ref T])) t (.tup [.ref l, .bl false])) := by
        rintro u rfl
        exact ⟨by decide, fun T nT => newO nT fun G1 z1 e1 => ⟨by decide, fun l nl => newO nl fun G2 z2 e2 => ⟨by decide, fun t nt => newO nt fun G3 z3 e3 => q t G3 ((z1.trans z2).trans z3) (lres_mk (Ts := [T]) e3 (z3 _ _ e2) (.cons (SqT.of (z3 _ _ (z2 _ _ e1))) .nil))⟩⟩⟩
      refine ⟨_, rfl, p, _, _, .str col, rfl, rfl, hp, rfl, _, rfl, rfl, _, rfl, ?_⟩
      by_cases c : rowV row col = .non
      · rw [decide_eq_true c]
        refine iteT ?_
        exact ⟨_, rfl, p, _, _, v, rfl, rfl, hp, rfl, fin v (if_pos c).symm⟩
      · rw [decide_eq_false c]
        refine iteF ?_
        exact ⟨_, rfl, fin _ (if_neg c).symm⟩
    | met col m =>
      obtain ⟨hs, hm⟩ := ho
      have ev := K21.rowV_some hs
      have dg : DGet H r (.str col) (some (rowV row col)) := ev ▸ DGet.k (k := tk col) hr'
      have q : ∀ t H', Same H H' → LRes K H' t ([], !metP (rowV row col) m) → Q (.ref t) H' := q
      generalize rowV row col = v at dg hm q ev
      have fin : ∀ (b : Bool) (G : Hp) (l : Addr), Same H G → G l = some (.lst []) → (!metP v m) = b → 2 ≤ sizeLine ∧ ∀ t : Addr, G t = none → Q (.ref t) (upd G t (.tup [.ref l, .bl b])) := by
        rintro b G l sG el rfl
        exact ⟨by decide, fun t nt => newO nt fun G3 z3 e3 => q t G3 (sG.trans z3) (lres_mk (Ts := []) e3 (z3 _ _ el) .nil)⟩
      cases m with
      | given =>
        refine ⟨_, rfl, p, _, _, .str "given", rfl, rfl, hp, rfl, _, rfl, p, _, _, .str "given", rfl, rfl, hp, rfl, rfl, _, rfl, ?_⟩
        refine iteB1 (by decide +kernel) ⟨_, rfl, _, rfl, p, _, _, .str col, rfl, rfl, hp, rfl, r, _, rfl, dg, _, _, rfl, ?_⟩
        try dsimp only
        refine ⟨_, rfl, rfl, _, rfl, iteNo (by decide +kernel) ?_⟩
        try unfold tNext
        try dsimp only
        refine ⟨_, rfl, rfl, _, rfl, iteNo (by decide +kernel) ?_⟩
        try unfold tNext
        try dsimp only
        refine ⟨_, rfl, rfl, _, rfl, iteNo (by decide +kernel) ?_⟩
        try unfold tNext
        try dsimp only
        refine ⟨_, rfl, rfl, _, rfl, iteNo (by decide +kernel) ?_⟩
        try unfold tNext
        try dsimp only
        refine ⟨_, rfl, rfl, _, rfl, iteNo (by decide +kernel) ?_⟩
        try unfold tNext
        try dsimp only
        refine ⟨_, rfl, rfl, _, rfl, iteYe rfl ?_⟩
        try unfold tRet
        try dsimp only
        refine ⟨(show 0 ≤ sizeLine by decide), fun l nl => newO nl fun G1 z1 e1 => ?_⟩
        refine ⟨_, rfl, rfl, fin _ G1 l z1 e1 ?_⟩
        show (!(!decide (v = .non))) = decide (v = .non)
        rw [Bool.not_not]
      | within lo hi =>
        refine ⟨_, rfl, p, _, _, .str "within", rfl, rfl, hp, rfl, _, rfl, p, _, _, .str "within", rfl, rfl, hp, rfl, rfl, _, rfl, ?_⟩
        refine iteB1 (by decide +kernel) ⟨_, rfl, _, rfl, p, _, _, .str col, rfl, rfl, hp, rfl, r, _, rfl, dg, _, _, rfl, ?_⟩
        try dsimp only
        refine ⟨_, rfl, rfl, _, rfl, iteNo (by decide +kernel) ?_⟩
        try unfold tNext
        try dsimp only
        refine ⟨_, rfl, rfl, _, rfl, iteNo (by decide +kernel) ?_⟩
        try unfold tNext
        try dsimp only
        refine ⟨_, rfl, rfl, _, rfl, iteNo (by decide +kernel) ?_⟩
        try unfold tNext
        try dsimp only
        refine ⟨_, rfl, rfl, _, rfl, iteNo (by decide +kernel) ?_⟩
        try unfold tNext
        try dsimp only
        refine ⟨_, rfl, rfl, _, rfl, iteNo (by decide +kernel) ?_⟩
        try unfold tNext
        try dsimp only
        refine ⟨_, rfl, rfl, _, rfl, iteNo (by decide +kernel) ?_⟩
        try unfold tNext
        try dsimp only
        refine ⟨_, rfl, rfl, _, rfl, iteYe rfl ?_⟩
        try unfold tRet
        try dsimp only
        refine ⟨(show 0 ≤ sizeLine by decide), fun l nl => newO nl fun G1 z1 e1 => ?_⟩
        refine ⟨_, rfl, rfl, _, rfl, ?_⟩
        have z : ∀ b : Bool, (!(decide (v = .non) || (leV lo v && leV v hi))) = b → 2 ≤ sizeLine ∧ ∀ t : Addr, G1 t = none → Q (.ref t) (upd G1 t (.tup [.ref l, .bl b])) := fun b e => fin b G1 l z1 e1 e
        by_cases c : v = .non
        · rw [decide_eq_true c]
          exact iteF (z false (by rw [decide_eq_true c]; rfl))
        · rw [decide_eq_false c]
          obtain ⟨l1, l2⟩ := hm.resolve_left c
          refine iteT ?_
          refine ⟨_, rfl, p, _, _, lo, rfl, rfl, sameT z1 hp, rfl, _, rfl, ?_⟩
          refine ⟨l1, _, rfl, ?_⟩
          rw [decide_eq_false c, Bool.false_or] at z
          cases e : leV lo v with
          | true =>
            rw [e, Bool.true_and] at z
            exact iteT ⟨_, rfl, p, _, _, hi, rfl, rfl, sameT z1 hp, rfl, l2, _, rfl, z _ rfl⟩
          | false =>
            rw [e, Bool.false_and] at z
            exact iteF ⟨_, rfl, z _ rfl⟩
      | among qa xs =>
        refine ⟨_, rfl, p, _, _, .str "among", rfl, rfl, hp, rfl, _, rfl, p, _, _, .str "among", rfl, rfl, hp, rfl, rfl, _, rfl, ?_⟩
        refine iteB1 (by decide +kernel) ⟨_, rfl, _, rfl, p, _, _, .str col, rfl, rfl, hp, rfl, r, _, rfl, dg, _, _, rfl, ?_⟩
        try dsimp only
        refine ⟨_, rfl, rfl, _, rfl, iteNo (by decide +kernel) ?_⟩
        try unfold tNext
        try dsimp only
        refine ⟨_, rfl, rfl, _, rfl, iteNo (by decide +kernel) ?_⟩
        try unfold tNext
        try dsimp only
        refine ⟨_, rfl, rfl, _, rfl, iteNo (by decide +kernel) ?_⟩
        try unfold tNext
        try dsimp only
        refine ⟨_, rfl, rfl, _, rfl, iteNo (by decide +kernel) ?_⟩
        try unfold tNext
        try dsimp only
        refine ⟨_, rfl, rfl, _, rfl, iteNo (by decide +kernel) ?_⟩
        try unfold tNext
        try dsimp only
        refine ⟨_, rfl, rfl, _, rfl, iteNo (by decide +kernel) ?_⟩
        try unfold tNext
        try dsimp only
        refine ⟨_, rfl, rfl, _, rfl, iteNo (by decide +kernel) ?_⟩
        try unfold tNext
        try dsimp only
        refine ⟨_, rfl, rfl, _, rfl, iteYe rfl ?_⟩
        try unfold tRet
        try dsimp only
        refine ⟨(show 0 ≤ sizeLine by decide), fun l nl => newO nl fun G1 z1 e1 => ?_⟩
        obtain ⟨hx, fv, fx⟩ := hm
        refine ⟨_, rfl, rfl, _, rfl, ?_⟩
        have z : ∀ b : Bool, (!(decide (v = .non) || inV v xs)) = b → 2 ≤ sizeLine ∧ ∀ t : Addr, G1 t = none → Q (.ref t) (upd G1 t (.tup [.ref l, .bl b])) := fun b e => fin b G1 l z1 e1 e
        by_cases c : v = .non
        · rw [decide_eq_true c]
          exact iteF (z false (by rw [decide_eq_true c]; rfl))
        · rw [decide_eq_false c]
          refine iteT ?_
          rw [decide_eq_false c, Bool.false_or] at z
          exact ⟨_, rfl, _, rfl, p, _, _, .ref qa, rfl, rfl, sameT z1 hp, rfl, qa, xs, rfl, .inr (sameT z1 hx), fv, fx, z _ rfl⟩
      | before c2 v2 =>
        obtain ⟨e2, hk⟩ := hm
        have dg2 : DGet H r (.str c2) (some v2) := e2 ▸ DGet.k (k := tk c2) hr'
        refine ⟨_, rfl, p, _, _, .str "before", rfl, rfl, hp, rfl, _, rfl, p, _, _, .str "before", rfl, rfl, hp, rfl, rfl, _, rfl, ?_⟩
        refine iteB1 (by decide +kernel) ⟨_, rfl, _, rfl, p, _, _, .str col, rfl, rfl, hp, rfl, r, _, rfl, dg, _, _, rfl, ?_⟩
        try dsimp only
        refine ⟨_, rfl, rfl, _, rfl, iteNo (by decide +kernel) ?_⟩
        try unfold tNext
        try dsimp only
        refine ⟨_, rfl, rfl, _, rfl, iteNo (by decide +kernel) ?_⟩
        try unfold tNext
        try dsimp only
        refine ⟨_, rfl, rfl, _, rfl, iteNo (by decide +kernel) ?_⟩
        try unfold tNext
        try dsimp only
        refine ⟨_, rfl, rfl, _, rfl, iteNo (by decide +kernel) ?_⟩
        try unfold tNext
        try dsimp only
        refine ⟨_, rfl, rfl, _, rfl, iteNo (by decide +kernel) ?_⟩
        try unfold tNext
        try dsimp only
        refine ⟨_, rfl, rfl, _, rfl, iteNo (by decide +kernel) ?_⟩
        try unfold tNext
        try dsimp only
        refine ⟨_, rfl, rfl, _, rfl, iteNo (by decide +kernel) ?_⟩
        try unfold tNext
        try dsimp only
        refine ⟨_, rfl, rfl, _, rfl, iteNo (by decide +kernel) ?_⟩
        try unfold tNext
        try dsimp only
        unfold tRet
        dsimp only
        refine ⟨(show 0 ≤ sizeLine by decide), fun l nl => newO nl fun G1 z1 e1 => ?_⟩
        refine ⟨_, rfl, rfl, _, rfl, ?_⟩
        have dg3 : DGet G1 r (.str c2) (some v2) := e2 ▸ DGet.k (k := tk c2) (z1 _ _ hr')
        have z : ∀ b : Bool, (!(decide (v = .non) || (decide (v2 = .non) || ltV v v2))) = b → 2 ≤ sizeLine ∧ ∀ t : Addr, G1 t = none → Q (.ref t) (upd G1 t (.tup [.ref l, .bl b])) := fun b e => fin b G1 l z1 e1 e
        by_cases c : v = .non
        · rw [decide_eq_true c]
          exact iteF (z false (by rw [decide_eq_true c]; rfl))
        · rw [decide_eq_false c]
          refine iteT ?_
          rw [decide_eq_false c, Bool.false_or] at z
          refine ⟨_, rfl, _, rfl, p, _, _, .str c2, rfl, rfl, sameT z1 hp, rfl, r, _, rfl, dg3, rfl, _, rfl, ?_⟩
          by_cases c' : v2 = .non
          · rw [decide_eq_true c']
            exact iteF (z false (by rw [decide_eq_true c', Bool.true_or]; rfl))
          · rw [decide_eq_false c']
            rw [decide_eq_false c', Bool.false_or] at z
            refine iteT ⟨_, rfl, _, rfl, _, rfl, p, _, _, .str c2, rfl, rfl, sameT z1 hp, rfl, r, _, rfl, dg3, (hk.resolve_left c).resolve_left c', z _ rfl⟩
end
end K87
set_option Elab.async false
set_option linter.all false
set_option pp.maxSteps 4000
set_option maxRecDepth 100000
set_option maxHeartbeats 4000000
/-! k87: what steps write; the columns that a plan tells -/
namespace K87
open PySem PySem.Spec PyProof.Rows L2 Bs Xg TL Xm Xs Gn Gd Xu Xw Xk K86 K02
open K21 (tk os ov u1 Deed rowV txt)
abbrev sTc : Stmt := K21.top 51
/-- the words that a step writes -/
def wrs : Dd → List Str
  | .cut _ _ news => news ++ [Str.ofString "!"]
  | .glue _ _ new => [new]
  | .read _ _ new => [new, "!"]
  | .spell col _ => [col]
  | .put col _ => [col]
  | .fill col _ => [col]
  | _ => ["!"]
def ToW (H : Hp) (L : Addr) (dd : Dd) : Prop := ∃ (A B : Addr) (xs : List Str), H L = some (.lst [.ref A, .ref B]) ∧ H A = some (.lst (xs.map V.str)) ∧ H B = some (.lst ((wrs dd).map V.str))
theorem tow_mk {H : Hp} {L A B : Addr} {dd : Dd} (xs ys : List Str) (e : H L = some (.lst [.ref A, .ref B])) (e1 : H A = some (.lst (xs.map V.str))) (e2 : H B = some (.lst (ys.map V.str))) (l : xs.length ≤ 9) (m : ys.length ≤ 9) (q : wrs dd = ys := by rfl) : ToW H L dd := ⟨A, B, xs, e, e1, by rw [q]; exact e2⟩
/-- of what a step writes, what is new -/
theorem fresh_wrs {kj : List (Str × Bool)} {d : Dd} (w : d.wt kj) (nd : (Str.ofString "!" :: (kj ++ d.adds).map (·.1)).Nodup) : ((wrs d).filter fun z => decide (z ≠ Str.ofString "!")).filter (fun z => decide (z ∉ kj.map (·.1))) = d.adds.map (·.1) := by
  obtain ⟨n1, n2⟩ := List.nodup_cons.mp nd
  rw [List.map_append] at n1 n2
  have bang : ([Str.ofString "!"].filter fun z => decide (z ≠ Str.ofString "!")) = [] := by decide +kernel
  have nw : ∀ zs : List Str, zs = d.adds.map (·.1) → (zs.filter fun z => decide (z ≠ Str.ofString "!")) = zs ∧ zs.filter (fun z => decide (z ∉ kj.map (·.1))) = zs := by
    rintro zs rfl
    refine ⟨List.filter_eq_self.mpr fun z hz => decide_eq_true fun e => n1 (e ▸ List.mem_append_right _ hz), List.filter_eq_self.mpr fun z hz => decide_eq_true fun m => (List.nodup_append.mp n2).2.2 _ m _ hz rfl⟩
  have old : ∀ col b, (col, b) ∈ kj → ([col].filter fun z => decide (z ≠ Str.ofString "!")).filter (fun z => decide (z ∉ kj.map (·.1))) = [] := by
    intro col b m
    refine List.filter_eq_nil_iff.mpr fun z hz => ?_
    have e : z = col := List.mem_singleton.mp (List.mem_filter.mp hz).1
    subst e
    have mm : z ∈ kj.map (·.1) := List.mem_map.mpr ⟨_, m, rfl⟩
    simp [mm]
  cases d with
  | cut col s news =>
    obtain ⟨a, b⟩ := nw news (by show _ = (news.map fun z => (z, true)).map (·.1); rw [fst_map])
    show ((news ++ [Str.ofString "!"]).filter _).filter _ = (news.map fun z => (z, true)).map (·.1)
    rw [List.filter_append, a, bang, List.append_nil, b, fst_map]
  | glue cols s new =>
    obtain ⟨a, b⟩ := nw [new] rfl
    show ([new].filter _).filter _ = [new]
    rw [a, b]
  | read col fv new =>
    obtain ⟨a, b⟩ := nw [new] rfl
    show (([new] ++ [Str.ofString "!"]).filter _).filter _ = [new]
    rw [List.filter_append, a, bang, List.append_nil, b]
  | spell col ps => exact old col true w.1
  | put col v => exact old col _ w.choose_spec.1
  | fill col keys => exact old col _ w.1.choose_spec
  | within | among | before | given =>
    show ([Str.ofString "!"].filter _).filter _ = []
    rw [bang]
    rfl
section
variable {P : Program} {w : World} {K : PySem.W.Frag} {mg : Str → Option Value} {base : Heap} {fTo : Addr} {dTo : FuncData}
def spTw : Sp := fun vs H Q _ => ∃ (p : Addr) (nm : Str) (dd : Dd) (kn : List (Str × Bool)), vs = [.ref p] ∧ StAt H p nm dd kn ∧ ∀ (L : Addr) (H' : Hp), ToW H' L dd → Same H H' → Q (.ref L) H'
theorem ok_tou {f : Addr} {fd : FuncData} (F : Fun K "_law_touches" "_law_touches" sTo f fd) (T : Free mg) : FnOk P w K mg base CX0 1 f fd ["_law_step"] spTw := by
  refine F.ok scTo (fun vs H Q E h => ?_) (fun cdv A outer s H vs Q E hr h => ?_)
  · obtain ⟨p, nm, dd, kn, rfl, _⟩ := h
    rfl
  · obtain ⟨p, nm, dd, kn, rfl, ⟨vs, e, da, dw⟩, k⟩ := h
    refine ⟨_, pss_cons (ps_set (i := 1) scTo.nd rfl (Or.inl rfl) (pe_ix (ix_tupK (K := K) rfl) (pv 0) pe_int (fun _ _ => rfl)))
      (pss_cons (ps_if (pt_cmpR op_eq (pv 1) pe_str (nomark _)) (pss_one (ps_ret (pe_lst (pa_cons (pe_lst (pa_cons (pe_ix (ix_tupK (K := K) rfl) (pv 0) pe_int (fun _ _ => rfl)) pa_nil)) (pa_cons (pe_op op_cat (pe_callTy call_list_of (by rfl) T.list (by decide +kernel) (pa_cons (pe_ix (ix_tupK (K := K) rfl) (pv 0) pe_int (fun _ _ => rfl)) pa_nil)) (pe_lst (pa_cons pe_str pa_nil))) pa_nil))))) (pss_nil))
      (pss_cons (ps_if (pt_cmpR op_eq (pv 1) pe_str (nomark _)) (pss_one (ps_ret (pe_lst (pa_cons (pe_callTy call_list_of (by rfl) T.list (by decide +kernel) (pa_cons (pe_ix (ix_tupK (K := K) rfl) (pv 0) pe_int (fun _ _ => rfl)) pa_nil)) (pa_cons (pe_lst (pa_cons (pe_ix (ix_tupK (K := K) rfl) (pv 0) pe_int (fun _ _ => rfl)) pa_nil)) pa_nil))))) (pss_nil))
      (pss_cons (ps_if (pt_cmpR op_eq (pv 1) pe_str (nomark _)) (pss_one (ps_ret (pe_lst (pa_cons (pe_lst (pa_cons (pe_ix (ix_tupK (K := K) rfl) (pv 0) pe_int (fun _ _ => rfl)) pa_nil)) (pa_cons (pe_lst (pa_cons (pe_ix (ix_tupK (K := K) rfl) (pv 0) pe_int (fun _ _ => rfl)) (pa_cons pe_str pa_nil))) pa_nil))))) (pss_nil))
      (pss_cons (ps_if (pt_cmpR (op_in_seqK (K := K) rfl) (pv 1) (pe_tup (pa_cons pe_str (pa_cons pe_str pa_nil))) rfl) (pss_one (ps_ret (pe_lst (pa_cons (pe_lst (pa_cons (pe_ix (ix_tupK (K := K) rfl) (pv 0) pe_int (fun _ _ => rfl)) pa_nil)) (pa_cons (pe_lst (pa_cons (pe_ix (ix_tupK (K := K) rfl) (pv 0) pe_int (fun _ _ => rfl)) pa_nil)) pa_nil))))) (pss_nil))
      (pss_cons (ps_if (pt_cmpR op_eq (pv 1) pe_str (nomark _)) (pss_one (ps_ret (pe_lst (pa_cons (pe_op op_cat (pe_lst (pa_cons (pe_ix (ix_tupK (K := K) rfl) (pv 0) pe_int (fun _ _ => rfl)) (pa_cons pe_str pa_nil))) (pe_callTy call_list_of (by rfl) T.list (by decide +kernel) (pa_cons (pe_ix (ix_tupK (K := K) rfl) (pv 0) pe_int (fun _ _ => rfl)) pa_nil))) (pa_cons (pe_lst (pa_cons (pe_ix (ix_tupK (K := K) rfl) (pv 0) pe_int (fun _ _ => rfl)) pa_nil)) pa_nil))))) (pss_nil))
      (pss_one (ps_ret (pe_lst (pa_cons (pe_ifExp (pt_cmpR op_eq (pv 1) pe_str (nomark _)) (pe_lst (pa_cons (pe_ix (ix_tupK (K := K) rfl) (pv 0) pe_int (fun _ _ => rfl)) (pa_cons (pe_ix (ix_tupK (K := K) rfl) (pv 0) pe_int (fun _ _ => rfl)) pa_nil))) (pe_lst (pa_cons (pe_ix (ix_tupK (K := K) rfl) (pv 0) pe_int (fun _ _ => rfl)) pa_nil))) (pa_cons (pe_lst (pa_cons pe_str pa_nil)) pa_nil)))))))))), ?_⟩
    cases dd with
    | cut col s news =>
      obtain ⟨t, rfl, et⟩ := da
      refine ⟨_, rfl, p, _, _, V.str "cut", rfl, rfl, SqT.of e, rfl, ?_⟩
      refine gN ?_
      try dsimp only
      refine ⟨_, rfl, rfl, _, rfl, iteYe rfl ?_⟩
      try unfold tRet
      try dsimp only
      refine ⟨_, rfl, p, _, _, V.str col, rfl, rfl, SqT.of (e), rfl, (show 1 ≤ sizeLine by decide), fun A nA => newO nA fun H1 s1 e1 => ?_⟩
      refine ⟨_, rfl, p, _, _, V.ref t, rfl, rfl, SqT.of (s1 _ _ e), rfl, t, news.map V.str, rfl, .inr (SqT.of (s1 _ _ et)), fun l nl => newO nl fun H2 s2 e2 => ?_⟩
      refine ⟨(show 1 ≤ sizeLine by decide), fun m nm => newO nm fun H3 s3 e3 => ?_⟩
      refine ⟨l, m, news.map V.str, _, rfl, rfl, s3 _ _ e2, e3, ?_, fun B nB => newO nB fun H4 s4 e4 => ?_⟩
      · rw [List.length_map, sizeLine_eq]
        have := dw.2.2.1
        exact Nat.le_trans (Nat.add_le_add_right this 1) (by decide)
      refine ⟨(show 2 ≤ sizeLine by decide), fun L nL => newO nL fun H5 s5 e5 => ?_⟩
      exact k L H5 (tow_mk [col] (news ++ [(Str.ofString "!")]) e5 (s5 _ _ (s4 _ _ (s3 _ _ (s2 _ _ e1)))) (by rw [List.map_append]; exact s5 _ _ e4) (Nat.le_of_ble_eq_true rfl) (by have := dw.2.2.1; rw [List.length_append]; exact Nat.le_trans (Nat.add_le_add_right this 1) (by decide))) ((((s1.trans s2).trans s3).trans s4).trans s5)
    | glue cols s new =>
      obtain ⟨t, rfl, et⟩ := da
      refine ⟨_, rfl, p, _, _, V.str "glue", rfl, rfl, SqT.of e, rfl, ?_⟩
      refine gN ?_
      try dsimp only
      refine ⟨_, rfl, rfl, _, rfl, iteNo (by decide +kernel) ?_⟩
      try unfold tNext
      try dsimp only
      refine ⟨_, rfl, rfl, _, rfl, iteYe rfl ?_⟩
      try unfold tRet
      try dsimp only
      refine ⟨_, rfl, p, _, _, V.ref t, rfl, rfl, SqT.of (e), rfl, t, cols.map V.str, rfl, .inr (SqT.of et), fun A nA => newO nA fun H1 s1 e1 => ?_⟩
      refine ⟨_, rfl, p, _, _, V.str new, rfl, rfl, SqT.of (s1 _ _ e), rfl, (show 1 ≤ sizeLine by decide), fun B nB => newO nB fun H2 s2 e2 => ?_⟩
      refine ⟨(show 2 ≤ sizeLine by decide), fun L nL => newO nL fun H3 s3 e3 => ?_⟩
      exact k L H3 (tow_mk cols [new] e3 (s3 _ _ (s2 _ _ e1)) (s3 _ _ e2) (Nat.le_trans dw.2.2.1 (by decide)) (Nat.le_of_ble_eq_true rfl)) ((s1.trans s2).trans s3)
    | read col fv new =>
      obtain ⟨t, rfl, et⟩ := da
      refine ⟨_, rfl, p, _, _, V.str "read", rfl, rfl, SqT.of e, rfl, ?_⟩
      refine gN ?_
      try dsimp only
      refine ⟨_, rfl, rfl, _, rfl, iteNo (by decide +kernel) ?_⟩
      try unfold tNext
      try dsimp only
      refine ⟨_, rfl, rfl, _, rfl, iteNo (by decide +kernel) ?_⟩
      try unfold tNext
      try dsimp only
      refine ⟨_, rfl, rfl, _, rfl, iteYe rfl ?_⟩
      try unfold tRet
      try dsimp only
      refine ⟨_, rfl, p, _, _, V.str col, rfl, rfl, SqT.of (e), rfl, (show 1 ≤ sizeLine by decide), fun A nA => newO nA fun H1 s1 e1 => ?_⟩
      refine ⟨_, rfl, p, _, _, V.str new, rfl, rfl, SqT.of (s1 _ _ e), rfl, (show 2 ≤ sizeLine by decide), fun B nB => newO nB fun H2 s2 e2 => ?_⟩
      refine ⟨(show 2 ≤ sizeLine by decide), fun L nL => newO nL fun H3 s3 e3 => ?_⟩
      exact k L H3 (tow_mk [col] [new, "!"] e3 (s3 _ _ (s2 _ _ e1)) (s3 _ _ e2) (Nat.le_of_ble_eq_true rfl) (Nat.le_of_ble_eq_true rfl)) ((s1.trans s2).trans s3)
    | spell col ps =>
      obtain ⟨t, rfl, et⟩ := da
      refine ⟨_, rfl, p, _, _, V.str "spell", rfl, rfl, SqT.of e, rfl, ?_⟩
      refine gN ?_
      try dsimp only
      refine ⟨_, rfl, rfl, _, rfl, iteNo (by decide +kernel) ?_⟩
      try unfold tNext
      try dsimp only
      refine ⟨_, rfl, rfl, _, rfl, iteNo (by decide +kernel) ?_⟩
      try unfold tNext
      try dsimp only
      refine ⟨_, rfl, rfl, _, rfl, iteNo (by decide +kernel) ?_⟩
      try unfold tNext
      try dsimp only
      refine ⟨_, rfl, (show 2 ≤ sizeLine by decide), fun u nu => newO nu fun H0 s0 e0 => ⟨u, _, rfl, .inr (SqT.of e0), rfl, rfl, _, rfl, iteB1 (by decide +kernel) ?_⟩⟩
      try unfold tRet
      try dsimp only
      replace e := s0 _ _ e
      refine ⟨_, rfl, p, _, _, V.str col, rfl, rfl, SqT.of (e), rfl, (show 1 ≤ sizeLine by decide), fun A nA => newO nA fun H1 s1 e1 => ?_⟩
      refine ⟨_, rfl, p, _, _, V.str col, rfl, rfl, SqT.of (s1 _ _ e), rfl, (show 1 ≤ sizeLine by decide), fun B nB => newO nB fun H2 s2 e2 => ?_⟩
      refine ⟨(show 2 ≤ sizeLine by decide), fun L nL => newO nL fun H3 s3 e3 => ?_⟩
      exact k L H3 (tow_mk [col] [col] e3 (s3 _ _ (s2 _ _ e1)) (s3 _ _ e2) (Nat.le_of_ble_eq_true rfl) (Nat.le_of_ble_eq_true rfl)) (((s0.trans s1).trans s2).trans s3)
    | put col v =>
      cases da
      refine ⟨_, rfl, p, _, _, V.str "put", rfl, rfl, SqT.of e, rfl, ?_⟩
      refine gN ?_
      try dsimp only
      refine ⟨_, rfl, rfl, _, rfl, iteNo (by decide +kernel) ?_⟩
      try unfold tNext
      try dsimp only
      refine ⟨_, rfl, rfl, _, rfl, iteNo (by decide +kernel) ?_⟩
      try unfold tNext
      try dsimp only
      refine ⟨_, rfl, rfl, _, rfl, iteNo (by decide +kernel) ?_⟩
      try unfold tNext
      try dsimp only
      refine ⟨_, rfl, (show 2 ≤ sizeLine by decide), fun u nu => newO nu fun H0 s0 e0 => ⟨u, _, rfl, .inr (SqT.of e0), rfl, rfl, _, rfl, iteB1 (by decide +kernel) ?_⟩⟩
      try unfold tRet
      try dsimp only
      replace e := s0 _ _ e
      refine ⟨_, rfl, p, _, _, V.str col, rfl, rfl, SqT.of (e), rfl, (show 1 ≤ sizeLine by decide), fun A nA => newO nA fun H1 s1 e1 => ?_⟩
      refine ⟨_, rfl, p, _, _, V.str col, rfl, rfl, SqT.of (s1 _ _ e), rfl, (show 1 ≤ sizeLine by decide), fun B nB => newO nB fun H2 s2 e2 => ?_⟩
      refine ⟨(show 2 ≤ sizeLine by decide), fun L nL => newO nL fun H3 s3 e3 => ?_⟩
      exact k L H3 (tow_mk [col] [col] e3 (s3 _ _ (s2 _ _ e1)) (s3 _ _ e2) (Nat.le_of_ble_eq_true rfl) (Nat.le_of_ble_eq_true rfl)) (((s0.trans s1).trans s2).trans s3)
    | fill col keys =>
      obtain ⟨t, rfl, et⟩ := da
      refine ⟨_, rfl, p, _, _, V.str "fill", rfl, rfl, SqT.of e, rfl, ?_⟩
      refine gN ?_
      try dsimp only
      refine ⟨_, rfl, rfl, _, rfl, iteNo (by decide +kernel) ?_⟩
      try unfold tNext
      try dsimp only
      refine ⟨_, rfl, rfl, _, rfl, iteNo (by decide +kernel) ?_⟩
      try unfold tNext
      try dsimp only
      refine ⟨_, rfl, rfl, _, rfl, iteNo (by decide +kernel) ?_⟩
      try unfold tNext
      try dsimp only
      refine ⟨_, rfl, (show 2 ≤ sizeLine by decide), fun u nu => newO nu fun H0 s0 e0 => ⟨u, _, rfl, .inr (SqT.of e0), rfl, rfl, _, rfl, iteB0 (by decide +kernel) ?_⟩⟩
      try dsimp only
      replace e := s0 _ _ e
      refine ⟨_, rfl, rfl, _, rfl, iteYe rfl ?_⟩
      try unfold tRet
      try dsimp only
      refine ⟨_, rfl, p, _, _, V.str col, rfl, rfl, SqT.of (e), rfl, (show 2 ≤ sizeLine by decide), fun A nA => newO nA fun H1 s1 e1 => ?_⟩
      refine ⟨_, rfl, p, _, _, V.ref t, rfl, rfl, SqT.of (s1 _ _ e), rfl, t, keys.map V.str, rfl, .inr (SqT.of (s1 _ _ (s0 _ _ et))), fun l nl => newO nl fun H2 s2 e2 => ?_⟩
      refine ⟨A, l, _, keys.map V.str, rfl, rfl, s2 _ _ e1, e2, ?_, fun B nB => newO nB fun H3 s3 e3 => ?_⟩
      · rw [List.length_map, sizeLine_eq]
        have := dw.2.1
        exact Nat.le_trans (Nat.add_le_add_left this 2) (by decide)
      refine ⟨_, rfl, p, _, _, V.str col, rfl, rfl, SqT.of (s3 _ _ (s2 _ _ (s1 _ _ e))), rfl, (show 1 ≤ sizeLine by decide), fun C nC => newO nC fun H4 s4 e4 => ?_⟩
      refine ⟨(show 2 ≤ sizeLine by decide), fun L nL => newO nL fun H5 s5 e5 => ?_⟩
      exact k L H5 (tow_mk (col :: "!" :: keys) [col] e5 (s5 _ _ (s4 _ _ e3)) (s5 _ _ e4) (by have := dw.2.1; exact Nat.le_trans (Nat.add_le_add_right this 2) (by decide)) (Nat.le_of_ble_eq_true rfl)) (((((s0.trans s1).trans s2).trans s3).trans s4).trans s5)
    | within col lo hi =>
      cases da
      refine ⟨_, rfl, p, _, _, V.str "within", rfl, rfl, SqT.of e, rfl, ?_⟩
      refine gN ?_
      try dsimp only
      refine ⟨_, rfl, rfl, _, rfl, iteNo (by decide +kernel) ?_⟩
      try unfold tNext
      try dsimp only
      refine ⟨_, rfl, rfl, _, rfl, iteNo (by decide +kernel) ?_⟩
      try unfold tNext
      try dsimp only
      refine ⟨_, rfl, rfl, _, rfl, iteNo (by decide +kernel) ?_⟩
      try unfold tNext
      try dsimp only
      refine ⟨_, rfl, (show 2 ≤ sizeLine by decide), fun u nu => newO nu fun H0 s0 e0 => ⟨u, _, rfl, .inr (SqT.of e0), rfl, rfl, _, rfl, iteB0 (by decide +kernel) ?_⟩⟩
      try dsimp only
      replace e := s0 _ _ e
      refine ⟨_, rfl, rfl, _, rfl, iteNo (by decide +kernel) ?_⟩
      try unfold tNext
      try dsimp only
      unfold tRet
      dsimp only
      refine ⟨_, rfl, rfl, _, rfl, iteNo (by decide +kernel) ?_⟩
      refine ⟨_, rfl, p, _, _, V.str col, rfl, rfl, SqT.of (e), rfl, (show 1 ≤ sizeLine by decide), fun A nA => newO nA fun H1 s1 e1 => ?_⟩
      refine ⟨(show 1 ≤ sizeLine by decide), fun B nB => newO nB fun H2 s2 e2 => ?_⟩
      refine ⟨(show 2 ≤ sizeLine by decide), fun L nL => newO nL fun H3 s3 e3 => ?_⟩
      exact k L H3 (tow_mk [col] ["!"] e3 (s3 _ _ (s2 _ _ e1)) (s3 _ _ e2) (Nat.le_of_ble_eq_true rfl) (Nat.le_of_ble_eq_true rfl)) (((s0.trans s1).trans s2).trans s3)
    | among col xs =>
      obtain ⟨t, rfl, et⟩ := da
      refine ⟨_, rfl, p, _, _, V.str "among", rfl, rfl, SqT.of e, rfl, ?_⟩
      refine gN ?_
      try dsimp only
      refine ⟨_, rfl, rfl, _, rfl, iteNo (by decide +kernel) ?_⟩
      try unfold tNext
      try dsimp only
      refine ⟨_, rfl, rfl, _, rfl, iteNo (by decide +kernel) ?_⟩
      try unfold tNext
      try dsimp only
      refine ⟨_, rfl, rfl, _, rfl, iteNo (by decide +kernel) ?_⟩
      try unfold tNext
      try dsimp only
      refine ⟨_, rfl, (show 2 ≤ sizeLine by decide), fun u nu => newO nu fun H0 s0 e0 => ⟨u, _, rfl, .inr (SqT.of e0), rfl, rfl, _, rfl, iteB0 (by decide +kernel) ?_⟩⟩
      try dsimp only
      replace e := s0 _ _ e
      refine ⟨_, rfl, rfl, _, rfl, iteNo (by decide +kernel) ?_⟩
      try unfold tNext
      try dsimp only
      unfold tRet
      dsimp only
      refine ⟨_, rfl, rfl, _, rfl, iteNo (by decide +kernel) ?_⟩
      refine ⟨_, rfl, p, _, _, V.str col, rfl, rfl, SqT.of (e), rfl, (show 1 ≤ sizeLine by decide), fun A nA => newO nA fun H1 s1 e1 => ?_⟩
      refine ⟨(show 1 ≤ sizeLine by decide), fun B nB => newO nB fun H2 s2 e2 => ?_⟩
      refine ⟨(show 2 ≤ sizeLine by decide), fun L nL => newO nL fun H3 s3 e3 => ?_⟩
      exact k L H3 (tow_mk [col] ["!"] e3 (s3 _ _ (s2 _ _ e1)) (s3 _ _ e2) (Nat.le_of_ble_eq_true rfl) (Nat.le_of_ble_eq_true rfl)) (((s0.trans s1).trans s2).trans s3)
    | before col c2 =>
      cases da
      refine ⟨_, rfl, p, _, _, V.str "before", rfl, rfl, SqT.of e, rfl, ?_⟩
      refine gN ?_
      try dsimp only
      refine ⟨_, rfl, rfl, _, rfl, iteNo (by decide +kernel) ?_⟩
      try unfold tNext
      try dsimp only
      refine ⟨_, rfl, rfl, _, rfl, iteNo (by decide +kernel) ?_⟩
      try unfold tNext
      try dsimp only
      refine ⟨_, rfl, rfl, _, rfl, iteNo (by decide +kernel) ?_⟩
      try unfold tNext
      try dsimp only
      refine ⟨_, rfl, (show 2 ≤ sizeLine by decide), fun u nu => newO nu fun H0 s0 e0 => ⟨u, _, rfl, .inr (SqT.of e0), rfl, rfl, _, rfl, iteB0 (by decide +kernel) ?_⟩⟩
      try dsimp only
      replace e := s0 _ _ e
      refine ⟨_, rfl, rfl, _, rfl, iteNo (by decide +kernel) ?_⟩
      try unfold tNext
      try dsimp only
      unfold tRet
      dsimp only
      refine ⟨_, rfl, rfl, _, rfl, iteYe rfl ?_⟩
      refine ⟨_, rfl, p, _, _, V.str col, rfl, rfl, SqT.of (e), rfl, _, rfl, p, _, _, V.str c2, rfl, rfl, SqT.of e, rfl, (show 2 ≤ sizeLine by decide), fun A nA => newO nA fun H1 s1 e1 => ?_⟩
      refine ⟨(show 1 ≤ sizeLine by decide), fun B nB => newO nB fun H2 s2 e2 => ?_⟩
      refine ⟨(show 2 ≤ sizeLine by decide), fun L nL => newO nL fun H3 s3 e3 => ?_⟩
      exact k L H3 (tow_mk [col, c2] ["!"] e3 (s3 _ _ (s2 _ _ e1)) (s3 _ _ e2) (Nat.le_of_ble_eq_true rfl) (Nat.le_of_ble_eq_true rfl)) (((s0.trans s1).trans s2).trans s3)
    | given col =>
      cases da
      refine ⟨_, rfl, p, _, _, V.str "given", rfl, rfl, SqT.of e, rfl, ?_⟩
      refine gN ?_
      try dsimp only
      refine ⟨_, rfl, rfl, _, rfl, iteNo (by decide +kernel) ?_⟩
      try unfold tNext
      try dsimp only
      refine ⟨_, rfl, rfl, _, rfl, iteNo (by decide +kernel) ?_⟩
      try unfold tNext
      try dsimp only
      refine ⟨_, rfl, rfl, _, rfl, iteNo (by decide +kernel) ?_⟩
      try unfold tNext
      try dsimp only
      refine ⟨_, rfl, (show 2 ≤ sizeLine by decide), fun u nu => newO nu fun H0 s0 e0 => ⟨u, _, rfl, .inr (SqT.of e0), rfl, rfl, _, rfl, iteB0 (by decide +kernel) ?_⟩⟩
      try dsimp only
      replace e := s0 _ _ e
      refine ⟨_, rfl, rfl, _, rfl, iteNo (by decide +kernel) ?_⟩
      try unfold tNext
      try dsimp only
      unfold tRet
      dsimp only
      refine ⟨_, rfl, rfl, _, rfl, iteNo (by decide +kernel) ?_⟩
      refine ⟨_, rfl, p, _, _, V.str col, rfl, rfl, SqT.of (e), rfl, (show 1 ≤ sizeLine by decide), fun A nA => newO nA fun H1 s1 e1 => ?_⟩
      refine ⟨(show 1 ≤ sizeLine by decide), fun B nB => newO nB fun H2 s2 e2 => ?_⟩
      refine ⟨(show 2 ≤ sizeLine by decide), fun L nL => newO nL fun H3 s3 e3 => ?_⟩
      exact k L H3 (tow_mk [col] ["!"] e3 (s3 _ _ (s2 _ _ e1)) (s3 _ _ e2) (Nat.le_of_ble_eq_true rfl) (Nat.le_of_ble_eq_true rfl)) (((s0.trans s1).trans s2).trans s3)
abbrev nTc : List Str := ["_law_plan_here", "_law_found", "_law_step", "_law_fresh", "_law_what"]
theorem scTc : FnScope nTc ["_law_plan_here"] (defScope sTc) := ⟨rfl, rfl, rfl, by decide +kernel, rfl, by decide +kernel, by decide +kernel⟩
/-- a plan on a heap, its steps one behind the other -/
structure PlanC (H : Hp) (a : Addr) (p : PlanD) (dds : List (Str × Dd)) (ad : PA) (kn : List (Str × Bool)) : Prop where
  pl : PlanAt H a p dds ad
  ok : p.ok 8 64
  ch : Chain (p.cols.map fun z => (z, true)) (dds.map (·.2)) kn
  l9 : kn.length ≤ 9
  fr : Fresh [] kn
theorem PlanC.same {H H' : Hp} {a : Addr} {p : PlanD} {dds : List (Str × Dd)} {ad : PA} {kn : List (Str × Bool)} (h : PlanC H a p dds ad kn) (s : Same H H') : PlanC H' a p dds ad kn := ⟨h.pl.keep (Tst.of s) fun b o u e => s _ _ e, h.ok, h.ch, h.l9, h.fr⟩
theorem PlanC.nd {H : Hp} {a : Addr} {p : PlanD} {dds : List (Str × Dd)} {ad : PA} {kn : List (Str × Bool)} (h : PlanC H a p dds ad kn) : (Str.ofString "!" :: kn.map (·.1)).Nodup := by
  have := h.fr
  unfold Fresh at this
  rwa [List.nil_append] at this
/-- the step at a place -/
theorem PlanC.at {H G : Hp} {a : Addr} {p : PlanD} {dds : List (Str × Dd)} {ad : PA} {kn kj : List (Str × Bool)} (h : PlanC H a p dds ad kn) (s : Same H G) {j : Nat} {x : V} (hx : (ad.ps.map V.ref)[j]? = some x) (hj : Chain (p.cols.map fun z => (z, true)) ((dds.map (·.2)).take j) kj) :
    ∃ (qa : Addr) (dn : Str × Dd) (kq : List (Str × Bool)), x = .ref qa ∧ (dds.map (·.2))[j]? = some dn.2 ∧ StAt G qa dn.1 dn.2 kq ∧ dn.2.wt kj ∧ dn.2.xt kj ∧ Chain (p.cols.map fun z => (z, true)) ((dds.map (·.2)).take (j + 1)) (kj ++ dn.2.adds) ∧ (Str.ofString "!" :: (kj ++ dn.2.adds).map (·.1)).Nodup ∧ (kj ++ dn.2.adds).length ≤ 9 := by
  rw [List.getElem?_map] at hx
  obtain ⟨qa, hq, rfl⟩ := Option.map_eq_some_iff.mp hx
  have hjl := (List.getElem?_eq_some_iff.mp hq).1
  obtain ⟨dn, hdn⟩ : ∃ dn, dds[j]? = some dn := ⟨_, List.getElem?_eq_getElem (by have := h.pl.dP.1; omega)⟩
  obtain ⟨kq, st, _⟩ := h.pl.dP.2 j qa dn hq hdn
  have hd : (dds.map (·.2))[j]? = some dn.2 := by rw [List.getElem?_map, hdn]; rfl
  obtain ⟨w1, w2, w3, r, hr⟩ := chain_at h.ch hd hj
  have nd := h.nd
  have l9 := h.l9
  rw [hr] at nd l9
  rw [List.map_append, ← List.cons_append] at nd
  rw [List.length_append] at l9
  exact ⟨qa, dn, kq, rfl, hd, st.keep (Tst.of s), w1, w2, w3, (List.nodup_append.mp nd).1, by omega⟩
def spTc (K : PySem.W.Frag) : Sp := fun vs H Q _ => ∃ (a : Addr) (p : PlanD) (dds : List (Str × Dd)) (ad : PA) (kn : List (Str × Bool)), vs = [.ref a] ∧ PlanC H a p dds ad kn ∧
  ∀ t H', Same H H' → H' t = some (.lst ((kn.map (·.1)).map V.str)) → Q (.ref t) H'
theorem fm_if {q : Str → Prop} [DecidablePred q] : ∀ ws : List Str, ws.filterMap (fun z => if q z then some (V.str z) else none) = (ws.filter fun z => decide (q z)).map V.str
  | [] => rfl
  | z :: ws => by
    have ih := fm_if (q := q) ws
    by_cases c : q z
    · simp [c, ih]
    · simp [c, ih]
theorem _root_.K86.PlanAt.sq {K : PySem.W.Frag} {H : Hp} {a : Addr} {p : PlanD} {dds : List (Str × Dd)} {ad : PA} (h : PlanAt H a p dds ad) : SqT K H ad.aS [.ref ad.s0] := .inl (.inr ⟨ad.o, h.eS⟩)
theorem in_strs (z : Str) : ∀ zs : List Str, inV (.str z) (zs.map V.str) = decide (z ∈ zs)
  | [] => by simp [inV]
  | y :: zs => by
    have ih := in_strs z zs
    show (eqV (.str y) (.str z) || inV (.str z) (zs.map V.str)) = _
    rw [ih, show eqV (.str y) (.str z) = decide (y = z) from rfl]
    by_cases h : y = z
    · simp [h]
    · simp [h, Ne.symm h]
theorem ok_told {f fTo : Addr} {fd dTo : FuncData} (F : Fun K "_law_told_columns" "_law_told_columns" sTc f fd) (T : Free mg) (W : TouchF K mg fTo dTo) : FnOk P w K mg base CX0 2 f fd ["_law_plan_here"] (spTc K) := by
  have GTo : FnOk P w K mg base CX0 1 fTo dTo ["_law_step"] spTw := ok_tou W.To T
  have FTo := W.To
  have bTo := W.bTo
  have gTo := W.gTo
  refine F.ok scTc (fun vs H Q E h => ?_) (fun cdv A outer s H vs Q E hr h => ?_)
  · obtain ⟨a, p, dds, ad, kn, rfl, _⟩ := h
    rfl
  · obtain ⟨a, p, dds, ad, kn, rfl, C, q⟩ := h
    have A0 := C.pl
    refine ⟨_, pss_cons (ps_set (i := 1) scTc.nd rfl (Or.inr rfl) (pe_callTy call_list_of (by rfl) T.list (by decide +kernel) (pa_cons (pe_ix (ix_tupK (K := K) rfl) (pe_ix (ix_tupK (K := K) rfl) (pe_ix (ix_tupK (K := K) rfl) (pe_ix (ix_tupK (K := K) rfl) (pv 0) pe_int (fun _ _ => rfl)) pe_int (fun _ _ => rfl)) pe_int (fun _ _ => rfl)) (pe_un un_neg pe_int) (fun _ _ => rfl)) pa_nil)))
      (pss_cons (ps_for PassesOwn.never rfl (pi_tup (pe_ix (ix_tupK (K := K) rfl) (pe_ix (ix_tupK (K := K) rfl) (pe_ix (ix_tupK (K := K) rfl) (pv 0) pe_int (fun _ _ => rfl)) pe_int (fun _ _ => rfl)) pe_int (fun _ _ => rfl))) (pg_name (i := 2) scTc.nd rfl (Or.inl rfl)) (pss_cons (ps_setLc (i := 3) (own := [("_law_what", 4)]) (g := gName 4) (tt := (tTest (tOp rNe (tVar 4) (tC (.str "!"))))) rfl scTc.nd rfl rfl (sw_true rfl rfl rfl rfl) (pi_list (pe_ix (ix_listK (K := K) rfl) (pe_call GTo (hr.mono (by decide)) (by rfl) gTo FTo.kp bTo .nil pass0 (pa_cons (pv 2) pa_nil)) pe_int (fun _ _ => rfl))) (blkOk_by (own := [("_law_what", 4)]) (N := nTc) (sc := defScope sTc) (by decide +kernel)) (fun _ _ _ _ _ => (pg_name (i := 4) scTc.nd rfl (Or.inl rfl))) (fun _ _ _ _ _ => pts_one (pt_cmpR op_ne (pv 4) pe_str (nomark _))) (fun _ _ _ _ _ => (pv 4)))
      (pss_one (ps_expr (pe_bmK (K := K) rfl PySem.F.plainAttrs_list PySem.F.slot_list_extend PySem.F.type_list_extend mt_extend (pv 1) (pa_cons (pe_lc (own := [("_law_what", 4)]) (g := gName 4) (tt := (tTest (tOp (rIn K true) (tVar 4) (tVar 1)))) rfl scTc.nd (pi_list (pv 3)) (blkOk_by (own := [("_law_what", 4)]) (N := nTc) (sc := defScope sTc) (by decide +kernel)) (fun _ _ _ _ _ => (pg_name (i := 4) scTc.nd rfl (Or.inl rfl))) (fun _ _ _ _ _ => pts_one (pt_cmpR (op_notIn_seqK (K := K) rfl) (pv 4) (pv 1) rfl)) (fun _ _ _ _ _ => (pv 4))) pa_nil))))))
      (pss_one (ps_ret (pv 1)))), ?_⟩
    refine ⟨_, rfl, a, _, _, .ref ad.aS, rfl, rfl, SqT.of A0.e0, atI_nat (j := 0) rfl, ad.aS, _, _, .ref ad.s0, rfl, rfl, A0.sq, atI_nat (j := 0) rfl, ad.s0, _, _, .ref ad.sh, rfl, rfl, SqT.of A0.e1, atI_nat (j := 1) rfl, ?_⟩
    refine ⟨1, rfl, ad.sh, _, -1, .ref ad.cA, rfl, rfl, SqT.of A0.eh, atI_last _ _, ad.cA, _, rfl, .inr (SqT.of A0.eC), fun l nl => newO nl fun H1 s1 e1 => ?_⟩
    refine gN ?_
    dsimp only
    have C1 := C.same s1
    have A1 := C1.pl
    refine ⟨_, rfl, a, _, _, .ref ad.aT, rfl, rfl, SqT.of A1.e0, atI_nat (j := 1) rfl, ad.aT, _, _, .ref ad.aI, rfl, rfl, SqT.of A1.eT, atI_nat (j := 0) rfl, ad.aI, _, _, .ref ad.aP, rfl, rfl, SqT.of A1.eI, atI_nat (j := 2) rfl, ad.aP, rfl, ⟨_, SqT.of A1.eP⟩, ?_⟩
    refine for_it (walk_tup (K := K) (a := ad.aP) (xs := ad.ps.map V.ref)) (fun j σ G => Same H G ∧ (∃ kj, Chain (p.cols.map fun z => (z, true)) ((dds.map (·.2)).take j) kj ∧ G l = some (.lst ((kj.map (·.1)).map V.str))) ∧ ∃ u2 u3 u4, σ = [some (.ref a), some (.ref l), u2, u3, u4])
      ⟨s1, ⟨_, rfl, by rw [e1, List.map_map, List.map_map]; rfl⟩, _, _, _, rfl⟩ (fun j σ G _ pv => SqT.of (pv.1 _ _ A0.eP)) ?_ ?_
    · rintro j x σ G G' hj ⟨sG, ⟨kj, hc, eL⟩, u2, u3, u4, rfl⟩ ⟨rfl, hx⟩
      obtain ⟨qa, dn, kq, rfl, hd, st, w1, w2, w3, ndb, l9⟩ := C.at sG hx hc
      have lk : kj.length ≤ 9 := by rw [List.length_append] at l9; omega
      have fw := fresh_wrs w1 ndb
      have lw : (wrs dn.2).length ≤ 100 := by
        have := w1
        cases hdd : dn.2 with
        | cut col s news =>
          rw [hdd] at w1
          have := w1.2.2.1
          show (news ++ [_]).length ≤ 100
          rw [List.length_append]
          exact Nat.le_trans (Nat.add_le_add_right this 1) (by decide)
        | _ => exact Nat.le_of_ble_eq_true rfl
      obtain ⟨ws, hws⟩ : ∃ ws, ws = wrs dn.2 := ⟨_, rfl⟩
      refine gN ?_
      dsimp only
      refine ⟨_, rfl, qa, dn.1, dn.2, kq, rfl, st, fun L H' tw s' => ?_⟩
      obtain ⟨A, B, xs, eL2, eA, eB⟩ := tw
      rw [← hws] at eB fw lw
      refine ⟨L, _, _, .ref B, rfl, rfl, SqL.of eL2, atI_nat (j := 1) rfl, B, rfl, ⟨_, SqL.of eB⟩, fun D nD => ?_⟩
      refine lc_fm (walk_list (K := K) (a := B) (xs := ws.map V.str)) ws (fun z => if z ≠ Str.ofString "!" then some (V.str z) else none) (by simp) nD (fun G sG => SqL.of (sG _ _ eB)) (by simp; omega) ?_ ?_
      · rintro j z x G G' R N hk sG ⟨rfl, hx⟩ keep drop
        rw [List.getElem?_map, hk] at hx
        cases hx
        refine gN ⟨rfl, ?_⟩
        refine ⟨_, rfl, rfl, _, rfl, ?_⟩
        rw [str_dec]
        by_cases c : z = Str.ofString "!"
        · rw [decide_eq_true c]
          exact drop (by rw [if_neg (fun h => h c)]) _ (Same.refl _)
        · rw [decide_eq_false c]
          exact ⟨_, rfl, keep _ (if_pos c) _ (Same.refl _)⟩
      · intro G2 s2 e2
        have ef : ws.filterMap (fun z => if z ≠ Str.ofString "!" then some (V.str z) else none) = (ws.filter fun z => decide (z ≠ Str.ofString "!")).map V.str := fm_if ws
        rw [ef] at e2
        refine gN ?_
        dsimp only
        have sGD := (sG.trans s').trans s2
        have eL3 := s2 _ _ (s' _ _ eL)
        refine ⟨_, rfl, .inl ⟨rfl, _, SqL.of eL3⟩, _, rfl, D, rfl, ⟨_, SqL.of e2⟩, fun D2 n2 => ?_⟩
        refine lc_fm (walk_list (K := K) (a := D) (xs := (ws.filter fun z => decide (z ≠ Str.ofString "!")).map V.str)) (ws.filter fun z => decide (z ≠ Str.ofString "!")) (fun z => if z ∉ kj.map (·.1) then some (V.str z) else none) (by simp) n2 (fun G sG => SqL.of (sG _ _ e2)) (by rw [List.length_map]; have := List.length_filter_le (fun z => decide (z ≠ Str.ofString "!")) ws; omega) ?_ ?_
        · rintro j z x G G' R N hk sG3 ⟨rfl, hx⟩ keep drop
          rw [List.getElem?_map, hk] at hx
          cases hx
          refine gN ⟨rfl, ?_⟩
          refine ⟨_, rfl, _, rfl, l, _, rfl, .inl (SqL.of (sG3 _ _ eL3)), rfl, by simp [List.all_eq_true, flatV], ?_⟩
          have ei : (if true = true then !inV (.str z) ((kj.map (·.1)).map V.str) else inV (.str z) ((kj.map (·.1)).map V.str)) = !decide (z ∈ kj.map (·.1)) := by
            rw [if_pos rfl, in_strs]
          rw [ei]
          by_cases c : z ∈ kj.map (·.1)
          · rw [decide_eq_true c]
            exact ⟨_, rfl, drop (if_neg fun h => h c) _ (Same.refl _)⟩
          · rw [decide_eq_false c]
            exact ⟨_, rfl, _, rfl, keep _ (if_pos c) _ (Same.refl _)⟩
        · intro G3 s3 e3
          have ef3 : (ws.filter fun z => decide (z ≠ Str.ofString "!")).filterMap (fun z => if z ∉ kj.map (·.1) then some (V.str z) else none) = _ := fm_if _
          rw [ef3, fw] at e3
          have eL4 := s3 _ _ eL3
          refine ⟨l, D2, _, _, rfl, rfl, eL4, e3, by rw [List.length_map, List.length_map, List.length_map, List.length_map, sizeLine_eq]; rw [List.length_append] at l9; omega, ?_⟩
          exact ⟨stay_old (sGD.trans s3) nl, ⟨_, w3, by rw [upd_same, List.map_append, List.map_append]⟩, _, _, _, rfl⟩
    · rintro σ G ⟨sG, ⟨kj, hc, eL⟩, u2, u3, u4, rfl⟩
      rw [List.take_of_length_le (by rw [List.length_map, List.length_map, A0.dP.1]; exact Nat.le_refl _)] at hc
      cases chain_one hc C.ch
      exact ⟨_, rfl, q l G sG eL⟩
end
end K87
set_option Elab.async false
set_option linter.all false
set_option pp.maxSteps 4000
set_option maxRecDepth 100000
set_option maxHeartbeats 4000000
/-! k87: what the law makes of a row -/
namespace K87
open PySem PySem.Spec PyProof.Rows L2 Bs Xg TL Xm Xs Gn Gd Xu Xw Xk K86 K02
open K21 (tk os ov u1 Deed rowV txt fresh_same doneP)
abbrev sLO : Stmt := K21.top 52
structure DidF (K : PySem.W.Frag) (mg : Str → Option Value) (fDid fCt fLNu fLF fLDy fTc : Addr) (dDid dCt dLNu dLF dLDy dTc : FuncData) : Prop where
  Did : Fun K "_law_did" "_law_did" sDid fDid dDid
  bDid : Binds K dDid ["_law_step", "_law_here"] []
  gDid : mg "_law_did" = some (.ref fDid)
  Ct : Fun K "_law_cut" "_law_cut" sCt fCt dCt
  bCt : Binds K dCt ["_law_step", "_law_mine"] []
  gCt : mg "_law_cut" = some (.ref fCt)
  LNu : Fun K "_law_number" "_law_number" sLNu fLNu dLNu
  bLNu : Binds K dLNu ["_law_form_here", "_law_word"] []
  gLNu : mg "_law_number" = some (.ref fLNu)
  LF : Fun K "_law_figures" "_law_figures" sLF fLF dLF
  bLF : Binds K dLF ["_law_word"] []
  gLF : mg "_law_figures" = some (.ref fLF)
  LDy : Fun K "_law_day" "_law_day" sLDy fLDy dLDy
  bLDy : Binds K dLDy ["_law_order", "_law_word"] []
  gLDy : mg "_law_day" = some (.ref fLDy)
  Tc : Fun K "_law_told_columns" "_law_told_columns" sTc fTc dTc
  bTc : Binds K dTc ["_law_plan_here"] []
  gTc : mg "_law_told_columns" = some (.ref fTc)
theorem fills_len : ∀ ds : List Dd, (fillsOf ds).length ≤ ds.length
  | [] => Nat.le_refl _
  | d :: ds => by
    have ih := fills_len ds
    cases d <;> simp only [fillsOf, List.length_cons] <;> omega
theorem mergeK_app : ∀ {ps acc : List (Key × V)}, (ps.map (·.1)).Nodup → (∀ p ∈ ps, valV acc p.1 = none) → mergeK acc ps = acc ++ ps
  | [], acc, _, _ => by simp [mergeK]
  | p :: ps, acc, nd, h => by
    rw [List.map_cons, List.nodup_cons] at nd
    show mergeK (putK acc p.1 p.2) ps = _
    rw [putK_new _ (h p List.mem_cons_self), mergeK_app nd.2, List.append_assoc]
    · rfl
    · intro q hq
      rw [valV_snoc _ _ _ _ (h p List.mem_cons_self), if_neg (fun e => nd.1 (List.mem_map.mpr ⟨q, hq, e⟩))]
      exact h q (List.mem_cons_of_mem _ hq)
def spLO (K : PySem.W.Frag) : Sp := fun vs H Q _ => ∃ (a hs wt : Addr) (p : PlanD) (dds : List (Str × Dd)) (ad : PA) (kn : List (Str × Bool)) (held cells : List V), vs = [.ref a, .ref hs, .ref wt] ∧ OnArg K H a hs wt p dds ad kn held cells ∧ dds.length ≤ 8 ∧
  ∀ t H', Same H H' → OnRes H' t (wayOf p dds held cells) → Q (.ref t) H'
theorem row_snd {L : Nat} {kn : List (Str × Bool)} {row : List (Key × V)} (h : RowAt L kn row) (nd : (kn.map (·.1)).Nodup) : kn.map (fun c => rowV row c.1) = row.map (·.2) := by
  have gen : ∀ {kn : List (Str × Bool)} {row2 : List (Key × V)}, RowAt L kn row2 → (∀ (i : Nat) (c : Str × Bool) (kv : Key × V), kn[i]? = some c → row2[i]? = some kv → rowV row c.1 = kv.2) → kn.map (fun c => rowV row c.1) = row2.map (·.2) := by
    intro kn
    induction kn with
    | nil =>
      intro row2 h _
      cases row2 with
      | nil => rfl
      | cons _ _ => exact h.elim
    | cons c kn ih =>
      intro row2 h g
      cases row2 with
      | nil => exact h.elim
      | cons kv row2 =>
        rw [List.map_cons, List.map_cons, g 0 c kv rfl rfl, ih h.2.2 fun i c kv h1 h2 => g (i + 1) c kv h1 h2]
  refine gen h fun i c kv h1 h2 => ?_
  have gen2 : ∀ {kn : List (Str × Bool)} {row : List (Key × V)} {i : Nat} {c : Str × Bool} {kv : Key × V}, RowAt L kn row → (kn.map (·.1)).Nodup → kn[i]? = some c → row[i]? = some kv → valV row (tk c.1) = some kv.2 := by
    intro kn
    induction kn with
    | nil => intro row i c kv _ _ h1; simp at h1
    | cons c0 kn ih =>
      intro row i c kv h nd h1 h2
      cases row with
      | nil => exact h.elim
      | cons kv0 row =>
        rw [List.map_cons, List.nodup_cons] at nd
        cases i with
        | zero =>
          cases h1
          cases h2
          exact valV_pos h.1
        | succ i =>
          have m : c ∈ kn := List.mem_of_getElem? (by simpa using h1)
          have ne : c0.1 ≠ c.1 := fun e => nd.1 (List.mem_map.mpr ⟨c, m, e.symm⟩)
          rw [valV_neg (show ¬ kv0.1 = tk c.1 from fun e => ne (ck_inj.mp (h.1.symm.trans e)))]
          exact ih h.2.2 nd.2 (by simpa using h1) (by simpa using h2)
  unfold rowV
  rw [gen2 h nd h1 h2]
  rfl
section
variable {P : Program} {w : World} {K : PySem.W.Frag} {mg : Str → Option Value} {base : Heap} {fTo fDid fCt fLNu fLF fLDy fTc : Addr} {dTo dDid dCt dLNu dLF dLDy dTc : FuncData}
abbrev nLO : List Str := ["_law_plan_here", "_law_held_here", "_law_cells_here", "_law_here", "_law_stands", "_law_behind", "_law_step", "_law_kept", "_law_mine", "_law_pairs", "_law_is_marked", "_law_row", "_law_column"]
theorem scLO : FnScope nLO ["_law_plan_here", "_law_held_here", "_law_cells_here"] (defScope sLO) := ⟨rfl, rfl, rfl, by decide +kernel, rfl, by decide +kernel, by decide +kernel⟩
theorem ok_lonward {f : Addr} {fd : FuncData} (F : Fun K "_law_onward" "_law_onward" sLO f fd) (T : Free mg) (U : TouchF K mg fTo dTo) (W : DidF K mg fDid fCt fLNu fLF fLDy fTc dDid dCt dLNu dLF dLDy dTc) : FnOk P w K mg base CX0 5 f fd ["_law_plan_here", "_law_held_here", "_law_cells_here"] (spLO K) := by
  have GDid : FnOk P w K mg base CX0 4 fDid dDid ["_law_step", "_law_here"] (spDid K) := ok_ldid W.Did T W.Ct W.bCt W.gCt W.LNu W.bLNu W.gLNu W.LF W.bLF W.gLF W.LDy W.bLDy W.gLDy
  have GTc : FnOk P w K mg base CX0 2 fTc dTc ["_law_plan_here"] (spTc K) := ok_told W.Tc T U
  have FDid := W.Did
  have bDid := W.bDid
  have gDid := W.gDid
  have FTc := W.Tc
  have bTc := W.bTc
  have gTc := W.gTc
  refine F.ok scLO (fun vs H Q E h => ?_) (fun cdv A outer s H vs Q E hr h => ?_)
  · obtain ⟨a, hs, wt, p, dds, ad, kn, held, cells, rfl, _⟩ := h
    rfl
  · obtain ⟨a, hs, wt, p, dds, ad, kn, held, cells, rfl, O, d8, q⟩ := h
    have A0 := O.pl
    have C : PlanC H a p dds ad kn := ⟨O.pl, O.ok, O.ch, O.l9, O.fr⟩
    have hrow0 : RowAt 12 (p.cols.map fun z => (z, true)) (rowOf p.cols cells) := row_of O.cl O.cg
    have ndk : (kn.map (·.1)).Nodup := (List.nodup_cons.mp C.nd).2
    obtain ⟨rr, hrr⟩ := chain_grow O.ch
    have nd0 : ((p.cols.map fun z => (z, true)).map (·.1)).Nodup := by
      rw [hrr, List.map_append] at ndk
      exact (List.nodup_append.mp ndk).1
    refine ⟨_, pss_cons (ps_asg (pe_tup (pa_cons (pe_callTy (call_dictP rfl) (by rfl) T.dict (by decide +kernel) (pa_cons (pe_listZip rfl rfl T.list rfl T.zip (pa_cons (pe_ix (ix_tupK (K := K) rfl) (pe_ix (ix_tupK (K := K) rfl) (pe_ix (ix_tupK (K := K) rfl) (pe_ix (ix_tupK (K := K) rfl) (pv 0) pe_int (fun _ _ => rfl)) pe_int (fun _ _ => rfl)) pe_int (fun _ _ => rfl)) (pe_un un_neg pe_int) (fun _ _ => rfl)) (pa_cons (pv 2) pa_nil))) pa_nil)) (pa_cons pe_bl (pa_cons (pe_lst pa_nil) pa_nil)))) (pg_tup rfl (pgs_cons (pg_name (i := 3) scLO.nd rfl (Or.inr rfl)) (pgs_cons (pg_name (i := 4) scLO.nd rfl (Or.inl rfl)) (pgs_cons (pg_name (i := 5) scLO.nd rfl (Or.inl rfl)) pgs_nil)))))
      (pss_cons (ps_for PassesOwn.never rfl (pi_tup (pe_ix (ix_tupK (K := K) rfl) (pe_ix (ix_tupK (K := K) rfl) (pe_ix (ix_tupK (K := K) rfl) (pv 0) pe_int (fun _ _ => rfl)) pe_int (fun _ _ => rfl)) pe_int (fun _ _ => rfl))) (pg_name (i := 6) scLO.nd rfl (Or.inl rfl)) (pss_one (ps_if (pt_cmpR op_eq (pe_ix (ix_tupK (K := K) rfl) (pv 6) pe_int (fun _ _ => rfl)) pe_str (nomark _)) (pss_cons (ps_par (i := 7) (j := 8) rfl scLO.nd rfl rfl (by decide) rfl rfl (pa_cons (pe_ix (ix_tupK (K := K) rfl) (pv 1) (pe_callB (call_len_seqK (K := K) rfl) (by rfl) T.len PySem.boot_len (pa_cons (pv 5) pa_nil)) (fun _ _ => rfl)) (pa_cons (pe_dget (u1 hr.units) (pv 3) (pe_ix (ix_tupK (K := K) rfl) (pv 6) pe_int (fun _ _ => rfl)) (fun _ _ => rfl)) pa_nil)) (by rfl))
      (pss_cons (ps_expr (pe_bmK (K := K) rfl PySem.F.plainAttrs_list PySem.F.slot_list_append PySem.F.type_list_append mt_append (pv 5) (pa_cons (pe_ifExp (PW.pt (pw_and (pt_val (pv 4)) (pw_and1 (pt_cmpR op_notN (pv 8) pe_non (nomark _))))) (pv 8) (pv 7)) pa_nil)))
      (pss_one (ps_if (pt_cmpR op_isN (pv 8) pe_non (nomark _)) (pss_one (ps_dput (u1 hr.units) (pv 3) (pe_ix (ix_tupK (K := K) rfl) (pv 6) pe_int (fun _ _ => rfl)) (pv 7) rfl)) (pss_nil))))) (pss_cons (ps_asg (pe_call GDid (hr.mono (by decide)) (by rfl) gDid FDid.kp bDid .nil pass0 (pa_cons (pv 6) (pa_cons (pv 3) pa_nil))) (pg_tup rfl (pgs_cons (pg_name (i := 9) scLO.nd rfl (Or.inl rfl)) (pgs_cons (pg_name (i := 10) scLO.nd rfl (Or.inl rfl)) pgs_nil))))
      (pss_cons (ps_expr (pe_bmK (K := K) rfl PySem.F.plainAttrs_dict PySem.F.slot_dict_update PySem.F.type_dict_update mt_updK (pv 3) (pa_cons (pe_callTy (call_dictP rfl) (by rfl) T.dict (by decide +kernel) (pa_cons (pv 9) pa_nil)) pa_nil)))
      (pss_one (ps_set (i := 4) scLO.nd rfl (Or.inl rfl) (pe_and (pv 4) (pe_one (pe_not (pv 10)))))))))))
      (pss_cons (ps_set (i := 11) scLO.nd rfl (Or.inl rfl) (pe_callTy call_tuple_of (by rfl) T.tuple (by decide +kernel) (pa_cons (pe_lc (own := [("_law_column", 12)]) (g := gName 12) (tt := tYes) rfl scLO.nd (pi_list (pe_call GTc (hr.mono (by decide)) (by rfl) gTc FTc.kp bTc .nil pass0 (pa_cons (pv 0) pa_nil))) (blkOk_by (own := [("_law_column", 12)]) (N := nLO) (sc := defScope sLO) (by decide +kernel)) (fun _ _ _ _ _ => (pg_name (i := 12) scLO.nd rfl (Or.inl rfl))) (fun _ _ _ _ _ => pts_nil) (fun _ _ _ _ _ => (pe_dget (u1 hr.units) (pv 3) (pv 12) (fun _ _ => rfl)))) pa_nil)))
      (pss_one (ps_ret (pe_tup (pa_cons (pe_tup (pa_cons (pv 11) (pa_cons (pv 4) pa_nil))) (pa_cons (pe_callTy call_tuple_of (by rfl) T.tuple (by decide +kernel) (pa_cons (pv 5) pa_nil)) pa_nil))))))), ?_⟩
    refine ⟨_, rfl, a, _, _, .ref ad.aS, rfl, rfl, SqT.of A0.e0, atI_nat (j := 0) rfl, ad.aS, _, _, .ref ad.s0, rfl, rfl, A0.sq, atI_nat (j := 0) rfl, ad.s0, _, _, .ref ad.sh, rfl, rfl, SqT.of A0.e1, atI_nat (j := 1) rfl, ?_⟩
    refine ⟨1, rfl, ad.sh, _, -1, .ref ad.cA, rfl, rfl, SqT.of A0.eh, atI_last _ _, _, rfl, .ref ad.cA, .ref wt, p.cols.map V.str, cells, rfl, .inl ⟨ad.cA, rfl, .inl (SqT.of A0.eC)⟩, .inl ⟨wt, rfl, .inl O.ec⟩, fun l Ts G1 s1 nl el zt => ?_⟩
    refine ⟨l, Ts, _, rfl, SqL.of el, zip_paired (ks := p.cols.map tk) (by rw [List.map_map]; rfl) zt, fun R nR => newO nR fun G2 s2 e2 => ?_⟩
    replace e2 : G2 R = some (.dK (rowOf p.cols cells)) := e2.trans (congrArg (fun z => some (HO.dK z)) (merge_nil hrow0 nd0))
    refine ⟨(show 0 ≤ sizeLine by decide), fun B nB => newO nB fun G3 s3 e3 => ⟨(show 3 ≤ sizeLine by decide), fun t nt => newO nt fun G4 s4 e4 => ?_⟩⟩
    refine ⟨t, _, rfl, SqT.of e4, rfl, _, _, rfl, gN ⟨_, _, rfl, gN ⟨_, _, rfl, gN ⟨rfl, ?_⟩⟩⟩⟩
    dsimp only
    have s04 := ((s1.trans s2).trans s3).trans s4
    have RB : R ≠ B := fun z => by rw [← z, e2] at nB; cases nB
    have HR : H R = none := fresh_same s1 nR
    have HB : H B = none := fresh_same (s1.trans s2) nB
    have eR0 := s4 _ _ (s3 _ _ e2)
    have eB0 := s4 _ _ e3
    have A1 := (C.same s04).pl
    refine ⟨_, rfl, a, _, _, .ref ad.aT, rfl, rfl, SqT.of A1.e0, atI_nat (j := 1) rfl, ad.aT, _, _, .ref ad.aI, rfl, rfl, SqT.of A1.eT, atI_nat (j := 0) rfl, ad.aI, _, _, .ref ad.aP, rfl, rfl, SqT.of A1.eI, atI_nat (j := 2) rfl, ad.aP, rfl, ⟨_, SqT.of A1.eP⟩, ?_⟩
    refine for_it (walk_tup (K := K) (a := ad.aP) (xs := ad.ps.map V.ref)) (fun j σ G => Same H G ∧ (∃ kj, WOk (p.cols.map fun z => (z, true)) kn (dds.map (·.2)) held j kj (goW held ((dds.map (·.2)).take j) (start p cells))) ∧ G R = some (.dK (goW held ((dds.map (·.2)).take j) (start p cells)).row) ∧
      G B = some (.lst (goW held ((dds.map (·.2)).take j) (start p cells)).bh) ∧
      ∃ u1 u2 u3 u4 u5 u6 u7, σ = [some (.ref a), some (.ref hs), some (.ref wt), some (.ref R), some (.bl (goW held ((dds.map (·.2)).take j) (start p cells)).st), some (.ref B), u1, u2, u3, u4, u5, u6, u7])
      ⟨s04, ⟨_, ⟨rfl, hrow0.up (LB_ge _), nd0, by rw [List.length_map]; exact O.ok.c1, rfl, fun v hv => nomatch hv⟩⟩, eR0, eB0, _, _, _, _, _, _, _, rfl⟩ (fun j σ G _ pv => SqT.of (pv.1 _ _ A0.eP)) ?_ ?_
    · rintro j x σ G G' hj ⟨sG, ⟨kj, wk⟩, eR, eG, u1', u2, u3, u4, u5, u6, u7, rfl⟩ ⟨rfl, hx⟩
      rw [List.getElem?_map] at hx
      obtain ⟨qa, hq, rfl⟩ := Option.map_eq_some_iff.mp hx
      have hjl := (List.getElem?_eq_some_iff.mp hq).1
      obtain ⟨dn, hdn⟩ : ∃ dn, dds[j]? = some dn := ⟨_, List.getElem?_eq_getElem (by have := A0.dP.1; omega)⟩
      obtain ⟨kn', ⟨vs, eq0, da, _⟩, _⟩ := A0.dP.2 j qa dn hq hdn
      have hd : (dds.map (·.2))[j]? = some dn.2 := by rw [List.getElem?_map, hdn]; rfl
      have tk1 : (dds.map (·.2)).take (j + 1) = (dds.map (·.2)).take j ++ [dn.2] := by rw [List.take_succ, hd]; rfl
      have wk' := wk.step O.ch ndk O.ho hd
      have stp : goW held ((dds.map (·.2)).take (j + 1)) (start p cells) = stepW held dn.2 (goW held ((dds.map (·.2)).take j) (start p cells)) := by rw [tk1, goW_snoc]
      obtain ⟨ww, wx, _, _⟩ := chain_at O.ch hd wk.ch
      generalize goW held ((dds.map (·.2)).take j) (start p cells) = W at wk wk' eR eG stp
      rw [stp]
      generalize dn.2 = d at da hd wk' stp ww wx tk1
      obtain ⟨rs, rfl⟩ := at_word da
      have eq1 := sG _ _ eq0
      refine gN ?_
      dsimp only
      refine ⟨_, rfl, qa, _, _, .str (wordOf d), rfl, rfl, SqT.of eq1, atI_nat (j := 1) rfl, rfl, _, rfl, ?_⟩
      rw [str_dec, word_fill]
      cases hf : isFill d with
      | true =>
        refine iteT ?_
        cases d with
        | fill col keys =>
          obtain ⟨t, hvs, ht⟩ := da
          cases hvs
          obtain ⟨⟨b, m⟩, _, _⟩ := ww
          obtain ⟨ev, cv⟩ := wk.row.cell wk.nd m
          have dg : DGet G' R (.str col) (some (rowV W.row col)) := ev ▸ DGet.k (k := tk col) eR
          have fi : (fillsOf (dds.map (·.2)))[W.bh.length]? = some col := by
            have sp : dds.map (·.2) = (dds.map (·.2)).take (j + 1) ++ (dds.map (·.2)).drop (j + 1) := (List.take_append_drop _ _).symm
            rw [sp, tk1, fills_app, fills_app, wk.bl, List.append_assoc, List.getElem?_append_right (Nat.le_refl _), Nat.sub_self]
            rfl
          have hl : W.bh.length < held.length := by
            rw [O.ho.1]
            exact (List.getElem?_eq_some_iff.mp fi).1
          have ix : held[W.bh.length]? = some (held.getD W.bh.length .non) := by rw [List.getD_eq_getElem?_getD, List.getElem?_eq_getElem hl]; rfl
          have lrow : W.row.length < sizeLine := by
            rw [wk.row.len, sizeLine_eq]
            have := congrArg List.length (show kn = _ from Classical.choose_spec (chain_at O.ch hd wk.ch).2.2.2)
            rw [List.length_append, List.length_append] at this
            have := O.l9
            omega
          refine ⟨_, rfl, _, rfl, B, _, rfl, .inl (SqL.of eG), hs, _, _, held.getD W.bh.length .non, rfl, rfl, sameT sG O.eh, atI_nat ix, ?_⟩
          refine ⟨_, rfl, _, rfl, qa, _, _, .str col, rfl, rfl, SqT.of eq1, atI_nat (j := 2) rfl, R, _, rfl, dg, ?_⟩
          have eW : stepW held (.fill col keys) W = ⟨if rowV W.row col = .non then putK W.row (tk col) (held.getD W.bh.length .non) else W.row, W.bh ++ [if W.st = true ∧ rowV W.row col ≠ .non then rowV W.row col else held.getD W.bh.length .non], W.st⟩ := rfl
          rw [eW]
          rw [eW] at wk'
          generalize held.getD W.bh.length .non = kv at wk' ix eW ⊢
          have lbh : W.bh.length + 1 ≤ sizeLine := by
            have h1 := fills_len ((dds.map (·.2)).take j)
            rw [← wk.bl, List.length_take, List.length_map] at h1
            rw [sizeLine_eq]
            omega
          refine ⟨_, _, rfl, ?_⟩
          dsimp only
          refine ⟨_, rfl, .inl ⟨rfl, _, SqL.of eG⟩, ?_⟩
          have RB' := RB
          have nput : rowV W.row col ≠ .non → (if rowV W.row col = .non then putK W.row (tk col) kv else W.row) = W.row := fun c => if_neg c
          refine ⟨_, rfl, W.st, rfl, ?_⟩
          cases hst : W.st with
          | false =>
            refine iteF ?_
            refine ⟨_, rfl, B, _, kv, rfl, rfl, eG, lbh, ?_⟩
            rw [hst] at wk'
            rw [if_neg (show ¬ (false = true ∧ rowV W.row col ≠ .non) from fun z => nomatch z.1)] at wk' ⊢
            dsimp only
            have e4 : upd G' B (.lst (W.bh ++ [kv])) B = _ := upd_same
            have s4 : Same H (upd G' B (.lst (W.bh ++ [kv]))) := stay_old sG HB
            have e5 : upd G' B (.lst (W.bh ++ [kv])) R = _ := (upd_ne RB).trans eR
            have e6 : upd G' B (.lst (W.bh ++ [kv])) qa = _ := s4 _ _ eq0
            generalize upd G' B (.lst (W.bh ++ [kv])) = G5 at e4 s4 e5 e6 ⊢
            refine ⟨_, rfl, rfl, _, rfl, ?_⟩
            by_cases c : rowV W.row col = .non
            · rw [decide_eq_true c]
              refine iteT ?_
              rw [if_pos c] at wk' ⊢
              refine ⟨_, rfl, _, rfl, _, rfl, qa, _, _, .str col, rfl, rfl, SqT.of e6, atI_nat (j := 2) rfl, R, _, rfl, DPut.k (k := tk col) e5 lrow, ?_⟩
              exact ⟨stay_old s4 HR, ⟨_, wk'⟩, upd_same, (upd_ne RB.symm).trans e4, _, _, _, _, _, _, _, rfl⟩
            · rw [decide_eq_false c]
              refine iteF ?_
              rw [if_neg c] at wk' ⊢
              exact ⟨s4, ⟨_, wk'⟩, e5, e4, _, _, _, _, _, _, _, rfl⟩
          | true =>
            refine iteT ?_
            rw [hst] at wk'
            refine ⟨_, rfl, rfl, _, rfl, ?_⟩
            by_cases c : rowV W.row col = .non
            · rw [decide_eq_true c]
              refine iteF ?_
              refine ⟨_, rfl, B, _, kv, rfl, rfl, eG, lbh, ?_⟩
              rw [if_neg (show ¬ (true = true ∧ rowV W.row col ≠ .non) from fun z => z.2 c)] at wk' ⊢
              rw [if_pos c] at wk' ⊢
              dsimp only
              have e4 : upd G' B (.lst (W.bh ++ [kv])) B = _ := upd_same
              have s4 : Same H (upd G' B (.lst (W.bh ++ [kv]))) := stay_old sG HB
              have e5 : upd G' B (.lst (W.bh ++ [kv])) R = _ := (upd_ne RB).trans eR
              have e6 : upd G' B (.lst (W.bh ++ [kv])) qa = _ := s4 _ _ eq0
              generalize upd G' B (.lst (W.bh ++ [kv])) = G5 at e4 s4 e5 e6 ⊢
              refine ⟨_, rfl, rfl, _, rfl, ?_⟩
              rw [decide_eq_true c]
              refine iteT ?_
              refine ⟨_, rfl, _, rfl, _, rfl, qa, _, _, .str col, rfl, rfl, SqT.of e6, atI_nat (j := 2) rfl, R, _, rfl, DPut.k (k := tk col) e5 lrow, ?_⟩
              exact ⟨stay_old s4 HR, ⟨_, wk'⟩, upd_same, (upd_ne RB.symm).trans e4, _, _, _, _, _, _, _, rfl⟩
            · rw [decide_eq_false c]
              refine iteT ?_
              refine ⟨_, rfl, B, _, rowV W.row col, rfl, rfl, eG, lbh, ?_⟩
              rw [if_pos (show true = true ∧ rowV W.row col ≠ .non from ⟨rfl, c⟩)] at wk' ⊢
              rw [if_neg c] at wk' ⊢
              dsimp only
              have e4 : upd G' B (.lst (W.bh ++ [rowV W.row col])) B = _ := upd_same
              have s4 : Same H (upd G' B (.lst (W.bh ++ [rowV W.row col]))) := stay_old sG HB
              have e5 : upd G' B (.lst (W.bh ++ [rowV W.row col])) R = _ := (upd_ne RB).trans eR
              generalize upd G' B (.lst (W.bh ++ [rowV W.row col])) = G5 at e4 s4 e5 ⊢
              refine ⟨_, rfl, rfl, _, rfl, ?_⟩
              rw [decide_eq_false c]
              refine iteF ?_
              exact ⟨s4, ⟨_, wk'⟩, e5, e4, _, _, _, _, _, _, _, rfl⟩
        | _ => cases hf
      | false =>
        refine iteF ?_
        obtain ⟨t, eit, okd⟩ := deed_at wk.row wk.nd (Nat.le_trans (LB_max _) (by decide)) (da.keep (Tst.of sG)) ww wx hf (.str dn.1)
        refine ⟨_, rfl, _, rfl, qa, R, .str dn.1, W.row, deedOf W.row t d, rfl, by rw [eit]; exact SqT.of eq1, eR, okd, ?_, fun t' H' s' res => ?_⟩
        · intro col ts ps e
          cases d <;> cases e
          exact wx
        rw [doneD_t] at res
        obtain ⟨l3, Ts3, et, el3, pr3⟩ := res
        refine ⟨t', _, rfl, SqT.of et, rfl, _, _, rfl, gN ⟨_, _, rfl, gN ⟨rfl, ?_⟩⟩⟩
        dsimp only
        have eR' := s' _ _ eR
        refine ⟨_, rfl, .inr (.inr (.inl ⟨rfl, .inl ⟨_, eR'⟩⟩)), _, rfl, l3, Ts3, _, rfl, SqL.of el3, pr3, fun dd ndd => newO ndd fun G2 z2 e2 => ?_⟩
        have sr := step_row wk.row (nd_of ndk (Classical.choose_spec (chain_at O.ch hd wk.ch).2.2.2)) ww wx wk.k1 hf
        have em : mergeK [] (doneD W.row d).1 = (doneD W.row d).1 := by
          have := mergeK_app (acc := []) (ps := (doneD W.row d).1) sr.2.2.1 fun p _ => rfl
          rwa [List.nil_append] at this
        rw [em] at e2
        have sz : W.row.length + (doneD W.row d).1.length ≤ sizeLine := by
          have l4 := sr.2.2.2
          have lk := congrArg List.length (Classical.choose_spec (chain_at O.ch hd wk.ch).2.2.2)
          rw [List.length_append, List.length_append] at lk
          have := O.l9
          rw [wk.row.len, sizeLine_eq]
          omega
        have eR2 := z2 _ _ eR'
        refine ⟨R, dd, W.row, _, rfl, rfl, ne_of_none eR' ndd, eR2, e2, sz, ?_⟩
        have eW : stepW held d W = ⟨mergeK W.row (doneD W.row d).1, W.bh, W.st && !(doneD W.row d).2⟩ := by
          cases d with
          | fill col keys => cases hf
          | _ => rfl
        rw [eW]
        rw [eW] at wk'
        have e4 : upd G2 R (.dK (mergeK W.row (doneD W.row d).1)) R = _ := upd_same
        have s4 : Same H (upd G2 R (.dK (mergeK W.row (doneD W.row d).1))) := stay_old ((sG.trans s').trans z2) HR
        have e5 : upd G2 R (.dK (mergeK W.row (doneD W.row d).1)) B = _ := (upd_ne RB.symm).trans (z2 _ _ (s' _ _ eG))
        generalize upd G2 R (.dK (mergeK W.row (doneD W.row d).1)) = G5 at e4 s4 e5 ⊢
        dsimp only
        refine ⟨_, rfl, W.st, rfl, ?_⟩
        cases hst : W.st with
        | true =>
          refine iteT ?_
          rw [hst] at wk'
          exact ⟨_, rfl, _, rfl, gN ⟨s4, ⟨_, wk'⟩, e4, e5, _, _, _, _, _, _, _, rfl⟩⟩
        | false =>
          refine iteF ?_
          rw [hst] at wk'
          exact gN ⟨s4, ⟨_, wk'⟩, e4, e5, _, _, _, _, _, _, _, rfl⟩
    · rintro σ G ⟨sG, ⟨kj, wk⟩, eR, eG, u1', u2, u3, u4, u5, u6, u7, rfl⟩
      have eall : (dds.map (·.2)).take (ad.ps.map V.ref).length = dds.map (·.2) := List.take_of_length_le (by rw [List.length_map, List.length_map, A0.dP.1]; exact Nat.le_refl _)
      rw [eall] at eR eG wk ⊢
      have wch := wk.ch
      rw [eall] at wch
      cases chain_one wch C.ch
      have q' : ∀ t H', Same H H' → OnRes H' t (goW held (dds.map (·.2)) (start p cells)) → Q (.ref t) H' := q
      generalize goW held (dds.map (·.2)) (start p cells) = W at eR eG wk q' ⊢
      refine ⟨_, rfl, a, p, dds, ad, kn, rfl, C.same sG, fun l5 H5 s5 e5 => ?_⟩
      obtain ⟨ys, hys⟩ : ∃ ys, ys = kn.map (·.1) := ⟨_, rfl⟩
      rw [← hys] at e5
      have ly : ys.length ≤ 9 := by rw [hys, List.length_map]; exact O.l9
      have eR5 := s5 _ _ eR
      refine ⟨l5, rfl, ⟨_, SqL.of e5⟩, fun D nD => ?_⟩
      refine lc_val (walk_list (K := K) (a := l5) (xs := ys.map V.str)) (Z := fun j x => (ys.map V.str)[j]? = some x) (fun j => rowV W.row (ys.getD j Str.empty)) nD yat (fun G s => SqL.of (s _ _ e5)) (by rw [List.length_map]; omega) (fun _ => rfl) ?_ ?_
      · rintro j x G3 Q2 hj hx sG3 kG
        rw [List.getElem?_map] at hx
        obtain ⟨u, hu, rfl⟩ := Option.map_eq_some_iff.mp hx
        have eu : ys.getD j Str.empty = u := by rw [List.getD_eq_getElem?_getD, hu]; rfl
        rw [eu] at kG
        obtain ⟨c, hc, hcu⟩ : ∃ c ∈ kn, c.1 = u := List.mem_map.mp (hys ▸ List.mem_of_getElem? hu)
        obtain ⟨c1, c2⟩ := c
        cases hcu
        have dg : DGet G3 R (.str c1) (some (rowV W.row c1)) := (wk.row.cell ndk hc).1 ▸ DGet.k (k := tk c1) (sG3 _ _ eR5)
        exact ⟨_, rfl, _, rfl, R, _, rfl, dg, kG _ (Same.refl _)⟩
      · intro G2 s2 e2
        rw [List.length_map, range_at ys (fun z => rowV W.row z) _ (fun j y hy => by rw [List.getD_eq_getElem?_getD, hy]; rfl)] at e2
        have er : ys.map (fun z => rowV W.row z) = W.row.map (·.2) := by
          rw [hys, List.map_map]
          exact row_snd wk.row ndk
        rw [er] at e2
        refine ⟨D, _, rfl, .inl ⟨SqL.of e2, fun c nc => newO nc fun G3 z3 ec => ?_⟩⟩
        refine gN ?_
        unfold tRet
        dsimp only
        refine ⟨_, rfl, _, rfl, (show 2 ≤ sizeLine by decide), fun r nr => newO nr fun G4 z4 er => ?_⟩
        have sB := ((s5.trans s2).trans z3).trans z4
        refine ⟨_, rfl, B, _, rfl, .inl ⟨SqL.of (sB _ _ eG), fun b nb => newO nb fun G5 z5 eb => ?_⟩⟩
        refine ⟨(show 2 ≤ sizeLine by decide), fun t nt => newO nt fun G6 z6 et => ?_⟩
        have z46 := z5.trans z6
        exact q' t G6 ((sG.trans sB).trans z46) ⟨r, b, c, et, z46 _ _ er, z46 _ _ (z4 _ _ ec), z6 _ _ eb⟩
end
end K87
set_option Elab.async false
set_option linter.all false
set_option pp.maxSteps 4000
set_option maxRecDepth 100000
set_option maxHeartbeats 4000000
/-! k87: the first state, the kinds of columns -/
namespace K87
open PySem PySem.Spec PyProof.Rows L2 Bs Xg TL Xm Xs Gn Gd Xu Xw Xk K86 K02
open K21 (tk os ov u1 Deed rowV txt fresh_same doneP)
abbrev sFi : Stmt := K21.top 53
abbrev sKi : Stmt := K21.top 54
theorem fills_filter : ∀ ds : List Dd, ds.filterMap (fun d => if isFill d = true then some V.non else none) = (fillsOf ds).map fun _ => V.non
  | [] => rfl
  | d :: ds => by
    have ih := fills_filter ds
    cases d <;> simp [fillsOf, isFill, ih] <;> exact ih
def isRead : Dd → Bool
  | .read _ _ _ => true
  | _ => false
theorem word_read (d : Dd) : decide (wordOf d = "read") = isRead d := by
  cases d with
  | cut _ _ _ => exact (by decide +kernel : decide (Str.ofString "cut" = Str.ofString "read") = false)
  | glue _ _ _ => exact (by decide +kernel : decide (Str.ofString "glue" = Str.ofString "read") = false)
  | spell _ _ => exact (by decide +kernel : decide (Str.ofString "spell" = Str.ofString "read") = false)
  | read _ _ _ => exact decide_eq_true rfl
  | put _ _ => exact (by decide +kernel : decide (Str.ofString "put" = Str.ofString "read") = false)
  | within _ _ _ => exact (by decide +kernel : decide (Str.ofString "within" = Str.ofString "read") = false)
  | among _ _ => exact (by decide +kernel : decide (Str.ofString "among" = Str.ofString "read") = false)
  | before _ _ => exact (by decide +kernel : decide (Str.ofString "before" = Str.ofString "read") = false)
  | given _ => exact (by decide +kernel : decide (Str.ofString "given" = Str.ofString "read") = false)
  | fill _ _ => exact (by decide +kernel : decide (Str.ofString "fill" = Str.ofString "read") = false)
/-- a word's kind, put where there is none -/
def addK (b : Bool) (D : List (Key × V)) (z : Str) : List (Key × V) := if (valV D (tk z)).isSome = true then D else putK D (tk z) (.str (kw b))
theorem addK_val (b : Bool) (D : List (Key × V)) (z y : Str) : valV (addK b D z) (tk y) = (valV D (tk y)).or (if y = z then some (.str (kw b)) else none) := by
  unfold addK
  by_cases h : (valV D (tk z)).isSome = true
  · rw [if_pos h]
    by_cases e : y = z
    · subst e
      obtain ⟨v, hv⟩ := Option.isSome_iff_exists.mp h
      rw [hv]
      rfl
    · rw [if_neg e, Option.or_none]
  · rw [if_neg h]
    have hn : valV D (tk z) = none := by
      cases hv : valV D (tk z) with
      | none => rfl
      | some v => rw [hv] at h; exact absurd rfl h
    rw [putK_new _ hn, valV_snoc _ _ _ _ hn]
    by_cases e : y = z
    · subst e
      rw [if_pos rfl, if_pos rfl, hn]
      rfl
    · rw [if_neg (show ¬ tk y = tk z from fun h => e (Sum.inr.inj h)), if_neg e, Option.or_none]
theorem addKs_val (b : Bool) (y : Str) : ∀ (zs : List Str) (D : List (Key × V)), valV (zs.foldl (addK b) D) (tk y) = (valV D (tk y)).or (if y ∈ zs then some (.str (kw b)) else none)
  | [], D => by simp
  | z :: zs, D => by
    rw [List.foldl_cons, addKs_val b y zs, addK_val]
    cases valV D (tk y) with
    | some v => rfl
    | none =>
      by_cases e : y = z
      · simp [e]
      · simp [e]
theorem addK_len (b : Bool) (D : List (Key × V)) (z : Str) : (addK b D z).length ≤ D.length + 1 := by
  unfold addK
  by_cases h : (valV D (tk z)).isSome = true
  · rw [if_pos h]
    omega
  · rw [if_neg h]
    have hn : valV D (tk z) = none := by
      cases hv : valV D (tk z) with
      | none => rfl
      | some v => rw [hv] at h; exact absurd rfl h
    rw [putK_new _ hn, List.length_append]
    exact Nat.le_refl _
theorem addKs_len (b : Bool) : ∀ (zs : List Str) (D : List (Key × V)), (zs.foldl (addK b) D).length ≤ D.length + zs.length
  | [], D => Nat.le_refl _
  | z :: zs, D => by
    have h1 := addKs_len b zs (addK b D z)
    have h2 := addK_len b D z
    rw [List.foldl_cons, List.length_cons]
    omega
/-- the kinds of these columns -/
structure KnD (kj : List (Str × Bool)) (D : List (Key × V)) : Prop where
  v : ∀ c ∈ kj, valV D (tk c.1) = some (.str (kw c.2))
  n : ∀ z, z ∉ kj.map (·.1) → z ≠ Str.ofString "!" → valV D (tk z) = none
theorem wrs_mem {kj : List (Str × Bool)} {d : Dd} (w : d.wt kj) {z : Str} (h : z ∈ wrs d) : z = Str.ofString "!" ∨ z ∈ kj.map (·.1) ∨ z ∈ d.adds.map (·.1) := by
  have old : ∀ {col b}, (col, b) ∈ kj → z ∈ [col] → z = Str.ofString "!" ∨ z ∈ kj.map (·.1) ∨ z ∈ d.adds.map (·.1) := by
    intro col b m hz
    rw [List.mem_singleton.mp hz]
    exact .inr (.inl (List.mem_map.mpr ⟨_, m, rfl⟩))
  cases d with
  | cut col s news =>
    rcases List.mem_append.mp h with h | h
    · exact .inr (.inr (by show z ∈ (news.map fun z => (z, true)).map (·.1); rw [fst_map]; exact h))
    · exact .inl (List.mem_singleton.mp h)
  | glue cols s new => exact .inr (.inr h)
  | read col fv new =>
    rcases List.mem_cons.mp h with h | h
    · exact .inr (.inr (List.mem_singleton.mpr h))
    · exact .inl (List.mem_singleton.mp h)
  | spell col ps => exact old w.1 h
  | put col v => exact old w.choose_spec.1 h
  | fill col keys => exact old w.1.choose_spec h
  | within | among | before | given => exact .inl (List.mem_singleton.mp h)
theorem adds_wrs {d : Dd} {c : Str × Bool} (h : c ∈ d.adds) : c.1 ∈ wrs d ∧ c.2 = !isRead d := by
  cases d with
  | cut col s news =>
    obtain ⟨z, hz, rfl⟩ := List.mem_map.mp (show c ∈ news.map fun z => (z, true) from h)
    exact ⟨List.mem_append_left _ hz, rfl⟩
  | glue cols s new =>
    cases List.mem_singleton.mp (show c ∈ [(new, true)] from h)
    exact ⟨List.mem_singleton.mpr rfl, rfl⟩
  | read col fv new =>
    cases List.mem_singleton.mp (show c ∈ [(new, false)] from h)
    exact ⟨List.mem_cons_self, rfl⟩
  | _ => exact nomatch h
theorem wrs_len {kj : List (Str × Bool)} {d : Dd} (w : d.wt kj) : (wrs d).length ≤ 5 := by
  cases d with
  | cut col s news =>
    show (news ++ [_]).length ≤ 5
    rw [List.length_append]
    exact Nat.add_le_add_right w.2.2.1 1
  | _ => exact Nat.le_of_ble_eq_true rfl
theorem KnD.step {kj : List (Str × Bool)} {D : List (Key × V)} {d : Dd} (h : KnD kj D) (w : d.wt kj) (nd : (Str.ofString "!" :: (kj ++ d.adds).map (·.1)).Nodup) : KnD (kj ++ d.adds) ((wrs d).foldl (addK (!isRead d)) D) where
  v := fun c hc => by
    rw [addKs_val]
    rcases List.mem_append.mp hc with hc | hc
    · rw [h.v c hc]
      rfl
    · obtain ⟨n1, n2⟩ := List.nodup_cons.mp nd
      rw [List.map_append] at n1 n2
      have ma : c.1 ∈ d.adds.map (·.1) := List.mem_map.mpr ⟨c, hc, rfl⟩
      have nk : c.1 ∉ kj.map (·.1) := fun m => (List.nodup_append.mp n2).2.2 _ m _ ma rfl
      have nb : c.1 ≠ Str.ofString "!" := fun e => n1 (e ▸ List.mem_append_right _ ma)
      obtain ⟨m, e⟩ := adds_wrs hc
      rw [h.n _ nk nb, if_pos m, ← e]
      rfl
  n := fun z hz hb => by
    rw [List.map_append] at hz
    rw [addKs_val, h.n z (fun m => hz (List.mem_append_left _ m)) hb, if_neg (fun m => ?_)]
    · rfl
    · rcases wrs_mem w m with q | q | q
      · exact hb q
      · exact hz (List.mem_append_left _ q)
      · exact hz (List.mem_append_right _ q)
section
variable {P : Program} {w : World} {K : PySem.W.Frag} {mg : Str → Option Value} {base : Heap}
abbrev nFi : List Str := ["_law_plan_here", "_law_step"]
theorem scFi : FnScope nFi ["_law_plan_here"] (defScope sFi) := ⟨rfl, rfl, rfl, by decide +kernel, rfl, by decide +kernel, by decide +kernel⟩
def spFi (K : PySem.W.Frag) : Sp := fun vs H Q _ => ∃ (a : Addr) (p : PlanD) (dds : List (Str × Dd)) (ad : PA) (kn : List (Str × Bool)), vs = [.ref a] ∧ PlanC H a p dds ad kn ∧ dds.length ≤ 8 ∧
  ∀ t H', Same H H' → H' t = some (.tup ((fillsOf (dds.map (·.2))).map fun _ => V.non)) → Q (.ref t) H'
theorem ok_first {f : Addr} {fd : FuncData} (F : Fun K "_law_first" "_law_first" sFi f fd) (T : Free mg) : FnOk P w K mg base CX0 1 f fd ["_law_plan_here"] (spFi K) := by
  refine F.ok scFi (fun vs H Q E h => ?_) (fun cdv A outer s H vs Q E hr h => ?_)
  · obtain ⟨a, p, dds, ad, kn, rfl, _⟩ := h
    rfl
  · obtain ⟨a, p, dds, ad, kn, rfl, C, d8, q⟩ := h
    have A0 := C.pl
    refine ⟨_, pss_one (ps_ret (pe_callTy call_tuple_of (by rfl) T.tuple (by decide +kernel) (pa_cons (pe_lc (own := [("_law_step", 1)]) (g := gName 1) (tt := (tTest (tOp rEq (tOp (rIxT K) (tVar 1) (tC (.int 1))) (tC (.str "fill"))))) rfl scFi.nd (pi_tup (pe_ix (ix_tupK (K := K) rfl) (pe_ix (ix_tupK (K := K) rfl) (pe_ix (ix_tupK (K := K) rfl) (pv 0) pe_int (fun _ _ => rfl)) pe_int (fun _ _ => rfl)) pe_int (fun _ _ => rfl))) (blkOk_by (own := [("_law_step", 1)]) (N := nFi) (sc := defScope sFi) (by decide +kernel)) (fun _ _ _ _ _ => (pg_name (i := 1) scFi.nd rfl (Or.inl rfl))) (fun _ _ _ _ _ => pts_one (pt_cmpR op_eq (pe_ix (ix_tupK (K := K) rfl) (pv 1) pe_int (fun _ _ => rfl)) pe_str (nomark _))) (fun _ _ _ _ _ => pe_non)) pa_nil))), ?_⟩
    refine ⟨_, rfl, a, _, _, .ref ad.aT, rfl, rfl, SqT.of A0.e0, atI_nat (j := 1) rfl, ad.aT, _, _, .ref ad.aI, rfl, rfl, SqT.of A0.eT, atI_nat (j := 0) rfl, ad.aI, _, _, .ref ad.aP, rfl, rfl, SqT.of A0.eI, atI_nat (j := 2) rfl, ad.aP, rfl, ⟨_, SqT.of A0.eP⟩, fun D nD => ?_⟩
    have lp : ad.ps.length ≤ 8 := by rw [← A0.dP.1]; exact d8
    refine lc_fm (walk_tup (K := K) (a := ad.aP) (xs := ad.ps.map V.ref)) (dds.map (·.2)) (fun d => if isFill d = true then some V.non else none) (by simp [A0.dP.1]) nD (fun G sG => SqT.of (sG _ _ A0.eP)) (by simp; omega) ?_ ?_
    · rintro j d x G G' R N hk sG ⟨rfl, hx⟩ keep drop
      rw [List.getElem?_map] at hx hk
      obtain ⟨qa, hq, rfl⟩ := Option.map_eq_some_iff.mp hx
      obtain ⟨dn, hdn, rfl⟩ := Option.map_eq_some_iff.mp hk
      obtain ⟨kn', ⟨vs, eq0, da, _⟩, _⟩ := A0.dP.2 j qa dn hq hdn
      obtain ⟨rs, rfl⟩ := at_word da
      refine gN ⟨rfl, ?_⟩
      refine ⟨_, rfl, qa, _, _, .str (wordOf dn.2), rfl, rfl, SqT.of (sG _ _ eq0), atI_nat (j := 1) rfl, rfl, _, rfl, ?_⟩
      rw [str_dec, word_fill]
      cases hf : isFill dn.2 with
      | true => exact iteT (keep _ (by rw [hf]; rfl) _ (Same.refl _))
      | false => exact iteF (drop (by rw [hf]; rfl) _ (Same.refl _))
    · intro G2 s2 e2
      rw [fills_filter] at e2
      exact ⟨D, _, rfl, .inl ⟨SqL.of e2, fun c nc => newO nc fun G3 z3 ec => q c G3 (s2.trans z3) ec⟩⟩
abbrev nKi : List Str := ["_law_plan_here", "_law_found", "_law_step", "_law_what", "_law_column"]
theorem scKi : FnScope nKi ["_law_plan_here"] (defScope sKi) := ⟨rfl, rfl, rfl, by decide +kernel, rfl, by decide +kernel, by decide +kernel⟩
def spKi (K : PySem.W.Frag) : Sp := fun vs H Q _ => ∃ (a : Addr) (p : PlanD) (dds : List (Str × Dd)) (ad : PA) (kn : List (Str × Bool)), vs = [.ref a] ∧ PlanC H a p dds ad kn ∧ dds.length ≤ 8 ∧
  ∀ t D H', Same H H' → H' t = some (.dK D) → KnD kn D → Q (.ref t) H'
theorem ok_kinds {f fTo : Addr} {fd dTo : FuncData} (F : Fun K "_law_kinds" "_law_kinds" sKi f fd) (T : Free mg) (W : TouchF K mg fTo dTo) : FnOk P w K mg base CX0 2 f fd ["_law_plan_here"] (spKi K) := by
  have GTo : FnOk P w K mg base CX0 1 fTo dTo ["_law_step"] spTw := ok_tou W.To T
  have FTo := W.To
  have bTo := W.bTo
  have gTo := W.gTo
  refine F.ok scKi (fun vs H Q E h => ?_) (fun cdv A outer s H vs Q E hr h => ?_)
  · obtain ⟨a, p, dds, ad, kn, rfl, _⟩ := h
    rfl
  · obtain ⟨a, p, dds, ad, kn, rfl, C, d8, q⟩ := h
    have A0 := C.pl
    refine ⟨_, pss_cons (ps_set (i := 1) scKi.nd rfl (Or.inl rfl) (pe_callTy (call_dictP rfl) (by rfl) T.dict (by decide +kernel) (pa_cons (pe_lc (own := [("_law_column", 4)]) (g := gName 4) (tt := tYes) rfl scKi.nd (pi_tup (pe_ix (ix_tupK (K := K) rfl) (pe_ix (ix_tupK (K := K) rfl) (pe_ix (ix_tupK (K := K) rfl) (pe_ix (ix_tupK (K := K) rfl) (pv 0) pe_int (fun _ _ => rfl)) pe_int (fun _ _ => rfl)) pe_int (fun _ _ => rfl)) (pe_un un_neg pe_int) (fun _ _ => rfl))) (blkOk_by (own := [("_law_column", 4)]) (N := nKi) (sc := defScope sKi) (by decide +kernel)) (fun _ _ _ _ _ => (pg_name (i := 4) scKi.nd rfl (Or.inl rfl))) (fun _ _ _ _ _ => pts_nil) (fun _ _ _ _ _ => (pe_tup (pa_cons (pv 4) (pa_cons pe_str pa_nil))))) pa_nil)))
      (pss_cons (ps_for PassesOwn.never rfl (pi_tup (pe_ix (ix_tupK (K := K) rfl) (pe_ix (ix_tupK (K := K) rfl) (pe_ix (ix_tupK (K := K) rfl) (pv 0) pe_int (fun _ _ => rfl)) pe_int (fun _ _ => rfl)) pe_int (fun _ _ => rfl))) (pg_name (i := 2) scKi.nd rfl (Or.inl rfl)) (pss_one (ps_for PassesOwn.never rfl (pi_list (pe_ix (ix_listK (K := K) rfl) (pe_call GTo (hr.mono (by decide)) (by rfl) gTo FTo.kp bTo .nil pass0 (pa_cons (pv 2) pa_nil)) pe_int (fun _ _ => rfl))) (pg_name (i := 3) scKi.nd rfl (Or.inl rfl)) (pss_one (ps_if (pt_cmp (pc_dnotin (u1 hr.units) (pv 3) (pv 1))) (pss_one (ps_dput (u1 hr.units) (pv 1) (pv 3) (pe_ifExp (pt_cmpR op_eq (pe_ix (ix_tupK (K := K) rfl) (pv 2) pe_int (fun _ _ => rfl)) pe_str (nomark _)) pe_str pe_str) rfl)) (pss_nil))))))
      (pss_one (ps_ret (pv 1)))), ?_⟩
    refine ⟨_, rfl, a, _, _, .ref ad.aS, rfl, rfl, SqT.of A0.e0, atI_nat (j := 0) rfl, ad.aS, _, _, .ref ad.s0, rfl, rfl, A0.sq, atI_nat (j := 0) rfl, ad.s0, _, _, .ref ad.sh, rfl, rfl, SqT.of A0.e1, atI_nat (j := 1) rfl, ?_⟩
    refine ⟨1, rfl, ad.sh, _, -1, .ref ad.cA, rfl, rfl, SqT.of A0.eh, atI_last _ _, ad.cA, rfl, ⟨_, SqT.of A0.eC⟩, fun D nD => ?_⟩
    refine lc_new (walk_tup (K := K) (a := ad.cA) (xs := p.cols.map V.str)) (Z := fun j x => (p.cols.map V.str)[j]? = some x) (fun j y G => ∃ (T : Addr) (z : Str), y = .ref T ∧ p.cols[j]? = some z ∧ G T = some (.tup [.str z, .str "text"])) nD (fun j G x G' e => ⟨e.1, e.2⟩) (fun G sG => SqT.of (sG _ _ A0.eC)) (fun j y G G' keep ⟨l', eD⟩ ⟨t, z, e1, e2, e3⟩ => ⟨t, z, e1, e2, keep t _ (fun q => by rw [q, eD] at e3; cases e3) e3⟩) (by rw [List.length_map]; have := C.ok.c3; omega) (fun _ => rfl) ?_ ?_
    · rintro j x G Q2 hj hx sG kk
      rw [List.getElem?_map] at hx
      obtain ⟨z, hz2, rfl⟩ := Option.map_eq_some_iff.mp hx
      exact ⟨_, rfl, (show 2 ≤ sizeLine by decide), fun T m1 => newO m1 fun G2 s2 e2 => kk _ _ s2 ⟨T, z, rfl, hz2, e2⟩⟩
    · intro G3 ys3 s3 e3 ly3 hw3
      rw [List.length_map] at ly3
      obtain ⟨Ts, rfl, lT, wT⟩ := refs_at2 (G := G3) (k := 0) (F := fun j T => ∃ z, p.cols[j]? = some z ∧ G3 T = some (.tup [.str z, .str "text"])) (fun j y hy => by
        obtain ⟨T, z, e1, e2, e4⟩ := hw3 j y hy
        exact ⟨T, e1, z, by rw [Nat.zero_add]; exact e2, e4⟩)
      have pr : Paired (fun (T : Addr) (kv : Key × V) => SqT K G3 T [kV kv.1, kv.2]) Ts (p.cols.map fun x => (tk x, V.str "text")) := paired_ix (by rw [List.length_map]; rw [List.length_map] at ly3; omega) fun j T kv h1 h2 => by
        obtain ⟨z, hz, eT⟩ := wT j T h1
        rw [Nat.zero_add] at hz
        rw [List.getElem?_map, hz] at h2
        cases h2
        exact SqT.of eT
      refine ⟨D, Ts, _, rfl, SqL.of e3, pr, fun R nR => newO nR fun H1 z1 e1 => ?_⟩
      refine gN ?_
      dsimp only
      have em : mergeK [] (p.cols.map fun x => (tk x, V.str "text")) = p.cols.map fun x => (tk x, V.str "text") := by
        have ndk : (kn.map (·.1)).Nodup := (List.nodup_cons.mp C.nd).2
        obtain ⟨rr, hrr⟩ := chain_grow C.ch
        rw [hrr, List.map_append, fst_map] at ndk
        have nd0 := (List.nodup_append.mp ndk).1
        have := mergeK_app (acc := []) (ps := p.cols.map fun x => (tk x, V.str "text")) (by
          rw [List.map_map]
          exact List.Pairwise.map tk (fun a b ne e => ne (Sum.inr.inj e)) nd0) fun p _ => rfl
        rwa [List.nil_append] at this
      rw [em] at e1
      have k0 : KnD (p.cols.map fun z => (z, true)) (p.cols.map fun x => (tk x, V.str "text")) := by
        have gv : ∀ (zs : List Str) (y : Str), valV (zs.map fun x => ((tk x, V.str "text") : Key × V)) (tk y) = if y ∈ zs then some (V.str "text") else none := by
          intro zs y
          induction zs with
          | nil => rfl
          | cons z zs ih =>
            by_cases e : z = y
            · subst e
              rw [List.map_cons, valV_pos rfl, if_pos List.mem_cons_self]
            · rw [List.map_cons, valV_neg (show ¬ tk z = tk y from fun h => e (Sum.inr.inj h)), ih]
              by_cases m : y ∈ zs
              · rw [if_pos m, if_pos (List.mem_cons_of_mem _ m)]
              · rw [if_neg m, if_neg (fun q => (List.mem_cons.mp q).elim (fun h => e h.symm) m)]
        refine ⟨fun c hc => ?_, fun z hz _ => ?_⟩
        · obtain ⟨z, hz, rfl⟩ := List.mem_map.mp hc
          rw [gv, if_pos hz]
          rfl
        · rw [fst_map] at hz
          rw [gv, if_neg hz]
      have s01 := s3.trans z1
      have HR : H R = none := fresh_same s3 nR
      have A1 := (C.same s01).pl
      have lp : ad.ps.length ≤ 8 := by rw [← A0.dP.1]; exact d8
      refine ⟨_, rfl, a, _, _, .ref ad.aT, rfl, rfl, SqT.of A1.e0, atI_nat (j := 1) rfl, ad.aT, _, _, .ref ad.aI, rfl, rfl, SqT.of A1.eT, atI_nat (j := 0) rfl, ad.aI, _, _, .ref ad.aP, rfl, rfl, SqT.of A1.eI, atI_nat (j := 2) rfl, ad.aP, rfl, ⟨_, SqT.of A1.eP⟩, ?_⟩
      refine for_it (walk_tup (K := K) (a := ad.aP) (xs := ad.ps.map V.ref)) (fun j σ G => Same H G ∧ (∃ kj D, Chain (p.cols.map fun z => (z, true)) ((dds.map (·.2)).take j) kj ∧ G R = some (.dK D) ∧ KnD kj D ∧ D.length ≤ 3 + 5 * j) ∧ ∃ u2 u3 u4, σ = [some (.ref a), some (.ref R), u2, u3, u4])
        ⟨s01, ⟨_, _, rfl, e1, k0, by rw [List.length_map]; exact C.ok.c3⟩, _, _, _, rfl⟩ (fun j σ G _ pv => SqT.of (pv.1 _ _ A0.eP)) ?_ ?_
      · rintro j x σ G G' hj ⟨sG, ⟨kj, D0, hc, eR, kd, ld⟩, u2, u3, u4, rfl⟩ ⟨rfl, hx⟩
        obtain ⟨qa, dn, kq, rfl, hd, st, w1, w2, w3, ndb, l9⟩ := C.at sG hx hc
        have kd' := kd.step w1 ndb
        have lw := wrs_len w1
        have lj : j < 8 := by rw [List.length_map] at hj; omega
        obtain ⟨ws, hws⟩ : ∃ ws, ws = wrs dn.2 := ⟨_, rfl⟩
        refine gN ?_
        dsimp only
        refine ⟨_, rfl, qa, dn.1, dn.2, kq, rfl, st, fun L H' tw s' => ?_⟩
        obtain ⟨A, B, xs, eL2, eA, eB⟩ := tw
        rw [← hws] at eB kd' lw
        have ls := addKs_len (!isRead dn.2)
        refine ⟨L, _, _, .ref B, rfl, rfl, SqL.of eL2, atI_nat (j := 1) rfl, B, rfl, ⟨_, SqL.of eB⟩, ?_⟩
        refine for_it (walk_list (K := K) (a := B) (xs := ws.map V.str)) (fun i σ G2 => But R H' G2 ∧ Same H G2 ∧ G2 R = some (.dK ((ws.take i).foldl (addK (!isRead dn.2)) D0)) ∧ ∃ u3 u4, σ = [some (.ref a), some (.ref R), some (.ref qa), u3, u4])
          ⟨But.refl _ _, sG.trans s', s' _ _ eR, _, _, rfl⟩ (fun i σ G2 _ pv => SqL.of (pv.1 _ _ (fun z => by rw [z] at eB; rw [s' _ _ eR] at eB; cases eB) eB)) ?_ ?_
        · rintro i x σ G2 G3 hi ⟨bR, sG2, eR2, v3, v4, rfl⟩ ⟨rfl, hx⟩
          rw [List.getElem?_map] at hx
          obtain ⟨z, hz, rfl⟩ := Option.map_eq_some_iff.mp hx
          have tk1 : (ws.take (i + 1)).foldl (addK (!isRead dn.2)) D0 = addK (!isRead dn.2) ((ws.take i).foldl (addK (!isRead dn.2)) D0) z := by
            rw [List.take_succ, hz, List.foldl_append]
            rfl
          have ll := ls (ws.take i) D0
          have lt : (ws.take i).length ≤ ws.length := by rw [List.length_take]; omega
          rw [tk1]
          generalize (ws.take i).foldl (addK (!isRead dn.2)) D0 = D1 at eR2 ll ⊢
          refine gN ?_
          dsimp only
          refine ⟨_, rfl, _, rfl, R, _, rfl, DGet.k (k := tk z) eR2, ?_⟩
          unfold addK
          by_cases h : (valV D1 (tk z)).isSome = true
          · rw [if_pos h, h]
            exact ⟨_, rfl, iteF ⟨bR, sG2, eR2, _, _, rfl⟩⟩
          · rw [if_neg h, Bool.eq_false_iff.mpr h]
            refine ⟨_, rfl, iteT ?_⟩
            obtain ⟨vs, e0, da, dw⟩ := st
            obtain ⟨rs, rfl⟩ := at_word da
            have e2 : G3 qa = some (.tup (.str dn.1 :: .str (wordOf dn.2) :: rs)) := bR qa _ (fun z => by rw [z, eR] at e0; cases e0) (s' _ _ e0)
            have fin : ∀ u : V, u = .str (kw (!isRead dn.2)) → ∃ b H4, V.ref R = V.ref b ∧ DPut G3 b (.str z) u H4 ∧ But R H' H4 ∧ Same H H4 ∧ H4 R = some (.dK (putK D1 (tk z) (.str (kw (!isRead dn.2))))) := by
              rintro u rfl
              refine ⟨R, _, rfl, DPut.k (k := tk z) eR2 (by rw [sizeLine_eq]; omega), ?_, stay_old sG2 HR, upd_same⟩
              exact fun b o n e => (upd_ne n).trans (bR b o n e)
            refine ⟨_, rfl, qa, _, _, .str (wordOf dn.2), rfl, rfl, SqT.of e2, atI_nat (j := 1) rfl, rfl, _, rfl, ?_⟩
            rw [str_dec, word_read]
            cases hrd : isRead dn.2 with
            | true =>
              rw [hrd] at fin
              obtain ⟨b, H4, e3, dp, f1, f2, f3⟩ := fin (.str "number") rfl
              exact iteT ⟨_, rfl, _, rfl, b, H4, e3, dp, f1, f2, f3, _, _, rfl⟩
            | false =>
              rw [hrd] at fin
              obtain ⟨b, H4, e3, dp, f1, f2, f3⟩ := fin (.str "text") rfl
              exact iteF ⟨_, rfl, _, rfl, b, H4, e3, dp, f1, f2, f3, _, _, rfl⟩
        · rintro σ G2 ⟨bR, sG2, eR2, v3, v4, rfl⟩
          rw [List.length_map, List.take_length] at eR2
          have ll := ls ws D0
          exact ⟨sG2, ⟨_, _, w3, eR2, kd', by omega⟩, _, _, _, rfl⟩
      · rintro σ G ⟨sG, ⟨kj, D0, hc, eR, kd, ld⟩, u2, u3, u4, rfl⟩
        rw [List.take_of_length_le (by rw [List.length_map, List.length_map, A0.dP.1]; exact Nat.le_refl _)] at hc
        cases chain_one hc C.ch
        exact ⟨_, rfl, q R D0 G sG eR kd⟩
end
end K87
set_option Elab.async false
set_option linter.all false
set_option pp.maxSteps 4000
set_option maxRecDepth 100000
set_option maxHeartbeats 4000000
/-! k87: what is held -/
namespace K87
open PySem PySem.Spec PyProof.Rows L2 Bs Xg TL Xm Xs Gn Gd Xu Xw Xk K86 K02
open K21 (tk os ov u1 Deed rowV txt fresh_same doneP)
abbrev sHe : Stmt := K21.top 55
theorem PlanC.but {H H' : Hp} {a h : Addr} {n : Nat} {p : PlanD} {dds : List (Str × Dd)} {ad : PA} {kn : List (Str × Bool)} (c : PlanC H a p dds ad kn) (hd : HandAt H h n) (b : But h H H') : PlanC H' a p dds ad kn :=
  ⟨c.pl.keep (Tst.hand hd b) fun x o u e => b _ _ (tup_hand hd e fun l q => nomatch q) e, c.ok, c.ch, c.l9, c.fr⟩
structure HeldF (K : PySem.W.Frag) (mg : Str → Option Value) (fFi fKi : Addr) (dFi dKi : FuncData) : Prop where
  Fi : Fun K "_law_first" "_law_first" sFi fFi dFi
  bFi : Binds K dFi ["_law_plan_here"] []
  gFi : mg "_law_first" = some (.ref fFi)
  Ki : Fun K "_law_kinds" "_law_kinds" sKi fKi dKi
  bKi : Binds K dKi ["_law_plan_here"] []
  gKi : mg "_law_kinds" = some (.ref fKi)
theorem fills_names : ∀ ds : List Dd, ds.filterMap (fun d => match d with | .fill col _ => some (V.str col) | _ => none) = (fillsOf ds).map V.str
  | [] => rfl
  | d :: ds => by
    have ih := fills_names ds
    cases d <;> simp [fillsOf, ih]
theorem fills_kn : ∀ {ds : List Dd} {kn0 kn : List (Str × Bool)}, Chain kn0 ds kn → ∀ col ∈ fillsOf ds, ∃ b, (col, b) ∈ kn
  | [], _, _, _, col, h => nomatch h
  | d :: ds, kn0, kn, c, col, h => by
    have c2 := c.2.2
    cases d with
    | fill col2 keys =>
      rcases List.mem_cons.mp (show col ∈ col2 :: fillsOf ds from h) with e | h
      · obtain ⟨k, hk⟩ := c.1.1
        obtain ⟨r, hr⟩ := chain_grow c2
        subst e
        exact ⟨k, by rw [hr]; exact List.mem_append_left _ (List.mem_append_left _ hk)⟩
      · exact fills_kn c2 col h
    | _ => exact fills_kn c2 col h
section
variable {P : Program} {w : World} {K : PySem.W.Frag} {mg : Str → Option Value} {base : Heap} {fTk fPk : Addr} {dTk dPk : FuncData} {fCe fWr fFo : Addr} {dCe dWr dFo : FuncData} {fTo fFi fKi : Addr} {dTo dFi dKi : FuncData}
abbrev nHe : List Str := ["_law_box_here", "_law_plan_here", "_law_kinds_here", "_law_is_first", "_law_columns", "_law_some", "_law_step", "_law_column", "_law_two"]
theorem scHe : FnScope nHe ["_law_box_here", "_law_plan_here"] (defScope sHe) := ⟨rfl, rfl, rfl, by decide +kernel, rfl, by decide +kernel, by decide +kernel⟩
def spHe (K : PySem.W.Frag) : Sp := fun vs H Q _ => ∃ (h a : Addr) (n : Nat) (p : PlanD) (dds : List (Str × Dd)) (ad : PA) (kn : List (Str × Bool)), vs = [.ref h, .ref a] ∧ HandAt H h n ∧ n < 950000 ∧ PlanC H a p dds ad kn ∧ dds.length ≤ 8 ∧
  ∀ t held H', H' t = some (.tup held) → HeldOk kn (dds.map (·.2)) held → HandAt H' h (n + 40) → But h H H' → Q (.ref t) H'
theorem ok_held {f : Addr} {fd : FuncData} (F : Fun K "_law_held" "_law_held" sHe f fd) (T : Free mg) (W : HandF K mg fTk fPk dTk dPk) (G : GenF K mg fCe fWr fFo dCe dWr dFo) (U : TouchF K mg fTo dTo) (Z : HeldF K mg fFi fKi dFi dKi) : FnOk P w K mg base CX0 4 f fd ["_law_box_here", "_law_plan_here"] (spHe K) := by
  have GTk : FnOk P w K mg base CX0 1 fTk dTk ["_law_box_here", "_law_many"] spTake := ok_take W.Tk
  have GPk : FnOk P w K mg base CX0 2 fPk dPk ["_law_box_here", "_law_some"] (spPk K) := ok_pick W.Pk T W.Tk W.bTk W.gTk
  have GWr : FnOk P w K mg base CX0 3 fWr dWr ["_law_box_here", "_law_kind"] spWr := ok_worth G.Wr T W G.Ce G.bCe G.gCe
  have GFi : FnOk P w K mg base CX0 1 fFi dFi ["_law_plan_here"] (spFi K) := ok_first Z.Fi T
  have GKi : FnOk P w K mg base CX0 2 fKi dKi ["_law_plan_here"] (spKi K) := ok_kinds Z.Ki T U
  have FTk := W.Tk
  have bTk := W.bTk
  have gTk := W.gTk
  have FPk := W.Pk
  have bPk := W.bPk
  have gPk := W.gPk
  have FWr := G.Wr
  have bWr := G.bWr
  have gWr := G.gWr
  have FFi := Z.Fi
  have bFi := Z.bFi
  have gFi := Z.gFi
  have FKi := Z.Ki
  have bKi := Z.bKi
  have gKi := Z.gKi
  refine F.ok scHe (fun vs H Q E h => ?_) (fun cdv A outer s H vs Q E hr h => ?_)
  · obtain ⟨h, a, n, p, dds, ad, kn, rfl, _⟩ := h
    rfl
  · obtain ⟨h, a, n, p, dds, ad, kn, rfl, hd, nb, C, d8, q⟩ := h
    have A0 := C.pl
    refine ⟨_, pss_cons (ps_asg (pe_tup (pa_cons (pe_call GKi (hr.mono (by decide)) (by rfl) gKi FKi.kp bKi .nil pass0 (pa_cons (pv 1) pa_nil)) (pa_cons (pe_cmpR op_eq (pe_call GTk (hr.mono (by decide)) (by rfl) gTk FTk.kp bTk .nil pass0 (pa_cons (pv 0) (pa_cons pe_int pa_nil))) pe_int (nomark _)) pa_nil))) (pg_tup rfl (pgs_cons (pg_name (i := 2) scHe.nd rfl (Or.inr rfl)) (pgs_cons (pg_name (i := 3) scHe.nd rfl (Or.inl rfl)) pgs_nil))))
      (pss_cons (ps_setLc (i := 4) (own := [("_law_step", 6)]) (g := gName 6) (tt := (tTest (tOp rEq (tOp (rIxT K) (tVar 6) (tC (.int 1))) (tC (.str "fill"))))) rfl scHe.nd rfl rfl (sw_true rfl rfl rfl rfl) (pi_tup (pe_ix (ix_tupK (K := K) rfl) (pe_ix (ix_tupK (K := K) rfl) (pe_ix (ix_tupK (K := K) rfl) (pv 1) pe_int (fun _ _ => rfl)) pe_int (fun _ _ => rfl)) pe_int (fun _ _ => rfl))) (blkOk_by (own := [("_law_step", 6)]) (N := nHe) (sc := defScope sHe) (by decide +kernel)) (fun _ _ _ _ _ => (pg_name (i := 6) scHe.nd rfl (Or.inl rfl))) (fun _ _ _ _ _ => pts_one (pt_cmpR op_eq (pe_ix (ix_tupK (K := K) rfl) (pv 6) pe_int (fun _ _ => rfl)) pe_str (nomark _))) (fun _ _ _ _ _ => (pe_ix (ix_tupK (K := K) rfl) (pv 6) pe_int (fun _ _ => rfl))))
      (pss_cons (ps_setLc (i := 5) (own := [("_law_column", 7)]) (g := gName 7) (tt := tYes) rfl scHe.nd rfl rfl (sw_true rfl rfl rfl rfl) (pi_list (pv 4)) (blkOk_by (own := [("_law_column", 7)]) (N := nHe) (sc := defScope sHe) (by decide +kernel)) (fun _ _ _ _ _ => (pg_name (i := 7) scHe.nd rfl (Or.inl rfl))) (fun _ _ _ _ _ => pts_nil) (fun _ _ _ _ _ => (pe_lst (pa_cons pe_non (pa_cons (pe_call GWr (hr.mono (by decide)) (by rfl) gWr FWr.kp bWr .nil pass0 (pa_cons (pv 0) (pa_cons (pe_dget (u1 hr.units) (pv 2) (pv 7) (fun _ _ => rfl)) pa_nil))) pa_nil)))))
      (pss_one (ps_ret (pe_ifExp (pt_val (pv 3)) (pe_call GFi (hr.mono (by decide)) (by rfl) gFi FFi.kp bFi .nil pass0 (pa_cons (pv 1) pa_nil)) (pe_callTy call_tuple_of (by rfl) T.tuple (by decide +kernel) (pa_cons (pe_lc (own := [("_law_two", 8)]) (g := gName 8) (tt := tYes) rfl scHe.nd (pi_list (pv 5)) (blkOk_by (own := [("_law_two", 8)]) (N := nHe) (sc := defScope sHe) (by decide +kernel)) (fun _ _ _ _ _ => (pg_name (i := 8) scHe.nd rfl (Or.inl rfl))) (fun _ _ _ _ _ => pts_nil) (fun _ _ _ _ _ => (pe_call GPk (hr.mono (by decide)) (by rfl) gPk FPk.kp bPk .nil pass0 (pa_cons (pv 0) (pa_cons (pv 8) pa_nil))))) pa_nil))))))), ?_⟩
    refine ⟨_, rfl, a, p, dds, ad, kn, rfl, C, d8, fun R D H1 s1 eR kd => ?_⟩
    have hd1 := hd.mono s1 (Nat.le_refl _)
    refine ⟨_, rfl, h, n, 3, rfl, hd1, by omega, by decide, by decide, fun r H2 r0 r3 hd2 b2 => ⟨rfl, ?_⟩⟩
    refine ⟨(show 2 ≤ sizeLine by decide), fun t nt => newO nt fun H3 s3 e3 => ?_⟩
    refine ⟨t, _, rfl, SqT.of e3, rfl, _, _, rfl, gN ⟨_, _, rfl, gN ⟨rfl, ?_⟩⟩⟩
    dsimp only
    have C1 := C.same s1
    have C2 := C1.but hd1 b2
    have C3 := C2.same s3
    have A3 := C3.pl
    have lp : ad.ps.length ≤ 8 := by rw [← A0.dP.1]; exact d8
    have hd3 := hd2.mono s3 (Nat.le_refl _)
    have Rh : R ≠ h := tup_hand hd1 eR fun l z => nomatch z
    have eR3 := s3 _ _ (b2 _ _ Rh eR)
    obtain ⟨fs, hfs⟩ : ∃ fs, fs = fillsOf (dds.map (·.2)) := ⟨_, rfl⟩
    have lf : fs.length ≤ 8 := by
      have := fills_len (dds.map (·.2))
      rw [List.length_map] at this
      rw [hfs]
      omega
    have ndk : (kn.map (·.1)).Nodup := (List.nodup_cons.mp C.nd).2
    refine ⟨_, rfl, a, _, _, .ref ad.aT, rfl, rfl, SqT.of A3.e0, atI_nat (j := 1) rfl, ad.aT, _, _, .ref ad.aI, rfl, rfl, SqT.of A3.eT, atI_nat (j := 0) rfl, ad.aI, _, _, .ref ad.aP, rfl, rfl, SqT.of A3.eI, atI_nat (j := 2) rfl, ad.aP, rfl, ⟨_, SqT.of A3.eP⟩, fun D1 nD1 => ?_⟩
    refine lc_fm (walk_tup (K := K) (a := ad.aP) (xs := ad.ps.map V.ref)) (dds.map (·.2)) (fun d => match d with | .fill col _ => some (V.str col) | _ => none) (by simp [A0.dP.1]) nD1 (fun G sG => SqT.of (sG _ _ A3.eP)) (by simp; omega) ?_ ?_
    · rintro j d x G G' R' N hk sG ⟨rfl, hx⟩ keep drop
      rw [List.getElem?_map] at hx hk
      obtain ⟨qa, hq, rfl⟩ := Option.map_eq_some_iff.mp hx
      obtain ⟨dn, hdn, rfl⟩ := Option.map_eq_some_iff.mp hk
      obtain ⟨kn', ⟨vs, eq0, da, _⟩, _⟩ := A3.dP.2 j qa dn hq hdn
      obtain ⟨rs, rfl⟩ := at_word da
      refine gN ⟨rfl, ?_⟩
      refine ⟨_, rfl, qa, _, _, .str (wordOf dn.2), rfl, rfl, SqT.of (sG _ _ eq0), atI_nat (j := 1) rfl, rfl, _, rfl, ?_⟩
      rw [str_dec, word_fill]
      cases hd : dn.2 with
      | fill col keys =>
        rw [hd] at da
        obtain ⟨t, hvs, _⟩ := da
        cases hvs
        rw [hd] at eq0
        exact iteT ⟨_, rfl, qa, _, _, .str col, rfl, rfl, SqT.of (sG _ _ eq0), atI_nat (j := 2) rfl, keep _ (by rw [hd]) _ (Same.refl _)⟩
      | _ => exact iteF (drop (by rw [hd]) _ (Same.refl _))
    · intro H4 s4 e4
      rw [fills_names, ← hfs] at e4
      refine gN ?_
      dsimp only
      have hd4 := hd3.mono s4 (Nat.le_refl _)
      have Dh : D1 ≠ h := (hd3.fresh nD1).symm
      have eR4 := s4 _ _ eR3
      refine ⟨_, rfl, D1, rfl, ⟨_, SqL.of e4⟩, fun D2 nD2 => ?_⟩
      refine lc_map (walk_list (K := K) (a := D1) (xs := fs.map V.str)) (h := h) (Z := fun j x => ∃ z, x = V.str z ∧ fs[j]? = some z) (fun j G => HandAt G h (n + 1 + 2 * j)) (fun j y G => ∃ (t : Addr) (v : V), y = .ref t ∧ t ≠ h ∧ t ≠ D2 ∧ G t = some (.lst [.non, v]) ∧ ∀ col b, fs[j]? = some col → (col, b) ∈ kn → WorthOk b v) nD2 (hd4.fresh nD2).symm (fun j G x G' e => ⟨e.1, ?_⟩) (fun G bG => bG.seq Dh (SqL.of e4)) (fun j y G G' keep _ ⟨t, v, ey, n1, n2, e, g⟩ => ⟨t, v, ey, n1, n2, keep t _ n2 n1 e, g⟩) (by rw [List.length_map]; omega) (fun _ => rfl) hd4 (fun j G l a => a.old (hd4.fresh nD2)) ?_ ?_
      · have e2 := e.2
        rw [List.getElem?_map] at e2
        obtain ⟨z, hz2, e3⟩ := Option.map_eq_some_iff.mp e2
        exact ⟨z, e3.symm, hz2⟩
      · rintro j x G Q2 hj ⟨z, rfl, hz⟩ btG hdG ⟨lD, eD⟩ kk
        rw [List.length_map] at hj
        obtain ⟨b0, m0⟩ := fills_kn C.ch z (by rw [← hfs]; exact List.mem_of_getElem? hz)
        have eRG := btG _ _ Rh eR4
        have dg : DGet G R (.str z) (some (.str (kw b0))) := kd.v _ m0 ▸ DGet.k (k := tk z) eRG
        refine ⟨_, rfl, _, rfl, _, rfl, R, _, rfl, dg, h, _, b0, rfl, hdG, by omega, fun v H5 wv hd5 b5 => ?_⟩
        refine ⟨(show 2 ≤ sizeLine by decide), fun t nt => newO nt fun H6 s6 e6 => ?_⟩
        have eD5 : H5 D2 = some (.lst lD) := b5 _ _ (hd4.fresh nD2).symm eD
        refine kk _ _ (b5.trans (But.of s6)) (hd5.mono s6 (by omega)) ⟨t, v, rfl, (hd5.fresh nt).symm, fun q => (by rw [q, eD5] at nt; cases nt), e6, fun col b hc mb => ?_⟩
        rw [hz] at hc
        cases hc
        have := kind_one ndk m0 _ mb rfl
        cases (show b = b0 from this)
        exact wv
      · rintro H5 ys bt5 hd5 eD2 ly hw
        rw [List.length_map] at ly hd5
        refine gN ?_
        unfold tRet
        dsimp only
        have bf : But h H H5 := (((But.of s1).trans b2).trans (But.of (s3.trans s4))).trans bt5
        have C5 : PlanC H5 a p dds ad kn := (C3.same s4).but hd4 bt5
        refine ⟨_, rfl, _, rfl, ?_⟩
        by_cases c : V.int r = V.int 0
        · rw [decide_eq_true c]
          refine iteT ?_
          refine ⟨_, rfl, a, p, dds, ad, kn, rfl, C5, d8, fun t H' s' et => ?_⟩
          refine q t _ H' et ⟨by rw [List.length_map], fun i col v b h1 h2 m => ?_⟩ (hd5.mono s' (by omega)) (bf.trans (But.of s'))
          rw [List.getElem?_map, h1] at h2
          cases h2
          exact cell_non _ _
        · rw [decide_eq_false c]
          refine iteF ?_
          refine ⟨_, rfl, D2, rfl, ⟨_, SqL.of eD2⟩, fun D3 nD3 => ?_⟩
          have D2h : D2 ≠ h := (hd4.fresh nD2).symm
          refine lc_map (walk_list (K := K) (a := D2) (xs := ys)) (h := h) (Z := fun j x => ys[j]? = some x) (fun j G => HandAt G h (n + 1 + 2 * fs.length + j)) (fun j y G => ∀ col b, fs[j]? = some col → (col, b) ∈ kn → Cell 12 b y) nD3 (hd5.fresh nD3).symm (fun j G x G' e => e) (fun G bG => bG.seq D2h (SqL.of eD2)) (fun _ _ _ _ _ _ e => e) (by omega) (fun _ => rfl) hd5 (fun j G l a => a.old (hd5.fresh nD3)) ?_ ?_
          · rintro j x G Q2 hj hx btG hdG _ kk
            obtain ⟨t, v, rfl, n1, n2, et, wv⟩ := hw j x hx
            refine ⟨_, rfl, _, rfl, ?_⟩
            refine pick_old hdG (by omega) (SqL.of (btG _ _ n1 et)) n1 (show 0 < 2 by decide) (show 2 ≤ 1000 by decide) fun y H6 hy hd6 b6 => ?_
            refine kk _ _ b6 hd6 fun col b hc mb => ?_
            rcases List.mem_cons.mp hy with rfl | hy
            · exact cell_non _ _
            · rw [List.mem_singleton.mp hy]
              exact cell_worth (wv col b hc mb) (Nat.le_refl _)
          · rintro H6 zs bt6 hd6 eD3 lz hw2
            refine ⟨D3, _, rfl, .inl ⟨SqL.of eD3, fun t nt => newO nt fun H7 s7 e7 => ?_⟩⟩
            refine q t zs H7 e7 ⟨by rw [lz, ly, hfs], fun i col v b h1 h2 m => hw2 i v h2 col b (by rw [hfs]; exact h1) m⟩ (hd6.mono s7 (by omega)) ((bf.trans bt6).trans (But.of s7))
end
end K87
set_option Elab.async false
set_option linter.all false
set_option pp.maxSteps 4000
set_option maxRecDepth 100000
set_option maxHeartbeats 4000000
/-! k87: a row, told and due -/
namespace K87
open PySem PySem.Spec PyProof.Rows L2 Bs Xg TL Xm Xs Gn Gd Xu Xw Xk K86 K02
open K21 (tk os ov u1 Deed rowV txt fresh_same doneP)
abbrev sRR : Stmt := K21.top 56
/-- three parameters, told by their names from behind -/
def rev3 {α : Type} : List α → List α → List α
  | [], [a, b, c] => [c, b, a]
  | _, _ => []
theorem kb_rev3 {K : PySem.W.Frag} {x qual : Str} {st : Stmt} {f : Addr} {fd : FuncData} {p1 p2 p3 : Str} (F : Fun K x qual st f fd)
    (h : ∀ (kV doc pm : Value) (an : Option Addr) (cdv ct : Value) (a b c : Value), bindArgs (PySem.W.fnOf x qual (defArgs st) (defBody st) (defScope st) .none kV doc pm an cdv ct) ⟨[], [(p3, a), (p2, b), (p1, c)]⟩ = pure [(p1, c), (p2, b), (p3, a)]) :
    KBinds K fd [p1, p2, p3] [p3, p2, p1] rev3 rev3 := by
  obtain ⟨oc, od, kV, doc, pm, an, cdv, ct, osl, rfl, lk, hcd⟩ := F.ex
  constructor
  · intro s us ws _ hl
    match us, ws, hl with
    | [], [a, b, c], _ => exact .of_eq (h kV doc pm an cdv ct a b c)
    | [], [], hl => exact absurd hl (by simp [rev3])
    | [], [_], hl => exact absurd hl (by simp [rev3])
    | [], [_, _], hl => exact absurd hl (by simp [rev3])
    | [], _ :: _ :: _ :: _ :: _, hl => exact absurd hl (by simp [rev3])
    | _ :: _, _, hl => exact absurd hl (by simp [rev3])
  · intro vs us zs ws h1 h2
    cases h1 with
    | nil =>
      cases h2 with
      | nil => exact .nil
      | cons a h2 =>
        cases h2 with
        | nil => exact .nil
        | cons b h2 =>
          cases h2 with
          | nil => exact .nil
          | cons c h2 =>
            cases h2 with
            | nil => exact .cons c (.cons b (.cons a .nil))
            | cons d h2 => exact .nil
    | cons a h1 =>
      cases h2 with
      | nil => exact .nil
      | cons b h2 => exact .nil
/-! ### as data -/
theorem cell_data {K : PySem.W.Frag} {H : Hp} {L : Nat} {b : Bool} {v : V} (h : Cell L b v) : Dr K H v (vd v) ∧ Sh (vd v) (L + 41) 1 := by
  cases b with
  | true =>
    obtain ⟨e, g⟩ := cell_isTxt h
    rw [e]
    cases hx : txt v with
    | none => exact ⟨.q .non, sh_non.up (by omega) (by decide)⟩
    | some z => exact ⟨.q (.str z), (sh_str (g z hx)).up (by omega) (by decide)⟩
  | false =>
    rcases cell_isNum h with rfl | ⟨i, rfl, hi⟩
    · exact ⟨.q .non, sh_non.up (by omega) (by decide)⟩
    · exact ⟨.q (.int i), (sh_int hi).up (by omega) (by decide)⟩
theorem cells_dr {K : PySem.W.Frag} {H : Hp} {L : Nat} {t : Addr} {vs : List V} (e : SqT K H t vs) (h : ∀ v ∈ vs, ∃ b, Cell L b v) : Dr K H (.ref t) (.tuple (vs.map vd)) := by
  have e1 : vs = (vs.map fun v => (v, vd v)).map (·.1) := by simp [Function.comp_def]
  have e2 : vs.map vd = (vs.map fun v => (v, vd v)).map (·.2) := by simp [Function.comp_def]
  rw [e2]
  refine .tup _ (by rw [← e1]; exact e) fun p hp => ?_
  obtain ⟨v, hv, rfl⟩ := List.mem_map.mp hp
  obtain ⟨b, c⟩ := h v hv
  exact (cell_data c).1
theorem cells_sh {L n : Nat} {vs : List V} (h : ∀ v ∈ vs, ∃ b, Cell L b v) (l : vs.length ≤ n) : Sh (.tuple (vs.map vd)) (n * (L + 42) + 1) 2 :=
  sh_tuple (w := L + 41) (k := 1) (mem_map_td fun v hv => by
    obtain ⟨b, c⟩ := h v hv
    exact (cell_data (K := default) (H := fun _ => none) c).2) (by rw [List.length_map]; exact l)
theorem sh_two {a b : PyData} {u w k : Nat} (h : Sh a u k) (g : Sh b w k) : Sh (.tuple [a, b]) (u + w + 3) (k + 1) := by
  obtain ⟨a1, a2, a3, a4⟩ := h
  obtain ⟨b1, b2, b3, b4⟩ := g
  refine ⟨?_, ?_, ?_, ?_⟩
  · simp only [PyData.leavesShort, PyData.leavesShortAll, a1, b1]
    rfl
  · simp only [PyData.showable, PyData.showableAll, a2, b2]
    rfl
  · simp only [PyData.depth, PyData.depthAll]
    omega
  · simp only [PyData.weight, PyData.weightAll]
    omega
theorem sh_three {a b c : PyData} {u w x k : Nat} (h : Sh a u k) (g : Sh b w k) (f : Sh c x k) : Sh (.tuple [a, b, c]) (u + w + x + 4) (k + 1) := by
  obtain ⟨a1, a2, a3, a4⟩ := h
  obtain ⟨b1, b2, b3, b4⟩ := g
  obtain ⟨c1, c2, c3, c4⟩ := f
  refine ⟨?_, ?_, ?_, ?_⟩
  · simp only [PyData.leavesShort, PyData.leavesShortAll, a1, b1, c1]
    rfl
  · simp only [PyData.showable, PyData.showableAll, a2, b2, c2]
    rfl
  · simp only [PyData.depth, PyData.depthAll]
    omega
  · simp only [PyData.weight, PyData.weightAll]
    omega
theorem sh_bool (b : Bool) : Sh (.bool b) 2 1 := by
  cases b <;> exact ⟨rfl, rfl, by simp [PyData.depth], by simp [PyData.weight]⟩
/-- what is told, as data -/
def resD (W : Wk) : PyData := .tuple [.tuple [.tuple ((W.row.map (·.2)).map vd), .bool W.st], .tuple (W.bh.map vd)]
def WGood (W : Wk) : Prop := (∀ v ∈ W.row.map (·.2), ∃ b, Cell 57342 b v) ∧ W.row.length ≤ 9 ∧ (∀ v ∈ W.bh, ∃ b, Cell 57342 b v) ∧ W.bh.length ≤ 8
theorem res_dr {K : PySem.W.Frag} {H : Hp} {t : Addr} {W : Wk} (h : OnRes H t W) (g : WGood W) : Dr K H (.ref t) (resD W) := by
  obtain ⟨r, b, c, et, er, ec, eb⟩ := h
  have d1 := cells_dr (K := K) (SqT.of ec) g.1
  have d2 := cells_dr (K := K) (SqT.of eb) g.2.2.1
  have d3 : Dr K H (.ref r) (.tuple [.tuple ((W.row.map (·.2)).map vd), .bool W.st]) := .tup [(.ref c, _), (.bl W.st, _)] (SqT.of er) fun p hp => by
    simp only [List.mem_cons, List.not_mem_nil, or_false] at hp
    rcases hp with rfl | rfl
    · exact d1
    · exact .q (.bl _)
  exact .tup [(.ref r, _), (.ref b, _)] (SqT.of et) fun p hp => by
    simp only [List.mem_cons, List.not_mem_nil, or_false] at hp
    rcases hp with rfl | rfl
    · exact d3
    · exact d2
theorem res_sh {W : Wk} (g : WGood W) : Sh (resD W) 1000000 4 := by
  have s1 := cells_sh g.1 (n := 9) (by rw [List.length_map]; exact g.2.1)
  have s2 := cells_sh g.2.2.1 (n := 8) g.2.2.2
  exact (sh_two (sh_two s1 ((sh_bool W.st).up (Nat.le_refl _) (by decide))) (s2.up (Nat.le_refl _) (by decide))).up (by decide) (by decide)
theorem plan_dr {K : PySem.W.Frag} {H : Hp} {a : Addr} {p : PlanD} {dds : List (Str × Dd)} {ad : PA} (h : PlanAt H a p dds ad) (e : p.steps = dds.map fun d => d.2.step d.1) : Dr K H (.ref a) p.prog.data := by
  have t1 : TD H (.ref ad.s0) p.src := TD.mk h.e1 ⟨.str _, TD.mk h.eh (h.dh.app ⟨TD.mk h.eC (.strs _), trivial⟩), trivial⟩
  have t2 : TD H (.ref ad.aT) (.tuple [p.prog.tab]) := by
    refine TD.mk h.eT ⟨TD.mk h.eI ⟨.str _, TD.mk h.eO ⟨.str _, .str _, trivial⟩, TD.mk h.eP ?_, h.eB, trivial⟩, trivial⟩
    show TDs H _ (p.steps.map StepD.data)
    rw [e]
    exact (dds_td h.dP).1
  have d1 : Dr K H (.ref ad.aS) (.tuple [p.src]) := .tup [(.ref ad.s0, _)] h.sq fun q hq => by
    rw [List.mem_singleton.mp hq]
    exact t1.dr
  exact .tup [(.ref ad.aS, _), (.ref ad.aT, _)] (SqT.of h.e0) fun q hq => by
    simp only [List.mem_cons, List.not_mem_nil, or_false] at hq
    rcases hq with rfl | rfl
    · exact d1
    · exact t2.dr
/-- the arguments, as data -/
def argD (p : PlanD) (held cells : List V) : PyData := .tuple [p.prog.data, .tuple (held.map vd), .tuple (cells.map vd)]
theorem held_cells {kn : List (Str × Bool)} {ds : List Dd} {kn0 : List (Str × Bool)} {held : List V} (c : Chain kn0 ds kn) (h : HeldOk kn ds held) : ∀ v ∈ held, ∃ b, Cell 12 b v := by
  intro v hv
  obtain ⟨i, hi⟩ := List.mem_iff_getElem?.mp hv
  have hl := (List.getElem?_eq_some_iff.mp hi).1
  have hf : i < (fillsOf ds).length := by rw [← h.1]; exact hl
  obtain ⟨b, hb⟩ := fills_kn c _ (List.getElem_mem hf)
  exact ⟨b, h.2 i _ v b (List.getElem?_eq_getElem hf) hi hb⟩
theorem way_ok {K : PySem.W.Frag} {H : Hp} {a hs wt : Addr} {p : PlanD} {dds : List (Str × Dd)} {ad : PA} {kn : List (Str × Bool)} {held cells : List V} (O : OnArg K H a hs wt p dds ad kn held cells) (d8 : dds.length ≤ 8) : WGood (wayOf p dds held cells) := by
  have ndk : (kn.map (·.1)).Nodup := by
    have := (List.nodup_cons.mp O.fr).2
    rwa [List.nil_append] at this
  have hrow0 : RowAt 12 (p.cols.map fun z => (z, true)) (rowOf p.cols cells) := row_of O.cl O.cg
  obtain ⟨rr, hrr⟩ := chain_grow O.ch
  have nd0 : ((p.cols.map fun z => (z, true)).map (·.1)).Nodup := by
    have := ndk
    rw [hrr, List.map_append] at this
    exact (List.nodup_append.mp this).1
  have go : ∀ j, j ≤ (dds.map (·.2)).length → ∃ kj, WOk (p.cols.map fun z => (z, true)) kn (dds.map (·.2)) held j kj (goW held ((dds.map (·.2)).take j) (start p cells)) := by
    intro j
    induction j with
    | zero => exact fun _ => ⟨_, ⟨rfl, hrow0.up (LB_ge _), nd0, by rw [List.length_map]; exact O.ok.c1, rfl, fun v hv => nomatch hv⟩⟩
    | succ j ih =>
      intro hj
      obtain ⟨kj, wk⟩ := ih (by omega)
      have hd : (dds.map (·.2))[j]? = some (dds.map (·.2))[j] := List.getElem?_eq_getElem (by omega)
      have tk1 : (dds.map (·.2)).take (j + 1) = (dds.map (·.2)).take j ++ [(dds.map (·.2))[j]] := by rw [List.take_succ, hd]; rfl
      rw [tk1, goW_snoc]
      exact ⟨_, wk.step O.ch ndk O.ho hd⟩
  obtain ⟨kj, wk⟩ := go _ (Nat.le_refl _)
  rw [List.take_length] at wk
  have wch := wk.ch
  rw [List.take_length] at wch
  cases chain_one wch O.ch
  have bl := wk.bl
  rw [List.take_length] at bl
  have fl := fills_len (dds.map (·.2))
  rw [List.length_map] at fl
  refine ⟨fun v hv => ?_, ?_, wk.bg, ?_⟩
  · have := row_snd wk.row ndk
    rw [show wayOf p dds held cells = goW held (dds.map (·.2)) (start p cells) from rfl, ← this] at hv
    obtain ⟨c, hc, rfl⟩ := List.mem_map.mp hv
    exact ⟨c.2, ((wk.row.cell ndk hc).2).up (LB_max _)⟩
  · have := wk.row.len
    show (goW held (dds.map (·.2)) (start p cells)).row.length ≤ 9
    have := O.l9
    omega
  · show (goW held (dds.map (·.2)) (start p cells)).bh.length ≤ 8
    omega
theorem arg_sh {K : PySem.W.Frag} {H : Hp} {a hs wt : Addr} {p : PlanD} {dds : List (Str × Dd)} {ad : PA} {kn : List (Str × Bool)} {held cells : List V} (O : OnArg K H a hs wt p dds ad kn held cells) (d8 : dds.length ≤ 8) : Sh (argD p held cells) 700000 10 := by
  have s1 := ProgD.sh (PlanD.prog_ok O.ok (by decide) (by decide))
  have hl : held.length ≤ 8 := by
    have := fills_len (dds.map (·.2))
    rw [List.length_map] at this
    have := O.ho.1
    omega
  have s2 := cells_sh (held_cells O.ch O.ho) hl
  have s3 := cells_sh (L := 12) (vs := cells) (n := 3) (fun v hv => ⟨true, O.cg v hv⟩) (by rw [O.cl]; exact O.ok.c3)
  exact (sh_three s1 (s2.up (Nat.le_refl _) (by decide)) (s3.up (Nat.le_refl _) (by decide))).up (by decide) (by decide)
theorem OnArg.same {K : PySem.W.Frag} {H H' : Hp} {a hs wt : Addr} {p : PlanD} {dds : List (Str × Dd)} {ad : PA} {kn : List (Str × Bool)} {held cells : List V} (O : OnArg K H a hs wt p dds ad kn held cells) (s : Same H H') : OnArg K H' a hs wt p dds ad kn held cells :=
  ⟨O.pl.keep (Tst.of s) fun b o u e => s _ _ e, O.ok, O.ch, O.l9, O.fr, sameT s O.eh, sameT s O.ec, O.ho, O.cl, O.cg⟩
theorem arg_dr {K : PySem.W.Frag} {H : Hp} {a hs wt t : Addr} {p : PlanD} {dds : List (Str × Dd)} {ad : PA} {kn : List (Str × Bool)} {held cells : List V} (O : OnArg K H a hs wt p dds ad kn held cells) (e : p.steps = dds.map fun d => d.2.step d.1) (et : H t = some (.tup [.ref a, .ref hs, .ref wt])) : Dr K H (.ref t) (argD p held cells) :=
  .tup [(.ref a, _), (.ref hs, _), (.ref wt, _)] (SqT.of et) fun q hq => by
    simp only [List.mem_cons, List.not_mem_nil, or_false] at hq
    rcases hq with rfl | rfl | rfl
    · exact plan_dr O.pl e
    · exact cells_dr O.eh (held_cells O.ch O.ho)
    · exact cells_dr O.ec fun v hv => ⟨true, O.cg v hv⟩
structure OnF (K : PySem.W.Frag) (mg : Str → Option Value) (fOn fLO fDn : Addr) (dOn dLO dDn : FuncData) : Prop where
  On : Fun K "onward" "onward" sOn fOn dOn
  bOn : Binds K dOn ["program", "state", "worths"] []
  kOn : KBinds K dOn ["program", "state", "worths"] ["worths", "state", "program"] rev3 rev3
  gOn : mg "onward" = some (.ref fOn)
  LO : Fun K "_law_onward" "_law_onward" sLO fLO dLO
  bLO : Binds K dLO ["_law_plan_here", "_law_held_here", "_law_cells_here"] []
  gLO : mg "_law_onward" = some (.ref fLO)
  Dn : Fun K "done" "done" K21.sDn fDn dDn
  bDn : Binds K dDn ["step", "worths"] []
  gDn : mg "done" = some (.ref fDn)
section
variable {P : Program} {w : World} {K : PySem.W.Frag} {mg : Str → Option Value} {base : Heap} {fTo fDid fCt fLNu fLF fLDy fTc fOn fLO fDn : Addr} {dTo dDid dCt dLNu dLF dLDy dTc dOn dLO dDn : FuncData}
abbrev nRR : List Str := ["_law_plan_here", "_law_held_here", "_law_cells_here", "_law_kept", "_law_due", "_law_told"]
theorem scRR : FnScope nRR ["_law_plan_here", "_law_held_here", "_law_cells_here"] (defScope sRR) := ⟨rfl, rfl, rfl, by decide +kernel, rfl, by decide +kernel, by decide +kernel⟩
def spRR (K : PySem.W.Frag) : Sp := fun vs H Q _ => ∃ (a hs wt : Addr) (p : PlanD) (dds : List (Str × Dd)) (ad : PA) (kn : List (Str × Bool)) (held cells : List V), vs = [.ref a, .ref hs, .ref wt] ∧ OnArg K H a hs wt p dds ad kn held cells ∧ dds.length ≤ 8 ∧ (p.steps = dds.map fun d => d.2.step d.1) ∧ ∀ H', Same H H' → Q (.bl true) H'
theorem ok_row {f : Addr} {fd : FuncData} (F : Fun K "_law_row_right" "_law_row_right" sRR f fd) (T : Free mg) (sm : ∃ mm, base.Ns sysModules mm) (U : TouchF K mg fTo dTo) (W : DidF K mg fDid fCt fLNu fLF fLDy fTc dDid dCt dLNu dLF dLDy dTc) (D : OnF K mg fOn fLO fDn dOn dLO dDn)
    (GDn : FnOk P w K mg base CX0 8 fDn dDn ["step", "worths"] (K21.spDn K)) : FG P w K mg base 10 f fd ["_law_plan_here", "_law_held_here", "_law_cells_here"] (spRR K) := by
  have GOn : FnOk P w K mg base CX0 9 fOn dOn ["program", "state", "worths"] (spOn K) := ok_onward D.On T GDn D.Dn D.bDn D.gDn
  have GLO : FnOk P w K mg base CX0 5 fLO dLO ["_law_plan_here", "_law_held_here", "_law_cells_here"] (spLO K) := ok_lonward D.LO T U W
  have FOn := D.On
  have bOn := D.bOn
  have kOn := D.kOn
  have gOn := D.gOn
  have FLO := D.LO
  have bLO := D.bLO
  have gLO := D.gLO
  refine okG F scRR (fun vs H Q E h => ?_) (fun cdv A outer s H vs Q E ng hr h => ?_)
  · obtain ⟨a, hs, wt, p, dds, ad, kn, held, cells, rfl, _⟩ := h
    rfl
  · obtain ⟨a, hs, wt, p, dds, ad, kn, held, cells, rfl, O, d8, es, q⟩ := h
    have sa := arg_sh O d8
    have gw := way_ok O d8
    have sr := res_sh gw
    have depA : (argD p held cells).depth < 60 := Nat.lt_of_le_of_lt sa.2.2.1 (by decide)
    have lenA : (argD p held cells).shown.length ≤ sizeLine := PyData.shown_fits (by decide) (by decide) sa.1 (Nat.le_trans sa.2.2.2 (by decide))
    have depR : (resD (wayOf p dds held cells)).depth < 60 := Nat.lt_of_le_of_lt sr.2.2.1 (by decide)
    have lenR : (resD (wayOf p dds held cells)).shown.length ≤ sizeLine := PyData.shown_fits (by decide) (by decide) sr.1 (Nat.le_trans sr.2.2.2 (by decide))
    refine ⟨_, pss_cons (ps_par (i := 3) (j := 4) rfl scRR.nd rfl rfl (by decide) rfl rfl (pa_cons (pe_callB (call_reprZ (K := K) rfl ng hr.units sm) (by rfl) T.repr (by decide +kernel) (pa_cons (pe_tup (pa_cons (pv 0) (pa_cons (pv 1) (pa_cons (pv 2) pa_nil)))) pa_nil)) (pa_cons (pe_callB (call_reprZ (K := K) rfl ng hr.units sm) (by rfl) T.repr (by decide +kernel) (pa_cons (pe_call GLO (hr.mono (by decide)) (by rfl) gLO FLO.kp bLO .nil pass0 (pa_cons (pv 0) (pa_cons (pv 1) (pa_cons (pv 2) pa_nil)))) pa_nil)) pa_nil)) (by rfl))
      (pss_cons (ps_set (i := 5) scRR.nd rfl (Or.inl rfl) (pe_lst (pa_cons (pe_callB (call_reprZ (K := K) rfl ng hr.units sm) (by rfl) T.repr (by decide +kernel) (pa_cons (pe_call GOn (hr.mono (by decide)) (by rfl) gOn FOn.kp bOn .nil pass0 (pa_cons (pv 0) (pa_cons (pv 1) (pa_cons (pv 2) pa_nil)))) pa_nil)) pa_nil)))
      (pss_cons (ps_expr (pe_bmK (K := K) rfl PySem.F.plainAttrs_list PySem.F.slot_list_append PySem.F.type_list_append mt_append (pv 5) (pa_cons (pe_callB (call_reprZ (K := K) rfl ng hr.units sm) (by rfl) T.repr (by decide +kernel) (pa_cons (callK0 GOn (hr.mono (by decide)) (by rfl) gOn FOn.kp kOn pass0 (pk_cons (pv 2) (pk_cons (pv 1) (pk_cons (pv 0) pk_nil)))) pa_nil)) pa_nil)))
      (pss_cons (ps_expr (pe_bmK (K := K) rfl PySem.F.plainAttrs_list PySem.F.slot_list_append PySem.F.type_list_append mt_append (pv 5) (pa_cons (pe_callB (call_reprZ (K := K) rfl ng hr.units sm) (by rfl) T.repr (by decide +kernel) (pa_cons (pe_call GOn (hr.mono (by decide)) (by rfl) gOn FOn.kp bOn .nil pass0 (pa_cons (pv 0) (pa_cons (pv 1) (pa_cons (pv 2) pa_nil)))) pa_nil)) pa_nil)))
      (pss_one (ps_ret (pe_and (pe_cmpR (op_eqV hr.units) (pv 5) (pe_op op_rep (pe_lst (pa_cons (pv 4) pa_nil)) pe_int) (nomark _)) (pe_one (pe_cmpR op_eq (pe_callB (call_reprZ (K := K) rfl ng hr.units sm) (by rfl) T.repr (by decide +kernel) (pa_cons (pe_tup (pa_cons (pv 0) (pa_cons (pv 1) (pa_cons (pv 2) pa_nil)))) pa_nil)) (pv 3) (nomark _))))))))), ?_⟩
    refine ⟨_, rfl, _, rfl, _, rfl, (show 3 ≤ sizeLine by decide), fun t1 n1 => newO n1 fun H1 s1 e1 => ?_⟩
    refine ⟨.ref t1, _, rfl, arg_dr (O.same s1) es e1, rfl, sa.2.1, depA, lenA, ?_⟩
    refine ⟨_, rfl, _, rfl, _, rfl, a, hs, wt, p, dds, ad, kn, held, cells, rfl, O.same s1, d8, fun t2 H2 s2 res2 => ?_⟩
    refine ⟨.ref t2, _, rfl, res_dr res2 gw, rfl, sr.2.1, depR, lenR, ?_⟩
    refine ⟨_, _, rfl, ?_⟩
    dsimp only
    have s12 := s1.trans s2
    refine ⟨_, rfl, _, rfl, _, rfl, a, hs, wt, p, dds, ad, kn, held, cells, rfl, O.same s12, fun t3 H3 s3 res3 => ?_⟩
    refine ⟨.ref t3, _, rfl, res_dr res3 gw, rfl, sr.2.1, depR, lenR, ?_⟩
    refine ⟨(show 1 ≤ sizeLine by decide), fun L nL => newO nL fun H4 s4 e4 => ?_⟩
    refine gN ?_
    dsimp only
    have s13 := s12.trans s3
    have HL : H L = none := fresh_same s13 nL
    have s14 := s13.trans s4
    refine ⟨_, rfl, .inl ⟨rfl, _, SqL.of e4⟩, _, rfl, _, rfl, _, rfl, a, hs, wt, p, dds, ad, kn, held, cells, rfl, O.same s14, fun t5 H5 s5 res5 => ?_⟩
    refine ⟨.ref t5, _, rfl, res_dr res5 gw, rfl, sr.2.1, depR, lenR, ?_⟩
    refine ⟨L, _, _, rfl, rfl, s5 _ _ e4, (show 1 < sizeLine by decide), ?_⟩
    have e6 : upd H5 L (.lst ([V.str (resD (wayOf p dds held cells)).shown] ++ [V.str (resD (wayOf p dds held cells)).shown])) L = _ := upd_same
    have s16 : Same H (upd H5 L (.lst ([V.str (resD (wayOf p dds held cells)).shown] ++ [V.str (resD (wayOf p dds held cells)).shown]))) := stay_old (s14.trans s5) HL
    generalize upd H5 L (.lst ([V.str (resD (wayOf p dds held cells)).shown] ++ [V.str (resD (wayOf p dds held cells)).shown])) = H6 at e6 s16 ⊢
    refine ⟨_, rfl, .inl ⟨rfl, _, SqL.of e6⟩, _, rfl, _, rfl, _, rfl, a, hs, wt, p, dds, ad, kn, held, cells, rfl, O.same s16, fun t7 H7 s7 res7 => ?_⟩
    refine ⟨.ref t7, _, rfl, res_dr res7 gw, rfl, sr.2.1, depR, lenR, ?_⟩
    refine ⟨L, _, _, rfl, rfl, s7 _ _ e6, (show 2 < sizeLine by decide), ?_⟩
    have e8 : upd H7 L (.lst ([V.str (resD (wayOf p dds held cells)).shown] ++ [V.str (resD (wayOf p dds held cells)).shown] ++ [V.str (resD (wayOf p dds held cells)).shown])) L = _ := upd_same
    have s18 : Same H (upd H7 L (.lst ([V.str (resD (wayOf p dds held cells)).shown] ++ [V.str (resD (wayOf p dds held cells)).shown] ++ [V.str (resD (wayOf p dds held cells)).shown]))) := stay_old (s16.trans s7) HL
    generalize upd H7 L (.lst ([V.str (resD (wayOf p dds held cells)).shown] ++ [V.str (resD (wayOf p dds held cells)).shown] ++ [V.str (resD (wayOf p dds held cells)).shown])) = H8 at e8 s18 ⊢
    unfold tRet
    dsimp only
    refine ⟨_, rfl, _, rfl, (show 1 ≤ sizeLine by decide), fun L2 n2 => newO n2 fun H9 s9 e9 => ?_⟩
    refine ⟨L2, 3, _, rfl, rfl, e9, by decide, by decide, (show 3 ≤ sizeLine by decide), fun L3 n3 => newO n3 fun H10 s10 e10 => ?_⟩
    have sx : ∀ z : Str, _root_.L2.EqV K H10 1 (V.str z) (V.str z) := fun z => .inl ⟨rfl, rfl⟩
    refine ⟨1, by decide, .inl ⟨L, L3, _, _, rfl, rfl, SqL.of (s10 _ _ (s9 _ _ e8)), SqL.of e10, .cons (sx _) (.cons (sx _) (.cons (sx _) .nil))⟩, ?_⟩
    refine ⟨_, rfl, iteT ?_⟩
    have s20 := (s18.trans s9).trans s10
    refine ⟨_, rfl, _, rfl, _, rfl, (show 3 ≤ sizeLine by decide), fun t11 n11 => newO n11 fun H11 s11 e11 => ?_⟩
    have s21 := s20.trans s11
    refine ⟨.ref t11, _, rfl, arg_dr (O.same s21) es e11, rfl, sa.2.1, depA, lenA, _, rfl, rfl, ?_⟩
    rw [decide_eq_true rfl]
    exact q _ s21
end
end K87
set_option Elab.async false
set_option linter.all false
set_option pp.maxSteps 4000
set_option maxRecDepth 100000
set_option maxHeartbeats 4000000
/-! k87: the law -/
namespace K87
open PySem PySem.Spec PyProof.Rows L2 Bs Xg TL Xm Xs Gn Gd Xu Xw Xk K86 K02
open K21 (tk os ov u1 Deed rowV txt fresh_same doneP)
abbrev sLaw : Stmt := K21.top 57
structure LawF (K : PySem.W.Frag) (mg : Str → Option Value) (fBx fPl fHe fRR : Addr) (dBx dPl dHe dRR : FuncData) : Prop where
  Bx : Fun K "_law_box" "_law_box" sBx fBx dBx
  bBx : Binds K dBx ["_law_script", "_law_k"] []
  gBx : mg "_law_box" = some (.ref fBx)
  Pl : Fun K "_law_plan" "_law_plan" sPl fPl dPl
  bPl : Binds K dPl ["_law_box_here", "_law_most"] []
  gPl : mg "_law_plan" = some (.ref fPl)
  He : Fun K "_law_held" "_law_held" sHe fHe dHe
  bHe : Binds K dHe ["_law_box_here", "_law_plan_here"] []
  gHe : mg "_law_held" = some (.ref fHe)
  RR : Fun K "_law_row_right" "_law_row_right" sRR fRR dRR
  bRR : Binds K dRR ["_law_plan_here", "_law_held_here", "_law_cells_here"] []
  gRR : mg "_law_row_right" = some (.ref fRR)
def someV : List V := cells.map V.str ++ [.non, .non, .non]
theorem some_cell : ∀ y ∈ someV, Cell 12 true y := by
  intro y hy
  rcases List.mem_append.mp hy with hy | hy
  · obtain ⟨z, hz, rfl⟩ := List.mem_map.mp hy
    exact cell_txt (x := some z) fun u e => by cases e; exact cells_good z hz
  · simp only [List.mem_cons, List.not_mem_nil, or_false, or_self] at hy
    rw [hy]
    exact cell_non _ _
section
variable {P : Program} {w : World} {K : PySem.W.Frag} {mg : Str → Option Value} {base : Heap} {fTk fPk : Addr} {dTk dPk : FuncData} {fCe fWr fFo : Addr} {dCe dWr dFo : FuncData}
variable {fBx fPl fHe fRR : Addr} {dBx dPl dHe dRR : FuncData}
abbrev nLaw : List Str := ["_law_script", "_law_k", "_law_box_here", "_law_turn", "_law_plan_here", "_law_columns", "_law_some", "_law_again", "_law_cells_here", "_law_column"]
theorem scLaw : FnScope nLaw ["_law_script"] (defScope sLaw) := ⟨rfl, rfl, rfl, by decide +kernel, rfl, by decide +kernel, by decide +kernel⟩
def spLaw (K : PySem.W.Frag) : Sp := fun vs H Q _ => ∃ (a : Addr) (ns : List Int), vs = [.ref a] ∧ SqL K H a (ns.map V.int) ∧ ns.length ≤ 63 ∧ ∀ H', Q (.bl true) H'
theorem ok_law {f : Addr} {fd : FuncData} (F : Fun K "law" "law" sLaw f fd) (T : Free mg) (W : HandF K mg fTk fPk dTk dPk) (G : GenF K mg fCe fWr fFo dCe dWr dFo) (D : LawF K mg fBx fPl fHe fRR dBx dPl dHe dRR)
    (GPl : FnOk P w K mg base CX0 6 fPl dPl ["_law_box_here", "_law_most"] spPl) (GHe : FnOk P w K mg base CX0 4 fHe dHe ["_law_box_here", "_law_plan_here"] (spHe K)) (GRR : FG P w K mg base 10 fRR dRR ["_law_plan_here", "_law_held_here", "_law_cells_here"] (spRR K)) :
    FG P w K mg base 11 f fd ["_law_script"] (spLaw K) := by
  have GBx : FnOk P w K mg base CX0 1 fBx dBx ["_law_script", "_law_k"] (spHand K) := ok_box D.Bx T
  have GPk : FnOk P w K mg base CX0 2 fPk dPk ["_law_box_here", "_law_some"] (spPk K) := ok_pick W.Pk T W.Tk W.bTk W.gTk
  have GCe : FnOk P w K mg base CX0 1 fCe dCe [] spCe := ok_cells G.Ce
  have FBx := D.Bx
  have bBx := D.bBx
  have gBx := D.gBx
  have FPl := D.Pl
  have bPl := D.bPl
  have gPl := D.gPl
  have FHe := D.He
  have bHe := D.bHe
  have gHe := D.gHe
  have FRR := D.RR
  have bRR := D.bRR
  have gRR := D.gRR
  have FPk := W.Pk
  have bPk := W.bPk
  have gPk := W.gPk
  have FCe := G.Ce
  have bCe := G.bCe
  have gCe := G.gCe
  refine okG F scLaw (fun vs H Q E h => ?_) (fun cdv A outer s H vs Q E ng hr h => ?_)
  · obtain ⟨a, ns, rfl, _⟩ := h
    rfl
  · obtain ⟨a, ns, rfl, hS, hl, q⟩ := h
    refine ⟨_, pss_cons (ps_for PassesOwn.never rfl (pi_range1 (by rfl) T.range (pa_cons (pe_op op_add pe_int (pe_callB (call_len_seqK (K := K) rfl) (by rfl) T.len PySem.boot_len (pa_cons (pe_slice sl_list (pv 0) po_none (po_some pe_int)) pa_nil))) pa_nil)) (pg_name (i := 1) scLaw.nd rfl (Or.inl rfl)) (pss_cons (ps_set (i := 2) scLaw.nd rfl (Or.inr rfl) (pe_call GBx (hr.mono (by decide)) (by rfl) gBx FBx.kp bBx .nil pass0 (pa_cons (pv 0) (pa_cons (pv 1) pa_nil))))
      (pss_one (ps_for PassesOwn.never rfl (pi_range1 (by rfl) T.range (pa_cons pe_int pa_nil)) (pg_name (i := 3) scLaw.nd rfl (Or.inl rfl)) (pss_cons (ps_set (i := 4) scLaw.nd rfl (Or.inl rfl) (pe_call GPl (hr.mono (by decide)) (by rfl) gPl FPl.kp bPl .nil pass0 (pa_cons (pv 2) (pa_cons pe_int pa_nil))))
      (pss_cons (ps_asg (pe_tup (pa_cons (pe_ix (ix_tupK (K := K) rfl) (pe_ix (ix_tupK (K := K) rfl) (pe_ix (ix_tupK (K := K) rfl) (pe_ix (ix_tupK (K := K) rfl) (pv 4) pe_int (fun _ _ => rfl)) pe_int (fun _ _ => rfl)) pe_int (fun _ _ => rfl)) (pe_un un_neg pe_int) (fun _ _ => rfl)) (pa_cons (pe_op op_cat (pe_call0 GCe (hr.mono (by decide)) (by rfl) gCe FCe.kp bCe .nil pass0) (pe_lst (pa_cons pe_non (pa_cons pe_non (pa_cons pe_non pa_nil))))) pa_nil))) (pg_tup rfl (pgs_cons (pg_name (i := 5) scLaw.nd rfl (Or.inl rfl)) (pgs_cons (pg_name (i := 6) scLaw.nd rfl (Or.inr rfl)) pgs_nil))))
      (pss_one (ps_for PassesOwn.never rfl (pi_range1 (by rfl) T.range (pa_cons pe_int pa_nil)) (pg_name (i := 7) scLaw.nd rfl (Or.inl rfl)) (pss_cons (ps_set (i := 8) scLaw.nd rfl (Or.inl rfl) (pe_callTy call_tuple_of (by rfl) T.tuple (by decide +kernel) (pa_cons (pe_lc (own := [("_law_column", 9)]) (g := gName 9) (tt := tYes) rfl scLaw.nd (pi_tup (pv 5)) (blkOk_by (own := [("_law_column", 9)]) (N := nLaw) (sc := defScope sLaw) (by decide +kernel)) (fun _ _ _ _ _ => (pg_name (i := 9) scLaw.nd rfl (Or.inl rfl))) (fun _ _ _ _ _ => pts_nil) (fun _ _ _ _ _ => (pe_call GPk (hr.mono (by decide)) (by rfl) gPk FPk.kp bPk .nil pass0 (pa_cons (pv 2) (pa_cons (pv 6) pa_nil))))) pa_nil)))
      (pss_one (ps_if (pt_not (pt_val (callG GRR ng (hr.mono (by decide)) (by rfl) gRR FRR.kp bRR .nil (pa_cons (pv 4) (pa_cons (pe_call GHe (hr.mono (by decide)) (by rfl) gHe FHe.kp bHe .nil pass0 (pa_cons (pv 2) (pa_cons (pv 4) pa_nil))) (pa_cons (pv 8) pa_nil)))))) (pss_one (ps_ret pe_bl)) (pss_nil))))))))))))
      (pss_one (ps_ret pe_bl)), ?_⟩
    refine ⟨_, rfl, 3, rfl, a, _, rfl, hS, fun D0 n0 => newO n0 fun H0 s0 e0 => ?_⟩
    have l4 : (cutV (ns.map V.int) none (some 3)).length ≤ 3 := by
      rw [show (3 : Int) = ((3 : Nat) : Int) from rfl, K86.cut_to, List.length_take]
      omega
    refine ⟨D0, _, rfl, .inl (SqL.of e0), _, _, rfl, rfl, ?_⟩
    refine ⟨_, rfl, by omega, by omega, for_it (walk_range (lo := 0) (n := Int.toNat _)) (fun i σ G => SqL K G a (ns.map V.int) ∧ ∃ u1 u2 u3 u4 u5 u6 u7 u8 u9, σ = [some (.ref a), u1, u2, u3, u4, u5, u6, u7, u8, u9]) ⟨sameL s0 hS, _, _, _, _, _, _, _, _, _, rfl⟩ (fun _ _ _ _ _ => trivial) ?_ ?_⟩
    · rintro i x σ G H1 hi ⟨hS1, u1, u2, u3, u4, u5, u6, u7, u8, u9, rfl⟩ ⟨rfl, rfl⟩
      have i4 : i < 64 := by omega
      refine gN ?_
      dsimp only
      rw [Int.zero_add]
      refine ⟨_, rfl, _, rfl, a, ns, i, rfl, hS1, hl, i4, fun h H2 nh s2 hd2 => ?_⟩
      refine gN ?_
      try dsimp only
      refine ⟨6, rfl, by decide, by decide, for_it (walk_range (lo := 0) (n := 6)) (fun j σ G => HandAt G h (1000 * j) ∧ Same H1 G ∧ ∃ u3 u4 u5 u6 u7 u8 u9, σ = [some (.ref a), some (.int (i : Int)), some (.ref h), u3, u4, u5, u6, u7, u8, u9]) ⟨hd2, s2, _, _, _, _, _, _, _, rfl⟩ (fun _ _ _ _ _ => trivial) ?_ ?_⟩
      · rintro j x σ G1 G hj ⟨hd, sG, v3, v4, v5, v6, v7, v8, v9, rfl⟩ ⟨rfl, rfl⟩
        refine gN ?_
        dsimp only
        refine ⟨_, rfl, h, 1000 * j, 8, rfl, hd, by omega, by decide, by decide, fun ap p dds kn ad G1 pl ok es ch l9 fr hd1 b1 => ?_⟩
        refine gN ?_
        try dsimp only
        have C1 : PlanC G1 ap p dds ad kn := ⟨pl, ok, ch, l9, fr⟩
        have d8 : dds.length ≤ 8 := by
          have h1 := ok.sl
          rw [es, List.length_map] at h1
          exact h1
        refine ⟨_, rfl, ap, _, _, .ref ad.aS, rfl, rfl, SqT.of pl.e0, atI_nat (j := 0) rfl, ad.aS, _, _, .ref ad.s0, rfl, rfl, pl.sq, atI_nat (j := 0) rfl, ad.s0, _, _, .ref ad.sh, rfl, rfl, SqT.of pl.e1, atI_nat (j := 1) rfl, ?_⟩
        refine ⟨1, rfl, ad.sh, _, -1, .ref ad.cA, rfl, rfl, SqT.of pl.eh, atI_last _ _, ?_⟩
        refine ⟨rfl, fun c1 m1 => newO m1 fun G2 s3 e3 => ?_⟩
        refine ⟨(show 3 ≤ sizeLine by decide), fun c2 m2 => newO m2 fun G3 s4 e4 => ?_⟩
        refine ⟨c1, c2, _, _, rfl, rfl, s4 _ _ e3, e4, (show 15 ≤ sizeLine by decide), fun S mS => newO mS fun G4 s5 e5 => ?_⟩
        refine ⟨(show 2 ≤ sizeLine by decide), fun t mt => newO mt fun G5 s6 e6 => ?_⟩
        refine ⟨t, _, rfl, SqT.of e6, rfl, _, _, rfl, gN ⟨_, _, rfl, gN ⟨rfl, ?_⟩⟩⟩
        dsimp only
        have s35 := ((s3.trans s4).trans s5).trans s6
        have hd5 := hd1.mono s35 (Nat.le_refl _)
        have hd4 := hd1.mono ((s3.trans s4)) (Nat.le_refl _)
        have Sh : S ≠ h := (hd4.fresh mS).symm
        have eS5 : G5 S = some (.lst someV) := s6 _ _ e5
        have C5 := C1.same s35
        have B5 : But h G G5 := b1.trans (But.of s35)
        refine ⟨8, rfl, by decide, by decide, for_it (walk_range (lo := 0) (n := 8)) (fun m σ G' => HandAt G' h (1000 * j + 400 + 50 * m) ∧ But h G5 G' ∧ ∃ u7 u8 u9, σ = [some (.ref a), some (.int (i : Int)), some (.ref h), some (.int (0 + (j : Int))), some (.ref ap), some (.ref ad.cA), some (.ref S), u7, u8, u9]) ⟨hd5, But.refl _ _, _, _, _, rfl⟩ (fun _ _ _ _ _ => trivial) ?_ ?_⟩
        · rintro m x σ G6 G7 hm ⟨hd6, b6, w7, w8, w9, rfl⟩ ⟨rfl, rfl⟩
          refine gN ?_
          dsimp only
          have C6 := C5.but hd5 b6
          have eS6 := b6 S _ Sh eS5
          refine ⟨_, rfl, ad.cA, rfl, ⟨_, SqT.of C6.pl.eC⟩, fun D nD => ?_⟩
          refine lc_map (walk_tup (K := K) (a := ad.cA) (xs := p.cols.map V.str)) (h := h) (Z := fun j x => True) (fun z G => HandAt G h (1000 * j + 400 + 50 * m + z)) (fun j y G => Cell 12 true y) nD (hd6.fresh nD).symm (fun j G x G' e => ⟨e.1, trivial⟩) (fun G bG => but_seqT hd6 bG (SqT.of C6.pl.eC)) (fun _ _ _ _ _ _ e => e) (by rw [List.length_map]; have := ok.c3; omega) (fun _ => rfl) hd6 (fun j G l a => a.old (hd6.fresh nD)) ?_ ?_
          · rintro z x Gz Q2 hz _ btG hdG _ kk
            rw [List.length_map] at hz
            have := ok.c3
            refine ⟨_, rfl, _, rfl, ?_⟩
            exact pick_old hdG (by omega) (SqL.of (btG S _ Sh eS6)) Sh (show 0 < 15 by decide) (show 15 ≤ 1000 by decide) fun y H6 hy hd6 b6 => kk _ _ b6 hd6 (some_cell y hy)
          · rintro H7 zs b7 hd7 eD lz hw
            rw [List.length_map] at lz hd7
            have c3 := ok.c3
            refine ⟨D, _, rfl, .inl ⟨SqL.of eD, fun ct nct => newO nct fun H8 s8 e8 => ?_⟩⟩
            refine gN ?_
            dsimp only
            have C8 := (C6.but hd6 b7).same s8
            have hd8 := hd7.mono s8 (Nat.le_refl _)
            refine ⟨_, rfl, _, rfl, _, rfl, h, ap, _, p, dds, ad, kn, rfl, hd8, by omega, C8, d8, fun ht held H9 e9 ho hd9 b9 => ?_⟩
            have C9 := C8.but hd8 b9
            have e89 : H9 ct = some (.tup zs) := b9 ct _ (tup_hand hd8 e8 fun l z => nomatch z) e8
            refine ⟨_, rfl, ap, ht, ct, p, dds, ad, kn, held, zs, rfl, ⟨C9.pl, ok, ch, l9, fr, SqT.of e9, SqT.of e89, ho, lz, fun v hv => ?_⟩, d8, es, fun H10 s10 => ?_⟩
            · obtain ⟨y, hy⟩ := List.mem_iff_getElem?.mp hv
              exact hw y v hy
            · refine ⟨_, rfl, ?_⟩
              refine iteF ?_
              unfold tNext
              dsimp only
              exact ⟨(hd9.mono s10 (Nat.le_refl _)).up (by omega), b6.trans ((b7.trans (But.of s8)).trans (b9.trans (But.of s10))), _, _, _, rfl⟩
        · rintro σ G6 ⟨hd6, b6, w7, w8, w9, rfl⟩
          have B : But h G G6 := B5.trans b6
          exact ⟨hd6.up (by omega), fun b o e => B b o (ne_of_none e nh) (sG b o e), _, _, _, _, _, _, _, rfl⟩
      · rintro σ G ⟨hd, sG, v3, v4, v5, v6, v7, v8, v9, rfl⟩
        exact ⟨sameL sG hS1, _, _, _, _, _, _, _, _, _, rfl⟩
    · rintro σ G _
      exact q _
end
end K87
set_option Elab.async false
set_option linter.all false
set_option maxRecDepth 100000
set_option maxHeartbeats 8000000
namespace K87
open PySem PySem.Spec PyProof.Rows L2 Bs Xg TL Xm Xs Gn Gd Xu Xw Xk K86 K02
theorem tup_const {K : PySem.W.Frag} {o : Addr} {od : Option Addr} {its : Array Value} {m : Nat} {sl : Array (Option Value)} {xs : List V} (hk : K.lookup o = some ⟨.type "tuple", od, .seq its m, sl⟩) (hz : its.size ≤ sizeLine) (r : Vals xs its.toList) : ∀ H, SqT K H o xs :=
  fun H => .inr ⟨_, its, m, hk, rfl, rfl, hz, r⟩
theorem all_mk {l : PySem.W.OpenLaw} {w : World} {K : PySem.W.Frag} {h : Heap} {mg : Str → Option Value} {fa f1 f2 f3 f4 f5 f6 f7 f8 f9 f10 f11 f12 f13 f14 f15 f16 f17 f18 f19 f20 f21 f22 f23 f24 f25 f26 f27 f28 f29 f30 f31 f32 f33 f34 f35 f36 f37 f38 f39 f40 f41 f42 f43 f44 f45 c_MONTHS c_BETWEEN : Addr} (X : K.In h) (G : h.Ns mainGlobals mg) (hfa : mg "law" = some (.ref fa))
    {od1 an1 od2 an2 od3 an3 od4 an4 od5 an5 od6 an6 od7 an7 od8 an8 od9 an9 od10 an10 od11 an11 od12 an12 od13 an13 od14 an14 od15 an15 od16 an16 od17 an17 od18 an18 od19 an19 od20 an20 od21 an21 od22 an22 od23 an23 od24 an24 od25 an25 od26 an26 od27 an27 od28 an28 od29 an29 od30 an30 od31 an31 od32 an32 od33 an33 od34 an34 od35 an35 od36 an36 od37 an37 od38 an38 od39 an39 od40 an40 od41 an41 od42 an42 od43 an43 od44 an44 od45 an45 od_MONTHS od_BETWEEN : Option Addr} {sl1 sl2 sl3 sl4 sl5 sl6 sl7 sl8 sl9 sl10 sl11 sl12 sl13 sl14 sl15 sl16 sl17 sl18 sl19 sl20 sl21 sl22 sl23 sl24 sl25 sl26 sl27 sl28 sl29 sl30 sl31 sl32 sl33 sl34 sl35 sl36 sl37 sl38 sl39 sl40 sl41 sl42 sl43 sl44 sl45 sl_MONTHS sl_BETWEEN : Array (Option Value)}
    {oc1 kV1 dc1 pm1 cd1 ct1 oc2 kV2 dc2 pm2 cd2 ct2 oc3 kV3 dc3 pm3 cd3 ct3 oc4 kV4 dc4 pm4 cd4 ct4 oc5 kV5 dc5 pm5 cd5 ct5 oc6 kV6 dc6 pm6 cd6 ct6 oc7 kV7 dc7 pm7 cd7 ct7 oc8 kV8 dc8 pm8 cd8 ct8 oc9 kV9 dc9 pm9 cd9 ct9 oc10 kV10 dc10 pm10 cd10 ct10 oc11 kV11 dc11 pm11 cd11 ct11 oc12 kV12 dc12 pm12 cd12 ct12 oc13 kV13 dc13 pm13 cd13 ct13 oc14 kV14 dc14 pm14 cd14 ct14 oc15 kV15 dc15 pm15 cd15 ct15 oc16 kV16 dc16 pm16 cd16 ct16 oc17 kV17 dc17 pm17 cd17 ct17 oc18 kV18 dc18 pm18 cd18 ct18 oc19 kV19 dc19 pm19 cd19 ct19 oc20 kV20 dc20 pm20 cd20 ct20 oc21 kV21 dc21 pm21 cd21 ct21 oc22 kV22 dc22 pm22 cd22 ct22 oc23 kV23 dc23 pm23 cd23 ct23 oc24 kV24 dc24 pm24 cd24 ct24 oc25 kV25 dc25 pm25 cd25 ct25 oc26 kV26 dc26 pm26 cd26 ct26 oc27 kV27 dc27 pm27 cd27 ct27 oc28 kV28 dc28 pm28 cd28 ct28 oc29 kV29 dc29 pm29 cd29 ct29 oc30 kV30 dc30 pm30 cd30 ct30 oc31 kV31 dc31 pm31 cd31 ct31 oc32 kV32 dc32 pm32 cd32 ct32 oc33 kV33 dc33 pm33 cd33 ct33 oc34 kV34 dc34 pm34 cd34 ct34 oc35 kV35 dc35 pm35 cd35 ct35 oc36 kV36 dc36 pm36 cd36 ct36 oc37 kV37 dc37 pm37 cd37 ct37 oc38 kV38 dc38 pm38 cd38 ct38 oc39 kV39 dc39 pm39 cd39 ct39 oc40 kV40 dc40 pm40 cd40 ct40 oc41 kV41 dc41 pm41 cd41 ct41 oc42 kV42 dc42 pm42 cd42 ct42 oc43 kV43 dc43 pm43 cd43 ct43 oc44 kV44 dc44 pm44 cd44 ct44 oc45 kV45 dc45 pm45 cd45 ct45 : Value}
    {tk_FEBRUARY tk_WHOLE_FIGURES tk_AMOUNT_FIGURES tk_YEAR_FIGURES tk_DAY_FIGURES tk_MONTHS0 tk_MONTHS1 tk_MONTHS2 tk_MONTHS3 tk_MONTHS4 tk_MONTHS5 tk_MONTHS6 tk_MONTHS7 tk_MONTHS8 tk_MONTHS9 tk_MONTHS10 tk_MONTHS11 tk_BETWEEN0 tk_BETWEEN1 tk_BETWEEN2 : Tok} {m_MONTHS m_BETWEEN : Nat}
    (a1 : PySem.W.nsIn K mainGlobals "is_leap" = some (some (.ref f1)))
    (l1 : K.lookup f1 = some ⟨oc1, od1, .func (PySem.W.fnOf "is_leap" "is_leap" (defArgs K21.sLeap) (defBody K21.sLeap) (defScope K21.sLeap) .none kV1 dc1 pm1 an1 cd1 ct1), sl1⟩)
    (c1 : PySem.W.codeIn K cd1 "is_leap" = true)
    (k1 : PySem.W.keepIn K (.ref f1) = true)
    (a2 : PySem.W.nsIn K mainGlobals "days_in" = some (some (.ref f2)))
    (l2 : K.lookup f2 = some ⟨oc2, od2, .func (PySem.W.fnOf "days_in" "days_in" (defArgs K21.sDin) (defBody K21.sDin) (defScope K21.sDin) .none kV2 dc2 pm2 an2 cd2 ct2), sl2⟩)
    (c2 : PySem.W.codeIn K cd2 "days_in" = true)
    (k2 : PySem.W.keepIn K (.ref f2) = true)
    (a3 : PySem.W.nsIn K mainGlobals "days_ahead" = some (some (.ref f3)))
    (l3 : K.lookup f3 = some ⟨oc3, od3, .func (PySem.W.fnOf "days_ahead" "days_ahead" (defArgs K21.sAhead) (defBody K21.sAhead) (defScope K21.sAhead) .none kV3 dc3 pm3 an3 cd3 ct3), sl3⟩)
    (c3 : PySem.W.codeIn K cd3 "days_ahead" = true)
    (k3 : PySem.W.keepIn K (.ref f3) = true)
    (a4 : PySem.W.nsIn K mainGlobals "number_of" = some (some (.ref f4)))
    (l4 : K.lookup f4 = some ⟨oc4, od4, .func (PySem.W.fnOf "number_of" "number_of" (defArgs K21.sNum) (defBody K21.sNum) (defScope K21.sNum) .none kV4 dc4 pm4 an4 cd4 ct4), sl4⟩)
    (c4 : PySem.W.codeIn K cd4 "number_of" = true)
    (k4 : PySem.W.keepIn K (.ref f4) = true)
    (a5 : PySem.W.nsIn K mainGlobals "is_figures" = some (some (.ref f5)))
    (l5 : K.lookup f5 = some ⟨oc5, od5, .func (PySem.W.fnOf "is_figures" "is_figures" (defArgs K21.sIsFig) (defBody K21.sIsFig) (defScope K21.sIsFig) .none kV5 dc5 pm5 an5 cd5 ct5), sl5⟩)
    (c5 : PySem.W.codeIn K cd5 "is_figures" = true)
    (k5 : PySem.W.keepIn K (.ref f5) = true)
    (a6 : PySem.W.nsIn K mainGlobals "read_amount" = some (some (.ref f6)))
    (l6 : K.lookup f6 = some ⟨oc6, od6, .func (PySem.W.fnOf "read_amount" "read_amount" (defArgs K21.sReadAm) (defBody K21.sReadAm) (defScope K21.sReadAm) .none kV6 dc6 pm6 an6 cd6 ct6), sl6⟩)
    (c6 : PySem.W.codeIn K cd6 "read_amount" = true)
    (k6 : PySem.W.keepIn K (.ref f6) = true)
    (a7 : PySem.W.nsIn K mainGlobals "read_day" = some (some (.ref f7)))
    (l7 : K.lookup f7 = some ⟨oc7, od7, .func (PySem.W.fnOf "read_day" "read_day" (defArgs K21.sRD) (defBody K21.sRD) (defScope K21.sRD) .none kV7 dc7 pm7 an7 cd7 ct7), sl7⟩)
    (c7 : PySem.W.codeIn K cd7 "read_day" = true)
    (k7 : PySem.W.keepIn K (.ref f7) = true)
    (a8 : PySem.W.nsIn K mainGlobals "day_of" = some (some (.ref f8)))
    (l8 : K.lookup f8 = some ⟨oc8, od8, .func (PySem.W.fnOf "day_of" "day_of" (defArgs K21.sDo) (defBody K21.sDo) (defScope K21.sDo) .none kV8 dc8 pm8 an8 cd8 ct8), sl8⟩)
    (c8 : PySem.W.codeIn K cd8 "day_of" = true)
    (k8 : PySem.W.keepIn K (.ref f8) = true)
    (a9 : PySem.W.nsIn K mainGlobals "read_as" = some (some (.ref f9)))
    (l9 : K.lookup f9 = some ⟨oc9, od9, .func (PySem.W.fnOf "read_as" "read_as" (defArgs K21.sRs) (defBody K21.sRs) (defScope K21.sRs) .none kV9 dc9 pm9 an9 cd9 ct9), sl9⟩)
    (c9 : PySem.W.codeIn K cd9 "read_as" = true)
    (k9 : PySem.W.keepIn K (.ref f9) = true)
    (a10 : PySem.W.nsIn K mainGlobals "cell_worth" = some (some (.ref f10)))
    (l10 : K.lookup f10 = some ⟨oc10, od10, .func (PySem.W.fnOf "cell_worth" "cell_worth" (defArgs K21.sCW) (defBody K21.sCW) (defScope K21.sCW) .none kV10 dc10 pm10 an10 cd10 ct10), sl10⟩)
    (c10 : PySem.W.codeIn K cd10 "cell_worth" = true)
    (k10 : PySem.W.keepIn K (.ref f10) = true)
    (a11 : PySem.W.nsIn K mainGlobals "cut_done" = some (some (.ref f11)))
    (l11 : K.lookup f11 = some ⟨oc11, od11, .func (PySem.W.fnOf "cut_done" "cut_done" (defArgs K21.sCu) (defBody K21.sCu) (defScope K21.sCu) .none kV11 dc11 pm11 an11 cd11 ct11), sl11⟩)
    (c11 : PySem.W.codeIn K cd11 "cut_done" = true)
    (k11 : PySem.W.keepIn K (.ref f11) = true)
    (a12 : PySem.W.nsIn K mainGlobals "glued" = some (some (.ref f12)))
    (l12 : K.lookup f12 = some ⟨oc12, od12, .func (PySem.W.fnOf "glued" "glued" (defArgs K21.sGl) (defBody K21.sGl) (defScope K21.sGl) .none kV12 dc12 pm12 an12 cd12 ct12), sl12⟩)
    (c12 : PySem.W.codeIn K cd12 "glued" = true)
    (k12 : PySem.W.keepIn K (.ref f12) = true)
    (a13 : PySem.W.nsIn K mainGlobals "spelled" = some (some (.ref f13)))
    (l13 : K.lookup f13 = some ⟨oc13, od13, .func (PySem.W.fnOf "spelled" "spelled" (defArgs K21.sSp) (defBody K21.sSp) (defScope K21.sSp) .none kV13 dc13 pm13 an13 cd13 ct13), sl13⟩)
    (c13 : PySem.W.codeIn K cd13 "spelled" = true)
    (k13 : PySem.W.keepIn K (.ref f13) = true)
    (a14 : PySem.W.nsIn K mainGlobals "read_done" = some (some (.ref f14)))
    (l14 : K.lookup f14 = some ⟨oc14, od14, .func (PySem.W.fnOf "read_done" "read_done" (defArgs K21.sRdn) (defBody K21.sRdn) (defScope K21.sRdn) .none kV14 dc14 pm14 an14 cd14 ct14), sl14⟩)
    (c14 : PySem.W.codeIn K cd14 "read_done" = true)
    (k14 : PySem.W.keepIn K (.ref f14) = true)
    (a15 : PySem.W.nsIn K mainGlobals "is_met" = some (some (.ref f15)))
    (l15 : K.lookup f15 = some ⟨oc15, od15, .func (PySem.W.fnOf "is_met" "is_met" (defArgs K21.sMe) (defBody K21.sMe) (defScope K21.sMe) .none kV15 dc15 pm15 an15 cd15 ct15), sl15⟩)
    (c15 : PySem.W.codeIn K cd15 "is_met" = true)
    (k15 : PySem.W.keepIn K (.ref f15) = true)
    (a16 : PySem.W.nsIn K mainGlobals "done" = some (some (.ref f16)))
    (l16 : K.lookup f16 = some ⟨oc16, od16, .func (PySem.W.fnOf "done" "done" (defArgs K21.sDn) (defBody K21.sDn) (defScope K21.sDn) .none kV16 dc16 pm16 an16 cd16 ct16), sl16⟩)
    (c16 : PySem.W.codeIn K cd16 "done" = true)
    (k16 : PySem.W.keepIn K (.ref f16) = true)
    (a17 : PySem.W.nsIn K mainGlobals "onward" = some (some (.ref f17)))
    (l17 : K.lookup f17 = some ⟨oc17, od17, .func (PySem.W.fnOf "onward" "onward" (defArgs sOn) (defBody sOn) (defScope sOn) .none kV17 dc17 pm17 an17 cd17 ct17), sl17⟩)
    (c17 : PySem.W.codeIn K cd17 "onward" = true)
    (k17 : PySem.W.keepIn K (.ref f17) = true)
    (a18 : PySem.W.nsIn K mainGlobals "_law_box" = some (some (.ref f18)))
    (l18 : K.lookup f18 = some ⟨oc18, od18, .func (PySem.W.fnOf "_law_box" "_law_box" (defArgs K86.sBx) (defBody K86.sBx) (defScope K86.sBx) .none kV18 dc18 pm18 an18 cd18 ct18), sl18⟩)
    (c18 : PySem.W.codeIn K cd18 "_law_box" = true)
    (k18 : PySem.W.keepIn K (.ref f18) = true)
    (a19 : PySem.W.nsIn K mainGlobals "_law_take" = some (some (.ref f19)))
    (l19 : K.lookup f19 = some ⟨oc19, od19, .func (PySem.W.fnOf "_law_take" "_law_take" (defArgs K86.sTk) (defBody K86.sTk) (defScope K86.sTk) .none kV19 dc19 pm19 an19 cd19 ct19), sl19⟩)
    (c19 : PySem.W.codeIn K cd19 "_law_take" = true)
    (k19 : PySem.W.keepIn K (.ref f19) = true)
    (a20 : PySem.W.nsIn K mainGlobals "_law_pick" = some (some (.ref f20)))
    (l20 : K.lookup f20 = some ⟨oc20, od20, .func (PySem.W.fnOf "_law_pick" "_law_pick" (defArgs K86.sPk) (defBody K86.sPk) (defScope K86.sPk) .none kV20 dc20 pm20 an20 cd20 ct20), sl20⟩)
    (c20 : PySem.W.codeIn K cd20 "_law_pick" = true)
    (k20 : PySem.W.keepIn K (.ref f20) = true)
    (a21 : PySem.W.nsIn K mainGlobals "_law_words" = some (some (.ref f21)))
    (l21 : K.lookup f21 = some ⟨oc21, od21, .func (PySem.W.fnOf "_law_words" "_law_words" (defArgs K86.sWo) (defBody K86.sWo) (defScope K86.sWo) .none kV21 dc21 pm21 an21 cd21 ct21), sl21⟩)
    (c21 : PySem.W.codeIn K cd21 "_law_words" = true)
    (k21 : PySem.W.keepIn K (.ref f21) = true)
    (a22 : PySem.W.nsIn K mainGlobals "_law_cells" = some (some (.ref f22)))
    (l22 : K.lookup f22 = some ⟨oc22, od22, .func (PySem.W.fnOf "_law_cells" "_law_cells" (defArgs K86.sCe) (defBody K86.sCe) (defScope K86.sCe) .none kV22 dc22 pm22 an22 cd22 ct22), sl22⟩)
    (c22 : PySem.W.codeIn K cd22 "_law_cells" = true)
    (k22 : PySem.W.keepIn K (.ref f22) = true)
    (a23 : PySem.W.nsIn K mainGlobals "_law_shape" = some (some (.ref f23)))
    (l23 : K.lookup f23 = some ⟨oc23, od23, .func (PySem.W.fnOf "_law_shape" "_law_shape" (defArgs K86.sSh) (defBody K86.sSh) (defScope K86.sSh) .none kV23 dc23 pm23 an23 cd23 ct23), sl23⟩)
    (c23 : PySem.W.codeIn K cd23 "_law_shape" = true)
    (k23 : PySem.W.keepIn K (.ref f23) = true)
    (a24 : PySem.W.nsIn K mainGlobals "_law_worth" = some (some (.ref f24)))
    (l24 : K.lookup f24 = some ⟨oc24, od24, .func (PySem.W.fnOf "_law_worth" "_law_worth" (defArgs K86.sWr) (defBody K86.sWr) (defScope K86.sWr) .none kV24 dc24 pm24 an24 cd24 ct24), sl24⟩)
    (c24 : PySem.W.codeIn K cd24 "_law_worth" = true)
    (k24 : PySem.W.keepIn K (.ref f24) = true)
    (a25 : PySem.W.nsIn K mainGlobals "_law_form" = some (some (.ref f25)))
    (l25 : K.lookup f25 = some ⟨oc25, od25, .func (PySem.W.fnOf "_law_form" "_law_form" (defArgs K86.sFo) (defBody K86.sFo) (defScope K86.sFo) .none kV25 dc25 pm25 an25 cd25 ct25), sl25⟩)
    (c25 : PySem.W.codeIn K cd25 "_law_form" = true)
    (k25 : PySem.W.keepIn K (.ref f25) = true)
    (a26 : PySem.W.nsIn K mainGlobals "_law_wish" = some (some (.ref f26)))
    (l26 : K.lookup f26 = some ⟨oc26, od26, .func (PySem.W.fnOf "_law_wish" "_law_wish" (defArgs K86.sWi) (defBody K86.sWi) (defScope K86.sWi) .none kV26 dc26 pm26 an26 cd26 ct26), sl26⟩)
    (c26 : PySem.W.codeIn K cd26 "_law_wish" = true)
    (k26 : PySem.W.keepIn K (.ref f26) = true)
    (a27 : PySem.W.nsIn K mainGlobals "_law_put" = some (some (.ref f27)))
    (l27 : K.lookup f27 = some ⟨oc27, od27, .func (PySem.W.fnOf "_law_put" "_law_put" (defArgs K86.sPu) (defBody K86.sPu) (defScope K86.sPu) .none kV27 dc27 pm27 an27 cd27 ct27), sl27⟩)
    (c27 : PySem.W.codeIn K cd27 "_law_put" = true)
    (k27 : PySem.W.keepIn K (.ref f27) = true)
    (a28 : PySem.W.nsIn K mainGlobals "_law_spell" = some (some (.ref f28)))
    (l28 : K.lookup f28 = some ⟨oc28, od28, .func (PySem.W.fnOf "_law_spell" "_law_spell" (defArgs K86.sSp) (defBody K86.sSp) (defScope K86.sSp) .none kV28 dc28 pm28 an28 cd28 ct28), sl28⟩)
    (c28 : PySem.W.codeIn K cd28 "_law_spell" = true)
    (k28 : PySem.W.keepIn K (.ref f28) = true)
    (a29 : PySem.W.nsIn K mainGlobals "_law_deed" = some (some (.ref f29)))
    (l29 : K.lookup f29 = some ⟨oc29, od29, .func (PySem.W.fnOf "_law_deed" "_law_deed" (defArgs K86.sDe) (defBody K86.sDe) (defScope K86.sDe) .none kV29 dc29 pm29 an29 cd29 ct29), sl29⟩)
    (c29 : PySem.W.codeIn K cd29 "_law_deed" = true)
    (k29 : PySem.W.keepIn K (.ref f29) = true)
    (a30 : PySem.W.nsIn K mainGlobals "_law_touches" = some (some (.ref f30)))
    (l30 : K.lookup f30 = some ⟨oc30, od30, .func (PySem.W.fnOf "_law_touches" "_law_touches" (defArgs K86.sTo) (defBody K86.sTo) (defScope K86.sTo) .none kV30 dc30 pm30 an30 cd30 ct30), sl30⟩)
    (c30 : PySem.W.codeIn K cd30 "_law_touches" = true)
    (k30 : PySem.W.keepIn K (.ref f30) = true)
    (a31 : PySem.W.nsIn K mainGlobals "_law_apart" = some (some (.ref f31)))
    (l31 : K.lookup f31 = some ⟨oc31, od31, .func (PySem.W.fnOf "_law_apart" "_law_apart" (defArgs K86.sAp) (defBody K86.sAp) (defScope K86.sAp) .none kV31 dc31 pm31 an31 cd31 ct31), sl31⟩)
    (c31 : PySem.W.codeIn K cd31 "_law_apart" = true)
    (k31 : PySem.W.keepIn K (.ref f31) = true)
    (a32 : PySem.W.nsIn K mainGlobals "_law_behinds" = some (some (.ref f32)))
    (l32 : K.lookup f32 = some ⟨oc32, od32, .func (PySem.W.fnOf "_law_behinds" "_law_behinds" (defArgs K86.sBe) (defBody K86.sBe) (defScope K86.sBe) .none kV32 dc32 pm32 an32 cd32 ct32), sl32⟩)
    (c32 : PySem.W.codeIn K cd32 "_law_behinds" = true)
    (k32 : PySem.W.keepIn K (.ref f32) = true)
    (a33 : PySem.W.nsIn K mainGlobals "_law_plan" = some (some (.ref f33)))
    (l33 : K.lookup f33 = some ⟨oc33, od33, .func (PySem.W.fnOf "_law_plan" "_law_plan" (defArgs K86.sPl) (defBody K86.sPl) (defScope K86.sPl) .none kV33 dc33 pm33 an33 cd33 ct33), sl33⟩)
    (c33 : PySem.W.codeIn K cd33 "_law_plan" = true)
    (k33 : PySem.W.keepIn K (.ref f33) = true)
    (a34 : PySem.W.nsIn K mainGlobals "_law_figures" = some (some (.ref f34)))
    (l34 : K.lookup f34 = some ⟨oc34, od34, .func (PySem.W.fnOf "_law_figures" "_law_figures" (defArgs sLF) (defBody sLF) (defScope sLF) .none kV34 dc34 pm34 an34 cd34 ct34), sl34⟩)
    (c34 : PySem.W.codeIn K cd34 "_law_figures" = true)
    (k34 : PySem.W.keepIn K (.ref f34) = true)
    (a35 : PySem.W.nsIn K mainGlobals "_law_day" = some (some (.ref f35)))
    (l35 : K.lookup f35 = some ⟨oc35, od35, .func (PySem.W.fnOf "_law_day" "_law_day" (defArgs sLDy) (defBody sLDy) (defScope sLDy) .none kV35 dc35 pm35 an35 cd35 ct35), sl35⟩)
    (c35 : PySem.W.codeIn K cd35 "_law_day" = true)
    (k35 : PySem.W.keepIn K (.ref f35) = true)
    (a36 : PySem.W.nsIn K mainGlobals "_law_number" = some (some (.ref f36)))
    (l36 : K.lookup f36 = some ⟨oc36, od36, .func (PySem.W.fnOf "_law_number" "_law_number" (defArgs sLNu) (defBody sLNu) (defScope sLNu) .none kV36 dc36 pm36 an36 cd36 ct36), sl36⟩)
    (c36 : PySem.W.codeIn K cd36 "_law_number" = true)
    (k36 : PySem.W.keepIn K (.ref f36) = true)
    (a37 : PySem.W.nsIn K mainGlobals "_law_cut" = some (some (.ref f37)))
    (l37 : K.lookup f37 = some ⟨oc37, od37, .func (PySem.W.fnOf "_law_cut" "_law_cut" (defArgs sCt) (defBody sCt) (defScope sCt) .none kV37 dc37 pm37 an37 cd37 ct37), sl37⟩)
    (c37 : PySem.W.codeIn K cd37 "_law_cut" = true)
    (k37 : PySem.W.keepIn K (.ref f37) = true)
    (a38 : PySem.W.nsIn K mainGlobals "_law_did" = some (some (.ref f38)))
    (l38 : K.lookup f38 = some ⟨oc38, od38, .func (PySem.W.fnOf "_law_did" "_law_did" (defArgs sDid) (defBody sDid) (defScope sDid) .none kV38 dc38 pm38 an38 cd38 ct38), sl38⟩)
    (c38 : PySem.W.codeIn K cd38 "_law_did" = true)
    (k38 : PySem.W.keepIn K (.ref f38) = true)
    (a39 : PySem.W.nsIn K mainGlobals "_law_told_columns" = some (some (.ref f39)))
    (l39 : K.lookup f39 = some ⟨oc39, od39, .func (PySem.W.fnOf "_law_told_columns" "_law_told_columns" (defArgs sTc) (defBody sTc) (defScope sTc) .none kV39 dc39 pm39 an39 cd39 ct39), sl39⟩)
    (c39 : PySem.W.codeIn K cd39 "_law_told_columns" = true)
    (k39 : PySem.W.keepIn K (.ref f39) = true)
    (a40 : PySem.W.nsIn K mainGlobals "_law_onward" = some (some (.ref f40)))
    (l40 : K.lookup f40 = some ⟨oc40, od40, .func (PySem.W.fnOf "_law_onward" "_law_onward" (defArgs sLO) (defBody sLO) (defScope sLO) .none kV40 dc40 pm40 an40 cd40 ct40), sl40⟩)
    (c40 : PySem.W.codeIn K cd40 "_law_onward" = true)
    (k40 : PySem.W.keepIn K (.ref f40) = true)
    (a41 : PySem.W.nsIn K mainGlobals "_law_first" = some (some (.ref f41)))
    (l41 : K.lookup f41 = some ⟨oc41, od41, .func (PySem.W.fnOf "_law_first" "_law_first" (defArgs sFi) (defBody sFi) (defScope sFi) .none kV41 dc41 pm41 an41 cd41 ct41), sl41⟩)
    (c41 : PySem.W.codeIn K cd41 "_law_first" = true)
    (k41 : PySem.W.keepIn K (.ref f41) = true)
    (a42 : PySem.W.nsIn K mainGlobals "_law_kinds" = some (some (.ref f42)))
    (l42 : K.lookup f42 = some ⟨oc42, od42, .func (PySem.W.fnOf "_law_kinds" "_law_kinds" (defArgs sKi) (defBody sKi) (defScope sKi) .none kV42 dc42 pm42 an42 cd42 ct42), sl42⟩)
    (c42 : PySem.W.codeIn K cd42 "_law_kinds" = true)
    (k42 : PySem.W.keepIn K (.ref f42) = true)
    (a43 : PySem.W.nsIn K mainGlobals "_law_held" = some (some (.ref f43)))
    (l43 : K.lookup f43 = some ⟨oc43, od43, .func (PySem.W.fnOf "_law_held" "_law_held" (defArgs sHe) (defBody sHe) (defScope sHe) .none kV43 dc43 pm43 an43 cd43 ct43), sl43⟩)
    (c43 : PySem.W.codeIn K cd43 "_law_held" = true)
    (k43 : PySem.W.keepIn K (.ref f43) = true)
    (a44 : PySem.W.nsIn K mainGlobals "_law_row_right" = some (some (.ref f44)))
    (l44 : K.lookup f44 = some ⟨oc44, od44, .func (PySem.W.fnOf "_law_row_right" "_law_row_right" (defArgs sRR) (defBody sRR) (defScope sRR) .none kV44 dc44 pm44 an44 cd44 ct44), sl44⟩)
    (c44 : PySem.W.codeIn K cd44 "_law_row_right" = true)
    (k44 : PySem.W.keepIn K (.ref f44) = true)
    (a45 : PySem.W.nsIn K mainGlobals "law" = some (some (.ref f45)))
    (l45 : K.lookup f45 = some ⟨oc45, od45, .func (PySem.W.fnOf "law" "law" (defArgs sLaw) (defBody sLaw) (defScope sLaw) .none kV45 dc45 pm45 an45 cd45 ct45), sl45⟩)
    (c45 : PySem.W.codeIn K cd45 "law" = true)
    (k45 : PySem.W.keepIn K (.ref f45) = true)
    (z_isinstance : PySem.W.nsIn K mainGlobals "isinstance" = some none)
    (z_int : PySem.W.nsIn K mainGlobals "int" = some none)
    (z_bool : PySem.W.nsIn K mainGlobals "bool" = some none)
    (z_str : PySem.W.nsIn K mainGlobals "str" = some none)
    (z_tuple : PySem.W.nsIn K mainGlobals "tuple" = some none)
    (z_dict : PySem.W.nsIn K mainGlobals "dict" = some none)
    (z_len : PySem.W.nsIn K mainGlobals "len" = some none)
    (z_abs : PySem.W.nsIn K mainGlobals "abs" = some none)
    (z_range : PySem.W.nsIn K mainGlobals "range" = some none)
    (z_all : PySem.W.nsIn K mainGlobals "all" = some none)
    (z_sum : PySem.W.nsIn K mainGlobals "sum" = some none)
    (z_zip : PySem.W.nsIn K mainGlobals "zip" = some none)
    (z_list : PySem.W.nsIn K mainGlobals "list" = some none)
    (z_sorted : PySem.W.nsIn K mainGlobals "sorted" = some none)
    (z_repr : PySem.W.nsIn K mainGlobals "repr" = some none)
    (z_max : PySem.W.nsIn K mainGlobals "max" = some none)
    (z_min : PySem.W.nsIn K mainGlobals "min" = some none)
    (z_set : PySem.W.nsIn K mainGlobals "set" = some none)
    (z_any : PySem.W.nsIn K mainGlobals "any" = some none)
    (z_enumerate : PySem.W.nsIn K mainGlobals "enumerate" = some none)
    (n_FEBRUARY : PySem.W.nsIn K mainGlobals "FEBRUARY" = some (some (.int 2 tk_FEBRUARY)))
    (n_WHOLE_FIGURES : PySem.W.nsIn K mainGlobals "WHOLE_FIGURES" = some (some (.int 9 tk_WHOLE_FIGURES)))
    (n_AMOUNT_FIGURES : PySem.W.nsIn K mainGlobals "AMOUNT_FIGURES" = some (some (.int 8 tk_AMOUNT_FIGURES)))
    (n_YEAR_FIGURES : PySem.W.nsIn K mainGlobals "YEAR_FIGURES" = some (some (.int 4 tk_YEAR_FIGURES)))
    (n_DAY_FIGURES : PySem.W.nsIn K mainGlobals "DAY_FIGURES" = some (some (.int 2 tk_DAY_FIGURES)))
    (n_MONTHS : PySem.W.nsIn K mainGlobals "MONTHS" = some (some (.ref c_MONTHS)))
    (L_MONTHS : K.lookup c_MONTHS = some ⟨.type "tuple", od_MONTHS, .seq #[.int 31 tk_MONTHS0, .int 28 tk_MONTHS1, .int 31 tk_MONTHS2, .int 30 tk_MONTHS3, .int 31 tk_MONTHS4, .int 30 tk_MONTHS5, .int 31 tk_MONTHS6, .int 31 tk_MONTHS7, .int 30 tk_MONTHS8, .int 31 tk_MONTHS9, .int 30 tk_MONTHS10, .int 31 tk_MONTHS11] m_MONTHS, sl_MONTHS⟩)
    (n_BETWEEN : PySem.W.nsIn K mainGlobals "BETWEEN" = some (some (.ref c_BETWEEN)))
    (L_BETWEEN : K.lookup c_BETWEEN = some ⟨.type "tuple", od_BETWEEN, .seq #[.str (Str.ofString "-") tk_BETWEEN0, .str (Str.ofString ".") tk_BETWEEN1, .str (Str.ofString "/") tk_BETWEEN2] m_BETWEEN, sl_BETWEEN⟩) :
    ∃ fd : FuncData, (∀ (s : Shared) (v : Value), BindsTo s fd ⟨[v], []⟩ [("_law_script", v)]) ∧ ∀ base : Heap, K.In base → base.Ns mainGlobals mg → (∃ mm, base.Ns sysModules mm) → FG l.prog w K mg base 11 fa fd ["_law_script"] (spLaw K) := by
  have e := hfa.symm.trans (PySem.W.mg_of X G a45)
  cases e
  have FLp := fun_mk (st := K21.sLeap) l1 c1 k1
  have FDi := fun_mk (st := K21.sDin) l2 c2 k2
  have FAh := fun_mk (st := K21.sAhead) l3 c3 k3
  have FNu := fun_mk (st := K21.sNum) l4 c4 k4
  have FIF := fun_mk (st := K21.sIsFig) l5 c5 k5
  have FRA := fun_mk (st := K21.sReadAm) l6 c6 k6
  have FRD := fun_mk (st := K21.sRD) l7 c7 k7
  have FDo := fun_mk (st := K21.sDo) l8 c8 k8
  have FRs := fun_mk (st := K21.sRs) l9 c9 k9
  have FCW := fun_mk (st := K21.sCW) l10 c10 k10
  have FCu := fun_mk (st := K21.sCu) l11 c11 k11
  have FGl := fun_mk (st := K21.sGl) l12 c12 k12
  have FSpd := fun_mk (st := K21.sSp) l13 c13 k13
  have FRdn := fun_mk (st := K21.sRdn) l14 c14 k14
  have FMe := fun_mk (st := K21.sMe) l15 c15 k15
  have FDn := fun_mk (st := K21.sDn) l16 c16 k16
  have FOn := fun_mk (st := sOn) l17 c17 k17
  have FBx := fun_mk (st := K86.sBx) l18 c18 k18
  have FTk := fun_mk (st := K86.sTk) l19 c19 k19
  have FPk := fun_mk (st := K86.sPk) l20 c20 k20
  have FWo := fun_mk (st := K86.sWo) l21 c21 k21
  have FCe := fun_mk (st := K86.sCe) l22 c22 k22
  have FSh := fun_mk (st := K86.sSh) l23 c23 k23
  have FWr := fun_mk (st := K86.sWr) l24 c24 k24
  have FFo := fun_mk (st := K86.sFo) l25 c25 k25
  have FWi := fun_mk (st := K86.sWi) l26 c26 k26
  have FPu := fun_mk (st := K86.sPu) l27 c27 k27
  have FSp := fun_mk (st := K86.sSp) l28 c28 k28
  have FDe := fun_mk (st := K86.sDe) l29 c29 k29
  have FTo := fun_mk (st := K86.sTo) l30 c30 k30
  have FAp := fun_mk (st := K86.sAp) l31 c31 k31
  have FBe := fun_mk (st := K86.sBe) l32 c32 k32
  have FPl := fun_mk (st := K86.sPl) l33 c33 k33
  have FLF := fun_mk (st := sLF) l34 c34 k34
  have FLDy := fun_mk (st := sLDy) l35 c35 k35
  have FLNu := fun_mk (st := sLNu) l36 c36 k36
  have FCt := fun_mk (st := sCt) l37 c37 k37
  have FDid := fun_mk (st := sDid) l38 c38 k38
  have FTc := fun_mk (st := sTc) l39 c39 k39
  have FLO := fun_mk (st := sLO) l40 c40 k40
  have FFi := fun_mk (st := sFi) l41 c41 k41
  have FKi := fun_mk (st := sKi) l42 c42 k42
  have FHe := fun_mk (st := sHe) l43 c43 k43
  have FRR := fun_mk (st := sRR) l44 c44 k44
  have Flaw := fun_mk (st := sLaw) l45 c45 k45
  have bLp := FLp.binds (ps := ["year"]) fun _ _ _ _ _ _ us hl => match us, hl with | [_], _ => rfl
  have gLp := PySem.W.mg_of X G a1
  have bDi := FDi.binds (ps := ["year", "month"]) fun _ _ _ _ _ _ us hl => match us, hl with | [_, _], _ => rfl
  have gDi := PySem.W.mg_of X G a2
  have bAh := FAh.binds (ps := ["year"]) fun _ _ _ _ _ _ us hl => match us, hl with | [_], _ => rfl
  have gAh := PySem.W.mg_of X G a3
  have bNu := FNu.binds (ps := ["year", "month", "day"]) fun _ _ _ _ _ _ us hl => match us, hl with | [_, _, _], _ => rfl
  have gNu := PySem.W.mg_of X G a4
  have bIF := FIF.binds (ps := ["text", "most"]) fun _ _ _ _ _ _ us hl => match us, hl with | [_, _], _ => rfl
  have gIF := PySem.W.mg_of X G a5
  have bRA := FRA.binds (ps := ["text", "most", "places"]) fun _ _ _ _ _ _ us hl => match us, hl with | [_, _, _], _ => rfl
  have gRA := PySem.W.mg_of X G a6
  have bRD := FRD.binds (ps := ["text", "order"]) fun _ _ _ _ _ _ us hl => match us, hl with | [_, _], _ => rfl
  have gRD := PySem.W.mg_of X G a7
  have bDo := FDo.binds (ps := ["parts"]) fun _ _ _ _ _ _ us hl => match us, hl with | [_], _ => rfl
  have gDo := PySem.W.mg_of X G a8
  have bRs := FRs.binds (ps := ["form", "text"]) fun _ _ _ _ _ _ us hl => match us, hl with | [_, _], _ => rfl
  have gRs := PySem.W.mg_of X G a9
  have bCW := FCW.binds (ps := ["text"]) fun _ _ _ _ _ _ us hl => match us, hl with | [_], _ => rfl
  have gCW := PySem.W.mg_of X G a10
  have bCu := FCu.binds (ps := ["step", "text"]) fun _ _ _ _ _ _ us hl => match us, hl with | [_, _], _ => rfl
  have gCu := PySem.W.mg_of X G a11
  have bGl := FGl.binds (ps := ["step", "worths"]) fun _ _ _ _ _ _ us hl => match us, hl with | [_, _], _ => rfl
  have gGl := PySem.W.mg_of X G a12
  have bSpd := FSpd.binds (ps := ["step", "text"]) fun _ _ _ _ _ _ us hl => match us, hl with | [_, _], _ => rfl
  have gSpd := PySem.W.mg_of X G a13
  have bRdn := FRdn.binds (ps := ["step", "text"]) fun _ _ _ _ _ _ us hl => match us, hl with | [_, _], _ => rfl
  have gRdn := PySem.W.mg_of X G a14
  have bMe := FMe.binds (ps := ["step", "worths"]) fun _ _ _ _ _ _ us hl => match us, hl with | [_, _], _ => rfl
  have gMe := PySem.W.mg_of X G a15
  have bDn := FDn.binds (ps := ["step", "worths"]) fun _ _ _ _ _ _ us hl => match us, hl with | [_, _], _ => rfl
  have gDn := PySem.W.mg_of X G a16
  have bOn := FOn.binds (ps := ["program", "state", "worths"]) fun _ _ _ _ _ _ us hl => match us, hl with | [_, _, _], _ => rfl
  have gOn := PySem.W.mg_of X G a17
  have bBx := FBx.binds (ps := ["_law_script", "_law_k"]) fun _ _ _ _ _ _ us hl => match us, hl with | [_, _], _ => rfl
  have gBx := PySem.W.mg_of X G a18
  have bTk := FTk.binds (ps := ["_law_box_here", "_law_many"]) fun _ _ _ _ _ _ us hl => match us, hl with | [_, _], _ => rfl
  have gTk := PySem.W.mg_of X G a19
  have bPk := FPk.binds (ps := ["_law_box_here", "_law_some"]) fun _ _ _ _ _ _ us hl => match us, hl with | [_, _], _ => rfl
  have gPk := PySem.W.mg_of X G a20
  have bWo := FWo.binds (ps := ["_law_box_here", "_law_many"]) fun _ _ _ _ _ _ us hl => match us, hl with | [_, _], _ => rfl
  have gWo := PySem.W.mg_of X G a21
  have bCe := FCe.binds (ps := []) fun _ _ _ _ _ _ us hl => match us, hl with | [], _ => rfl
  have gCe := PySem.W.mg_of X G a22
  have bSh := FSh.binds (ps := ["_law_box_here", "_law_names"]) fun _ _ _ _ _ _ us hl => match us, hl with | [_, _], _ => rfl
  have gSh := PySem.W.mg_of X G a23
  have bWr := FWr.binds (ps := ["_law_box_here", "_law_kind"]) fun _ _ _ _ _ _ us hl => match us, hl with | [_, _], _ => rfl
  have gWr := PySem.W.mg_of X G a24
  have bFo := FFo.binds (ps := ["_law_box_here"]) fun _ _ _ _ _ _ us hl => match us, hl with | [_], _ => rfl
  have gFo := PySem.W.mg_of X G a25
  have bWi := FWi.binds (ps := ["_law_box_here", "_law_lot", "_law_known"]) fun _ _ _ _ _ _ us hl => match us, hl with | [_, _, _], _ => rfl
  have gWi := PySem.W.mg_of X G a26
  have bPu := FPu.binds (ps := ["_law_box_here", "_law_known"]) fun _ _ _ _ _ _ us hl => match us, hl with | [_, _], _ => rfl
  have gPu := PySem.W.mg_of X G a27
  have bSp := FSp.binds (ps := ["_law_box_here", "_law_column"]) fun _ _ _ _ _ _ us hl => match us, hl with | [_, _], _ => rfl
  have gSp := PySem.W.mg_of X G a28
  have bDe := FDe.binds (ps := ["_law_box_here", "_law_names", "_law_known"]) fun _ _ _ _ _ _ us hl => match us, hl with | [_, _, _], _ => rfl
  have gDe := PySem.W.mg_of X G a29
  have bTo := FTo.binds (ps := ["_law_step"]) fun _ _ _ _ _ _ us hl => match us, hl with | [_], _ => rfl
  have gTo := PySem.W.mg_of X G a30
  have bAp := FAp.binds (ps := ["_law_step", "_law_later"]) fun _ _ _ _ _ _ us hl => match us, hl with | [_, _], _ => rfl
  have gAp := PySem.W.mg_of X G a31
  have bBe := FBe.binds (ps := ["_law_steps"]) fun _ _ _ _ _ _ us hl => match us, hl with | [_], _ => rfl
  have gBe := PySem.W.mg_of X G a32
  have bPl := FPl.binds (ps := ["_law_box_here", "_law_most"]) fun _ _ _ _ _ _ us hl => match us, hl with | [_, _], _ => rfl
  have gPl := PySem.W.mg_of X G a33
  have bLF := FLF.binds (ps := ["_law_word"]) fun _ _ _ _ _ _ us hl => match us, hl with | [_], _ => rfl
  have gLF := PySem.W.mg_of X G a34
  have bLDy := FLDy.binds (ps := ["_law_order", "_law_word"]) fun _ _ _ _ _ _ us hl => match us, hl with | [_, _], _ => rfl
  have gLDy := PySem.W.mg_of X G a35
  have bLNu := FLNu.binds (ps := ["_law_form_here", "_law_word"]) fun _ _ _ _ _ _ us hl => match us, hl with | [_, _], _ => rfl
  have gLNu := PySem.W.mg_of X G a36
  have bCt := FCt.binds (ps := ["_law_step", "_law_mine"]) fun _ _ _ _ _ _ us hl => match us, hl with | [_, _], _ => rfl
  have gCt := PySem.W.mg_of X G a37
  have bDid := FDid.binds (ps := ["_law_step", "_law_here"]) fun _ _ _ _ _ _ us hl => match us, hl with | [_, _], _ => rfl
  have gDid := PySem.W.mg_of X G a38
  have bTc := FTc.binds (ps := ["_law_plan_here"]) fun _ _ _ _ _ _ us hl => match us, hl with | [_], _ => rfl
  have gTc := PySem.W.mg_of X G a39
  have bLO := FLO.binds (ps := ["_law_plan_here", "_law_held_here", "_law_cells_here"]) fun _ _ _ _ _ _ us hl => match us, hl with | [_, _, _], _ => rfl
  have gLO := PySem.W.mg_of X G a40
  have bFi := FFi.binds (ps := ["_law_plan_here"]) fun _ _ _ _ _ _ us hl => match us, hl with | [_], _ => rfl
  have gFi := PySem.W.mg_of X G a41
  have bKi := FKi.binds (ps := ["_law_plan_here"]) fun _ _ _ _ _ _ us hl => match us, hl with | [_], _ => rfl
  have gKi := PySem.W.mg_of X G a42
  have bHe := FHe.binds (ps := ["_law_box_here", "_law_plan_here"]) fun _ _ _ _ _ _ us hl => match us, hl with | [_, _], _ => rfl
  have gHe := PySem.W.mg_of X G a43
  have bRR := FRR.binds (ps := ["_law_plan_here", "_law_held_here", "_law_cells_here"]) fun _ _ _ _ _ _ us hl => match us, hl with | [_, _, _], _ => rfl
  have gRR := PySem.W.mg_of X G a44
  refine ⟨PySem.W.fnOf "law" "law" (defArgs sLaw) (defBody sLaw) (defScope sLaw) .none kV45 dc45 pm45 an45 cd45 ct45, fun s v => .of_eq rfl, fun base _ _ sm => ?_⟩
  have T : Free mg := ⟨PySem.W.mg_none_of X G z_isinstance, PySem.W.mg_none_of X G z_int, PySem.W.mg_none_of X G z_bool, PySem.W.mg_none_of X G z_str, PySem.W.mg_none_of X G z_tuple, PySem.W.mg_none_of X G z_dict, PySem.W.mg_none_of X G z_len, PySem.W.mg_none_of X G z_abs, PySem.W.mg_none_of X G z_range, PySem.W.mg_none_of X G z_all, PySem.W.mg_none_of X G z_sum, PySem.W.mg_none_of X G z_zip, PySem.W.mg_none_of X G z_list, PySem.W.mg_none_of X G z_sorted, PySem.W.mg_none_of X G z_repr, PySem.W.mg_none_of X G z_max, PySem.W.mg_none_of X G z_min, PySem.W.mg_none_of X G z_set, PySem.W.mg_none_of X G z_any, PySem.W.mg_none_of X G z_enumerate⟩
  have C : K21.Cal K mg c_MONTHS _ _ _ _ _ _ _ _ := ⟨PySem.W.mg_of X G n_MONTHS, tup_const L_MONTHS (by show 12 ≤ sizeLine; decide) (.cons ⟨_, rfl⟩ (.cons ⟨_, rfl⟩ (.cons ⟨_, rfl⟩ (.cons ⟨_, rfl⟩ (.cons ⟨_, rfl⟩ (.cons ⟨_, rfl⟩ (.cons ⟨_, rfl⟩ (.cons ⟨_, rfl⟩ (.cons ⟨_, rfl⟩ (.cons ⟨_, rfl⟩ (.cons ⟨_, rfl⟩ (.cons ⟨_, rfl⟩ .nil)))))))))))), ⟨_, PySem.W.mg_of X G n_FEBRUARY⟩, FLp, bLp, gLp, FDi, bDi, gDi, FAh, bAh, gAh, FNu, bNu, gNu⟩
  have Fr : K21.Frm K mg c_BETWEEN _ _ _ _ _ _ _ _ _ _ := ⟨PySem.W.mg_of X G n_BETWEEN, tup_const L_BETWEEN (by show 3 ≤ sizeLine; decide) (.cons ⟨_, rfl⟩ (.cons ⟨_, rfl⟩ (.cons ⟨_, rfl⟩ .nil))), ⟨_, PySem.W.mg_of X G n_WHOLE_FIGURES⟩, ⟨_, PySem.W.mg_of X G n_AMOUNT_FIGURES⟩, ⟨_, PySem.W.mg_of X G n_YEAR_FIGURES⟩, ⟨_, PySem.W.mg_of X G n_DAY_FIGURES⟩, FIF, bIF, gIF, FRA, bRA, gRA, FRD, bRD, gRD, FDo, bDo, gDo, FRs, bRs, gRs⟩
  have St : K21.Stp K mg _ _ _ _ _ _ _ _ _ _ _ _ _ _ := ⟨FCW, bCW, gCW, FCu, bCu, gCu, FGl, bGl, gGl, FSpd, bSpd, gSpd, FRdn, bRdn, gRdn, FMe, bMe, gMe, FDn, bDn, gDn⟩
  have W : HandF K mg _ _ _ _ := ⟨FTk, bTk, gTk, FPk, bPk, gPk⟩
  have G' : GenF K mg _ _ _ _ _ _ := ⟨FCe, bCe, gCe, FWr, bWr, gWr, FFo, bFo, gFo⟩
  have D : DeedF K mg _ _ _ _ _ _ := ⟨FWi, bWi, gWi, FPu, bPu, gPu, FSp, bSp, gSp⟩
  have U : TouchF K mg _ _ := ⟨FTo, bTo, gTo⟩
  have A : ApartF K mg _ _ := ⟨FAp, bAp, gAp⟩
  have Z : PlanF K mg _ _ _ _ _ _ _ _ := ⟨FWo, bWo, gWo, FSh, bSh, gSh, FDe, bDe, gDe, FBe, bBe, gBe⟩
  have L : LawF K mg _ _ _ _ _ _ _ _ := ⟨FBx, bBx, gBx, FPl, bPl, gPl, FHe, bHe, gHe, FRR, bRR, gRR⟩
  have Di : DidF K mg _ _ _ _ _ _ _ _ _ _ _ _ := ⟨FDid, bDid, gDid, FCt, bCt, gCt, FLNu, bLNu, gLNu, FLF, bLF, gLF, FLDy, bLDy, gLDy, FTc, bTc, gTc⟩
  have H : HeldF K mg _ _ _ _ := ⟨FFi, bFi, gFi, FKi, bKi, gKi⟩
  have kOn := kb_rev3 (p1 := "program") (p2 := "state") (p3 := "worths") FOn fun _ _ _ _ _ _ _ _ _ => rfl
  have O : OnF K mg _ _ _ _ _ _ := ⟨FOn, bOn, kOn, gOn, FLO, bLO, gLO, FDn, bDn, gDn⟩
  exact ok_law Flaw T W G' L (ok_plan FPl T W G' D U A Z) (ok_held FHe T W G' U H) (ok_row FRR T sm U Di O (K21.ok_done C Fr St T))
end K87
open PySem PySem.W PyProof.Rows
set_option maxRecDepth 100000 in
set_option maxHeartbeats 0 in
theorem PySem.Challenge.cw_cleanedtables_k87_rows_onward_holds : PySem.Challenge.rw_cleanedtables_k87_rows_onward.Holds := by
  w_on; o_law; k_head; (case hw => w_witness2)
  k_fill
  refine Xg.walkS (l := PySem.Challenge.rw_cleanedtables_k87_rows_onward) (n := 63) (k := 11) (sp := K87.spLaw) (x := "_law_script") ?calm rfl (by decide) rfl ⟨rfl, by decide, by decide⟩ (fun w h Y => PySem.W.kIn_of Y) ?F (fun K H a ns hl _ hS => ⟨a, ns, rfl, hS, hl, fun _ => rfl⟩)
  case calm => decide +kernel
  case F =>
    intro w mg fa h KX G hmg
    refine' K87.all_mk KX G hmg ?a1 ?l1 ?c1 ?k1 ?a2 ?l2 ?c2 ?k2 ?a3 ?l3 ?c3 ?k3 ?a4 ?l4 ?c4 ?k4 ?a5 ?l5 ?c5 ?k5 ?a6 ?l6 ?c6 ?k6 ?a7 ?l7 ?c7 ?k7 ?a8 ?l8 ?c8 ?k8 ?a9 ?l9 ?c9 ?k9 ?a10 ?l10 ?c10 ?k10 ?a11 ?l11 ?c11 ?k11 ?a12 ?l12 ?c12 ?k12 ?a13 ?l13 ?c13 ?k13 ?a14 ?l14 ?c14 ?k14 ?a15 ?l15 ?c15 ?k15 ?a16 ?l16 ?c16 ?k16 ?a17 ?l17 ?c17 ?k17 ?a18 ?l18 ?c18 ?k18 ?a19 ?l19 ?c19 ?k19 ?a20 ?l20 ?c20 ?k20 ?a21 ?l21 ?c21 ?k21 ?a22 ?l22 ?c22 ?k22 ?a23 ?l23 ?c23 ?k23 ?a24 ?l24 ?c24 ?k24 ?a25 ?l25 ?c25 ?k25 ?a26 ?l26 ?c26 ?k26 ?a27 ?l27 ?c27 ?k27 ?a28 ?l28 ?c28 ?k28 ?a29 ?l29 ?c29 ?k29 ?a30 ?l30 ?c30 ?k30 ?a31 ?l31 ?c31 ?k31 ?a32 ?l32 ?c32 ?k32 ?a33 ?l33 ?c33 ?k33 ?a34 ?l34 ?c34 ?k34 ?a35 ?l35 ?c35 ?k35 ?a36 ?l36 ?c36 ?k36 ?a37 ?l37 ?c37 ?k37 ?a38 ?l38 ?c38 ?k38 ?a39 ?l39 ?c39 ?k39 ?a40 ?l40 ?c40 ?k40 ?a41 ?l41 ?c41 ?k41 ?a42 ?l42 ?c42 ?k42 ?a43 ?l43 ?c43 ?k43 ?a44 ?l44 ?c44 ?k44 ?a45 ?l45 ?c45 ?k45 ?z_isinstance ?z_int ?z_bool ?z_str ?z_tuple ?z_dict ?z_len ?z_abs ?z_range ?z_all ?z_sum ?z_zip ?z_list ?z_sorted ?z_repr ?z_max ?z_min ?z_set ?z_any ?z_enumerate ?n_FEBRUARY ?n_WHOLE_FIGURES ?n_AMOUNT_FIGURES ?n_YEAR_FIGURES ?n_DAY_FIGURES ?n_MONTHS ?L_MONTHS ?n_BETWEEN ?L_BETWEEN
    (case a1 => k_is)
    (case l1 => k_is)
    (case c1 => k_is)
    (case k1 => k_is)
    (case a2 => k_is)
    (case l2 => k_is)
    (case c2 => k_is)
    (case k2 => k_is)
    (case a3 => k_is)
    (case l3 => k_is)
    (case c3 => k_is)
    (case k3 => k_is)
    (case a4 => k_is)
    (case l4 => k_is)
    (case c4 => k_is)
    (case k4 => k_is)
    (case a5 => k_is)
    (case l5 => k_is)
    (case c5 => k_is)
    (case k5 => k_is)
    (case a6 => k_is)
    (case l6 => k_is)
    (case c6 => k_is)
    (case k6 => k_is)
    (case a7 => k_is)
    (case l7 => k_is)
    (case c7 => k_is)
    (case k7 => k_is)
    (case a8 => k_is)
    (case l8 => k_is)
    (case c8 => k_is)
    (case k8 => k_is)
    (case a9 => k_is)
    (case l9 => k_is)
    (case c9 => k_is)
    (case k9 => k_is)
    (case a10 => k_is)
    (case l10 => k_is)
    (case c10 => k_is)
    (case k10 => k_is)
    (case a11 => k_is)
    (case l11 => k_is)
    (case c11 => k_is)
    (case k11 => k_is)
    (case a12 => k_is)
    (case l12 => k_is)
    (case c12 => k_is)
    (case k12 => k_is)
    (case a13 => k_is)
    (case l13 => k_is)
    (case c13 => k_is)
    (case k13 => k_is)
    (case a14 => k_is)
    (case l14 => k_is)
    (case c14 => k_is)
    (case k14 => k_is)
    (case a15 => k_is)
    (case l15 => k_is)
    (case c15 => k_is)
    (case k15 => k_is)
    (case a16 => k_is)
    (case l16 => k_is)
    (case c16 => k_is)
    (case k16 => k_is)
    (case a17 => k_is)
    (case l17 => k_is)
    (case c17 => k_is)
    (case k17 => k_is)
    (case a18 => k_is)
    (case l18 => k_is)
    (case c18 => k_is)
    (case k18 => k_is)
    (case a19 => k_is)
    (case l19 => k_is)
    (case c19 => k_is)
    (case k19 => k_is)
    (case a20 => k_is)
    (case l20 => k_is)
    (case c20 => k_is)
    (case k20 => k_is)
    (case a21 => k_is)
    (case l21 => k_is)
    (case c21 => k_is)
    (case k21 => k_is)
    (case a22 => k_is)
    (case l22 => k_is)
    (case c22 => k_is)
    (case k22 => k_is)
    (case a23 => k_is)
    (case l23 => k_is)
    (case c23 => k_is)
    (case k23 => k_is)
    (case a24 => k_is)
    (case l24 => k_is)
    (case c24 => k_is)
    (case k24 => k_is)
    (case a25 => k_is)
    (case l25 => k_is)
    (case c25 => k_is)
    (case k25 => k_is)
    (case a26 => k_is)
    (case l26 => k_is)
    (case c26 => k_is)
    (case k26 => k_is)
    (case a27 => k_is)
    (case l27 => k_is)
    (case c27 => k_is)
    (case k27 => k_is)
    (case a28 => k_is)
    (case l28 => k_is)
    (case c28 => k_is)
    (case k28 => k_is)
    (case a29 => k_is)
    (case l29 => k_is)
    (case c29 => k_is)
    (case k29 => k_is)
    (case a30 => k_is)
    (case l30 => k_is)
    (case c30 => k_is)
    (case k30 => k_is)
    (case a31 => k_is)
    (case l31 => k_is)
    (case c31 => k_is)
    (case k31 => k_is)
    (case a32 => k_is)
    (case l32 => k_is)
    (case c32 => k_is)
    (case k32 => k_is)
    (case a33 => k_is)
    (case l33 => k_is)
    (case c33 => k_is)
    (case k33 => k_is)
    (case a34 => k_is)
    (case l34 => k_is)
    (case c34 => k_is)
    (case k34 => k_is)
    (case a35 => k_is)
    (case l35 => k_is)
    (case c35 => k_is)
    (case k35 => k_is)
    (case a36 => k_is)
    (case l36 => k_is)
    (case c36 => k_is)
    (case k36 => k_is)
    (case a37 => k_is)
    (case l37 => k_is)
    (case c37 => k_is)
    (case k37 => k_is)
    (case a38 => k_is)
    (case l38 => k_is)
    (case c38 => k_is)
    (case k38 => k_is)
    (case a39 => k_is)
    (case l39 => k_is)
    (case c39 => k_is)
    (case k39 => k_is)
    (case a40 => k_is)
    (case l40 => k_is)
    (case c40 => k_is)
    (case k40 => k_is)
    (case a41 => k_is)
    (case l41 => k_is)
    (case c41 => k_is)
    (case k41 => k_is)
    (case a42 => k_is)
    (case l42 => k_is)
    (case c42 => k_is)
    (case k42 => k_is)
    (case a43 => k_is)
    (case l43 => k_is)
    (case c43 => k_is)
    (case k43 => k_is)
    (case a44 => k_is)
    (case l44 => k_is)
    (case c44 => k_is)
    (case k44 => k_is)
    (case a45 => k_is)
    (case l45 => k_is)
    (case c45 => k_is)
    (case k45 => k_is)
    (case z_isinstance => k_is)
    (case z_int => k_is)
    (case z_bool => k_is)
    (case z_str => k_is)
    (case z_tuple => k_is)
    (case z_dict => k_is)
    (case z_len => k_is)
    (case z_abs => k_is)
    (case z_range => k_is)
    (case z_all => k_is)
    (case z_sum => k_is)
    (case z_zip => k_is)
    (case z_list => k_is)
    (case z_sorted => k_is)
    (case z_repr => k_is)
    (case z_max => k_is)
    (case z_min => k_is)
    (case z_set => k_is)
    (case z_any => k_is)
    (case z_enumerate => k_is)
    (case n_FEBRUARY => k_is)
    (case n_WHOLE_FIGURES => k_is)
    (case n_AMOUNT_FIGURES => k_is)
    (case n_YEAR_FIGURES => k_is)
    (case n_DAY_FIGURES => k_is)
    (case n_MONTHS => k_is)
    (case L_MONTHS => k_is)
    (case n_BETWEEN => k_is)
    (case L_BETWEEN => k_is)
