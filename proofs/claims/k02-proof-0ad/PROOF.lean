import PyProof.Rows.All
import Wide.All
import OpenK.AllK
import Wide.FinOn
import HandS.ForMost
import HandS.Flow
import HandS.Wide
import HandS.StrMore
import HandS.StrSplit
import HandS.Codes
import PyProof.ReprRoads
import HandS.Walk
import HandS.WordsExc
import HandS.RaiseMore
import PySem.Challenge.RW_cleanedtables_k02_numbers_read_and_writt
set_option Elab.async false
set_option linter.all false
set_option maxRecDepth 100000
set_option maxHeartbeats 4000000
/-! Bs: what all our texts lean on: defs that ask for reprs (no guard stands on the stack), reprs of data, draws. -/
namespace Bs
open PySem PySem.Spec PyProof.Rows L2

/-! ### defs under an empty stack of guards -/
/-- a def's promise where no guard stands on the stack -/
structure FG (P : Program) (w : World) (K : PySem.W.Frag) (mg : Str → Option Value) (base : Heap) (k : Nat) (f : Addr) (fd : FuncData) (ps : List Str) (sp : Sp) : Prop where
  many : ∀ vs H Q E, sp vs H Q E → vs.length = ps.length
  goes : ∀ (A : Around) (outer : List Env) (s : Shared) (H : Hp) (args : Args) (us : List Value) (vs : List V) (Q : VK) (E : XK),
    A.guards = some [] → Room k A → Env0 P w K mg base A outer s H → BindsTo s fd args (ps.zip us) → Vals vs us → sp vs H Q E →
    codeAny (model P w) A (.call (.ref f) args) (CR CX0 outer P w H s Q E) s
theorem FG.of {P : Program} {w : World} {K : PySem.W.Frag} {mg : Str → Option Value} {base : Heap} {k : Nat} {f : Addr} {fd : FuncData} {ps : List Str} {sp : Sp}
    (F : FnOk P w K mg base CX0 k f fd ps sp) : FG P w K mg base k f fd ps sp :=
  ⟨F.len, fun A outer s H args us vs Q E _ => F.run A outer s H args us vs Q E⟩

section
variable {P : Program} {w : World} {K : PySem.W.Frag} {mg : Str → Option Value} {base : Heap} {x qual : Str} {st : Stmt} {f : Addr} {fd : FuncData} {N ps : List Str} {k : Nat} {sp : Sp}
theorem okG (F : Fun K x qual st f fd) (S : FnScope N ps (defScope st)) (many : ∀ vs H Q E, sp vs H Q E → vs.length = ps.length)
    (body : ∀ (cdv : Value) (A : Around) (outer : List Env) (s : Shared) (H : Hp) (vs : List V) (Q : VK) (E : XK), A.guards = some [] →
      Room k (A.deeper (envOfC qual (defScope st) s.heap.objs.size f cdv)) → sp vs H Q E →
      ∃ t, PSs (cxOf CX0 P w K mg base N qual (defScope st) f cdv A outer s H E).nox (defBody st) t ∧ t { nx := fun _ H' => Q .non H', rt := Q } (start N vs) H) :
    FG P w K mg base (k + 1) f fd ps sp := by
  obtain ⟨oc, od, kV, doc, pm, an, cdv, ct, osl, rfl, lk, hcd⟩ := F.ex
  constructor
  · exact many
  · intro A outer s H args us vs Q E ng hr e0 hb rv hsp
    have inK : K.In s.heap := e0.mod.kin.keeps fun b o q => (e0.bs b o q).1
    have noL : s.heap.NoLimit := e0.mod.nolimit.keeps fun b o q => (e0.bs b o q).1
    have kinds : ∀ y ∈ ps.zip us, (defScope st).names.lookup y.1 = some .local ∨ ((defScope st).names.lookup y.1 = some .cell ∧ ((cellsFrom (s.heap.objs.size + 1) (defScope st).names []).lookup y.1).isSome = true) := by
      rintro ⟨n, v⟩ hy
      cases S.par n (List.of_mem_zip hy).1 with
      | inl q => exact .inl q
      | inr q => exact .inr ⟨q, PySem.W.cellsFrom_some _ _ _ (.inl q)⟩
    apply codeAny_call_function hr.depth (inK _ _ lk) rfl S.co S.gen rfl (PySem.W.codeRec_of inK hcd)
    apply hb
    apply wpAny_newFunctionEnv_cells S.kind kinds
    intro env he s1 xx
    subst he
    refine ⟨noL.keeps xx.toInCall.keep, ?_⟩
    apply codeAny_func
    obtain ⟨t, ht, hq⟩ := body cdv A outer s H vs Q E ng (hr.deeper _) hsp
    have J : Inv (cxOf CX0 P w K mg base N qual (defScope st) f cdv A outer s H E) [] (start N vs) H s1 := inv_start S hr.hd e0 (many _ _ _ _ hsp) rv xx
    refine wpAny_mono (ht.nox.run [] s1 (start N vs) H _ J hq) ?_ (fun _ _ z => z)
    intro fl s' hs
    cases fl with
    | ret u =>
      obtain ⟨v, σ', H', J', r', q⟩ := hs
      exact ⟨v, H', J'.os, J'.bare, J'.base, J'.hok, r', q⟩
    | next =>
      obtain ⟨σ', H', J', q⟩ := hs
      exact ⟨V.non, H', J'.os, J'.bare, J'.base, J'.hok, (rfl : RelV V.non Value.none), q⟩
    | brk => exact hs.elim fun _ z => z.elim fun _ z => z.2.elim
    | cont => exact hs.elim fun _ z => z.elim fun _ z => z.2.elim
end

section
variable {X : Cx} {k : Nat} {f : Addr} {fd : FuncData} {ps : List Str} {sp : Sp} {dvs : List V} {ds : List Value} {x : Str} {p pos : Pos} {e : Expr} {es : List Expr} {t : TA}
/-- a call of such a def, where no guard stands -/
theorem callG (F : FG X.prog X.w X.K X.mg X.base k f fd ps sp) (ng : X.A.guards = some []) (hr : Room k X.A) (hg : Gl X x) (hm : X.mg x = some (.ref f)) (hk : PySem.W.keepIn X.K (.ref f) = true) (hb : Binds X.K fd ps ds) (hd : Vals dvs ds)
    (ha : PA X (e :: es) t) (hdb : (x == ("__debug__" : Str)) = false := by decide) (he : starEach (e :: es) X.env = (false, eval e X.env) :: starEach es X.env := by rfl) (hpl : (backTo pos (starEach es X.env)).any (·.1) = false := by rfl) :
    PE X (.Call (.Name x p) (e :: es) [] pos) (tCall sp dvs E0 t) := by
  constructor
  intro pins s σ H Q I h
  apply wpAny_Call_Name_kw
  apply ld_glob I hg hm _ hdb
  apply PySem.W.callWith_K (h₀ := X.base) I.ok.mod.kin hk _ he hpl
  apply thn (ha.run pos pins s σ H _ I h)
  rintro us s1 ⟨vs, H1, I1, r, q⟩
  refine ⟨I1.kIn, ?_⟩
  have r2 : Vals (vs ++ dvs) (us ++ ds) := r.append hd
  have hl : (us ++ ds).length = ps.length := by rw [← r2.length]; exact F.many _ _ _ _ q
  apply wpAny_call
  apply codeAny_mono (F.goes X.A X.stack s1 H1 ⟨us, []⟩ (us ++ ds) (vs ++ dvs) Q E0 ng hr I1.env0 (hb s1 us I1.kIn hl) r2 q)
  intro res s' hq
  match res, hq with
  | .error _, hq => exact hq.elim
  | .ok (.ret u), hq => exact I1.after hq
  | .ok .next, hq => exact hq.elim
  | .ok .brk, hq => exact hq.elim
  | .ok .cont, hq => exact hq.elim
end

/-! ### the end of a row over such a law -/
theorem endG {P : Program} {w : World} {K : PySem.W.Frag} {mg mb : Str → Option Value} {k : Nat} {fa a : Addr} {fd : FuncData} {x : Str} {sp : Sp} {s : Shared} {us : List Value} {ns : List Int}
    (inK : K.In s.heap) (gl : s.heap.Ns mainGlobals mg) (bu : s.heap.Ns builtinsNs mb) (buE : ∀ x : Str, x ≠ "__name__" → mb x = bootBuiltins x) (noL : s.heap.NoLimit) (noG : s.gens = #[])
    (at_ : s.heap.get? a = some { cls := .type "list", data := .seq us.toArray }) (iA : IntsAre us ns) (len : ns.length ≤ sizeLine) (room : Room k callerA)
    (F : ∀ base : Heap, K.In base → base.Ns mainGlobals mg → FG P w K mg base k fa fd [x] sp) (bnd : ∀ (s : Shared) (u : Value), BindsTo s fd ⟨[u], []⟩ [(x, u)])
    (want : ∀ H : Hp, Only H → SqL K H a (ns.map V.int) → sp [.ref a] H (fun v _ => v = .bl true) E0) :
    codeAny (model P w) callerA (.call (.ref fa) ⟨[.ref a], []⟩) (fun r s' => r = .ok (.ret (.bool true)) ∧ OldK s.heap s'.heap ∧ s'.os = s.os ∧ AllBare s'.gens) s := by
  have rv := vals_ints iA
  have lenV := iA.length
  have key : ∀ H : Hp, Only H → SqL K H a (ns.map V.int) → HOk P w H s.heap → (∀ b, b ≠ a → H b = none) → (K.lookup a ≠ none → H a = none) →
      codeAny (model P w) callerA (.call (.ref fa) ⟨[.ref a], []⟩) (fun r s' => r = .ok (.ret (.bool true)) ∧ OldK s.heap s'.heap ∧ s'.os = s.os ∧ AllBare s'.gens) s := by
    intro H oH sH okH one hK
    have nd : ∀ {b : Addr} {o : Obj} {es : Array DictEntry} {ep : Nat}, s.heap.get? b = some o → o.data = .dict es ep → H b = none := by
      intro b o es ep e d
      by_cases eb : b = a
      · rw [eb, at_] at e
        cases e
        exact nomatch (show Data.seq us.toArray _ = Data.dict es ep from d)
      · exact one b eb
    have nsH : ∀ {b : Addr} {m : Str → Option Value}, s.heap.Ns b m → (hidT s.heap H).Ns b m := by
      rintro b m ⟨o, es, ep, e, d, r⟩
      exact ⟨o, es, ep, hidT_get e (nd e d), d, r⟩
    have kH : K.In (hidT s.heap H) := by
      intro b o e
      apply hidT_get (inK b o e)
      by_cases eb : b = a
      · rw [eb]
        exact hK (by rw [← eb, e]; simp)
      · exact one b eb
    have md : Mod K mg (hidT s.heap H) := ⟨kH, nsH gl, ⟨mb, nsH bu, buE⟩, noL.elim fun mc q => ⟨mc, nsH q.1, q.2⟩⟩
    have e0 : Env0 P w K mg (hidT s.heap H) callerA [] s H :=
      { frames := rfl, mod := md, bs := fun b o e => of_hidT e, bsz := Nat.le_of_eq (hidT_size _ _), funs := trivial, frf := fun b hb => (nomatch (show b ∈ ([] : List Addr) from hb)), hok := okH, bare := .of_eq noG }
    apply codeAny_mono ((F _ kH (nsH gl)).goes callerA [] s H ⟨[.ref a], []⟩ [.ref a] [.ref a] _ _ rfl room e0 (bnd s (.ref a)) (.cons rfl .nil) (want H oH sH))
    intro r s' h
    match r, h with
    | .error e, h => exact h.elim
    | .ok .next, h => exact h.elim
    | .ok .brk, h => exact h.elim
    | .ok .cont, h => exact h.elim
    | .ok (.ret u), ⟨v, H', os, bare, un, ok', r', q⟩ =>
      have q' : v = .bl true := q
      subst q'
      have eu : u = Value.bool true := r'
      subst eu
      refine ⟨rfl, OldK.of_keep ?_, os, bare⟩
      intro b o e
      cases eb : H b with
      | none => exact un.keep b o e eb (fun z => (nomatch (show b ∈ ([] : List Addr) from z))) (by simp)
      | some u =>
        cases oH b with
        | inl z => rw [eb] at z; cases z
        | inr z =>
          obtain ⟨ob, xs, z⟩ := z
          have e1 := (okH b _ z).1
          have e2 := (ok' b _ (un.frzs b ob _ z)).1
          rw [e] at e1
          cases e1
          exact e2
  cases hk : K.lookup a with
  | some o =>
    have e := inK a o hk
    rw [at_] at e
    cases e
    apply key (fun _ => none) (fun _ => .inl rfl) _ (fun b u z => nomatch (show (none : Option HO) = some u from z)) (fun _ _ => rfl) (fun _ => rfl)
    exact .inr ⟨_, us.toArray, _, hk, rfl, rfl, rfl, by rw [List.size_toArray, lenV]; exact len, by simpa using rv⟩
  | none =>
    let fz : HO := .frz { cls := .type "list", data := .seq us.toArray } (.lst (ns.map V.int))
    apply key (fun b => if b = a then some fz else none)
    · intro b
      by_cases hb : b = a
      · exact .inr ⟨_, _, if_pos hb⟩
      · exact .inl (if_neg hb)
    · exact .inl (.inr ⟨_, if_pos rfl⟩)
    · intro b u z
      by_cases hb : b = a
      · have z' := (if_pos hb).symm.trans z
        cases z'
        subst hb
        exact ⟨at_, by rw [List.length_map]; exact len, us, _, rv, at_⟩
      · have z' := (if_neg hb).symm.trans z
        cases z'
    · intro b hb
      exact if_neg hb
    · intro z
      exact absurd hk z
theorem walkG {l : PySem.W.OpenLaw} {n k : Nat} {q : Program} {loose : List Str} {XP : (Str → Option Value) → Heap → Prop} {YP : World → Heap → Prop} {d : DefRec} {K : Params → PySem.W.Frag} {sp : PySem.W.Frag → Sp} {x : Str}
    (most : l.most = some n) (small : n ≤ sizeLine) (plain : d.params.defaults = []) (room : Room k callerA) (hY : ∀ (w : World) (h : Heap), YP w h → (K w.params).In h)
    (F : ∀ (w : World) (mg : Str → Option Value) (fa : Addr) (h : Heap), (K w.params).In h → h.Ns mainGlobals mg → mg d.name = some (.ref fa) →
      ∃ fd : FuncData, (∀ (s : Shared) (u : Value), BindsTo s fd ⟨[u], []⟩ [(x, u)]) ∧
        ∀ base : Heap, (K w.params).In base → base.Ns mainGlobals mg → FG l.prog w (K w.params) mg base k fa fd [x] (sp (K w.params)))
    (want : ∀ (K : PySem.W.Frag) (H : Hp) (a : Addr) (ns : List Int), ns.length ≤ n → Only H → SqL K H a (ns.map V.int) → sp K [.ref a] H (fun v _ => v = .bl true) E0) :
    PySem.W.WalkO q loose XP YP l.row.toRowW d [] (fun f vs => PySem.call f vs) := by
  apply Att.attach_call most plain
  intro w s₀ s₁ mg mb fa o pm cd doc a us ns G Y ho hd hcd hmg at_ iA len noG
  obtain ⟨fd, hb, hF⟩ := F w mg fa _ (hY w _ Y) G.T.g hmg
  exact endG (hY w _ Y) G.T.g G.T.b G.T.builtins G.T.nolimit noG at_ iA (Nat.le_trans len small) room hF hb fun H hO hS => want (K w.params) H a ns len hO hS

/-! ### a value is told by what is wanted of it, then what follows is shown once -/
theorem cutA {te : TE} {g : TG} {u : TS} {D : Ends} {σ : L2.St} {H : Hp} (W : V → Hp → Prop) (h1 : ∀ Q : VK, (∀ v H', W v H' → Q v H') → te σ H Q) (h2 : ∀ v H', W v H' → g v σ H' (u D)) : tSeq (tAsg te g) u D σ H := h1 _ h2
theorem cutT {t u : TS} {D : Ends} {σ : L2.St} {H : Hp} (W : L2.St → Hp → Prop) (h1 : ∀ N : L2.St → Hp → Prop, (∀ σ' H', W σ' H' → N σ' H') → t { D with nx := N } σ H) (h2 : ∀ σ' H', W σ' H' → u D σ' H') : tSeq t u D σ H := h1 _ h2

/-- a store; then «dsimp only» -/
theorem gN {i : Nat} {v : V} {σ : L2.St} {H : Hp} {N : L2.St → Hp → Prop} (h : N (σ.set i (some v)) H) : gName i v σ H N := h
/-- a comprehension without a test -/
theorem yes {σ : L2.St} {H : Hp} {F G : Hp → Prop} (h : F H) : tYes σ H (fun b H3 => if b = true then F H3 else G H3) := by
  show (if true = true then F H else G H)
  rw [if_pos rfl]
  exact h

/-! ### reprs of data -/
section
variable {X : Cx}
/-- repr(x), x a list or a tuple of data -/
theorem call_repr (ng : X.A.guards = some []) (hu : X.A.units + 64 < cLine) :
    CallR X (.builtin "repr") (fun xs H Q => ∃ x d, xs = [x] ∧ Dp X.K H x d ∧ isDisplay d = true ∧ d.showable = true ∧ d.hasDict = false ∧ d.depth < 60 ∧ d.shown.length ≤ sizeLine ∧ Q (.str d.shown) H) := by
  intro pins s σ H xs us Q I r h
  obtain ⟨x, d, rfl, dp, dis, sho, nod, dep, len, q⟩ := h
  cases r with
  | cons r1 r2 =>
    cases r2
    obtain ⟨as, rd⟩ := Dp.reads I d x _ dp r1
    obtain ⟨a, rfl⟩ := isRef_of_reads rd dis
    apply repr_of_reads' rd sho (PyData.noDict_hsm nod) ng (by omega) (fun _ _ e => e) _ len
    intro h' u tk kp
    exact ⟨.str d.shown, H, I.kept (h' := h') (t' := tk) kp, ⟨u, rfl⟩, q⟩
/-- x.ljust(i, c) -/
theorem mt_ljustF : MtR X "str.ljust" (fun x xs H Q => ∃ (a : Str) (i : Int) (c : Nat), x = .str a ∧ xs = [.int i, .str ⟨#[c]⟩] ∧ PadOk i = true ∧ Q (.str (Txt.ljustF a i c)) H) := by
  intro pins s σ H x xs v us Q I rx rs h
  obtain ⟨a, i, c, rfl, rfl, pad, q⟩ := h
  obtain ⟨t, rfl⟩ := rx
  cases rs with
  | cons r1 rs =>
    cases rs with
    | cons r2 rs =>
      cases rs
      obtain ⟨u, rfl⟩ := r1
      obtain ⟨z, rfl⟩ := r2
      apply ljust_fill pad rfl
      intro t' k
      exact ⟨.str _, H, I.tok k, ⟨t', rfl⟩, q⟩
end

/-! ### calls by names alone -/
section
variable {X : Cx} {CX : CXT} {k : Nat} {f : Addr} {fd : FuncData} {ps ks : List Str} {sp : Sp} {E : XK} {x : Str} {p pos : Pos} {kws : List Keyword} {tk : TA} {g : List Value → List Value → List Value} {gV : List V → List V → List V}
/-- f(k = v, ..) -/
theorem callK0 (F : FnOk X.prog X.w X.K X.mg X.base CX k f fd ps sp) (hr : Room k X.A) (hg : Gl X x) (hm : X.mg x = some (.ref f)) (hk : PySem.W.keepIn X.K (.ref f) = true) (hb : KBinds X.K fd ps ks g gV) (hx : Passes CX X E) (hkw : PK X kws tk)
    (hall : (backToKw pos (keywordEach kws X.env)).all (·.1.isSome) = true := by rfl) (hks : (backToKw pos (keywordEach kws X.env)).filterMap (·.1) = ks := by rfl) (hdb : (x == ("__debug__" : Str)) = false := by decide)
    (hpl : ((backTo pos (starEach [] X.env)).any (·.1) || (backToKw pos (keywordEach kws X.env)).any (·.1.isNone)) = false := by rfl) :
    PE X (.Call (.Name x p) [] kws pos) (tCallK sp gV E tNil tk) := by
  constructor
  intro pins s σ H Q I h
  apply wpAny_Call_Name_kw
  apply ld_glob I hg hm _ hdb
  apply PySem.W.callWith_KW0 (h₀ := X.base) I.ok.mod.kin hk hall _ hpl
  apply thn (hkw.run pos pins s σ H _ I h)
  rintro ws s2 ⟨zs, H2, I2, rz, q2⟩
  refine ⟨I2.kIn, ?_⟩
  rw [hks]
  exact run_fnk (us := []) (vs := []) F hr hb hx I2 .nil rz q2
end
/-- two parameters, told by their names the other way about -/
def swp {α : Type} : List α → List α → List α
  | [], [a, b] => [b, a]
  | _, _ => []
theorem kb_swp {K : PySem.W.Frag} {x qual : Str} {st : Stmt} {f : Addr} {fd : FuncData} {p1 p2 : Str} (F : Fun K x qual st f fd)
    (h : ∀ (kV doc pm : Value) (an : Option Addr) (cdv ct : Value) (a b : Value), bindArgs (PySem.W.fnOf x qual (defArgs st) (defBody st) (defScope st) .none kV doc pm an cdv ct) ⟨[], [(p2, a), (p1, b)]⟩ = pure [(p1, b), (p2, a)]) :
    KBinds K fd [p1, p2] [p2, p1] swp swp := by
  obtain ⟨oc, od, kV, doc, pm, an, cdv, ct, osl, rfl, lk, hcd⟩ := F.ex
  constructor
  · intro s us ws _ hl
    match us, ws, hl with
    | [], [a, b], _ => exact .of_eq (h kV doc pm an cdv ct a b)
    | [], [], hl => exact absurd hl (by simp [swp])
    | [], [_], hl => exact absurd hl (by simp [swp])
    | [], _ :: _ :: _ :: _, hl => exact absurd hl (by simp [swp])
    | _ :: _, _, hl => exact absurd hl (by simp [swp])
  · intro vs us zs ws h1 h2
    cases h1 with
    | nil =>
      cases h2 with
      | nil => exact .nil
      | cons a h2 =>
        cases h2 with
        | nil => exact .nil
        | cons b h2 =>
          cases h2 with
          | nil => exact .cons b (.cons a .nil)
          | cons c h2 => exact .nil
    | cons a h1 =>
      cases h2 with
      | nil => exact .nil
      | cons b h2 => exact .nil
/-! ### the text of a list of two -/
theorem two_text (t u : Str) : (listText [t, u]).length = t.length + u.length + 4 := by
  have e : listText [t, u] = ((((Str.ofString "[" ++ Str.ofString "") ++ t) ++ Str.ofString ", ") ++ u) ++ Str.ofString "]" := rfl
  rw [e, TL.len_tl]
  simp only [TL.tl_append, List.length_append]
  rw [show (TL.tl (Str.ofString "[")).length = 1 by decide +kernel, show (TL.tl (Str.ofString "")).length = 0 by decide +kernel, show (TL.tl (Str.ofString ", ")).length = 2 by decide +kernel, show (TL.tl (Str.ofString "]")).length = 1 by decide +kernel, ← TL.len_tl, ← TL.len_tl]
  omega
theorem two_small {t : Str} {d : PyData} (e : d.shown = t) (h : t.length ≤ 1000) : (PyData.list [d, d]).shown.length ≤ sizeLine := by
  simp only [PyData.shown, PyData.shownAll, e]
  rw [two_text]
  exact Nat.le_trans (show _ ≤ 3000 by omega) (by decide)
end Bs
set_option Elab.async false
set_option linter.all false
set_option maxRecDepth 100000
set_option maxHeartbeats 4000000
namespace K02
open PySem PySem.Spec PyProof.Rows L2 Bs TL
def top (i : Nat) : Stmt := PySem.Challenge.pw_cleanedtables_k02_numbers_read_and_writt.main.body.getD i (.Pass ⟨0, 0, 0, 0⟩)
abbrev sHand : Stmt := top 24
abbrev sTake : Stmt := top 25
abbrev sPick : Stmt := top 26
abbrev sFigs : Stmt := top 27
abbrev sSigns : Stmt := top 28
/-! ### a hand: its three numbers -/
def HandAt (H : Hp) (h : Addr) (n : Nat) : Prop := ∃ g s c : Int, H h = some (.lst [.int g, .int s, .int c]) ∧ 0 ≤ s ∧ s < 2305843009213693951 ∧ 0 ≤ c ∧ c ≤ n
/-- all but h as it was -/
def But (h : Addr) (H H' : Hp) : Prop := ∀ b o, b ≠ h → H b = some o → H' b = some o
theorem But.refl (h : Addr) (H : Hp) : But h H H := fun _ _ _ e => e
theorem But.trans {h : Addr} {H H1 H2 : Hp} (a : But h H H1) (b : But h H1 H2) : But h H H2 := fun c o n e => b c o n (a c o n e)
theorem But.upd {h : Addr} {H : Hp} {o : HO} : But h H (upd H h o) := fun c p n e => by rw [upd_ne n]; exact e
theorem But.of {h : Addr} {H H' : Hp} (s : Same H H') : But h H H' := fun b o _ e => s b o e
theorem But.seq {K : PySem.W.Frag} {h a : Addr} {H H' : Hp} {xs : List V} (e : But h H H') (n : a ≠ h) (q : SqL K H a xs) : SqL K H' a xs := by
  rcases q with (q | ⟨o, q⟩) | q
  · exact .inl (.inl (e _ _ n q))
  · exact .inl (.inr ⟨o, e _ _ n q⟩)
  · exact .inr q
theorem Same.new {H : Hp} {p : Addr} {o : HO} (n : H p = none) : Same H (upd H p o) := fun b u e => by rw [upd_ne (ne_of_none e n)]; exact e
theorem HandAt.mono {H H' : Hp} {h : Addr} {n m : Nat} (a : HandAt H h n) (s : Same H H') (l : n ≤ m) : HandAt H' h m := by
  obtain ⟨g, t, c, e, h1, h2, h3, h4⟩ := a
  exact ⟨g, t, c, s _ _ e, h1, h2, h3, by omega⟩
theorem HandAt.up {H : Hp} {h : Addr} {n m : Nat} (a : HandAt H h n) (l : n ≤ m) : HandAt H h m := a.mono (Same.refl H) l

/-! ### the promises -/
def spTake : Sp := fun vs H Q _ => ∃ (h : Addr) (n : Nat) (m : Int), vs = [.ref h, .int m] ∧ HandAt H h n ∧ n < 1000000 ∧ 0 < m ∧ m < 1000000000 ∧
  ∀ (r : Int) (H' : Hp), 0 ≤ r → r < m → HandAt H' h (n + 1) → But h H H' → Q (.int r) H'
/-- pick from a text, from a list -/
def spPick (K : PySem.W.Frag) : Sp := fun vs H Q _ => ∃ (h : Addr) (n : Nat) (x : V) (ys : List V), vs = [.ref h, x] ∧ HandAt H h n ∧ n < 1000000 ∧ 0 < ys.length ∧ ys.length ≤ 1000 ∧
  ((∃ z : Str, x = .str z ∧ ys = z.cps.toList.map fun c => V.str ⟨#[c]⟩) ∨ (∃ p, x = .ref p ∧ p ≠ h ∧ SqL K H p ys)) ∧
  ∀ (y : V) (H' : Hp), y ∈ ys → HandAt H' h (n + 1) → But h H H' → Q y H'
structure Txt (mg : Str → Option Value) : Prop where
  len : mg "len" = none
  abs : mg "abs" = none
  int : mg "int" = none
  range : mg "range" = none
section
variable {P : Program} {w : World} {K : PySem.W.Frag} {mg : Str → Option Value} {base : Heap}
theorem scT : FnScope ["_law_hand_here", "_law_many", "_law_digit", "_law_turn", "_law_one", "_law_two", "_law_mixed", "_law_last"] ["_law_hand_here", "_law_many"] (defScope sTake) := ⟨rfl, rfl, rfl, by decide +kernel, rfl, by decide +kernel, by decide +kernel⟩
theorem at3 {a b c : V} : ∀ j : Nat, j < 3 → ∃ v, ([a, b, c] : List V)[j]? = some v := fun j h => ⟨_, List.getElem?_eq_getElem (l := [a, b, c]) (by simpa using h)⟩
theorem ok_take {f : Addr} {fd : FuncData} (F : Fun K "_law_take" "_law_take" sTake f fd) : FnOk P w K mg base CX0 1 f fd ["_law_hand_here", "_law_many"] spTake := by
  refine F.ok scT (fun vs H Q E h => ?_) (fun cdv A outer s H vs Q E hr h => ?_)
  · obtain ⟨h, n, m, rfl, _⟩ := h
    rfl
  · obtain ⟨h, n, m, rfl, ⟨g, t, c, e, t0, t1, c0, c1⟩, nb, m0, m1, k⟩ := h
    have at0 : atI ([V.int g, V.int t, V.int c]) 0 = some (V.int g) := atI_nat (j := 0) rfl
    have at1 : atI ([V.int g, V.int t, V.int c]) 1 = some (V.int t) := atI_nat (j := 1) rfl
    have at2 : atI ([V.int g, V.int t, V.int c]) 2 = some (V.int c) := atI_nat (j := 2) rfl
    refine ⟨_, pss_cons (ps_if (pt_cmpR op_gt (pe_ix ix_list (pv 0) pe_int (fun _ _ => rfl)) pe_int (nomark _))
        (pss_cons (ps_set (i := 2) scT.nd rfl (Or.inl rfl) (pe_op op_mod (pe_ix ix_list (pv 0) pe_int (fun _ _ => rfl)) (pv 1)))
          (pss_cons (ps_asg (pe_op op_fdiv (pe_ix ix_list (pv 0) pe_int (fun _ _ => rfl)) (pv 1)) (pg_sub (pv 0) pe_int set_list))
            (pss_one (ps_ret (pv 2))))) pss_nil)
      (pss_cons (ps_set (i := 3) scT.nd rfl (Or.inl rfl) (pe_op op_add (pe_ix ix_list (pv 0) pe_int (fun _ _ => rfl)) pe_int))
      (pss_cons (ps_asg (pv 3) (pg_sub (pv 0) pe_int set_list))
      (pss_cons (ps_set (i := 4) scT.nd rfl (Or.inl rfl) (pe_op op_add (pe_ix ix_list (pv 0) pe_int (fun _ _ => rfl)) (pe_op op_mul pe_int (pv 3))))
      (pss_cons (ps_set (i := 5) scT.nd rfl (Or.inl rfl) (pe_op op_add (pe_op op_add (pe_op op_mod (pe_ix ix_list (pv 0) pe_int (fun _ _ => rfl)) pe_int) (pe_op op_mul pe_int (pv 3))) pe_int))
      (pss_cons (ps_set (i := 6) scT.nd rfl (Or.inl rfl) (pe_op op_mod (pe_op op_mul (pv 4) (pv 5)) pe_int))
      (pss_cons (ps_set (i := 7) scT.nd rfl (Or.inl rfl) (pe_op op_add (pe_op op_add (pe_op op_mod (pv 6) pe_int) (pe_op op_mul pe_int (pv 3))) pe_int))
      (pss_one (ps_ret (pe_op op_mod (pe_op op_fdiv (pe_op op_mod (pe_op op_mul (pe_op op_add (pv 6) pe_int) (pv 7)) pe_int) pe_int) (pv 1)))))))))), ?_⟩
    refine ⟨_, rfl, h, _, _, _, rfl, rfl, SqL.of e, at0, _, _, rfl, rfl, _, rfl, ?_⟩
    by_cases hc : (0 : Int) < g
    · rw [decide_eq_true hc]
      refine iteT ?_
      refine ⟨_, rfl, h, _, _, _, rfl, rfl, SqL.of e, at0, _, rfl, _, _, rfl, rfl, m0, ?_⟩
      refine ⟨_, rfl, h, _, _, _, rfl, rfl, SqL.of e, at0, _, rfl, _, _, rfl, rfl, ⟨m0, by omega⟩, ?_⟩
      refine ⟨_, rfl, h, _, _, 0, rfl, rfl, e, rfl, ?_⟩
      refine ⟨_, rfl, ?_⟩
      exact k _ _ (Int.emod_nonneg _ (by omega)) (Int.emod_lt_of_pos _ m0) ⟨g / m, t, c, upd_same, t0, t1, c0, by omega⟩ But.upd
    · rw [decide_eq_false hc]
      refine iteF ?_
      refine ⟨_, rfl, h, _, _, _, rfl, rfl, SqL.of e, at2, _, _, rfl, rfl, ?_⟩
      refine ⟨_, rfl, _, rfl, h, _, _, 2, rfl, rfl, e, rfl, ?_⟩
      have e1 : upd H h (.lst [.int g, .int t, .int (c + 1)]) h = some (.lst [.int g, .int t, .int (c + 1)]) := upd_same
      have b1 : atI ([V.int g, V.int t, V.int (c + 1)]) 1 = some (V.int t) := atI_nat (j := 1) rfl
      refine ⟨_, rfl, h, _, _, _, rfl, rfl, SqL.of e1, b1, _, rfl, _, _, rfl, rfl, .inl ⟨by decide, by decide⟩, _, _, rfl, rfl, ?_⟩
      refine ⟨_, rfl, h, _, _, _, rfl, rfl, SqL.of e1, b1, _, _, rfl, rfl, (by decide : (0 : Int) < 7919), _, rfl, _, _, rfl, rfl, .inl ⟨by decide, by decide⟩, _, _, rfl, rfl, _, _, rfl, rfl, ?_⟩
      have oneB : -(2 ^ 64) < t + 104729 * (c + 1) ∧ t + 104729 * (c + 1) < 2 ^ 64 := by omega
      refine ⟨_, rfl, _, rfl, _, _, rfl, rfl, .inl oneB, _, _, rfl, rfl, (by decide : (0 : Int) < 2305843009213693951), ?_⟩
      generalize (t + 104729 * (c + 1)) * (t % 7919 + 15485863 * (c + 1) + 17) = big
      have m0' : 0 ≤ big % 2305843009213693951 := Int.emod_nonneg _ (by decide)
      have m1' : big % 2305843009213693951 < 2305843009213693951 := Int.emod_lt_of_pos _ (by decide)
      refine ⟨_, rfl, _, _, rfl, rfl, (by decide : (0 : Int) < 1000003), _, rfl, _, _, rfl, rfl, .inl ⟨by decide, by decide⟩, _, _, rfl, rfl, _, _, rfl, rfl, ?_⟩
      have mB : -(2 ^ 64) < big % 2305843009213693951 + 13 ∧ big % 2305843009213693951 + 13 < 2 ^ 64 := by omega
      refine ⟨_, rfl, _, _, rfl, rfl, _, rfl, _, _, rfl, rfl, .inl mB, _, _, rfl, rfl, (by decide : (0 : Int) < 2305843009213693907), _, _, rfl, rfl, ⟨by decide, by decide⟩, _, rfl, _, _, rfl, rfl, m0, ?_⟩
      exact k _ _ (Int.emod_nonneg _ (by omega)) (Int.emod_lt_of_pos _ m0) ⟨g, t, c + 1, upd_same, t0, t1, by omega, by omega⟩ But.upd

/-! ### the hand, a pick, figures, signs -/
theorem scH : FnScope ["_law_script", "_law_k", "_law_cell", "_law_great"] ["_law_script", "_law_k"] (defScope sHand) := ⟨rfl, rfl, rfl, by decide +kernel, rfl, by decide +kernel, by decide +kernel⟩
def spHand (K : PySem.W.Frag) : Sp := fun vs H Q _ => ∃ (a : Addr) (ns : List Int) (j : Nat), vs = [.ref a, .int (j : Int)] ∧ SqL K H a (ns.map V.int) ∧ ns.length ≤ 63 ∧ j < 64 ∧
  ∀ (p : Addr) (H' : Hp), H p = none → Same H H' → HandAt H' p 0 → Q (.ref p) H'
theorem ok_hand {f : Addr} {fd : FuncData} (F : Fun K "_law_hand" "_law_hand" sHand f fd) (T : Txt mg) : FnOk P w K mg base CX0 1 f fd ["_law_script", "_law_k"] (spHand K) := by
  refine F.ok scH (fun vs H Q E h => ?_) (fun cdv A outer s H vs Q E hr h => ?_)
  · obtain ⟨a, ns, j, rfl, _⟩ := h
    rfl
  · obtain ⟨a, ns, j, rfl, hS, hl, hj, k⟩ := h
    have hr1 := hr
    refine ⟨_, pss_cons (ps_set (i := 2) scH.nd rfl (Or.inl rfl) (pe_ifExp (pt_cmpR op_lt (pv 1) (pe_callB call_len_seq (by rfl) T.len PySem.boot_len (pa_cons (pv 0) pa_nil)) (nomark _)) (pe_ix ix_list (pv 0) (pv 1) (fun _ _ => rfl)) pe_int))
      (pss_cons (ps_set (i := 3) scH.nd rfl (Or.inl rfl) (pe_ifExp (pt_cmpR op_ge (pe_callB call_abs (by rfl) T.abs (by decide +kernel) (pa_cons (pv 2) pa_nil)) (pe_op op_pow pe_int pe_int) (nomark _))
        (pe_op op_mod (pe_callB call_abs (by rfl) T.abs (by decide +kernel) (pa_cons (pv 2) pa_nil)) (pe_op op_mulW (pe_op op_mulW (pe_op op_pow pe_int pe_int) (pe_op op_pow pe_int pe_int)) (pe_op op_pow pe_int pe_int))) pe_int))
      (pss_one (ps_ret (pe_lst (pa_cons (pv 3) (pa_cons (pe_op op_mod (pe_op op_add (pe_op op_add (pe_op op_mul (pe_op op_mod (pv 2) pe_int) pe_int) (pe_op op_mul pe_int (pv 1))) pe_int) pe_int) (pa_cons pe_int pa_nil))))))), ?_⟩
    refine cutA (fun v H' => (∃ cell : Int, v = .int cell) ∧ H' = H) (fun Q' q => ?_) ?_
    · refine ⟨_, rfl, _, rfl, a, _, rfl, .inl hS, _, _, rfl, rfl, _, rfl, ?_⟩
      by_cases c : (j : Int) < ((ns.map V.int).length : Nat)
      · rw [decide_eq_true c]
        refine iteT ?_
        rw [List.length_map] at c
        have hj' : j < ns.length := by omega
        refine ⟨_, rfl, _, rfl, a, _, _, .int ns[j], rfl, rfl, hS, atI_nat (by rw [List.getElem?_map, List.getElem?_eq_getElem hj']; rfl), ?_⟩
        exact q _ _ ⟨⟨_, rfl⟩, rfl⟩
      · rw [decide_eq_false c]
        refine iteF ?_
        exact q _ _ ⟨⟨_, rfl⟩, rfl⟩
    · rintro v H' ⟨⟨cell, rfl⟩, rfl⟩
      refine cutA (fun v H2 => (∃ great : Int, v = .int great) ∧ H2 = H') (fun Q' q => ?_) ?_
      · refine ⟨_, rfl, _, rfl, _, _, rfl, rfl, ⟨by decide, by decide, by decide⟩, _, _, rfl, rfl, _, rfl, ?_⟩
        refine ite2 (fun _ => ?_) (fun _ => ?_)
        · refine ⟨_, rfl, _, rfl, _, _, rfl, rfl, ⟨by decide, by decide, by decide⟩, _, _, rfl, rfl, ⟨by decide, by decide, by decide⟩, _, _, rfl, rfl, wide_mul (a := 300) (b := 300) (by decide +kernel) (by decide +kernel) (by decide) (by decide) (by decide), _, _, rfl, rfl, ⟨by decide, by decide, by decide⟩,
            _, _, rfl, rfl, wide_mul (a := 600) (b := 300) (by decide +kernel) (by decide +kernel) (by decide) (by decide) (by decide), _, _, rfl, rfl, (by show (0 : Int) < 10 ^ Int.toNat 60 * 10 ^ Int.toNat 60 * 10 ^ Int.toNat 60; decide +kernel), ?_⟩
          exact q _ _ ⟨⟨_, rfl⟩, rfl⟩
        · exact q _ _ ⟨⟨_, rfl⟩, rfl⟩
      · rintro v H2 ⟨⟨great, rfl⟩, rfl⟩
        have mB : -(2 ^ 64) < cell % 2305843009213693951 ∧ cell % 2305843009213693951 < 2 ^ 64 := by omega
        refine ⟨_, rfl, _, rfl, _, _, rfl, rfl, (by decide : (0 : Int) < 2305843009213693951), _, _, rfl, rfl, .inl mB, _, rfl, _, _, rfl, rfl, .inl ⟨by decide, by decide⟩, _, _, rfl, rfl, _, _, rfl, rfl, _, _, rfl, rfl, (by decide : (0 : Int) < 2305843009213693921), (by show 3 ≤ sizeLine; decide), fun p hp => ?_⟩
        exact k p _ hp (Same.new hp) ⟨_, _, _, upd_same, Int.emod_nonneg _ (by decide), Int.lt_trans (Int.emod_lt_of_pos _ (by decide)) (by decide), Int.le_refl _, Int.le_refl _⟩

theorem scP : FnScope ["_law_hand_here", "_law_some"] ["_law_hand_here", "_law_some"] (defScope sPick) := ⟨rfl, rfl, rfl, by decide +kernel, rfl, by decide +kernel, by decide +kernel⟩
theorem ok_pick {f fT : Addr} {fd fdT : FuncData} (F : Fun K "_law_pick" "_law_pick" sPick f fd) (T : Txt mg) (FT : Fun K "_law_take" "_law_take" sTake fT fdT) (bT : Binds K fdT ["_law_hand_here", "_law_many"] []) (gT : mg "_law_take" = some (.ref fT)) :
    FnOk P w K mg base CX0 2 f fd ["_law_hand_here", "_law_some"] (spPick K) := by
  have GT : FnOk P w K mg base CX0 1 fT fdT ["_law_hand_here", "_law_many"] spTake := ok_take FT
  refine F.ok scP (fun vs H Q E h => ?_) (fun cdv A outer s H vs Q E hr h => ?_)
  · obtain ⟨h, n, x, ys, rfl, _⟩ := h
    rfl
  · obtain ⟨h, n, x, ys, rfl, hd, nb, l0, l1, sh, k⟩ := h
    rcases sh with ⟨z, rfl, rfl⟩ | ⟨p, rfl, ne, hp⟩
    · have zl : z.length = (z.cps.toList.map fun c => V.str ⟨#[c]⟩).length := by rw [List.length_map]; simp [Str.length]
      refine ⟨_, pss_one (ps_ret (pe_ix ix_str (pv 1) (pe_call GT hr (by rfl) gT FT.kp bT .nil pass0 (pa_cons (pv 0) (pa_cons (pe_callB call_len_str (by rfl) T.len PySem.boot_len (pa_cons (pv 1) pa_nil)) pa_nil))) (fun _ _ => rfl))), ?_⟩
      refine ⟨_, rfl, _, rfl, _, rfl, z, rfl, Nat.le_trans (by omega) (show 1000 ≤ sizeLine by decide), h, n, _, rfl, hd, nb, by omega, by omega, fun r H' r0 r1 hd' bt => ?_⟩
      have rl : r.toNat < z.cps.toList.length := by rw [List.length_map] at zl; omega
      refine ⟨z, r, z.cps.toList[r.toNat], rfl, rfl, Nat.le_trans (by omega) (show 1000 ≤ sizeLine by decide), ?_, ?_⟩
      · have e := atI_nat (xs := z.cps.toList) (j := r.toNat) (List.getElem?_eq_getElem rl)
        rw [Int.toNat_of_nonneg r0] at e
        exact e
      · exact k _ _ (List.mem_map.mpr ⟨_, List.getElem_mem rl, rfl⟩) hd' bt
    · refine ⟨_, pss_one (ps_ret (pe_ix ix_list (pv 1) (pe_call GT hr (by rfl) gT FT.kp bT .nil pass0 (pa_cons (pv 0) (pa_cons (pe_callB call_len_seq (by rfl) T.len PySem.boot_len (pa_cons (pv 1) pa_nil)) pa_nil))) (fun _ _ => rfl))), ?_⟩
      refine ⟨_, rfl, _, rfl, _, rfl, p, _, rfl, .inl hp, h, n, _, rfl, hd, nb, by omega, by omega, fun r H' r0 r1 hd' bt => ?_⟩
      have rl : r.toNat < ys.length := by omega
      refine ⟨p, _, r, ys[r.toNat], rfl, rfl, bt.seq ne hp, ?_, ?_⟩
      · have e := atI_nat (xs := ys) (j := r.toNat) (List.getElem?_eq_getElem rl)
        rw [Int.toNat_of_nonneg r0] at e
        exact e
      · exact k _ _ (List.getElem_mem rl) hd' bt
/-! texts of plain signs -/
def Good (L : Nat) (z : Str) : Prop := z.length ≤ L ∧ ∀ c ∈ z.cps.toList, 32 ≤ c ∧ c < 127
theorem Good.app {a b : Nat} {x y : Str} (h : Good a x) (g : Good b y) : Good (a + b) (x ++ y) := by
  refine ⟨?_, fun c hc => ?_⟩
  · have e := congrArg List.length (tl_append x y)
    rw [List.length_append] at e
    rw [len_tl, e, ← len_tl, ← len_tl]
    exact Nat.add_le_add h.1 g.1
  · have e : c ∈ tl x ++ tl y := by rw [← tl_append]; exact hc
    rcases List.mem_append.mp e with e | e
    · exact h.2 c e
    · exact g.2 c e
theorem Good.cut {L : Nat} {z : Str} (h : Good L z) (lo hi : Option Int) : Good L (cutS z lo hi) :=
  ⟨Nat.le_trans (cutS_length z lo hi) h.1, fun c hc => h.2 c (List.mem_of_mem_drop (List.mem_of_mem_take hc))⟩
theorem Good.le {a b : Nat} {z : Str} (h : Good a z) (l : a ≤ b) : Good b z := ⟨Nat.le_trans h.1 l, h.2⟩
def spFigs : Sp := fun vs H Q _ => ∃ (h : Addr) (n : Nat) (m : Int), vs = [.ref h, .int m] ∧ HandAt H h n ∧ n + 30 < 1000000 ∧ 0 ≤ m ∧ m < 20 ∧
  ∀ (z : Str) (H' : Hp), Good m.toNat z → HandAt H' h (n + 30) → But h H H' → Q (.str z) H'
abbrev nF : List Str := ["_law_hand_here", "_law_most", "_law_many", "_law_k"]
theorem scF : FnScope nF ["_law_hand_here", "_law_most"] (defScope sFigs) := ⟨rfl, rfl, rfl, by decide +kernel, rfl, by decide +kernel, by decide +kernel⟩
theorem join_nil : ∀ ys : List Str, Txt.join (Str.ofString "") ys = ⟨((ys.map tl).flatten).toArray⟩ := by
  intro ys
  apply TL.ext_tl
  rw [TL.join_eq, TL.tl_join, TL.tl_mk]
  have e : tl (Str.ofString "") = [] := by rw [tl_ofString]; rfl
  show joinL (tl (Str.ofString "")) (ys.map tl) = (ys.map tl).flatten
  rw [e]
  generalize ys.map tl = l
  induction l with
  | nil => rfl
  | cons a r ih =>
    cases r with
    | nil => simp [joinL]
    | cons b r =>
      have u : joinL [] (a :: b :: r) = a ++ ([] ++ joinL [] (b :: r)) := by simp [joinL]
      rw [u, ih]
      simp
theorem glue : ∀ {zs : List Str}, (∀ z ∈ zs, Good 1 z) → Good zs.length (Txt.join (Str.ofString "") zs) ∧ (zs.map (·.length)).sum ≤ zs.length := by
  intro zs h
  rw [join_nil]
  induction zs with
  | nil => exact ⟨⟨Nat.le_refl _, fun c hc => by simp at hc⟩, Nat.le_refl _⟩
  | cons z r ih =>
    obtain ⟨⟨i1, i2⟩, i3⟩ := ih fun y hy => h y (List.mem_cons_of_mem _ hy)
    have hz := h z List.mem_cons_self
    have i1' : ((r.map tl).flatten).length ≤ r.length := by
      have e : ({ cps := (r.map tl).flatten.toArray } : Str).length = ((r.map tl).flatten).length := by simp [Str.length]
      rw [e] at i1
      exact i1
    refine ⟨⟨?_, fun c hc => ?_⟩, ?_⟩
    · have e : ({ cps := ((z :: r).map tl).flatten.toArray } : Str).length = (tl z).length + ((r.map tl).flatten).length := by simp [Str.length]
      rw [e, ← len_tl, List.length_cons]
      have := hz.1
      omega
    · have hc' : c ∈ tl z ++ (r.map tl).flatten := by simpa using hc
      rcases List.mem_append.mp hc' with q | q
      · exact hz.2 c q
      · exact i2 c (by simpa using q)
    · rw [List.map_cons, List.sum_cons, List.length_cons]
      have := hz.1
      omega
theorem ok_figs {f fT fP : Addr} {fd fdT fdP : FuncData} (F : Fun K "_law_figures" "_law_figures" sFigs f fd) (T : Txt mg) (FT : Fun K "_law_take" "_law_take" sTake fT fdT) (bT : Binds K fdT ["_law_hand_here", "_law_many"] []) (gT : mg "_law_take" = some (.ref fT))
    (FP : Fun K "_law_pick" "_law_pick" sPick fP fdP) (bP : Binds K fdP ["_law_hand_here", "_law_some"] []) (gP : mg "_law_pick" = some (.ref fP)) :
    FnOk P w K mg base CX0 3 f fd ["_law_hand_here", "_law_most"] spFigs := by
  have GT : FnOk P w K mg base CX0 1 fT fdT ["_law_hand_here", "_law_many"] spTake := ok_take FT
  have GP : FnOk P w K mg base CX0 2 fP fdP ["_law_hand_here", "_law_some"] (spPick K) := ok_pick FP T FT bT gT
  refine F.ok scF (fun vs H Q E h => ?_) (fun cdv A outer s H vs Q E hr h => ?_)
  · obtain ⟨h, n, m, rfl, _⟩ := h
    rfl
  · obtain ⟨h, n, m, rfl, hd, nb, m0, m1, k⟩ := h
    have hr1 : Room 1 _ := hr.mono (by decide)
    refine ⟨_, pss_cons (ps_set (i := 2) scF.nd rfl (Or.inl rfl) (pe_call GT hr1 (by rfl) gT FT.kp bT .nil pass0 (pa_cons (pv 0) (pa_cons (pe_op op_add (pv 1) pe_int) pa_nil))))
      (pss_one (ps_ret (pe_join pe_str (pe_lc (own := [("_law_k", 3)]) (g := gName 3) (tt := tYes) rfl scF.nd (pi_range1 rfl T.range (pa_cons (pv 2) pa_nil)) (blkOk_by (N := nF) (sc := defScope sFigs) (by decide +kernel)) (fun _ _ _ _ _ => pg_name (i := 3) scF.nd rfl (Or.inl rfl)) (fun _ _ _ _ _ => pts_nil)
        (fun _ _ _ _ _ => pe_call GP hr (by rfl) gP FP.kp bP .nil pass0 (pa_cons (pv 0) (pa_cons pe_str pa_nil))))))), ?_⟩
    refine ⟨_, rfl, _, rfl, _, _, rfl, rfl, h, n, _, rfl, hd, by omega, by omega, by omega, fun r H1 r0 r1 hd1 bt1 => ?_⟩
    refine ⟨⟨_, rfl⟩, _, rfl, _, rfl, by omega, by omega, fun D nD => lc_range (lo := 0) (n := r.toNat)
      (fun i H2 => ∃ zs : List Str, zs.length = i ∧ (∀ z ∈ zs, Good 1 z) ∧ H2 D = some (.lst (zs.map V.str)) ∧ HandAt H2 h (n + 1 + i) ∧ But h H H2) ⟨[], rfl, by simp, upd_same, hd1.mono (Same.new nD) (by omega), bt1.trans (But.of (Same.new nD))⟩ ?_ ?_⟩
    · rintro i H2 hi ⟨zs, zl, zg, hD, hd2, bt2⟩
      refine ⟨rfl, yes ?_⟩
      refine ⟨_, rfl, h, n + 1 + i, _, _, rfl, hd2, by omega, ?_, ?_, .inl ⟨_, rfl, rfl⟩, fun y H3 hy hd3 bt3 => ?_⟩
      · rw [List.length_map]; decide +kernel
      · rw [List.length_map]; decide +kernel
      · obtain ⟨c, hc, rfl⟩ := List.mem_map.mp hy
        have hD3 : H3 D = some (.lst (zs.map V.str)) := bt3 D _ (ne_of_none (show H1 h = some _ from hd1.choose_spec.choose_spec.choose_spec.1) nD).symm hD
        refine ⟨zs.map V.str, hD3, ?_, zs ++ [⟨#[c]⟩], by simp [zl], ?_, ?_, ?_, ?_⟩
        · rw [List.length_map]
          exact small1000 (by omega)
        · intro z hz
          rcases List.mem_append.mp hz with hz | hz
          · exact zg z hz
          · rw [List.mem_singleton.mp hz]
            refine ⟨Nat.le_refl 1, fun d hd => ?_⟩
            rw [show d = c from List.mem_singleton.mp hd]
            have all : ∀ c ∈ (Str.ofString "0900123456789").cps.toList, 32 ≤ c ∧ c < 127 := by decide +kernel
            exact all c hc
        · rw [upd_same, List.map_append]
          rfl
        · obtain ⟨g, t, c', e, q⟩ := hd3
          exact ⟨g, t, c', by rw [upd_ne (ne_of_none (show H1 h = some _ from hd1.choose_spec.choose_spec.choose_spec.1) nD)]; exact e, q.1, q.2.1, q.2.2.1, by have := q.2.2.2; omega⟩
        · intro b o nb' e
          rw [upd_ne (ne_of_none (bt1 b o nb' e) nD)]
          exact (bt2.trans bt3) b o nb' e
    · rintro H2 ⟨zs, zl, zg, hD, hd2, bt2⟩
      have gl := glue zg
      refine ⟨_, D, zs, rfl, rfl, .inl (SqL.of hD), ?_, ?_⟩
      · have z0 : (Str.ofString "").length = 0 := by decide +kernel
        rw [z0]
        omega
      · exact k _ _ (gl.1.le (by omega)) (hd2.up (by omega)) bt2
end
end K02
set_option Elab.async false
set_option linter.all false
set_option maxRecDepth 100000
set_option maxHeartbeats 4000000
namespace K02
open PySem PySem.Spec PyProof.Rows L2 Bs TL
section
variable {P : Program} {w : World} {K : PySem.W.Frag} {mg : Str → Option Value} {base : Heap}
theorem HandAt.ne {H : Hp} {h l : Addr} {n : Nat} (a : HandAt H h n) (e : H l = none) : l ≠ h := by
  obtain ⟨g, t, c, q, _⟩ := a
  exact (ne_of_none q e).symm
abbrev nS : List Str := ["_law_hand_here", "_law_sign", "_law_ahead", "_law_lot", "_law_found", "_law_way", "_law_at", "_law_odd"]
theorem scS : FnScope nS ["_law_hand_here"] (defScope sSigns) := ⟨rfl, rfl, rfl, by decide +kernel, rfl, by decide +kernel, by decide +kernel⟩
def spSigns : Sp := fun vs H Q _ => ∃ (h : Addr) (n : Nat), vs = [.ref h] ∧ HandAt H h n ∧ n + 200 < 1000000 ∧
  ∀ (z : Str) (H' : Hp), Good 100 z → HandAt H' h (n + 100) → But h H H' → Q (.str z) H'
def goodB (L : Nat) (z : Str) : Bool := decide (z.length ≤ L) && z.cps.toList.all fun c => decide (32 ≤ c) && decide (c < 127)
theorem Good.of {L : Nat} {z : Str} (h : goodB L z = true) : Good L z := by
  unfold goodB at h
  simp only [Bool.and_eq_true, decide_eq_true_eq, List.all_eq_true] at h
  exact ⟨h.1, h.2⟩
theorem Good.line {L : Nat} {z : Str} (h : Good L z) (l : L ≤ 1000) : z.length ≤ sizeLine := Nat.le_trans h.1 (Nat.le_trans l (by decide))
theorem add_line {a b : Nat} {x y : Str} (h : Good a x) (g : Good b y) (l : a + b ≤ 1000) : x.length + y.length ≤ sizeLine := Nat.le_trans (Nat.add_le_add h.1 g.1) (Nat.le_trans l (by decide))
theorem ok_signs {f fT fP fF : Addr} {fd fdT fdP fdF : FuncData} (F : Fun K "_law_signs" "_law_signs" sSigns f fd) (T : Txt mg) (FT : Fun K "_law_take" "_law_take" sTake fT fdT) (bT : Binds K fdT ["_law_hand_here", "_law_many"] []) (gT : mg "_law_take" = some (.ref fT))
    (FP : Fun K "_law_pick" "_law_pick" sPick fP fdP) (bP : Binds K fdP ["_law_hand_here", "_law_some"] []) (gP : mg "_law_pick" = some (.ref fP))
    (FF : Fun K "_law_figures" "_law_figures" sFigs fF fdF) (bF : Binds K fdF ["_law_hand_here", "_law_most"] []) (gF : mg "_law_figures" = some (.ref fF)) :
    FnOk P w K mg base CX0 4 f fd ["_law_hand_here"] spSigns := by
  have GT : FnOk P w K mg base CX0 1 fT fdT ["_law_hand_here", "_law_many"] spTake := ok_take FT
  have GP : FnOk P w K mg base CX0 2 fP fdP ["_law_hand_here", "_law_some"] (spPick K) := ok_pick FP T FT bT gT
  have GF : FnOk P w K mg base CX0 3 fF fdF ["_law_hand_here", "_law_most"] spFigs := ok_figs FF T FT bT gT FP bP gP
  refine F.ok scS (fun vs H Q E h => ?_) (fun cdv A outer s H vs Q E hr h => ?_)
  · obtain ⟨h, n, rfl, _⟩ := h
    rfl
  · obtain ⟨h, n, rfl, hd, nb, k⟩ := h
    have hr1 : Room 1 _ := hr.mono (by decide)
    have hr2 : Room 2 _ := hr.mono (by decide)
    refine ⟨_,pss_cons (ps_par (i := 1) (j := 2) rfl scS.nd rfl rfl (by decide) rfl rfl (pa_cons (pe_call GP hr2 (by rfl) gP FP.kp bP .nil pass0 (pa_cons (pv 0) (pa_cons (pe_lst (pa_cons pe_str (pa_cons pe_str (pa_cons pe_str (pa_cons pe_str (pa_cons pe_str (pa_cons pe_str (pa_cons pe_str pa_nil)))))))) pa_nil))) (pa_cons (pe_call GF hr (by rfl) gF FF.kp bF .nil pass0 (pa_cons (pv 0) (pa_cons pe_int pa_nil))) pa_nil)) (by rfl))
      (pss_cons (ps_set (i := 3) scS.nd rfl (Or.inl rfl) (pe_call GT hr1 (by rfl) gT FT.kp bT .nil pass0 (pa_cons (pv 0) (pa_cons pe_int pa_nil))))
      (pss_cons (ps_set (i := 4) scS.nd rfl (Or.inl rfl) (pe_op op_add_str (pv 1) (pv 2)))
      (pss_cons (ps_if (pt_cmpR op_lt (pv 3) pe_int (nomark _)) (pss_one (ps_set (i := 4) scS.nd rfl (Or.inl rfl) (pe_op op_add_str (pe_op op_add_str (pv 4) pe_str) (pe_call GF hr (by rfl) gF FF.kp bF .nil pass0 (pa_cons (pv 0) (pa_cons pe_int pa_nil)))))) pss_nil)
      (pss_cons (ps_if (pt_cmpR op_eq (pv 3) pe_int (nomark _)) (pss_one (ps_set (i := 4) scS.nd rfl (Or.inl rfl) (pe_op op_add_str (pv 1) (pe_call GP hr2 (by rfl) gP FP.kp bP .nil pass0 (pa_cons (pv 0) (pa_cons (pe_lst (pa_cons pe_str (pa_cons pe_str (pa_cons pe_str (pa_cons pe_str (pa_cons pe_str (pa_cons pe_str (pa_cons pe_str pa_nil)))))))) pa_nil)))))) pss_nil)
      (pss_cons (ps_par (i := 5) (j := 6) rfl scS.nd rfl rfl (by decide) rfl rfl (pa_cons (pe_call GT hr1 (by rfl) gT FT.kp bT .nil pass0 (pa_cons (pv 0) (pa_cons pe_int pa_nil))) (pa_cons (pe_call GT hr1 (by rfl) gT FT.kp bT .nil pass0 (pa_cons (pv 0) (pa_cons (pe_op op_add (pe_callB call_len_str (by rfl) T.len PySem.boot_len (pa_cons (pv 4) pa_nil)) pe_int) pa_nil))) pa_nil)) (by rfl))
      (pss_cons (ps_set (i := 7) scS.nd rfl (Or.inl rfl) (pe_call GP hr2 (by rfl) gP FP.kp bP .nil pass0 (pa_cons (pv 0) (pa_cons pe_str pa_nil))))
      (pss_cons (ps_if (pt_cmpR op_eq (pv 5) pe_int (nomark _)) (pss_one (ps_ret (pe_op op_add_str (pe_op op_add_str (pe_slice sl_str (pv 4) po_none (po_some (pv 6))) (pv 7)) (pe_slice sl_str (pv 4) (po_some (pv 6)) po_none)))) pss_nil)
      (pss_one (ps_ret (pe_ifExp (pt_cmpR op_eq (pv 5) pe_int (nomark _)) (pe_op op_add_str (pe_slice sl_str (pv 4) po_none (po_some (pv 6))) (pe_slice sl_str (pv 4) (po_some (pe_op op_add (pv 6) pe_int)) po_none)) (pv 4))))))))))), ?_⟩
    refine ⟨_, rfl, (by show 7 ≤ sizeLine; decide), fun l hl => ?_⟩
    refine ⟨h, n, _, _, rfl, hd.mono (Same.new hl) (Nat.le_refl _), by omega, by decide, by decide, .inr ⟨l, rfl, hd.ne hl, SqL.of upd_same⟩, fun y H1 hy hd1 bt1 => ?_⟩
    have gy : ∃ sg, y = V.str sg ∧ Good 2 sg := by
      simp only [List.mem_cons, List.not_mem_nil, or_false] at hy
      rcases hy with rfl | rfl | rfl | rfl | rfl | rfl | rfl <;> exact ⟨_, rfl, .of (by decide +kernel)⟩
    obtain ⟨sg, rfl, gsg⟩ := gy
    refine ⟨_, rfl, h, n + 1, _, rfl, hd1, by omega, by decide, by decide, fun ah H2 gah hd2 bt2 => ?_⟩
    refine ⟨_, _, rfl, ?_⟩
    refine ⟨_, rfl, h, _, _, rfl, hd2, by omega, by decide, by decide, fun lot H3 lo0 lo1 hd3 bt3 => ?_⟩
    refine ⟨_, rfl, _, rfl, _, _, rfl, rfl, add_line gsg gah (by decide), ?_⟩
    have bt03 : But h H H3 := (((But.of (Same.new hl)).trans bt1).trans bt2).trans bt3
    have gf0 : Good 40 (sg ++ ah) := (gsg.app gah).le (by decide)
    -- found, behind each if
    refine gN ?_
    dsimp only
    refine cutT (fun σ' H' => ∃ fo, σ' = [some (.ref h), some (.str sg), some (.str ah), some (.int lot), some (.str fo), none, none, none] ∧ Good 40 fo ∧ HandAt H' h (n + 65) ∧ But h H H') (fun N q => ?_) ?_
    · refine ⟨_, rfl, _, _, rfl, rfl, _, rfl, ?_⟩
      refine ite2 (fun _ => ?_) (fun _ => ?_)
      · refine ⟨_, rfl, _, _, rfl, rfl, add_line (b := 1) gf0 (.of (by decide +kernel)) (by decide), _, rfl, h, _, _, rfl, hd3, by omega, by decide, by decide, fun f5 H4 g5 hd4 bt4 => ?_⟩
        have gdot : Good 13 ((sg ++ ah) ++ Str.ofString ".") := ((gsg.app gah).app (b := 1) (.of (by decide +kernel))).le (by decide)
        refine ⟨_, _, rfl, rfl, add_line gdot g5 (by decide), ?_⟩
        exact q _ _ ⟨_, rfl, (gdot.app g5).le (by decide), hd4.up (by omega), bt03.trans bt4⟩
      · exact q _ _ ⟨_, rfl, gf0, hd3.up (by omega), bt03⟩
    · rintro σ' H4 ⟨fo, rfl, gf, hd4, bt4⟩
      refine cutT (fun σ' H' => ∃ fo, σ' = [some (.ref h), some (.str sg), some (.str ah), some (.int lot), some (.str fo), none, none, none] ∧ Good 40 fo ∧ HandAt H' h (n + 70) ∧ But h H H') (fun N q => ?_) ?_
      · refine ⟨_, rfl, rfl, _, rfl, ?_⟩
        refine ite2 (fun _ => ?_) (fun _ => ?_)
        · refine ⟨_, rfl, _, rfl, (by show 7 ≤ sizeLine; decide), fun l2 hl2 => ?_⟩
          refine ⟨h, _, _, _, rfl, hd4.mono (Same.new hl2) (Nat.le_refl _), by omega, by decide, by decide, .inr ⟨l2, rfl, hd4.ne hl2, SqL.of upd_same⟩, fun y H5 hy hd5 bt5 => ?_⟩
          have gy : ∃ z, y = V.str z ∧ Good 10 z := by
            simp only [List.mem_cons, List.not_mem_nil, or_false] at hy
            rcases hy with rfl | rfl | rfl | rfl | rfl | rfl | rfl <;> exact ⟨_, rfl, .of (by decide +kernel)⟩
          obtain ⟨z, rfl, gz⟩ := gy
          refine ⟨_, _, rfl, rfl, add_line gsg gz (by decide), ?_⟩
          exact q _ _ ⟨_, rfl, (gsg.app gz).le (by decide), hd5.up (by omega), (bt4.trans (But.of (Same.new hl2))).trans bt5⟩
        · exact q _ _ ⟨_, rfl, gf, hd4.up (by omega), bt4⟩
      · rintro σ' H5 ⟨fo, rfl, gf, hd5, bt5⟩
        refine ⟨_, rfl, h, _, _, rfl, hd5, by omega, by decide, by decide, fun way H6 w0 w1 hd6 bt6 => ?_⟩
        have fl : fo.length ≤ 40 := gf.1
        refine ⟨_, rfl, _, rfl, _, rfl, gf.line (by decide), _, _, rfl, rfl, h, _, _, rfl, hd6, by omega, by omega, by omega, fun at_ H7 a0 a1 hd7 bt7 => ?_⟩
        refine ⟨_, _, rfl, ?_⟩
        refine ⟨_, rfl, h, _, _, _, rfl, hd7, by omega, ?_, ?_, .inl ⟨_, rfl, rfl⟩, fun y H8 hy hd8 bt8 => ?_⟩
        · rw [List.length_map]; decide +kernel
        · rw [List.length_map]; decide +kernel
        obtain ⟨c, hc, rfl⟩ := List.mem_map.mp hy
        have gc : Good 1 ⟨#[c]⟩ := by
          refine ⟨Nat.le_refl 1, fun d hd => ?_⟩
          rw [show d = c from List.mem_singleton.mp hd]
          have all : ∀ c ∈ (Str.ofString " .-+0x9~").cps.toList, 32 ≤ c ∧ c < 127 := by decide +kernel
          exact all c hc
        have bt08 : But h H H8 := ((bt5.trans bt6).trans bt7).trans bt8
        have fin : ∀ z : Str, Good 100 z → Q (.str z) H8 := fun z gz => k z H8 gz (hd8.up (by omega)) bt08
        refine ⟨_, rfl, rfl, _, rfl, ?_⟩
        refine ite2 (fun _ => ?_) (fun _ => ?_)
        · refine ⟨_, rfl, _, rfl, _, rfl, fo, rfl, gf.line (by decide), _, rfl, _, _, rfl, rfl, add_line (gf.cut none (some at_)) gc (by decide), ?_⟩
          refine ⟨_, rfl, _, rfl, _, rfl, fo, rfl, gf.line (by decide), _, _, rfl, rfl, add_line ((gf.cut none (some at_)).app gc) (gf.cut (some at_) none) (by decide), ?_⟩
          exact fin _ (((gf.cut none (some at_)).app gc).app (gf.cut (some at_) none) |>.le (by decide))
        · refine ⟨_, rfl, rfl, _, rfl, ?_⟩
          refine ite2 (fun _ => ?_) (fun _ => ?_)
          · refine ⟨_, rfl, _, rfl, _, rfl, fo, rfl, gf.line (by decide), ?_⟩
            refine ⟨_, rfl, _, rfl, _, _, rfl, rfl, _, rfl, fo, rfl, gf.line (by decide), _, _, rfl, rfl, add_line (gf.cut none (some at_)) (gf.cut (some (at_ + 1)) none) (by decide), ?_⟩
            exact fin _ ((gf.cut none (some at_)).app (gf.cut (some (at_ + 1)) none) |>.le (by decide))
          · exact ⟨_, rfl, fin _ (gf.le (by decide))⟩
end
end K02
set_option Elab.async false
set_option linter.all false
set_option maxRecDepth 100000
set_option maxHeartbeats 4000000
/-! the mathematics of numbers read and written: lists of signs -/
namespace K02
open PySem TL
def dg (c : Nat) : Bool := decide (48 ≤ c) && decide (c ≤ 57)
def figs (k : Nat) (l : List Nat) : Bool := decide (1 ≤ l.length) && decide (l.length ≤ k) && l.all dg
def val (l : List Nat) : Nat := NumText.digitsVal l
def body (l : List Nat) : List Nat := if l.take 1 = [43] ∨ l.take 1 = [45] then l.drop 1 else l
def sgn (l : List Nat) (n : Nat) : Int := if l.take 1 = [45] then -(n : Int) else n
def cap (m : Nat) : Nat := if m = 0 then 9 else 8
def zs (k : Nat) : List Nat := List.replicate k 48
def due (m : Nat) (l : List Nat) : Option Int :=
  match par [46] [] (body l) with
  | none => if figs (cap m) (body l) = true then some (sgn l (val (body l ++ zs m))) else none
  | some (p, q) => if figs (cap m) p = true ∧ figs m q = true then some (sgn l (val (p ++ (q ++ zs (m - q.length))))) else none
theorem due_plain {m : Nat} {l : List Nat} (h : 46 ∉ body l) : due m l = if figs (cap m) (body l) = true then some (sgn l (val (body l ++ zs m))) else none := by
  unfold due
  rw [par_none1 h]
theorem due_dot {m : Nat} {l p q : List Nat} (e : body l = p ++ 46 :: q) (h : 46 ∉ p) : due m l = if figs (cap m) p = true ∧ figs m q = true then some (sgn l (val (p ++ (q ++ zs (m - q.length))))) else none := by
  unfold due
  have z : par [46] [] (body l) = some (p, q) := by
    rw [e]
    exact par_part1 (S := []) (acc := []) (rest := q) h
  rw [z]
theorem two_ways (l : List Nat) : (46 ∉ l) ∨ ∃ p q, l = p ++ 46 :: q ∧ 46 ∉ p := by
  by_cases h : 46 ∈ l
  · exact .inr (List.eq_append_cons_of_mem h)
  · exact .inl h
theorem dg_iff {c : Nat} : dg c = true ↔ 48 ≤ c ∧ c ≤ 57 := by simp [dg]
theorem figs_iff {k : Nat} {l : List Nat} : figs k l = true ↔ (1 ≤ l.length ∧ l.length ≤ k) ∧ NumText.AllDigits l := by
  unfold figs NumText.AllDigits
  rw [Bool.and_eq_true, Bool.and_eq_true, decide_eq_true_eq, decide_eq_true_eq, List.all_eq_true]
  constructor
  · rintro ⟨h, g⟩
    exact ⟨h, fun c hc => dg_iff.mp (g c hc)⟩
  · rintro ⟨h, g⟩
    exact ⟨h, fun c hc => dg_iff.mpr (g c hc)⟩
/-! values -/
theorem foldl_val : ∀ (l : List Nat) (a : Nat), l.foldl (fun acc c => acc * 10 + (c - 48)) a = a * 10 ^ l.length + val l
  | [], a => by simp [val, NumText.digitsVal]
  | c :: r, a => by
    have h1 := foldl_val r (a * 10 + (c - 48))
    have h2 := foldl_val r (0 * 10 + (c - 48))
    have h3 : val (c :: r) = r.foldl (fun acc c => acc * 10 + (c - 48)) (0 * 10 + (c - 48)) := rfl
    rw [List.foldl_cons, h1, h3, h2, List.length_cons, Nat.pow_succ]
    simp only [Nat.zero_mul, Nat.zero_add, Nat.add_mul, Nat.mul_assoc, Nat.add_assoc, Nat.mul_comm 10]
theorem val_app (a b : List Nat) : val (a ++ b) = val a * 10 ^ b.length + val b := by
  have e : val (a ++ b) = b.foldl (fun acc c => acc * 10 + (c - 48)) (val a) := by
    unfold val NumText.digitsVal
    rw [List.foldl_append]
  rw [e, foldl_val]
theorem val_zs : ∀ k, val (zs k) = 0
  | 0 => rfl
  | k + 1 => by
    have e : zs (k + 1) = zs k ++ [48] := by unfold zs; rw [List.replicate_succ']
    rw [e, val_app, val_zs k]
    rfl
theorem val_lt : ∀ {l : List Nat}, NumText.AllDigits l → val l < 10 ^ l.length
  | [], _ => by simp [val, NumText.digitsVal]
  | c :: r, h => by
    have e : val (c :: r) = val [c] * 10 ^ r.length + val r := val_app [c] r
    have i := val_lt (l := r) h.tail
    have hc := h.head
    have v1 : val [c] = c - 48 := by simp [val, NumText.digitsVal]
    rw [e, v1, List.length_cons, Nat.pow_succ]
    have : (c - 48) * 10 ^ r.length ≤ 9 * 10 ^ r.length := Nat.mul_le_mul_right _ (by omega)
    omega
theorem zs_len (k : Nat) : (zs k).length = k := List.length_replicate
theorem zs_digits (k : Nat) : NumText.AllDigits (zs k) := fun c hc => by
  have e := List.eq_of_mem_replicate hc
  omega
theorem digits_app {a b : List Nat} (h : NumText.AllDigits a) (g : NumText.AllDigits b) : NumText.AllDigits (a ++ b) := fun c hc => by
  rcases List.mem_append.mp hc with q | q
  · exact h c q
  · exact g c q
theorem due_small {m : Nat} {l : List Nat} {n : Int} (h : due m l = some n) : n.natAbs < 10 ^ (cap m + m) := by
  have sg : ∀ k : Nat, (sgn l k).natAbs = k := fun k => by
    unfold sgn
    split <;> omega
  have up : ∀ {x : List Nat}, NumText.AllDigits x → x.length ≤ cap m + m → val x < 10 ^ (cap m + m) := fun h g => Nat.lt_of_lt_of_le (val_lt h) (Nat.pow_le_pow_right (by decide) g)
  rcases two_ways (body l) with w | ⟨p, q, e, w⟩
  · rw [due_plain w] at h
    split at h
    · rename_i f
      obtain ⟨⟨_, f2⟩, f3⟩ := figs_iff.mp f
      rw [← Option.some.inj h, sg]
      exact up (digits_app f3 (zs_digits m)) (by rw [List.length_append, zs_len]; omega)
    · cases h
  · rw [due_dot e w] at h
    split at h
    · rename_i f
      obtain ⟨f, g⟩ := f
      obtain ⟨⟨_, f2⟩, f3⟩ := figs_iff.mp f
      obtain ⟨⟨_, g2⟩, g3⟩ := figs_iff.mp g
      rw [← Option.some.inj h, sg]
      exact up (digits_app f3 (digits_app g3 (zs_digits _))) (by rw [List.length_append, List.length_append, zs_len]; omega)
    · cases h
/-! figures of a number -/
def padL (k n : Nat) : List Nat := zs (k - (numL n).length) ++ numL n
def dig : Nat → Nat → List Nat
  | 0, _ => []
  | k + 1, n => dig k (n / 10) ++ [48 + n % 10]
theorem dig_len : ∀ k n, (dig k n).length = k
  | 0, _ => rfl
  | k + 1, n => by rw [dig, List.length_append, dig_len k]; rfl
theorem dig_cons : ∀ k n, dig (k + 1) n = (48 + n / 10 ^ k % 10) :: dig k n
  | 0, n => by simp [dig]
  | k + 1, n => by
    have i := dig_cons k (n / 10)
    rw [dig, i, dig]
    have e : n / 10 / 10 ^ k = n / 10 ^ (k + 1) := by rw [Nat.div_div_eq_div_mul, Nat.pow_succ, Nat.mul_comm 10]
    rw [e]
    rfl
theorem dig_zero : ∀ k, dig k 0 = zs k
  | 0 => rfl
  | k + 1 => by
    rw [dig, Nat.zero_div, dig_zero k]
    show zs k ++ [48] = zs (k + 1)
    unfold zs
    rw [List.replicate_succ']
theorem numL_pos (n : Nat) : 0 < (numL n).length := List.length_pos_iff.mpr (numL_ne n)
theorem dig_pad : ∀ k n, n < 10 ^ k → 0 < k → dig k n = padL k n
  | 0, _, _, h => by omega
  | k + 1, n, h, _ => by
    by_cases c : n < 10
    · have e : n / 10 = 0 := by omega
      have e2 : n % 10 = n := by omega
      rw [dig, e, e2, dig_zero]
      unfold padL
      rw [numL_lt c]
      show zs k ++ [48 + n] = zs (k + 1 - 1) ++ [48 + n]
      rw [Nat.add_sub_cancel]
    · have k0 : 0 < k := by
        cases k with
        | zero => simp at h; omega
        | succ k => omega
      have d : n / 10 < 10 ^ k := by
        rw [Nat.pow_succ] at h
        omega
      have i := dig_pad k (n / 10) d k0
      rw [dig, i]
      unfold padL
      rw [numL_step (n := n) (by omega), List.length_append]
      show (zs _ ++ numL (n / 10)) ++ [48 + n % 10] = zs (k + 1 - ((numL (n / 10)).length + 1)) ++ (numL (n / 10) ++ [48 + n % 10])
      rw [Nat.add_sub_add_right, List.append_assoc]
theorem numL_ge : ∀ k n, 10 ^ k ≤ n → k < (numL n).length
  | 0, n, _ => numL_pos n
  | k + 1, n, h => by
    rw [Nat.pow_succ] at h
    have p : 0 < 10 ^ k := Nat.pow_pos (by decide)
    have i := numL_ge k (n / 10) (by omega)
    rw [numL_step (n := n) (by omega), List.length_append]
    show k + 1 < (numL (n / 10)).length + 1
    omega
theorem loop_end {m k n : Nat} (h1 : n < 10 ^ k) (h2 : m + 1 ≤ k) (h3 : k = m + 1 ∨ 10 ^ (k - 1) ≤ n) : dig k n = padL (m + 1) n := by
  rw [dig_pad k n h1 (by omega)]
  rcases h3 with rfl | h3
  · rfl
  · have l1 := numL_ge (k - 1) n h3
    unfold padL
    rw [show k - (numL n).length = 0 by omega, show m + 1 - (numL n).length = 0 by omega]
theorem padL_val (k n : Nat) : val (padL k n) = n := by
  unfold padL
  rw [val_app, val_zs]
  show 0 * _ + NumText.digitsVal (numL n) = n
  rw [numL_val]
  omega
theorem padL_digits (k n : Nat) : NumText.AllDigits (padL k n) := digits_app (zs_digits _) (numL_digits n)
theorem padL_len (k n : Nat) : k ≤ (padL k n).length := by
  unfold padL
  rw [List.length_append, zs_len]
  omega
theorem padL_le {k n j : Nat} (h : n < 10 ^ j) (j0 : 0 < j) (kj : k ≤ j) : (padL k n).length ≤ j := by
  have := numL_len j0 h
  unfold padL
  rw [List.length_append, zs_len]
  omega
def shownL (m : Nat) (n : Int) : List Nat :=
  (if n < 0 then [45] else []) ++ (if m = 0 then padL 1 n.natAbs else (padL (m + 1) n.natAbs).take ((padL (m + 1) n.natAbs).length - m) ++ 46 :: (padL (m + 1) n.natAbs).drop ((padL (m + 1) n.natAbs).length - m))
theorem body_shown {m : Nat} {n : Int} {x : List Nat} {d : Nat} {r : List Nat} (hx : x = d :: r) (hd : 48 ≤ d ∧ d ≤ 57) : body ((if n < 0 then [45] else []) ++ x) = x ∧ ∀ k, sgn ((if n < 0 then [45] else []) ++ x) k = if n < 0 then -(k : Int) else k := by
  subst hx
  by_cases c : n < 0
  · rw [if_pos c]
    refine ⟨?_, fun k => ?_⟩
    · unfold body
      rw [if_pos (.inr rfl)]
      rfl
    · unfold sgn
      rw [if_pos c, if_pos (show List.take 1 ([45] ++ d :: r) = [45] from rfl)]
  · rw [if_neg c]
    refine ⟨?_, fun k => ?_⟩
    · unfold body
      rw [if_neg]
      · rfl
      · simp
        omega
    · unfold sgn
      rw [if_neg c, if_neg]
      simp
      omega
theorem dot_free {x : List Nat} (h : NumText.AllDigits x) : 46 ∉ x := fun q => by
  have := h 46 q
  omega
theorem back {m : Nat} {n : Int} (h : n.natAbs < 10 ^ (cap m + m)) : due m (shownL m n) = some n := by
  have cp : 0 < cap m := by unfold cap; split <;> omega
  have fin : ∀ k : Nat, k = n.natAbs → (if n < 0 then -(k : Int) else (k : Int)) = n := fun k e => by
    subst e
    split <;> omega
  by_cases m0 : m = 0
  · subst m0
    unfold shownL
    rw [if_pos rfl]
    have dgs := padL_digits 1 n.natAbs
    have len := padL_len 1 n.natAbs
    have le : (padL 1 n.natAbs).length ≤ 9 := padL_le h (by decide) (by decide)
    cases e : padL 1 n.natAbs with
    | nil =>
      rw [e] at len
      simp at len
    | cons d r =>
      have b := body_shown (m := 0) (n := n) (x := d :: r) rfl (dgs d (by rw [e]; exact List.mem_cons_self))
      rw [due_plain (by rw [b.1, ← e]; exact dot_free dgs), b.1, b.2, if_pos]
      · rw [← e, show zs 0 = [] from rfl, List.append_nil, padL_val, fin _ rfl]
      · rw [← e]
        exact figs_iff.mpr ⟨⟨len, le⟩, dgs⟩
  · unfold shownL
    rw [if_neg m0]
    have dgs := padL_digits (m + 1) n.natAbs
    have len := padL_len (m + 1) n.natAbs
    have le : (padL (m + 1) n.natAbs).length ≤ cap m + m := padL_le h (by omega) (by omega)
    have v := padL_val (m + 1) n.natAbs
    generalize padL (m + 1) n.natAbs = x at dgs len le v
    have dA : NumText.AllDigits (x.take (x.length - m)) := fun c hc => dgs c (List.mem_of_mem_take hc)
    have dB : NumText.AllDigits (x.drop (x.length - m)) := fun c hc => dgs c (List.mem_of_mem_drop hc)
    have lA : (x.take (x.length - m)).length = x.length - m := by rw [List.length_take]; omega
    have lB : (x.drop (x.length - m)).length = m := by rw [List.length_drop]; omega
    have AB : x.take (x.length - m) ++ x.drop (x.length - m) = x := List.take_append_drop _ _
    generalize x.take (x.length - m) = A at dA lA AB
    generalize x.drop (x.length - m) = B at dB lB AB
    cases A with
    | nil =>
      simp at lA
      omega
    | cons d r =>
      have b := body_shown (m := m) (n := n) (x := (d :: r) ++ 46 :: B) rfl (dA d List.mem_cons_self)
      rw [due_dot b.1 (dot_free dA), b.2, if_pos]
      · rw [lB, Nat.sub_self, show zs 0 = [] from rfl, List.append_nil, AB, v, fin _ rfl]
      · exact ⟨figs_iff.mpr ⟨⟨by simp, by omega⟩, dA⟩, figs_iff.mpr ⟨⟨by omega, by omega⟩, dB⟩⟩
end K02
set_option Elab.async false
set_option linter.all false
set_option maxRecDepth 100000
set_option maxHeartbeats 4000000
namespace K02
open PySem PySem.Spec PyProof.Rows L2 Bs TL
abbrev sReadAs : Stmt := top 15
abbrev sIsFig : Stmt := top 16
abbrev sReadAm : Stmt := top 17
abbrev sWritten : Stmt := top 20
abbrev sWrAm : Stmt := top 21
def S (l : List Nat) : Str := ⟨l.toArray⟩
theorem tl_S (l : List Nat) : tl (S l) = l := rfl
theorem S_len (l : List Nat) : (S l).length = l.length := by simp [S, Str.length]
theorem S_tl (z : Str) : S (tl z) = z := mk_tl z
def ov : Option Int → V
  | none => .non
  | some i => .int i
theorem asc_dig : ∀ c, c < 128 → Unicode.isDigit c = dg c := by decide +kernel
theorem is_figs {z : Str} {k : Nat} : (decide (1 ≤ z.length) && decide (z.length ≤ k) && (Txt.isascii z && Txt.isdigit z)) = figs k (tl z) := by
  unfold Txt.isascii Txt.isdigit figs
  have e1 : z.cps.all (· < 128) = (tl z).all (fun c => decide (c < 128)) := by simp [tl]
  have e2 : z.cps.all Unicode.isDigit = (tl z).all Unicode.isDigit := by simp [tl]
  rw [e1, e2, len_tl]
  by_cases h : 1 ≤ (tl z).length ∧ (tl z).length ≤ k
  · have p : decide ((tl z).length > 0) = true := decide_eq_true (by omega)
    rw [decide_eq_true h.1, decide_eq_true h.2, p]
    simp only [Bool.true_and]
    generalize tl z = l
    induction l with
    | nil => rfl
    | cons c r ih =>
      simp only [List.all_cons]
      by_cases a : c < 128
      · rw [asc_dig c a, decide_eq_true a]
        cases dg c
        · simp
        · simp only [Bool.true_and]
          exact ih
      · have n : dg c = false := by
          unfold dg
          rw [decide_eq_false (show ¬ c ≤ 57 by omega), Bool.and_false]
        rw [decide_eq_false a, n]
        rfl
  · have n : (decide (1 ≤ (tl z).length) && decide ((tl z).length ≤ k)) = false := by
      rw [Bool.and_eq_false_iff, decide_eq_false_iff_not, decide_eq_false_iff_not]
      omega
    rw [n]
    rfl
section
variable {P : Program} {w : World} {K : PySem.W.Frag} {mg : Str → Option Value} {base : Heap}
theorem scIF : FnScope ["text", "most"] ["text", "most"] (defScope sIsFig) := ⟨rfl, rfl, rfl, by decide +kernel, rfl, by decide +kernel, by decide +kernel⟩
def spIsFig : Sp := fun vs H Q _ => ∃ (z : Str) (k : Nat), vs = [.str z, .int (k : Int)] ∧ z.length ≤ 1000 ∧ Q (.bl (figs k (tl z))) H
theorem ok_isfig {f : Addr} {fd : FuncData} (F : Fun K "is_figures" "is_figures" sIsFig f fd) (T : Txt mg) : FnOk P w K mg base CX0 1 f fd ["text", "most"] spIsFig := by
  refine F.ok scIF (fun vs H Q E h => ?_) (fun cdv A outer s H vs Q E hr h => ?_)
  · obtain ⟨z, k, rfl, _⟩ := h
    rfl
  · obtain ⟨z, k, rfl, zl, q⟩ := h
    refine ⟨_, pss_one (ps_ret (pe_and (pe_chain op_le op_le pe_int (pe_callB call_len_str (by rfl) T.len PySem.boot_len (pa_cons (pv 0) pa_nil)) (pv 1)) (pe_and (pe_m0 PySem.F.slot_str_isascii PySem.F.type_str_isascii mt_isascii (pv 0)) (pe_one (pe_m0 PySem.F.slot_str_isdigit PySem.F.type_str_isdigit mt_isdigit (pv 0)))))), ?_⟩
    have line : z.length ≤ sizeLine := Nat.le_trans zl (by decide)
    rw [← is_figs] at q
    refine ⟨_, rfl, _, rfl, line, _, _, rfl, rfl, _, rfl, ?_⟩
    by_cases c1 : (1 : Int) ≤ (z.length : Nat)
    · rw [decide_eq_true c1]
      refine iteT ?_
      refine ⟨_, rfl, _, _, rfl, rfl, _, rfl, ?_⟩
      rw [decide_eq_true (show 1 ≤ z.length by omega), Bool.true_and] at q
      by_cases c2 : ((z.length : Nat) : Int) ≤ (k : Int)
      · rw [decide_eq_true c2]
        refine iteT ?_
        rw [decide_eq_true (show z.length ≤ k by omega), Bool.true_and] at q
        refine ⟨_, rfl, ⟨_, rfl⟩, _, rfl, rfl, trivial, _, rfl, ?_⟩
        cases ea : Txt.isascii z with
        | true =>
          refine iteT ?_
          rw [ea, Bool.true_and] at q
          exact ⟨_, rfl, ⟨_, rfl⟩, _, rfl, rfl, trivial, q⟩
        | false =>
          refine iteF ?_
          rw [ea] at q
          exact q
      · rw [decide_eq_false c2]
        refine iteF ?_
        rw [decide_eq_false (show ¬ z.length ≤ k by omega)] at q
        exact q
    · rw [decide_eq_false c1]
      refine iteF ?_
      rw [decide_eq_false (show ¬ 1 ≤ z.length by omega)] at q
      exact ⟨_, rfl, q⟩
end
end K02
set_option Elab.async false
set_option linter.all false
set_option maxRecDepth 100000
set_option maxHeartbeats 4000000
namespace K02
open PySem PySem.Spec PyProof.Rows L2 Bs TL
/-! slices, starts, pads as lists -/
theorem tl_cut_to (z : Str) (k : Nat) : tl (cutS z none (some (k : Int))) = (tl z).take k := by
  show ((tl z).drop (HT.sIx z.length 0 none)).take (HT.sIx z.length z.length (some (k : Int)) - HT.sIx z.length 0 none) = (tl z).take k
  rw [HT.sIx_none, HT.sIx_nat, List.drop_zero, Nat.sub_zero, len_tl]
  by_cases h : k ≤ (tl z).length
  · rw [Nat.min_eq_left h]
  · rw [Nat.min_eq_right (by omega), List.take_of_length_le (Nat.le_refl _), List.take_of_length_le (by omega)]
theorem tl_cut_from (z : Str) (k : Nat) : tl (cutS z (some (k : Int)) none) = (tl z).drop k := by
  show ((tl z).drop (HT.sIx z.length 0 (some (k : Int)))).take (HT.sIx z.length z.length none - HT.sIx z.length 0 (some (k : Int))) = (tl z).drop k
  rw [HT.sIx_none, HT.sIx_nat, len_tl]
  by_cases h : k ≤ (tl z).length
  · rw [Nat.min_eq_left h, List.take_of_length_le (by rw [List.length_drop]; omega)]
  · rw [Nat.min_eq_right (by omega), Nat.sub_self, List.take_zero, List.drop_of_length_le (by omega)]
theorem starts_minus (z : Str) : Txt.startswith z (Str.ofString "-") = decide ((tl z).take 1 = [45]) := by
  have hy : tl (Str.ofString "-") ≠ [] := by decide +kernel
  have key : Txt.startswith z (Str.ofString "-") = true ↔ pre (tl (Str.ofString "-")) ((tl z).drop 0) = true := by
    rw [← at_iff hy 0]
    unfold Txt.startswith
    rw [Bool.and_eq_true, decide_eq_true_eq]
    rfl
  have pe : (pre (tl (Str.ofString "-")) ((tl z).drop 0) = true) ↔ (tl z).take 1 = [45] := by
    have e : tl (Str.ofString "-") = [45] := by decide +kernel
    rw [e, List.drop_zero]
    unfold pre
    exact beq_iff_eq
  cases e : Txt.startswith z (Str.ofString "-") with
  | true => exact (decide_eq_true (pe.mp (key.mp e))).symm
  | false =>
    refine (decide_eq_false fun q => ?_).symm
    rw [key.mpr (pe.mpr q)] at e
    cases e
theorem tl_ljust (z : Str) (m : Nat) : tl (Txt.ljustF z (m : Int) 48) = tl z ++ zs (m - (tl z).length) := by
  unfold Txt.ljustF
  by_cases h : (m : Int) ≤ (z.length : Nat)
  · rw [if_pos h]
    rw [len_tl] at h
    rw [show m - (tl z).length = 0 by omega]
    exact (List.append_nil _).symm
  · rw [if_neg h, Int.toNat_natCast, len_tl]
    simp [Builtin.Str.padded, zs, tl]
theorem pad_ok (m : Nat) (h : m ≤ 1000) : PadOk (m : Int) = true := by
  have key : ∀ m : Nat, m ≤ 1000 → PadOk (m : Int) = true := by decide +kernel
  exact key m h
theorem part_plain {z : Str} (h : 46 ∉ tl z) : Txt.partition z (Str.ofString ".") = (z, Str.empty, Str.empty) := partition_none (s := 46) (S := []) (by decide +kernel) h
theorem part_dot {z : Str} {p q : List Nat} (e : tl z = p ++ 46 :: q) (h : 46 ∉ p) : Txt.partition z (Str.ofString ".") = (S p, Str.ofString ".", S q) := by
  have d : tl (Str.ofString ".") = [46] := by decide +kernel
  have e2 : z = S p ++ Str.ofString "." ++ S q := by
    apply ext_tl
    rw [tl_append, tl_append, d, e, tl_S, tl_S]
    simp
  rw [e2]
  exact partition_app (s := 46) (S := []) d h
theorem tl_empty : tl Str.empty = [] := by decide +kernel
theorem str_ne {x y : Str} (h : tl x ≠ tl y) : V.str x ≠ V.str y := fun q => h (by rw [V.str.inj q])
theorem intTextD {z : Str} (h : NumText.AllDigits (tl z)) (n : tl z ≠ []) (l : z.length ≤ 600) : intText? z = some ((val (tl z) : Nat) : Int) := intText_digits h n (Nat.le_trans l (by decide))
section
variable {P : Program} {w : World} {K : PySem.W.Frag} {mg : Str → Option Value} {base : Heap}
abbrev nRA : List Str := ["text", "most", "places", "unsigned", "whole", "point", "behind", "number"]
theorem scRA : FnScope nRA ["text", "most", "places"] (defScope sReadAm) := ⟨rfl, rfl, rfl, by decide +kernel, rfl, by decide +kernel, by decide +kernel⟩
def spReadAm : Sp := fun vs H Q _ => ∃ (z : Str) (m : Nat), vs = [.str z, .int (cap m : Nat), .int (m : Int)] ∧ z.length ≤ 500 ∧ m ≤ 4 ∧ ∀ H', Same H H' → Q (ov (due m (tl z))) H'
theorem ok_readam {f fI : Addr} {fd fdI : FuncData} (F : Fun K "read_amount" "read_amount" sReadAm f fd) (T : Txt mg) (FI : Fun K "is_figures" "is_figures" sIsFig fI fdI) (bI : Binds K fdI ["text", "most"] []) (gI : mg "is_figures" = some (.ref fI)) :
    FnOk P w K mg base CX0 2 f fd ["text", "most", "places"] spReadAm := by
  have GI : FnOk P w K mg base CX0 1 fI fdI ["text", "most"] spIsFig := ok_isfig FI T
  refine F.ok scRA (fun vs H Q E h => ?_) (fun cdv A outer s H vs Q E hr h => ?_)
  · obtain ⟨z, m, rfl, _⟩ := h
    rfl
  · obtain ⟨z, m, rfl, zl, ml, q⟩ := h
    have line : z.length ≤ sizeLine := Nat.le_trans zl (by decide)
    refine ⟨_,pss_cons (ps_set (i := 3) scRA.nd rfl (Or.inl rfl) (pe_ifExp (pt_cmpR op_in_seq (pe_slice sl_str (pv 0) po_none (po_some pe_int)) (pe_tup (pa_cons pe_str (pa_cons pe_str pa_nil))) (by rfl)) (pe_slice sl_str (pv 0) (po_some pe_int) po_none) (pv 0)))
      (pss_cons (ps_asg (pe_partition (pv 3) pe_str) (pg_tup rfl (pgs_cons (pg_name (i := 4) scRA.nd rfl (Or.inl rfl)) (pgs_cons (pg_name (i := 5) scRA.nd rfl (Or.inl rfl)) (pgs_cons (pg_name (i := 6) scRA.nd rfl (Or.inl rfl)) pgs_nil)))))
      (pss_cons (ps_if (pt_not (pt_val (pe_call GI hr (by rfl) gI FI.kp bI .nil pass0 (pa_cons (pv 4) (pa_cons (pv 1) pa_nil))))) (pss_one (ps_ret pe_non)) pss_nil)
      (pss_cons (ps_if (PW.pt (pw_and (pt_cmpR op_ne (pv 5) pe_str (nomark _)) (pw_and1 (pt_not (pt_val (pe_call GI hr (by rfl) gI FI.kp bI .nil pass0 (pa_cons (pv 6) (pa_cons (pv 2) pa_nil)))))))) (pss_one (ps_ret pe_non)) pss_nil)
      (pss_cons (ps_set (i := 7) scRA.nd rfl (Or.inl rfl) (pe_callTy call_int_str (by rfl) T.int (by decide +kernel) (pa_cons (pe_op op_add_str (pv 4) (pe_bm PySem.F.plainAttrs_str PySem.F.slot_str_ljust PySem.F.type_str_ljust mt_ljustF (pv 6) (pa_cons (pv 2) (pa_cons pe_str pa_nil)))) pa_nil)))
      (pss_one (ps_ret (pe_ifExp (pt_val (pe_m1 PySem.F.slot_str_startswith PySem.F.type_str_startswith mt_startswith (pv 0) pe_str)) (pe_un un_neg (pv 7)) (pv 7)))))))), ?_⟩
    refine cutA (fun v H' => v = .str (S (body (tl z))) ∧ Same H H') (fun Q' q' => ?_) ?_
    · refine ⟨_, rfl, _, rfl, z, rfl, line, (by show 2 ≤ sizeLine; decide), fun t ht => ⟨t, _, rfl, .inr (SqT.of upd_same), rfl, rfl, _, rfl, ?_⟩⟩
      have e1 : (if false = true then !inV (.str (cutS z none (some 1))) [V.str (Str.ofString "+"), V.str (Str.ofString "-")] else inV (.str (cutS z none (some 1))) [V.str (Str.ofString "+"), V.str (Str.ofString "-")]) = decide (List.take 1 (tl z) = [43] ∨ List.take 1 (tl z) = [45]) := by
        have c1 : tl (cutS z none (some 1)) = (tl z).take 1 := tl_cut_to z 1
        have b : ∀ y : Str, (y == cutS z none (some 1)) = decide ((tl z).take 1 = tl y) := by
          intro y
          rw [← c1]
          by_cases e : y = cutS z none (some 1)
          · rw [← e]
            simp
          · rw [decide_eq_false (fun q => e (ext_tl q.symm))]
            exact beq_eq_false_iff_ne.mpr e
        show (((Str.ofString "+") == cutS z none (some 1)) || (((Str.ofString "-") == cutS z none (some 1)) || false)) = _
        rw [b, b, show tl (Str.ofString "+") = [43] by decide +kernel, show tl (Str.ofString "-") = [45] by decide +kernel, Bool.or_false]
        simp
      rw [e1]
      refine ite2 (fun c => ?_) (fun c => ?_)
      · have c' := of_decide_eq_true c
        refine ⟨_, rfl, _, rfl, z, rfl, line, ?_⟩
        refine q' _ _ ⟨?_, Same.new ht⟩
        have e : body (tl z) = (tl z).drop 1 := if_pos c'
        rw [e, ← tl_cut_from z 1, S_tl]
        rfl
      · have c' : ¬ (List.take 1 (tl z) = [43] ∨ List.take 1 (tl z) = [45]) := fun x => c (decide_eq_true x)
        refine ⟨_, rfl, ?_⟩
        refine q' _ _ ⟨?_, Same.new ht⟩
        have e : body (tl z) = tl z := if_neg c'
        rw [e, S_tl]
    · rintro v H1 ⟨rfl, s1⟩
      have bl : (body (tl z)).length ≤ 500 := by
        rw [len_tl] at zl
        unfold body
        split
        · rw [List.length_drop]; omega
        · exact zl
      have bline : (S (body (tl z))).length ≤ sizeLine := by rw [S_len]; exact Nat.le_trans bl (by decide)
      refine ⟨_, rfl, ⟨_, rfl⟩, _, _, rfl, rfl, rfl, bline, fun t ht => ?_⟩
      rcases two_ways (body (tl z)) with w | ⟨p, r, e, w⟩
      · rw [due_plain w] at q
        refine ⟨t, _, rfl, SqT.of upd_same, rfl, _, _, rfl, _, _, rfl, _, _, rfl, rfl, ?_⟩
        rw [part_plain (z := S (body (tl z))) w]
        have s2 : Same H (upd H1 t (.tup [.str (S (body (tl z))), .str Str.empty, .str Str.empty])) := s1.trans (Same.new ht)
        refine ⟨_, rfl, _, rfl, S (body (tl z)), cap m, rfl, by rw [S_len]; omega, _, rfl, ?_⟩
        show (if (!figs (cap m) (body (tl z))) = true then _ else _)
        cases hf : figs (cap m) (body (tl z)) with
        | false =>
          refine iteT ?_
          rw [hf] at q
          exact q _ s2
        | true =>
          refine iteF ?_
          rw [if_pos hf] at q
          have e0 : V.str Str.empty = V.str (Str.ofString "") := rfl
          refine ⟨_, rfl, rfl, _, rfl, ?_⟩
          rw [decide_eq_true e0]
          refine iteF ?_
          refine iteF ?_
          obtain ⟨⟨f1, f2⟩, f3⟩ := figs_iff.mp hf
          have jl : tl (Txt.ljustF Str.empty (m : Int) 48) = zs m := by
            rw [tl_ljust, tl_empty]
            rfl
          have nl : tl (S (body (tl z)) ++ Txt.ljustF Str.empty (m : Int) 48) = body (tl z) ++ zs m := by rw [tl_append, tl_S, jl]
          have ll : (Txt.ljustF Str.empty (m : Int) 48).length = m := by rw [len_tl, jl, zs_len]
          refine ⟨_, rfl, _, rfl, rfl, _, rfl, _, _, 48, rfl, rfl, pad_ok m (by omega), _, _, rfl, rfl, ?_, _, ((val (body (tl z) ++ zs m) : Nat) : Int), rfl, ?_, ?_, ?_⟩
          · rw [S_len, ll]
            exact Nat.le_trans (show _ ≤ 600 by omega) (by decide)
          · have g := intTextD (z := S (body (tl z)) ++ Txt.ljustF Str.empty (m : Int) 48) (by rw [nl]; exact digits_app f3 (zs_digits m)) (by rw [nl]; intro x; have y := congrArg List.length x; rw [List.length_append, List.length_nil] at y; omega) (by rw [len_tl, nl, List.length_append, zs_len]; omega)
            rw [nl] at g
            exact g
          · rw [len_tl, nl, List.length_append, zs_len]
            omega
          · refine ⟨_, rfl, ⟨_, rfl⟩, _, _, rfl, rfl, _, rfl, ?_⟩
            rw [starts_minus]
            have q2 := q _ s2
            unfold sgn at q2
            refine ite2 (fun c => ?_) (fun c => ?_)
            · rw [if_pos (of_decide_eq_true c)] at q2
              exact ⟨_, rfl, _, rfl, q2⟩
            · rw [if_neg (fun x => c (decide_eq_true x))] at q2
              exact ⟨_, rfl, q2⟩
      · rw [due_dot e w] at q
        have pl : p.length + r.length + 1 ≤ 500 := by
          rw [e, List.length_append, List.length_cons] at bl
          omega
        refine ⟨t, _, rfl, SqT.of upd_same, rfl, _, _, rfl, _, _, rfl, _, _, rfl, rfl, ?_⟩
        rw [part_dot (z := S (body (tl z))) e w]
        have s2 : Same H (upd H1 t (.tup [.str (S p), .str (Str.ofString "."), .str (S r)])) := s1.trans (Same.new ht)
        refine ⟨_, rfl, _, rfl, S p, cap m, rfl, by rw [S_len]; omega, _, rfl, ?_⟩
        show (if (!figs (cap m) p) = true then _ else _)
        cases hf : figs (cap m) p with
        | false =>
          refine iteT ?_
          rw [if_neg (by rw [hf]; simp)] at q
          exact q _ s2
        | true =>
          refine iteF ?_
          have e0 : V.str (Str.ofString ".") ≠ V.str (Str.ofString "") := str_ne (by decide +kernel)
          refine ⟨_, rfl, rfl, _, rfl, ?_⟩
          rw [decide_eq_false e0]
          refine iteT ?_
          refine ⟨_, rfl, _, rfl, S r, m, rfl, by rw [S_len]; omega, _, rfl, ?_⟩
          show (if (!figs m r) = true then _ else _)
          cases hg : figs m r with
          | false =>
            refine iteT ?_
            rw [if_neg (by rw [hg]; simp)] at q
            exact q _ s2
          | true =>
            refine iteF ?_
            rw [if_pos ⟨hf, hg⟩] at q
            obtain ⟨⟨f1, f2⟩, f3⟩ := figs_iff.mp hf
            obtain ⟨⟨g1, g2⟩, g3⟩ := figs_iff.mp hg
            have jl : tl (Txt.ljustF (S r) (m : Int) 48) = r ++ zs (m - r.length) := tl_ljust (S r) m
            have nl : tl (S p ++ Txt.ljustF (S r) (m : Int) 48) = p ++ (r ++ zs (m - r.length)) := by rw [tl_append, tl_S, jl]
            have ll : (Txt.ljustF (S r) (m : Int) 48).length ≤ m := by rw [len_tl, jl, List.length_append, zs_len]; omega
            refine ⟨_, rfl, _, rfl, rfl, _, rfl, _, _, 48, rfl, rfl, pad_ok m (by omega), _, _, rfl, rfl, ?_, _, ((val (p ++ (r ++ zs (m - r.length))) : Nat) : Int), rfl, ?_, ?_, ?_⟩
            · show (S p).length + (Txt.ljustF (S r) (m : Int) 48).length ≤ sizeLine
              rw [S_len]
              exact Nat.le_trans (show _ ≤ 600 by omega) (by decide)
            · have g := intTextD (z := S p ++ Txt.ljustF (S r) (m : Int) 48) (by rw [nl]; exact digits_app f3 (digits_app g3 (zs_digits _))) (by rw [nl]; intro x; have y := congrArg List.length x; rw [List.length_append, List.length_nil] at y; omega) (by rw [len_tl, nl, List.length_append, List.length_append, zs_len]; omega)
              rw [nl] at g
              exact g
            · rw [len_tl, nl, List.length_append, List.length_append, zs_len]
              omega
            · refine ⟨_, rfl, ⟨_, rfl⟩, _, _, rfl, rfl, _, rfl, ?_⟩
              rw [starts_minus]
              have q2 := q _ s2
              unfold sgn at q2
              refine ite2 (fun c => ?_) (fun c => ?_)
              · rw [if_pos (of_decide_eq_true c)] at q2
                exact ⟨_, rfl, _, rfl, q2⟩
              · rw [if_neg (fun x => c (decide_eq_true x))] at q2
                exact ⟨_, rfl, q2⟩
end
end K02
set_option Elab.async false
set_option linter.all false
set_option maxRecDepth 100000
set_option maxHeartbeats 4000000
namespace K02
open PySem PySem.Spec PyProof.Rows L2 Bs TL
theorem log_small {k : Nat} (h : k < 10 ^ 20) : k.log2 < 1920 := by
  by_cases z : k = 0
  · subst z
    decide
  · exact (Nat.log2_lt z).mpr (Nat.lt_trans h (by decide))
theorem abs_nat (n : Int) : (if n < 0 then -n else n) = ((n.natAbs : Nat) : Int) := by split <;> omega
theorem numS (k : Nat) : Str.ofString (toString ((k : Nat) : Int)) = S (numL k) := ext_tl (tl_num k)
theorem num_head {k : Nat} : ∃ d r, numL k = d :: r ∧ 48 ≤ d ∧ d ≤ 57 := by
  cases e : numL k with
  | nil => exact absurd e (numL_ne k)
  | cons d r => exact ⟨d, r, rfl, numL_digits k d (by rw [e]; exact List.mem_cons_self)⟩
theorem tl_zfill (k m : Nat) : tl (Txt.zfill (S (numL k)) ((m : Nat) : Int)) = padL m k := by
  unfold Txt.zfill padL
  by_cases h : ((m : Nat) : Int) ≤ ((S (numL k)).length : Nat)
  · rw [if_pos h]
    rw [S_len] at h
    rw [show m - (numL k).length = 0 by omega]
    rfl
  · rw [if_neg h, Int.toNat_natCast, S_len]
    obtain ⟨d, r, e, d0, d1⟩ := num_head (k := k)
    have z : zfilled (S (numL k)) (m - (numL k).length) = Builtin.Str.padded (S (numL k)) (m - (numL k).length) 0 48 := by
      unfold zfilled
      have c0 : (S (numL k)).cps[0]? = some d := by
        rw [e]
        rfl
      rw [c0]
      split
      · rename_i q
        have := Option.some.inj q
        omega
      · rename_i q
        have := Option.some.inj q
        omega
      · rfl
    rw [z]
    simp [Builtin.Str.padded, zs, tl, S]
theorem tl_cut_to_neg (z : Str) {m : Nat} (m0 : 0 < m) (ml : m ≤ (tl z).length) : tl (cutS z none (some (-(m : Int)))) = (tl z).take ((tl z).length - m) := by
  show ((tl z).drop (HT.sIx z.length 0 none)).take (HT.sIx z.length z.length (some (-(m : Int))) - HT.sIx z.length 0 none) = _
  have e : HT.sIx z.length z.length (some (-(m : Int))) = (tl z).length - m := by
    show (if (-(m : Int)) < 0 then (-(m : Int) + (z.length : Int)).toNat else _) = _
    rw [if_pos (by omega), len_tl]
    omega
  rw [HT.sIx_none, e, List.drop_zero, Nat.sub_zero]
theorem tl_cut_from_neg (z : Str) {m : Nat} (m0 : 0 < m) (ml : m ≤ (tl z).length) : tl (cutS z (some (-(m : Int))) none) = (tl z).drop ((tl z).length - m) := by
  show ((tl z).drop (HT.sIx z.length 0 (some (-(m : Int))))).take (HT.sIx z.length z.length none - HT.sIx z.length 0 (some (-(m : Int)))) = _
  have e : HT.sIx z.length 0 (some (-(m : Int))) = (tl z).length - m := by
    show (if (-(m : Int)) < 0 then (-(m : Int) + (z.length : Int)).toNat else _) = _
    rw [if_pos (by omega), len_tl]
    omega
  rw [HT.sIx_none, e, len_tl, List.take_of_length_le (by rw [List.length_drop]; omega)]
theorem sized_S {x : Str} {l : List Nat} (h : tl x = l) : x = S l := by rw [← h, S_tl]
section
variable {P : Program} {w : World} {K : PySem.W.Frag} {mg : Str → Option Value} {base : Heap}
/-- what more of the module's names -/
structure Txt2 (mg : Str → Option Value) : Prop where
  str : mg "str" = none
  wf : ∃ t, mg "WHOLE_FIGURES" = some (.int 9 t)
  af : ∃ t, mg "AMOUNT_FIGURES" = some (.int 8 t)
def kindL (m : Nat) : List V := if m = 0 then [.str "whole"] else [.str "amount", .int (m : Int)]
theorem scRD : FnScope ["form", "text"] ["form", "text"] (defScope sReadAs) := ⟨rfl, rfl, rfl, by decide +kernel, rfl, by decide +kernel, by decide +kernel⟩
def spReadAs (K : PySem.W.Frag) : Sp := fun vs H Q _ => ∃ (a : Addr) (z : Str) (m : Nat), vs = [.ref a, .str z] ∧ SqT K H a (kindL m) ∧ z.length ≤ 500 ∧ m ≤ 4 ∧ ∀ H', Same H H' → Q (ov (due m (tl z))) H'
theorem whole_ne : V.str (Str.ofString "amount") ≠ V.str (Str.ofString "whole") := str_ne (by decide +kernel)
theorem ok_readas {f fR fI : Addr} {fd fdR fdI : FuncData} (F : Fun K "read_as" "read_as" sReadAs f fd) (T : Txt mg) (T2 : Txt2 mg) (FI : Fun K "is_figures" "is_figures" sIsFig fI fdI) (bI : Binds K fdI ["text", "most"] []) (gI : mg "is_figures" = some (.ref fI))
    (FR : Fun K "read_amount" "read_amount" sReadAm fR fdR) (bR : Binds K fdR ["text", "most", "places"] []) (gR : mg "read_amount" = some (.ref fR)) :
    FnOk P w K mg base CX0 3 f fd ["form", "text"] (spReadAs K) := by
  have GR : FnOk P w K mg base CX0 2 fR fdR ["text", "most", "places"] spReadAm := ok_readam FR T FI bI gI
  obtain ⟨tw, gw⟩ := T2.wf
  obtain ⟨ta, ga⟩ := T2.af
  refine F.ok scRD (fun vs H Q E h => ?_) (fun cdv A outer s H vs Q E hr h => ?_)
  · obtain ⟨a, z, m, rfl, _⟩ := h
    rfl
  · obtain ⟨a, z, m, rfl, hk, zl, ml, q⟩ := h
    refine ⟨_,pss_cons (ps_if (pt_cmpR op_eq (pe_ix ix_tup (pv 0) pe_int (fun _ _ => rfl)) pe_str (nomark _)) (pss_one (ps_ret (pe_call GR hr (by rfl) gR FR.kp bR .nil pass0 (pa_cons (pv 1) (pa_cons (pe_glob (v := V.int 9) rfl gw ⟨_, rfl⟩) (pa_cons pe_int pa_nil)))))) pss_nil)
      (pss_cons (ps_if (pt_cmpR op_eq (pe_ix ix_tup (pv 0) pe_int (fun _ _ => rfl)) pe_str (nomark _)) (pss_one (ps_ret (pe_call GR hr (by rfl) gR FR.kp bR .nil pass0 (pa_cons (pv 1) (pa_cons (pe_glob (v := V.int 8) rfl ga ⟨_, rfl⟩) (pa_cons (pe_ix ix_tup (pv 0) pe_int (fun _ _ => rfl)) pa_nil)))))) pss_nil)
      (pss_one (ps_never))), ?_⟩
    unfold kindL at hk
    by_cases m0 : m = 0
    · subst m0
      rw [if_pos rfl] at hk
      refine ⟨_, rfl, a, _, _, _, rfl, rfl, hk, atI_nat (j := 0) rfl, rfl, _, rfl, ?_⟩
      rw [decide_eq_true (rfl : V.str (Str.ofString "whole") = V.str (Str.ofString "whole"))]
      refine iteT ?_
      exact ⟨_, rfl, z, 0, rfl, zl, by decide, q⟩
    · rw [if_neg m0] at hk
      have cp : cap m = 8 := if_neg m0
      refine ⟨_, rfl, a, _, _, _, rfl, rfl, hk, atI_nat (j := 0) rfl, rfl, _, rfl, ?_⟩
      rw [decide_eq_false whole_ne]
      refine iteF ?_
      refine ⟨_, rfl, a, _, _, _, rfl, rfl, hk, atI_nat (j := 0) rfl, rfl, _, rfl, ?_⟩
      rw [decide_eq_true (rfl : V.str (Str.ofString "amount") = V.str (Str.ofString "amount"))]
      refine iteT ?_
      exact ⟨_, rfl, _, rfl, a, _, _, _, rfl, rfl, hk, atI_nat (j := 1) rfl, z, m, by rw [cp]; rfl, zl, ml, q⟩
theorem scWA : FnScope ["number", "places", "sign", "figures"] ["number", "places"] (defScope sWrAm) := ⟨rfl, rfl, rfl, by decide +kernel, rfl, by decide +kernel, by decide +kernel⟩
def spWrAm : Sp := fun vs H Q _ => ∃ (n : Int) (m : Nat), vs = [.int n, .int (m : Int)] ∧ 0 < m ∧ m ≤ 4 ∧ n.natAbs < 10 ^ 20 ∧ Q (.str (S (shownL m n))) H
theorem ok_wram {f : Addr} {fd : FuncData} (F : Fun K "written_amount" "written_amount" sWrAm f fd) (T : Txt mg) (T2 : Txt2 mg) : FnOk P w K mg base CX0 1 f fd ["number", "places"] spWrAm := by
  refine F.ok scWA (fun vs H Q E h => ?_) (fun cdv A outer s H vs Q E hr h => ?_)
  · obtain ⟨n, m, rfl, _⟩ := h
    rfl
  · obtain ⟨n, m, rfl, m0, m4, nb, q⟩ := h
    refine ⟨_,pss_cons (ps_set (i := 2) scWA.nd rfl (Or.inl rfl) (pe_ifExp (pt_cmpR op_lt (pv 0) pe_int (nomark _)) pe_str pe_str))
      (pss_cons (ps_set (i := 3) scWA.nd rfl (Or.inl rfl) (pe_bm PySem.F.plainAttrs_str PySem.F.slot_str_zfill PySem.F.type_str_zfill mt_zfill (pe_callTy call_str_int (by rfl) T2.str (by decide +kernel) (pa_cons (pe_callB call_abs (by rfl) T.abs (by decide +kernel) (pa_cons (pv 0) pa_nil)) pa_nil)) (pa_cons (pe_op op_add (pv 1) pe_int) pa_nil)))
      (pss_one (ps_ret (pe_op op_add_str (pe_op op_add_str (pe_op op_add_str (pv 2) (pe_slice sl_str (pv 3) po_none (po_some (pe_un un_neg (pv 1))))) pe_str) (pe_slice sl_str (pv 3) (po_some (pe_un un_neg (pv 1))) po_none))))), ?_⟩
    refine cutA (fun v H' => (∃ y : Str, v = .str y ∧ tl y = if n < 0 then [45] else []) ∧ H' = H) (fun Q' q' => ?_) ?_
    · refine ⟨_, rfl, _, _, rfl, rfl, _, rfl, ?_⟩
      refine ite2 (fun c => ?_) (fun c => ?_)
      · refine q' _ _ ⟨⟨_, rfl, ?_⟩, rfl⟩
        rw [if_pos (of_decide_eq_true c)]
        decide +kernel
      · refine q' _ _ ⟨⟨_, rfl, ?_⟩, rfl⟩
        rw [if_neg (fun x => c (decide_eq_true x))]
        decide +kernel
    · rintro v H1 ⟨⟨y, rfl, ty⟩, rfl⟩
      refine ⟨_, rfl, _, rfl, _, rfl, ?_, ?_⟩
      · rw [abs_nat]
        exact log_small nb
      rw [abs_nat, numS]
      refine ⟨rfl, _, rfl, _, _, rfl, rfl, _, _, rfl, rfl, pad_ok (m + 1) (by omega), ?_⟩
      have tz : tl (Txt.zfill (S (numL n.natAbs)) ((m : Int) + 1)) = padL (m + 1) n.natAbs := tl_zfill n.natAbs (m + 1)
      generalize Txt.zfill (S (numL n.natAbs)) ((m : Int) + 1) = fg at tz
      have fl := padL_len (m + 1) n.natAbs
      have fh : (padL (m + 1) n.natAbs).length ≤ 24 := padL_le (Nat.lt_of_lt_of_le nb (Nat.pow_le_pow_right (by decide) (by decide))) (by decide) (by omega)
      rw [← tz] at fl fh
      have line : fg.length ≤ sizeLine := by rw [len_tl]; exact Nat.le_trans fh (by decide)
      have yl : y.length ≤ 1 := by rw [len_tl, ty]; split <;> decide
      have c1 := tl_cut_to_neg fg m0 (by omega)
      have c2 := tl_cut_from_neg fg m0 (by omega)
      have l1 : (cutS fg none (some (-(m : Int)))).length ≤ 24 := Nat.le_trans (cutS_length _ _ _) (by rw [len_tl]; exact fh)
      have l2 : (cutS fg (some (-(m : Int))) none).length ≤ 24 := Nat.le_trans (cutS_length _ _ _) (by rw [len_tl]; exact fh)
      have a1 : (y ++ cutS fg none (some (-(m : Int)))).length = y.length + (cutS fg none (some (-(m : Int)))).length := by rw [len_tl, tl_append, List.length_append, ← len_tl, ← len_tl]
      have a2 : (y ++ cutS fg none (some (-(m : Int))) ++ Str.ofString ".").length = y.length + (cutS fg none (some (-(m : Int)))).length + 1 := by rw [len_tl, tl_append, List.length_append, ← len_tl, a1]; rfl
      refine ⟨_, rfl, _, rfl, _, rfl, _, rfl, _, rfl, fg, rfl, line, _, _, rfl, rfl, Nat.le_trans (show _ ≤ 100 by omega) (by decide), _, _, rfl, rfl, ?_, ?_⟩
      · rw [a1]
        exact Nat.le_trans (show _ ≤ 100 by have : (Str.ofString ".").length = 1 := rfl; omega) (by decide)
      · refine ⟨_, rfl, _, rfl, _, rfl, _, rfl, fg, rfl, line, _, _, rfl, rfl, ?_, ?_⟩
        · rw [a2]
          exact Nat.le_trans (show _ ≤ 100 by omega) (by decide)
        · have e : y ++ cutS fg none (some (-(m : Int))) ++ Str.ofString "." ++ cutS fg (some (-(m : Int))) none = S (shownL m n) := by
            apply sized_S
            rw [tl_append, tl_append, tl_append, ty, c1, c2, tz, show tl (Str.ofString ".") = [46] by decide +kernel]
            unfold shownL
            rw [if_neg (show ¬ m = 0 by omega)]
            simp
          show Q (.str (y ++ cutS fg none (some (-(m : Int))) ++ Str.ofString "." ++ cutS fg (some (-(m : Int))) none)) _
          rw [e]
          exact q
end
end K02
set_option Elab.async false
set_option linter.all false
set_option maxRecDepth 100000
set_option maxHeartbeats 4000000
namespace K02
open PySem PySem.Spec PyProof.Rows L2 Bs TL
abbrev sSum : Stmt := top 29
abbrev sShown : Stmt := top 31
theorem tl_toString (n : Int) : tl (Str.ofString (toString n)) = (if n < 0 then [45] else []) ++ numL n.natAbs := by
  cases n with
  | ofNat k =>
    have e : tl (Str.ofString (toString (Int.ofNat k))) = numL k := tl_num k
    rw [e, if_neg (by exact Int.not_lt.mpr (Int.natCast_nonneg k))]
    rfl
  | negSucc k =>
    have e : toString (Int.negSucc k) = "-" ++ toString ((((k + 1 : Nat)) : Int)) := rfl
    rw [e, if_pos (Int.negSucc_lt_zero k), tl_ofString, String.toList_append, List.map_append]
    have e2 := tl_num (k + 1)
    rw [tl_ofString] at e2
    rw [e2]
    rfl
theorem padL_one (k : Nat) : padL 1 k = numL k := by
  have := numL_pos k
  unfold padL
  rw [show 1 - (numL k).length = 0 by omega]
  rfl
theorem str_whole (n : Int) : Str.ofString (toString n) = S (shownL 0 n) := by
  apply sized_S
  rw [tl_toString]
  unfold shownL
  rw [if_pos rfl, padL_one]
def sumV (l : List Nat) : V := if l ≠ [] ∧ l.all dg = true then .int ((val l : Nat) : Int) else .non
theorem idx_dig : ∀ c, 48 ≤ c → c ≤ 57 → Txt.index0 (Str.ofString "0123456789") ⟨#[c]⟩ = some (c - 48) := by
  have key : ∀ c, c ≤ 57 → 48 ≤ c → Txt.index0 (Str.ofString "0123456789") ⟨#[c]⟩ = some (c - 48) := by decide +kernel
  exact fun c h g => key c g h
theorem in_digs (c : Nat) : (c ∈ (Str.ofString "0123456789").cps.toList) ↔ 48 ≤ c ∧ c ≤ 57 := by
  have e : (Str.ofString "0123456789").cps.toList = [48, 49, 50, 51, 52, 53, 54, 55, 56, 57] := by decide +kernel
  rw [e]
  simp only [List.mem_cons, List.not_mem_nil, or_false]
  omega
section
variable {X : Cx}
/-- a text times a number -/
theorem op_mulS : OpR X (binaryOp .Mult) (fun x y H Q => ∃ (a : Str) (i : Int), x = .str a ∧ y = .int i ∧ MulOk a i ∧ Q (.str (Txt.mul a i)) H) := by
  intro pins s σ H x y v u Q I rx ry h
  obtain ⟨a, i, rfl, rfl, ok, q⟩ := h
  obtain ⟨t, rfl⟩ := rx
  obtain ⟨t', rfl⟩ := ry
  apply SB.mul ok
  intro t2 k
  exact ⟨.str _, H, I.tok k, ⟨t2, rfl⟩, q⟩
end
section
variable {P : Program} {w : World} {K : PySem.W.Frag} {mg : Str → Option Value} {base : Heap}
theorem scWr : FnScope ["form", "number"] ["form", "number"] (defScope sWritten) := ⟨rfl, rfl, rfl, by decide +kernel, rfl, by decide +kernel, by decide +kernel⟩
def spWritten (K : PySem.W.Frag) : Sp := fun vs H Q _ => ∃ (a : Addr) (n : Int) (m : Nat), vs = [.ref a, .int n] ∧ SqT K H a (kindL m) ∧ m ≤ 4 ∧ n.natAbs < 10 ^ 20 ∧ Q (.str (S (shownL m n))) H
theorem ok_written {f fW : Addr} {fd fdW : FuncData} (F : Fun K "written" "written" sWritten f fd) (T : Txt mg) (T2 : Txt2 mg) (FW : Fun K "written_amount" "written_amount" sWrAm fW fdW) (bW : Binds K fdW ["number", "places"] []) (gW : mg "written_amount" = some (.ref fW)) :
    FnOk P w K mg base CX0 2 f fd ["form", "number"] (spWritten K) := by
  have GW : FnOk P w K mg base CX0 1 fW fdW ["number", "places"] spWrAm := ok_wram FW T T2
  refine F.ok scWr (fun vs H Q E h => ?_) (fun cdv A outer s H vs Q E hr h => ?_)
  · obtain ⟨a, n, m, rfl, _⟩ := h
    rfl
  · obtain ⟨a, n, m, rfl, hk, ml, nb, q⟩ := h
    refine ⟨_,pss_cons (ps_if (pt_cmpR op_eq (pe_ix ix_tup (pv 0) pe_int (fun _ _ => rfl)) pe_str (nomark _)) (pss_one (ps_ret (pe_callTy call_str_int (by rfl) T2.str (by decide +kernel) (pa_cons (pv 1) pa_nil)))) pss_nil)
      (pss_cons (ps_if (pt_cmpR op_eq (pe_ix ix_tup (pv 0) pe_int (fun _ _ => rfl)) pe_str (nomark _)) (pss_one (ps_ret (pe_call GW hr (by rfl) gW FW.kp bW .nil pass0 (pa_cons (pv 1) (pa_cons (pe_ix ix_tup (pv 0) pe_int (fun _ _ => rfl)) pa_nil))))) pss_nil)
      (pss_one (ps_never))), ?_⟩
    unfold kindL at hk
    by_cases m0 : m = 0
    · subst m0
      rw [if_pos rfl] at hk
      refine ⟨_, rfl, a, _, _, _, rfl, rfl, hk, atI_nat (j := 0) rfl, rfl, _, rfl, ?_⟩
      rw [decide_eq_true (rfl : V.str (Str.ofString "whole") = V.str (Str.ofString "whole"))]
      refine iteT ?_
      refine ⟨_, rfl, _, rfl, log_small nb, ?_⟩
      rw [← str_whole] at q
      exact q
    · rw [if_neg m0] at hk
      refine ⟨_, rfl, a, _, _, _, rfl, rfl, hk, atI_nat (j := 0) rfl, rfl, _, rfl, ?_⟩
      rw [decide_eq_false whole_ne]
      refine iteF ?_
      refine ⟨_, rfl, a, _, _, _, rfl, rfl, hk, atI_nat (j := 0) rfl, rfl, _, rfl, ?_⟩
      rw [decide_eq_true (rfl : V.str (Str.ofString "amount") = V.str (Str.ofString "amount"))]
      refine iteT ?_
      exact ⟨_, rfl, _, rfl, a, _, _, _, rfl, rfl, hk, atI_nat (j := 1) rfl, n, m, rfl, by omega, ml, nb, q⟩
/-! ### the law's own sum -/
theorem scSum : FnScope ["_law_signs_here", "_law_found", "_law_one"] ["_law_signs_here"] (defScope sSum) := ⟨rfl, rfl, rfl, by decide +kernel, rfl, by decide +kernel, by decide +kernel⟩
def spSum : Sp := fun vs H Q _ => ∃ z : Str, vs = [.str z] ∧ z.length ≤ 1000 ∧ Q (sumV (tl z)) H
theorem ok_sum {f : Addr} {fd : FuncData} (F : Fun K "_law_sum" "_law_sum" sSum f fd) : FnOk P w K mg base CX0 1 f fd ["_law_signs_here"] spSum := by
  refine F.ok scSum (fun vs H Q E h => ?_) (fun cdv A outer s H vs Q E hr h => ?_)
  · obtain ⟨z, rfl, _⟩ := h
    rfl
  · obtain ⟨z, rfl, zl, q⟩ := h
    refine ⟨_,pss_cons (ps_set (i := 1) scSum.nd rfl (Or.inl rfl) pe_int)
      (pss_cons (ps_for PassesOwn.never rfl (pi_str (pv 0)) (pg_name (i := 2) scSum.nd rfl (Or.inl rfl)) (pss_cons (ps_if (pt_cmpR op_notIn_sign (pv 2) pe_str rfl) (pss_one (ps_ret pe_non)) pss_nil)
      (pss_one (ps_set (i := 1) scSum.nd rfl (Or.inl rfl) (pe_op op_add (pe_op op_mul pe_int (pv 1)) (pe_bmS PySem.F.plainAttrs_str PySem.F.slot_str_index PySem.F.type_str_index (mt_indexX (W := fun _ _ _ _ => False) rfl takes0) pe_str (pa_cons (pv 2) pa_nil)))))))
      (pss_one (ps_ret (pe_ifExp (pt_cmpR op_ne (pv 0) pe_str (nomark _)) (pv 1) pe_non)))), ?_⟩
    refine ⟨_, rfl, z, rfl, for_it walk_str (fun i σ H' => H' = H ∧ ∃ v, σ = [some (.str z), some (.int ((val ((tl z).take i) : Nat) : Int)), v] ∧ ((tl z).take i).all dg = true) ⟨rfl, none, rfl, rfl⟩ (fun _ _ _ _ _ => trivial) ?_ ?_⟩
    · rintro i x σ H1 H2 hi ⟨rfl, v, rfl, ad⟩ ⟨rfl, c, hc, rfl⟩
      have hc' : (tl z)[i]? = some c := by simpa [tl] using hc
      refine ⟨_, rfl, c, _, rfl, rfl, _, rfl, ?_⟩
      by_cases dc : 48 ≤ c ∧ c ≤ 57
      · rw [decide_eq_true ((in_digs c).mpr dc)]
        refine iteF ?_
        refine ⟨_, rfl, _, _, rfl, rfl, .inl ⟨by decide, by decide⟩, rfl, _, rfl, _, _, rfl, rfl, fun k hk => ?_, fun no => ?_⟩
        · rw [idx_dig c dc.1 dc.2] at hk
          have ek := Option.some.inj hk
          refine ⟨_, _, rfl, rfl, ?_⟩
          have tk : (tl z).take (i + 1) = (tl z).take i ++ [c] := by rw [List.take_add_one, hc']; rfl
          refine ⟨rfl, some (.str ⟨#[c]⟩), ?_, ?_⟩
          · have e : (10 * ((val ((tl z).take i) : Nat) : Int) + (k : Int)) = ((val ((tl z).take (i + 1)) : Nat) : Int) := by
              rw [tk, val_app]
              have v1 : val [c] = c - 48 := by simp [val, NumText.digitsVal]
              rw [v1]
              simp
              omega
            show [some (V.str z), some (V.int (10 * ((val ((tl z).take i) : Nat) : Int) + (k : Int))), some (V.str ⟨#[c]⟩)] = _
            rw [e]
          · rw [tk, List.all_append, ad]
            simp [dg, dc.1, dc.2]
        · rw [idx_dig c dc.1 dc.2] at no
          cases no
      · rw [decide_eq_false (fun x => dc ((in_digs c).mp x))]
        refine iteT ?_
        have nv : sumV (tl z) = .non := by
          unfold sumV
          rw [if_neg]
          rintro ⟨_, a⟩
          exact dc (dg_iff.mp (List.all_eq_true.mp a c (List.mem_of_getElem? hc')))
        rw [nv] at q
        exact q
    · rintro σ H1 ⟨rfl, v, rfl, ad⟩
      have full : (tl z).take z.cps.size = tl z := List.take_of_length_le (by simp [tl])
      rw [full] at ad ⊢
      refine ⟨_, rfl, rfl, _, rfl, ?_⟩
      unfold sumV at q
      by_cases e : tl z = []
      · have e2 : z = Str.ofString "" := ext_tl (by rw [e]; rfl)
        rw [if_neg (fun x => x.1 e)] at q
        rw [decide_eq_true (congrArg V.str e2)]
        exact iteF q
      · rw [if_pos ⟨e, ad⟩] at q
        have e2 : V.str z ≠ V.str (Str.ofString "") := str_ne (by rw [show tl (Str.ofString "") = [] from rfl]; exact e)
        rw [decide_eq_false e2]
        exact iteT ⟨_, rfl, q⟩
end
end K02
set_option Elab.async false
set_option linter.all false
set_option maxRecDepth 100000
set_option maxHeartbeats 4000000
namespace K02
open PySem PySem.Spec PyProof.Rows L2 Bs TL
theorem loop_start (n : Nat) : n / 10 ^ 0 = n := by simp
theorem div_step (n k : Nat) : n / 10 ^ k / 10 = n / 10 ^ (k + 1) := by rw [Nat.div_div_eq_div_mul, Nat.pow_succ]
theorem digit_at : ∀ d : Nat, d < 10 → atI (Str.ofString "0123456789").cps.toList ((d : Nat) : Int) = some (48 + d) := by decide +kernel
def figM : L2.St → Nat
  | [_, _, _, some (V.str fg), _] => 100 - fg.length
  | _ => 0
def ShInv (n : Int) (m : Nat) (H : Hp) (σ : L2.St) (H' : Hp) : Prop := H' = H ∧ ∃ (k : Nat) (fg : Str), k ≤ 40 ∧ tl fg = dig k n.natAbs ∧ (k ≤ m + 1 ∨ 10 ^ (k - 1) ≤ n.natAbs) ∧ σ = [some (.int n), some (.int (m : Int)), some (.int ((n.natAbs / 10 ^ k : Nat) : Int)), some (.str fg), none]
theorem pow_le_of_div {n k : Nat} (o : 0 < n / 10 ^ k) : 10 ^ k ≤ n := by
  by_cases h : n < 10 ^ k
  · rw [Nat.div_eq_of_lt h] at o
    omega
  · omega
/-- one turn more -/
theorem more {n : Int} {m k : Nat} {H : Hp} {fg : Str} (m4 : m ≤ 4) (nb : n.natAbs < 10 ^ 20) (tf : tl fg = dig k n.natAbs) (why : 0 < n.natAbs / 10 ^ k ∨ k < m + 1) :
    ShInv n m H [some (.int n), some (.int (m : Int)), some (.int ((n.natAbs / 10 ^ k / 10 : Nat) : Int)), some (.str ((⟨#[48 + n.natAbs / 10 ^ k % 10]⟩ : Str) ++ fg)), none] H ∧
      figM [some (.int n), some (.int (m : Int)), some (.int ((n.natAbs / 10 ^ k / 10 : Nat) : Int)), some (.str ((⟨#[48 + n.natAbs / 10 ^ k % 10]⟩ : Str) ++ fg)), none] < 100 - fg.length := by
  have fl : fg.length = k := by rw [len_tl, tf, dig_len]
  have k20 : k < 20 ∨ k < 5 := by
    rcases why with o | o
    · exact .inl ((Nat.pow_lt_pow_iff_right (by decide : 1 < 10)).mp (Nat.lt_of_le_of_lt (pow_le_of_div o) nb))
    · right
      omega
  have tg : tl ((⟨#[48 + n.natAbs / 10 ^ k % 10]⟩ : Str) ++ fg) = dig (k + 1) n.natAbs := by
    rw [tl_append, tf, dig_cons]
    rfl
  refine ⟨⟨rfl, k + 1, _, by omega, tg, ?_, ?_⟩, ?_⟩
  · rcases why with o | o
    · right
      rw [Nat.add_sub_cancel]
      exact pow_le_of_div o
    · left
      omega
  · rw [div_step]
  · show 100 - ((⟨#[48 + n.natAbs / 10 ^ k % 10]⟩ : Str) ++ fg).length < 100 - fg.length
    rw [len_tl, tg, dig_len, fl]
    omega
theorem mul_ok (b : Bool) : MulOk (Str.ofString "-") (if b then 1 else 0) := by
  cases b
  · exact ⟨by decide, fun h => absurd (by decide) h, fun h => absurd (by decide) h⟩
  · exact ⟨by decide, fun _ h => by simp at h, fun _ h => by simp at h⟩
theorem tl_mul (b : Bool) : tl (Txt.mul (Str.ofString "-") (if b then 1 else 0)) = if b then [45] else [] := by cases b <;> decide +kernel
section
variable {P : Program} {w : World} {K : PySem.W.Frag} {mg : Str → Option Value} {base : Heap}
abbrev nSh : List Str := ["_law_found", "_law_many", "_law_one", "_law_figures_here", "_law_ahead"]
theorem scSh : FnScope nSh ["_law_found", "_law_many"] (defScope sShown) := ⟨rfl, rfl, rfl, by decide +kernel, rfl, by decide +kernel, by decide +kernel⟩
def spShown : Sp := fun vs H Q _ => ∃ (n : Int) (m : Nat), vs = [.int n, .int (m : Int)] ∧ m ≤ 4 ∧ n.natAbs < 10 ^ 20 ∧ Q (.str (S (shownL m n))) H
theorem ok_shown {f : Addr} {fd : FuncData} (F : Fun K "_law_shown" "_law_shown" sShown f fd) (T : Txt mg) : FnOk P w K mg base CX0 1 f fd ["_law_found", "_law_many"] spShown := by
  refine F.ok scSh (fun vs H Q E h => ?_) (fun cdv A outer s H vs Q E hr h => ?_)
  · obtain ⟨n, m, rfl, _⟩ := h
    rfl
  · obtain ⟨n, m, rfl, m4, nb, q⟩ := h
    refine ⟨_,pss_cons (ps_par (i := 2) (j := 3) rfl scSh.nd rfl rfl (by decide) rfl rfl (pa_cons (pe_callB call_abs (by rfl) T.abs (by decide +kernel) (pa_cons (pv 0) pa_nil)) (pa_cons pe_str pa_nil)) (by rfl))
      (pss_cons (ps_while PassesOwn.never (PW.pt (pw_or (pt_cmpR op_gt (pv 2) pe_int (nomark _)) (pw_or1 (pt_cmpR op_lt (pe_callB call_len_str (by rfl) T.len PySem.boot_len (pa_cons (pv 3) pa_nil)) (pe_op op_add (pv 1) pe_int) (nomark _))))) (pss_cons (ps_set (i := 3) scSh.nd rfl (Or.inl rfl) (pe_op op_add_str (pe_ix ix_str pe_str (pe_op op_sub (pv 2) (pe_op op_mul (pe_op op_fdiv (pv 2) pe_int) pe_int)) (fun _ _ => rfl)) (pv 3)))
      (pss_one (ps_set (i := 2) scSh.nd rfl (Or.inl rfl) (pe_op op_fdiv (pv 2) pe_int)))))
      (pss_cons (ps_set (i := 4) scSh.nd rfl (Or.inl rfl) (pe_op op_add_str (pe_op op_mulS pe_str (pe_callTy call_int1 (by rfl) T.int (by decide +kernel) (pa_cons (pe_cmpR op_lt (pv 0) pe_int (nomark _)) pa_nil))) (pe_slice sl_str (pv 3) po_none (po_some (pe_op op_sub (pe_callB call_len_str (by rfl) T.len PySem.boot_len (pa_cons (pv 3) pa_nil)) (pv 1))))))
      (pss_one (ps_ret (pe_ifExp (pt_cmpR op_gt (pv 1) pe_int (nomark _)) (pe_op op_add_str (pe_op op_add_str (pv 4) pe_str) (pe_slice sl_str (pv 3) (po_some (pe_op op_sub (pe_callB call_len_str (by rfl) T.len PySem.boot_len (pa_cons (pv 3) pa_nil)) (pv 1))) po_none)) (pv 4)))))), ?_⟩
    refine ⟨_, rfl, _, rfl, _, _, rfl, ?_⟩
    rw [abs_nat]
    refine while_by (ShInv n m H) (fun σ _ => figM σ) ⟨rfl, 0, Str.ofString "", by decide, rfl, .inl (by omega), ?_⟩ ?_ ?_
    · show [some (V.int n), some (V.int (m : Int)), some (V.int ((n.natAbs : Nat) : Int)), some (V.str (Str.ofString "")), none] = _
      rw [loop_start]
    · rintro σ H1 ⟨rfl, k, fg, k40, tf, kk, rfl⟩
      have fl : fg.length = k := by rw [len_tl, tf, dig_len]
      have fline : fg.length ≤ sizeLine := by rw [fl]; exact Nat.le_trans k40 (by decide)
      have line1 : (⟨#[48 + n.natAbs / 10 ^ k % 10]⟩ : Str).length + fg.length ≤ sizeLine := by rw [fl]; exact Nat.le_trans (show 1 + k ≤ 50 by omega) (by decide)
      have digit : atI (Str.ofString "0123456789").cps.toList (((n.natAbs / 10 ^ k : Nat) : Int) - ((n.natAbs / 10 ^ k : Nat) : Int) / 10 * 10) = some (48 + n.natAbs / 10 ^ k % 10) := by
        have e : ((n.natAbs / 10 ^ k : Nat) : Int) - ((n.natAbs / 10 ^ k : Nat) : Int) / 10 * 10 = ((n.natAbs / 10 ^ k % 10 : Nat) : Int) := by omega
        rw [e]
        exact digit_at _ (Nat.mod_lt _ (by decide))
      refine ⟨_, rfl, _, _, rfl, rfl, _, rfl, ?_⟩
      by_cases c : (0 : Int) < ((n.natAbs / 10 ^ k : Nat) : Int)
      · rw [decide_eq_true c]
        refine iteT ?_
        refine iteT ?_
        refine ⟨_, rfl, _, rfl, _, _, rfl, rfl, ⟨by decide, by decide⟩, _, _, rfl, rfl, .inr ⟨by decide, by decide⟩, _, _, rfl, rfl, _, _, _, rfl, rfl, (by decide +kernel), digit, _, rfl, _, _, rfl, rfl, line1, ?_⟩
        exact ⟨_, rfl, _, _, rfl, rfl, ⟨by decide, by decide⟩, more m4 nb tf (.inl (Int.natCast_pos.mp c))⟩
      · rw [decide_eq_false c]
        refine iteF ?_
        refine ⟨_, rfl, _, rfl, fline, _, rfl, _, _, rfl, rfl, _, _, rfl, rfl, _, rfl, ?_⟩
        by_cases c2 : ((fg.length : Nat) : Int) < (m : Int) + 1
        · rw [decide_eq_true c2]
          refine iteT ?_
          refine ⟨_, rfl, _, rfl, _, _, rfl, rfl, ⟨by decide, by decide⟩, _, _, rfl, rfl, .inr ⟨by decide, by decide⟩, _, _, rfl, rfl, _, _, _, rfl, rfl, (by decide +kernel), digit, _, rfl, _, _, rfl, rfl, line1, ?_⟩
          exact ⟨_, rfl, _, _, rfl, rfl, ⟨by decide, by decide⟩, more m4 nb tf (.inr (by omega))⟩
        · rw [decide_eq_false c2]
          refine iteF ?_
          have tk : tl fg = padL (m + 1) n.natAbs := by
            rw [tf]
            refine loop_end ?_ (by omega) ?_
            · have z : n.natAbs / 10 ^ k = 0 := Nat.eq_zero_of_not_pos fun h => c (Int.natCast_pos.mpr h)
              exact (Nat.div_eq_zero_iff.mp z).resolve_left (by have := Nat.pow_pos (n := k) (show 0 < 10 by decide); omega)
            · rcases kk with o | o
              · exact .inl (by omega)
              · exact .inr o
          have mb : (m : Int) ≤ (fg.length : Nat) := by omega
          have es : (((fg.length : Nat) : Int) - (m : Int)) = ((fg.length - m : Nat) : Int) := by omega
          refine ⟨_, rfl, _, _, rfl, rfl, .inr ⟨_, rfl, _, _, rfl, rfl, mul_ok _, ?_⟩⟩
          refine ⟨_, rfl, _, rfl, _, rfl, fline, _, rfl, _, _, rfl, rfl, _, rfl, fg, rfl, fline, ?_⟩
          rw [es]
          have lA : (Txt.mul (Str.ofString "-") (if decide (n < 0) = true then 1 else 0)).length ≤ 1 := by
            rw [len_tl, tl_mul]
            split <;> decide
          have c1 := tl_cut_to fg (fg.length - m)
          have c2 := tl_cut_from fg (fg.length - m)
          have l1 : (cutS fg none (some ((fg.length - m : Nat) : Int))).length ≤ 40 := Nat.le_trans (cutS_length _ _ _) (by omega)
          have l2 : (cutS fg (some ((fg.length - m : Nat) : Int)) none).length ≤ 40 := Nat.le_trans (cutS_length _ _ _) (by omega)
          have tA : tl (Txt.mul (Str.ofString "-") (if decide (n < 0) = true then 1 else 0)) = if n < 0 then [45] else [] := by
            rw [tl_mul]
            by_cases h : n < 0
            · rw [if_pos h, decide_eq_true h]
              rfl
            · rw [if_neg h, decide_eq_false h]
              rfl
          generalize Txt.mul (Str.ofString "-") (if decide (n < 0) = true then 1 else 0) = A at lA tA
          have a1 : (A ++ cutS fg none (some ((fg.length - m : Nat) : Int))).length = A.length + (cutS fg none (some ((fg.length - m : Nat) : Int))).length := by rw [len_tl, tl_append, List.length_append, ← len_tl, ← len_tl]
          have a2 : (A ++ cutS fg none (some ((fg.length - m : Nat) : Int)) ++ Str.ofString ".").length = A.length + (cutS fg none (some ((fg.length - m : Nat) : Int))).length + 1 := by rw [len_tl, tl_append, List.length_append, ← len_tl, a1]; rfl
          refine ⟨_, _, rfl, rfl, Nat.le_trans (show _ ≤ 100 by omega) (by decide), ?_⟩
          refine ⟨_, rfl, _, _, rfl, rfl, _, rfl, ?_⟩
          by_cases m0 : (0 : Int) < (m : Int)
          · rw [decide_eq_true m0]
            refine iteT ?_
            refine ⟨_, rfl, _, _, rfl, rfl, ?_, _, rfl, _, rfl, _, rfl, fline, _, rfl, _, _, rfl, rfl, _, rfl, fg, rfl, fline, ?_⟩
            · show (A ++ cutS fg none (some ((fg.length - m : Nat) : Int))).length + (Str.ofString ".").length ≤ sizeLine
              rw [a1, show (Str.ofString ".").length = 1 from rfl]
              exact Nat.le_trans (show _ ≤ 100 by omega) (by decide)
            rw [es]
            refine ⟨_, _, rfl, rfl, ?_, ?_⟩
            · show (A ++ cutS fg none (some ((fg.length - m : Nat) : Int)) ++ Str.ofString ".").length + _ ≤ sizeLine
              rw [a2]
              exact Nat.le_trans (show _ ≤ 100 by omega) (by decide)
            · have e : A ++ cutS fg none (some ((fg.length - m : Nat) : Int)) ++ Str.ofString "." ++ cutS fg (some ((fg.length - m : Nat) : Int)) none = S (shownL m n) := by
                apply sized_S
                rw [tl_append, tl_append, tl_append, tA, c1, c2, len_tl, tk, show tl (Str.ofString ".") = [46] by decide +kernel]
                unfold shownL
                rw [if_neg (show ¬ m = 0 by omega)]
                simp
              show Q (.str (A ++ cutS fg none (some ((fg.length - m : Nat) : Int)) ++ Str.ofString "." ++ cutS fg (some ((fg.length - m : Nat) : Int)) none)) _
              rw [e]
              exact q
          · rw [decide_eq_false m0]
            refine iteF ?_
            have mz : m = 0 := by omega
            subst mz
            refine ⟨_, rfl, ?_⟩
            have e : A ++ cutS fg none (some ((fg.length - 0 : Nat) : Int)) = S (shownL 0 n) := by
              apply sized_S
              rw [tl_append, tA, c1, len_tl, tk, Nat.sub_zero, List.take_of_length_le (Nat.le_refl _)]
              unfold shownL
              rw [if_pos rfl]
            show Q (.str (A ++ cutS fg none (some ((fg.length - 0 : Nat) : Int)))) _
            rw [e]
            exact q
    · rintro σ H1 Q1 Q2 imp ⟨x, hx, i, j, e1, e2, b, e3, g⟩
      refine ⟨x, hx, i, j, e1, e2, b, e3, ?_⟩
      cases b with
      | true => exact imp _ _ g
      | false =>
        obtain ⟨y, hy, z, ez, lz, u, hu, a1, a2, e4, e5, a3, a4, e6, e7, b2, e8, g⟩ := g
        exact ⟨y, hy, z, ez, lz, u, hu, a1, a2, e4, e5, a3, a4, e6, e7, b2, e8, imp _ _ g⟩
end
end K02
set_option Elab.async false
set_option linter.all false
set_option maxRecDepth 100000
set_option maxHeartbeats 4000000
namespace K02
open PySem PySem.Spec PyProof.Rows L2 Bs TL
abbrev sDue : Stmt := top 30
theorem cutQ {t : TT} {σ : L2.St} {H : Hp} {Q : Bool → Hp → Prop} (b : Bool) (h1 : ∀ Q' : Bool → Hp → Prop, Q' b H → t σ H Q') (h2 : Q b H) : t σ H Q := h1 _ h2
theorem map_S : ∀ l : List Str, (l.map tl).map S = l
  | [] => rfl
  | x :: r => by
    have i := map_S r
    rw [List.map_cons, List.map_cons, i, S_tl]
theorem split_dot (z : Str) : Txt.split z (Str.ofString ".") = (spl [46] 0 [] (tl z)).map S := by
  have h := split_spl z (Str.ofString ".") (by decide +kernel) (kind_ok (by decide +kernel))
  rw [show tl (Str.ofString ".") = [46] by decide +kernel] at h
  rw [← h, map_S]
theorem in_sign (z : Str) (l : List V) (e : l = [V.str (Str.ofString "-"), V.str (Str.ofString "+")]) : inV (.str (cutS z none (some 1))) l = decide (List.take 1 (tl z) = [43] ∨ List.take 1 (tl z) = [45]) := by
  subst e
  have c1 : tl (cutS z none (some 1)) = (tl z).take 1 := tl_cut_to z 1
  have b : ∀ y : Str, (y == cutS z none (some 1)) = decide ((tl z).take 1 = tl y) := by
    intro y
    rw [← c1]
    by_cases e : y = cutS z none (some 1)
    · rw [← e]
      simp
    · rw [decide_eq_false (fun q => e (ext_tl q.symm))]
      exact beq_eq_false_iff_ne.mpr e
  show (((Str.ofString "-") == cutS z none (some 1)) || (((Str.ofString "+") == cutS z none (some 1)) || false)) = _
  rw [b, b, show tl (Str.ofString "+") = [43] by decide +kernel, show tl (Str.ofString "-") = [45] by decide +kernel, Bool.or_false, Bool.or_comm]
  simp
theorem int_dec0 (m : Nat) : decide (V.int (m : Int) = V.int 0) = decide (m = 0) := by
  by_cases h : m = 0
  · subst h
    simp
  · rw [decide_eq_false h, decide_eq_false]
    intro q
    have := V.int.inj q
    omega
theorem int_dec (m k : Nat) : decide (V.int (m : Int) = V.int (k : Int)) = decide (m = k) := by
  by_cases h : m = k
  · subst h
    simp
  · rw [decide_eq_false h, decide_eq_false]
    intro q
    have := V.int.inj q
    omega
theorem cutIf {c : TT} {t u v : TS} {D : Ends} {σ : L2.St} {H : Hp} (b : Bool) (h1 : ∀ Q' : Bool → Hp → Prop, Q' b H → c σ H Q') (h2 : if b = true then t { D with nx := v D } σ H else u { D with nx := v D } σ H) : tSeq (tIfS c t u) v D σ H := h1 _ h2
theorem lenD {L : List (List Nat)} {k : Nat} (e : L.length = k) : (((L.map S).map V.str).length : Nat) = k := by rw [List.length_map, List.length_map, e]
theorem atD {L : List (List Nat)} {j : Nat} {x : List Nat} (e : L[j]? = some x) : atI ((L.map S).map V.str) ((j : Nat) : Int) = some (V.str (S x)) := atI_nat (by rw [List.getElem?_map, List.getElem?_map, e]; rfl)
theorem sum_none {l : List Nat} (h : l.all dg = false) : sumV l = .non := if_neg (fun x => by rw [x.2] at h; cases h)
theorem sum_some {l : List Nat} (n : l ≠ []) (h : l.all dg = true) : sumV l = .int ((val l : Nat) : Int) := if_pos ⟨n, h⟩
theorem all_of {l : List Nat} : l.all dg = true ↔ NumText.AllDigits l := by
  rw [List.all_eq_true]
  constructor
  · exact fun g c hc => dg_iff.mp (g c hc)
  · exact fun g c hc => dg_iff.mpr (g c hc)
theorem zero_len : (Str.ofString "0").length = 1 := by decide +kernel
theorem tl_0 : tl (Str.ofString "0") = [48] := by decide +kernel
theorem tl_0000 : tl (Str.ofString "0000") = zs 4 := by decide +kernel
theorem first_sign {z : Str} {c : Nat} {r : List Nat} (e : tl z = c :: r) : atI z.cps.toList 0 = some c ∧ (decide (V.str ⟨#[c]⟩ = V.str (Str.ofString "-")) = decide (List.take 1 (tl z) = [45])) := by
  refine ⟨atI_nat (j := 0) (by show (tl z)[0]? = some c; rw [e]; rfl), ?_⟩
  have e2 : tl (⟨#[c]⟩ : Str) = [c] := rfl
  rw [e]
  show decide (V.str ⟨#[c]⟩ = V.str (Str.ofString "-")) = decide ([c] = [45])
  by_cases h : c = 45
  · subst h
    rw [decide_eq_true (rfl : [45] = [45])]
    exact decide_eq_true rfl
  · rw [decide_eq_false (show ¬ [c] = [45] by simpa using h)]
    exact decide_eq_false (str_ne (by rw [e2, show tl (Str.ofString "-") = [45] by decide +kernel]; simpa using h))
section
variable {P : Program} {w : World} {K : PySem.W.Frag} {mg : Str → Option Value} {base : Heap}
abbrev nDu : List Str := ["_law_signs_here", "_law_many", "_law_body", "_law_parts", "_law_behind", "_law_found"]
theorem scDu : FnScope nDu ["_law_signs_here", "_law_many"] (defScope sDue) := ⟨rfl, rfl, rfl, by decide +kernel, rfl, by decide +kernel, by decide +kernel⟩
def spDue : Sp := fun vs H Q _ => ∃ (z : Str) (m : Nat), vs = [.str z, .int (m : Int)] ∧ z.length ≤ 500 ∧ m ≤ 4 ∧ ∀ H', Same H H' → Q (ov (due m (tl z))) H'
theorem ok_due {f fS : Addr} {fd fdS : FuncData} (F : Fun K "_law_due" "_law_due" sDue f fd) (T : Txt mg) (FS : Fun K "_law_sum" "_law_sum" sSum fS fdS) (bS : Binds K fdS ["_law_signs_here"] []) (gS : mg "_law_sum" = some (.ref fS)) :
    FnOk P w K mg base CX0 2 f fd ["_law_signs_here", "_law_many"] spDue := by
  have GS : FnOk P w K mg base CX0 1 fS fdS ["_law_signs_here"] spSum := ok_sum FS
  refine F.ok scDu (fun vs H Q E h => ?_) (fun cdv A outer s H vs Q E hr h => ?_)
  · obtain ⟨z, m, rfl, _⟩ := h
    rfl
  · obtain ⟨z, m, rfl, zl, ml, q⟩ := h
    have line : z.length ≤ sizeLine := Nat.le_trans zl (by decide)
    refine ⟨_,pss_cons (ps_set (i := 2) scDu.nd rfl (Or.inl rfl) (pe_ifExp (pt_cmpR op_in_seq (pe_slice sl_str (pv 0) po_none (po_some pe_int)) (pe_tup (pa_cons pe_str (pa_cons pe_str pa_nil))) (by rfl)) (pe_slice sl_str (pv 0) (po_some pe_int) po_none) (pv 0)))
      (pss_cons (ps_set (i := 3) scDu.nd rfl (Or.inl rfl) (pe_split (pv 2) pe_str))
      (pss_cons (ps_if (PW.pt (pw_or (pt_cmpR op_gt (pe_callB call_len_seq (by rfl) T.len PySem.boot_len (pa_cons (pv 3) pa_nil)) pe_int (nomark _)) (pw_or (PW.pt (pw_and (pt_cmpR op_eq (pv 1) pe_int (nomark _)) (pw_and1 (pt_cmpR op_gt (pe_callB call_len_seq (by rfl) T.len PySem.boot_len (pa_cons (pv 3) pa_nil)) pe_int (nomark _))))) (pw_or1 (pt_not (pt_chain op_lt op_lt pe_int (pe_callB call_len_str (by rfl) T.len PySem.boot_len (pa_cons (pe_ix ix_list (pv 3) pe_int (fun _ _ => rfl)) pa_nil)) (pe_ifExp (pt_cmpR op_eq (pv 1) pe_int (nomark _)) pe_int pe_int))))))) (pss_one (ps_ret pe_non)) pss_nil)
      (pss_cons (ps_set (i := 4) scDu.nd rfl (Or.inl rfl) (pe_ix ix_list (pe_op op_cat (pv 3) (pe_lst (pa_cons pe_str pa_nil))) pe_int (fun _ _ => rfl)))
      (pss_cons (ps_if (PW.pt (pw_or (pt_not (pt_chain op_lt op_lt pe_int (pe_callB call_len_str (by rfl) T.len PySem.boot_len (pa_cons (pv 4) pa_nil)) (pe_ifExp (pt_cmpR op_eq (pv 1) pe_int (nomark _)) pe_int (pe_op op_add (pv 1) pe_int)))) (pw_or (pt_cmpR op_isN (pe_call GS hr (by rfl) gS FS.kp bS .nil pass0 (pa_cons (pe_ix ix_list (pv 3) pe_int (fun _ _ => rfl)) pa_nil)) pe_non (nomark _)) (pw_or1 (pt_cmpR op_isN (pe_call GS hr (by rfl) gS FS.kp bS .nil pass0 (pa_cons (pv 4) pa_nil)) pe_non (nomark _)))))) (pss_one (ps_ret pe_non)) pss_nil)
      (pss_cons (ps_set (i := 5) scDu.nd rfl (Or.inl rfl) (pe_call GS hr (by rfl) gS FS.kp bS .nil pass0 (pa_cons (pe_op op_add_str (pe_ix ix_list (pv 3) pe_int (fun _ _ => rfl)) (pe_slice sl_str (pe_op op_add_str (pv 4) pe_str) po_none (po_some (pv 1)))) pa_nil)))
      (pss_one (ps_ret (pe_ifExp (pt_cmpR op_eq (pe_ix ix_str (pv 0) pe_int (fun _ _ => rfl)) pe_str (nomark _)) (pe_op op_sub pe_int (pv 5)) (pv 5))))))))), ?_⟩
    refine cutA (fun v H' => v = .str (S (body (tl z))) ∧ Same H H') (fun Q' q' => ?_) ?_
    · refine ⟨_, rfl, _, rfl, z, rfl, line, (by show 2 ≤ sizeLine; decide), fun t ht => ⟨t, _, rfl, .inr (SqT.of upd_same), rfl, rfl, _, rfl, ?_⟩⟩
      show (if inV (.str (cutS z none (some 1))) [V.str (Str.ofString "-"), V.str (Str.ofString "+")] = true then _ else _)
      rw [in_sign z _ rfl]
      refine ite2 (fun c => ?_) (fun c => ?_)
      · have c' := of_decide_eq_true c
        refine ⟨_, rfl, _, rfl, z, rfl, line, ?_⟩
        refine q' _ _ ⟨?_, Same.new ht⟩
        have e : body (tl z) = (tl z).drop 1 := if_pos c'
        rw [e, ← tl_cut_from z 1, S_tl]
        rfl
      · have c' : ¬ (List.take 1 (tl z) = [43] ∨ List.take 1 (tl z) = [45]) := fun x => c (decide_eq_true x)
        refine ⟨_, rfl, ?_⟩
        refine q' _ _ ⟨?_, Same.new ht⟩
        have e : body (tl z) = tl z := if_neg c'
        rw [e, S_tl]
    · rintro v H1 ⟨rfl, s1⟩
      have bl : (body (tl z)).length ≤ 500 := by
        rw [len_tl] at zl
        unfold body
        split
        · rw [List.length_drop]; omega
        · exact zl
      refine ⟨_, rfl, ⟨_, rfl⟩, _, _, rfl, rfl, rfl, by rw [S_len]; exact Nat.le_trans (show _ ≤ 600 by omega) (by decide), fun p np => ?_⟩
      rw [split_dot, tl_S]
      have s2 : ∀ o : HO, Same H (upd H1 p o) := fun o => s1.trans (Same.new np)
      refine gN ?_
      dsimp only
      rcases two_ways (body (tl z)) with w | ⟨a, r, e, w⟩
      · -- no point
        have eL : spl [46] 0 [] (body (tl z)) = [body (tl z)] := spl_last1 w
        rw [eL]
        rw [due_plain w] at q
        generalize hb : body (tl z) = b at bl q w eL
        have one := lenD (L := [b]) (k := 1) rfl
        have at0 := atD (L := [b]) (j := 0) rfl
        have fr : upd H1 p (.lst (([b].map S).map V.str)) p = some (.lst (([b].map S).map V.str)) := upd_same
        have bline : (S b).length ≤ sizeLine := by rw [S_len]; exact Nat.le_trans bl (by decide)
        refine cutIf (!(decide (1 ≤ b.length) && decide (b.length ≤ cap m))) (fun Q' q' => ?_) ?_
        · refine ⟨_, rfl, p, _, rfl, .inl (SqL.of fr), _, _, rfl, rfl, _, rfl, ?_⟩
          rw [one, decide_eq_false (show ¬ (2 : Int) < ((1 : Nat) : Int) by decide)]
          refine iteF ?_
          refine ⟨_, rfl, rfl, _, rfl, ?_⟩
          rw [int_dec0 m]
          by_cases m0 : m = 0
          · rw [decide_eq_true m0]
            refine iteT ?_
            refine ⟨_, rfl, p, _, rfl, .inl (SqL.of fr), _, _, rfl, rfl, _, rfl, ?_⟩
            rw [one, decide_eq_false (show ¬ (1 : Int) < ((1 : Nat) : Int) by decide)]
            refine iteF ?_
            have capv : cap m = 9 := if_pos m0
            refine ⟨_, rfl, p, _, _, _, rfl, rfl, SqL.of fr, at0, _, rfl, bline, _, _, rfl, rfl, _, rfl, ?_⟩
            by_cases g1 : (0 : Int) < ((S b).length : Nat)
            · rw [decide_eq_true g1]
              refine iteT ?_
              rw [S_len] at g1
              refine ⟨_, rfl, rfl, _, rfl, ?_⟩
              rw [int_dec0 m]
              rw [decide_eq_true m0]
              refine iteT ?_
              refine ⟨_, _, rfl, rfl, _, rfl, ?_⟩
              have eb : decide ((((S b).length : Nat) : Int) < 10) = (decide (1 ≤ b.length) && decide (b.length ≤ cap m)) := by
                rw [S_len, capv, decide_eq_true (show 1 ≤ b.length by omega), Bool.true_and]
                exact decide_eq_decide.mpr (by omega)
              rw [eb]
              exact q'
            · rw [decide_eq_false g1]
              refine iteF ?_
              rw [S_len] at g1
              refine ⟨_, rfl, ?_⟩
              rw [decide_eq_false (show ¬ 1 ≤ b.length by omega)] at q'
              exact q'
          · rw [decide_eq_false m0]
            refine iteF ?_
            refine iteF ?_
            have capv : cap m = 8 := if_neg m0
            refine ⟨_, rfl, p, _, _, _, rfl, rfl, SqL.of fr, at0, _, rfl, bline, _, _, rfl, rfl, _, rfl, ?_⟩
            by_cases g1 : (0 : Int) < ((S b).length : Nat)
            · rw [decide_eq_true g1]
              refine iteT ?_
              rw [S_len] at g1
              refine ⟨_, rfl, rfl, _, rfl, ?_⟩
              rw [int_dec0 m]
              rw [decide_eq_false m0]
              refine iteF ?_
              refine ⟨_, _, rfl, rfl, _, rfl, ?_⟩
              have eb : decide ((((S b).length : Nat) : Int) < 9) = (decide (1 ≤ b.length) && decide (b.length ≤ cap m)) := by
                rw [S_len, capv, decide_eq_true (show 1 ≤ b.length by omega), Bool.true_and]
                exact decide_eq_decide.mpr (by omega)
              rw [eb]
              exact q'
            · rw [decide_eq_false g1]
              refine iteF ?_
              rw [S_len] at g1
              refine ⟨_, rfl, ?_⟩
              rw [decide_eq_false (show ¬ 1 ≤ b.length by omega)] at q'
              exact q'
        · cases hok : (decide (1 ≤ b.length) && decide (b.length ≤ cap m)) with
          | false =>
            refine iteT ?_
            have nf : ¬ figs (cap m) b = true := by
              unfold figs
              rw [hok]
              simp
            rw [if_neg nf] at q
            exact q _ (s2 _)
          | true =>
            refine iteF ?_
            rw [Bool.and_eq_true, decide_eq_true_eq, decide_eq_true_eq] at hok
            have bn : b ≠ [] := by
              intro x
              rw [x] at hok
              simp at hok
            refine ⟨_, rfl, (by show 1 ≤ sizeLine; decide), fun l2 h2 => ?_⟩
            have fr2 : upd (upd H1 p (.lst (([b].map S).map V.str))) l2 (.lst [.str (Str.ofString "0")]) p = some (.lst (([b].map S).map V.str)) := by
              rw [upd_ne (ne_of_none fr h2)]
              exact fr
            refine ⟨p, l2, _, _, rfl, rfl, fr2, upd_same, (by show 2 ≤ sizeLine; decide), fun p3 h3 => ?_⟩
            refine ⟨p3, _, _, _, rfl, rfl, SqL.of upd_same, atI_nat (j := 1) rfl, ?_⟩
            have fr3 : ∀ o : HO, upd (upd (upd H1 p (.lst (([b].map S).map V.str))) l2 (.lst [.str (Str.ofString "0")])) p3 o p = some (.lst (([b].map S).map V.str)) := fun o => by
              rw [upd_ne (ne_of_none fr2 h3)]
              exact fr2
            have s3 : ∀ o : HO, Same H (upd (upd (upd H1 p (.lst (([b].map S).map V.str))) l2 (.lst [.str (Str.ofString "0")])) p3 o) := fun o => ((s2 _).trans (Same.new h2)).trans (Same.new h3)
            refine gN ?_
            dsimp only
            refine cutIf (!(b.all dg)) (fun Q' q' => ?_) ?_
            · refine ⟨_, rfl, _, rfl, by decide, _, _, rfl, rfl, _, rfl, ?_⟩
              refine iteT ?_
              refine ⟨_, rfl, rfl, _, rfl, ?_⟩
              rw [int_dec0 m]
              have blen : (S b).length ≤ 1000 := by rw [S_len]; omega
              by_cases m0 : m = 0
              · rw [decide_eq_true m0]
                refine iteT ?_
                refine ⟨_, _, rfl, rfl, _, rfl, ?_⟩
                rw [show decide (((Str.ofString "0").length : Nat) < (2 : Int)) = true by decide +kernel]
                refine iteF ?_
                refine ⟨_, rfl, p, _, _, _, rfl, rfl, SqL.of (fr3 _), at0, S b, rfl, blen, rfl, _, rfl, ?_⟩
                rw [tl_S]
                cases ha : b.all dg with
                | false =>
                  rw [sum_none ha]
                  refine iteT ?_
                  rw [ha] at q'
                  exact q'
                | true =>
                  rw [sum_some bn ha]
                  refine iteF ?_
                  rw [ha] at q'
                  exact ⟨_, rfl, Str.ofString "0", rfl, by decide +kernel, rfl, _, rfl, q'⟩
              · rw [decide_eq_false m0]
                refine iteF ?_
                refine ⟨_, rfl, _, _, rfl, rfl, _, _, rfl, rfl, _, rfl, ?_⟩
                rw [show decide (((Str.ofString "0").length : Nat) < ((m : Int) + 1)) = true from decide_eq_true (by rw [zero_len]; omega)]
                refine iteF ?_
                refine ⟨_, rfl, p, _, _, _, rfl, rfl, SqL.of (fr3 _), at0, S b, rfl, blen, rfl, _, rfl, ?_⟩
                rw [tl_S]
                cases ha : b.all dg with
                | false =>
                  rw [sum_none ha]
                  refine iteT ?_
                  rw [ha] at q'
                  exact q'
                | true =>
                  rw [sum_some bn ha]
                  refine iteF ?_
                  rw [ha] at q'
                  exact ⟨_, rfl, Str.ofString "0", rfl, by decide +kernel, rfl, _, rfl, q'⟩
            · cases ha : b.all dg with
              | false =>
                refine iteT ?_
                have nf : ¬ figs (cap m) b = true := by
                  unfold figs
                  rw [ha]
                  simp
                rw [if_neg nf] at q
                exact q _ (s3 _)
              | true =>
                refine iteF ?_
                have yf : figs (cap m) b = true := figs_iff.mpr ⟨hok, all_of.mp ha⟩
                rw [if_pos yf] at q
                have b5 : ((Str.ofString "0") ++ (Str.ofString "0000")).length = 5 := by decide +kernel
                have cz : tl (cutS ((Str.ofString "0") ++ (Str.ofString "0000")) none (some (m : Int))) = zs m := by
                  rw [tl_cut_to, tl_append, tl_0, tl_0000]
                  have key : ∀ m, m ≤ 4 → ([48] ++ zs 4).take m = zs m := by decide
                  exact key m ml
                have tx : tl (S b ++ cutS ((Str.ofString "0") ++ (Str.ofString "0000")) none (some (m : Int))) = b ++ zs m := by rw [tl_append, tl_S, cz]
                have lz : (cutS ((Str.ofString "0") ++ (Str.ofString "0000")) none (some (m : Int))).length = m := by rw [len_tl, cz, zs_len]
                have lx : (S b ++ cutS ((Str.ofString "0") ++ (Str.ofString "0000")) none (some (m : Int))).length = b.length + m := by rw [len_tl, tx, List.length_append, zs_len]
                refine ⟨_, rfl, p, _, _, _, rfl, rfl, SqL.of (fr3 _), at0, _, rfl, _, _, rfl, rfl, by decide +kernel, _, rfl, _, rfl, _, rfl, by rw [b5]; decide, _, _, rfl, rfl, ?_, _, rfl, ?_, ?_⟩
                · rw [S_len, lz]
                  exact Nat.le_trans (show _ ≤ 600 by omega) (by decide)
                · rw [lx]
                  omega
                · rw [tx, sum_some (by simp [bn]) (all_of.mpr (digits_app (all_of.mp ha) (zs_digits m)))]
                  cases ez : tl z with
                  | nil =>
                    rw [ez] at hb
                    exact absurd hb.symm bn
                  | cons c r =>
                    obtain ⟨f1, f2⟩ := first_sign ez
                    refine ⟨_, rfl, z, _, c, rfl, rfl, line, f1, rfl, _, rfl, ?_⟩
                    rw [f2]
                    unfold sgn at q
                    refine ite2 (fun c => ?_) (fun c => ?_)
                    · rw [if_pos (of_decide_eq_true c)] at q
                      refine ⟨_, rfl, _, _, rfl, rfl, ?_⟩
                      show Q (V.int (0 - _)) _
                      rw [Int.zero_sub]
                      exact q _ (s3 _)
                    · rw [if_neg (fun x => c (decide_eq_true x))] at q
                      exact ⟨_, rfl, q _ (s3 _)⟩
      · -- points
        rw [due_dot e w] at q
        have al : a.length + r.length + 1 ≤ 500 := by
          rw [e, List.length_append, List.length_cons] at bl
          omega
        have eL : spl [46] 0 [] (body (tl z)) = a :: spl [46] 0 [] r := by
          rw [e]
          exact spl_part1 (S := []) (acc := []) (rest := r) w
        rw [eL]
        rcases two_ways r with w2 | ⟨a2, r2, e2, w2⟩
        · rw [spl_last1 (S := []) (acc := []) w2, List.nil_append]
          have two := lenD (L := [a, r]) (k := 2) rfl
          have at0 := atD (L := [a, r]) (j := 0) rfl
          have fr : upd H1 p (.lst (([a, r].map S).map V.str)) p = some (.lst (([a, r].map S).map V.str)) := upd_same
          have aline : (S a).length ≤ sizeLine := by rw [S_len]; exact Nat.le_trans (show _ ≤ 500 by omega) (by decide)
          refine cutIf (decide (m = 0) || !(decide (1 ≤ a.length) && decide (a.length ≤ cap m))) (fun Q' q' => ?_) ?_
          · refine ⟨_, rfl, p, _, rfl, .inl (SqL.of fr), _, _, rfl, rfl, _, rfl, ?_⟩
            rw [two, decide_eq_false (show ¬ (2 : Int) < ((2 : Nat) : Int) by decide)]
            refine iteF ?_
            refine ⟨_, rfl, rfl, _, rfl, ?_⟩
            rw [int_dec0 m]
            by_cases m0 : m = 0
            · rw [decide_eq_true m0]
              refine iteT ?_
              refine ⟨_, rfl, p, _, rfl, .inl (SqL.of fr), _, _, rfl, rfl, _, rfl, ?_⟩
              rw [two, decide_eq_true (show (1 : Int) < ((2 : Nat) : Int) by decide)]
              refine iteT ?_
              rw [decide_eq_true m0] at q'
              exact q'
            · rw [decide_eq_false m0]
              refine iteF ?_
              refine iteF ?_
              rw [decide_eq_false m0, Bool.false_or] at q'
              have capv : cap m = 8 := if_neg m0
              refine ⟨_, rfl, p, _, _, _, rfl, rfl, SqL.of fr, at0, _, rfl, aline, _, _, rfl, rfl, _, rfl, ?_⟩
              by_cases g1 : (0 : Int) < ((S a).length : Nat)
              · rw [decide_eq_true g1]
                refine iteT ?_
                rw [S_len] at g1
                refine ⟨_, rfl, rfl, _, rfl, ?_⟩
                rw [int_dec0 m]
                rw [decide_eq_false m0]
                refine iteF ?_
                refine ⟨_, _, rfl, rfl, _, rfl, ?_⟩
                have eb : decide ((((S a).length : Nat) : Int) < 9) = (decide (1 ≤ a.length) && decide (a.length ≤ cap m)) := by
                  rw [S_len, capv, decide_eq_true (show 1 ≤ a.length by omega), Bool.true_and]
                  exact decide_eq_decide.mpr (by omega)
                rw [eb]
                exact q'
              · rw [decide_eq_false g1]
                refine iteF ?_
                rw [S_len] at g1
                refine ⟨_, rfl, ?_⟩
                rw [decide_eq_false (show ¬ 1 ≤ a.length by omega)] at q'
                exact q'
          · by_cases m0 : m = 0
            · rw [decide_eq_true m0]
              refine iteT ?_
              have nf : ¬ (figs (cap m) a = true ∧ figs m r = true) := by
                rintro ⟨_, g⟩
                have := (figs_iff.mp g).1
                omega
              rw [if_neg nf] at q
              exact q _ (s2 _)
            · rw [decide_eq_false m0, Bool.false_or]
              cases hok : (decide (1 ≤ a.length) && decide (a.length ≤ cap m)) with
              | false =>
                refine iteT ?_
                have nf : ¬ (figs (cap m) a = true ∧ figs m r = true) := by
                  unfold figs
                  rw [hok]
                  simp
                rw [if_neg nf] at q
                exact q _ (s2 _)
              | true =>
                refine iteF ?_
                rw [Bool.and_eq_true, decide_eq_true_eq, decide_eq_true_eq] at hok
                have an : a ≠ [] := by
                  intro x
                  rw [x] at hok
                  simp at hok
                refine ⟨_, rfl, (by show 1 ≤ sizeLine; decide), fun l2 h2 => ?_⟩
                have fr2 : upd (upd H1 p (.lst (([a, r].map S).map V.str))) l2 (.lst [.str (Str.ofString "0")]) p = some (.lst (([a, r].map S).map V.str)) := by
                  rw [upd_ne (ne_of_none fr h2)]
                  exact fr
                refine ⟨p, l2, _, _, rfl, rfl, fr2, upd_same, (by show 3 ≤ sizeLine; decide), fun p3 h3 => ?_⟩
                refine ⟨p3, _, _, _, rfl, rfl, SqL.of upd_same, atI_nat (j := 1) rfl, ?_⟩
                have fr3 : ∀ o : HO, upd (upd (upd H1 p (.lst (([a, r].map S).map V.str))) l2 (.lst [.str (Str.ofString "0")])) p3 o p = some (.lst (([a, r].map S).map V.str)) := fun o => by
                  rw [upd_ne (ne_of_none fr2 h3)]
                  exact fr2
                have s3 : ∀ o : HO, Same H (upd (upd (upd H1 p (.lst (([a, r].map S).map V.str))) l2 (.lst [.str (Str.ofString "0")])) p3 o) := fun o => ((s2 _).trans (Same.new h2)).trans (Same.new h3)
                refine gN ?_
                dsimp only
                have rline : (S r).length ≤ sizeLine := by rw [S_len]; exact Nat.le_trans (show _ ≤ 500 by omega) (by decide)
                have alen : (S a).length ≤ 1000 := by rw [S_len]; omega
                have rlen : (S r).length ≤ 1000 := by rw [S_len]; omega
                refine cutIf (!((decide (1 ≤ r.length) && decide (r.length ≤ m)) && (a.all dg && r.all dg))) (fun Q' q' => ?_) ?_
                · refine ⟨_, rfl, _, rfl, rline, _, _, rfl, rfl, _, rfl, ?_⟩
                  rw [S_len]
                  by_cases g1 : (0 : Int) < ((r.length : Nat) : Int)
                  · rw [decide_eq_true g1]
                    refine iteT ?_
                    refine ⟨_, rfl, rfl, _, rfl, ?_⟩
                    rw [int_dec0 m, decide_eq_false m0]
                    refine iteF ?_
                    refine ⟨_, rfl, _, _, rfl, rfl, _, _, rfl, rfl, _, rfl, ?_⟩
                    by_cases g2 : ((r.length : Nat) : Int) < ((m : Int) + 1)
                    · rw [decide_eq_true g2]
                      refine iteF ?_
                      have g3 : (decide (1 ≤ r.length) && decide (r.length ≤ m)) = true := by
                        rw [decide_eq_true (show 1 ≤ r.length by omega), decide_eq_true (show r.length ≤ m by omega)]
                        rfl
                      rw [g3, Bool.true_and] at q'
                      refine ⟨_, rfl, p, _, _, _, rfl, rfl, SqL.of (fr3 _), at0, S a, rfl, alen, rfl, _, rfl, ?_⟩
                      rw [tl_S]
                      cases ha : a.all dg with
                      | false =>
                        rw [sum_none ha]
                        refine iteT ?_
                        rw [ha] at q'
                        exact q'
                      | true =>
                        rw [sum_some an ha]
                        refine iteF ?_
                        rw [ha, Bool.true_and] at q'
                        refine ⟨_, rfl, S r, rfl, rlen, rfl, _, rfl, ?_⟩
                        rw [tl_S]
                        have rn : r ≠ [] := by
                          intro x
                          rw [x] at g1
                          simp at g1
                        cases hr2 : r.all dg with
                        | false =>
                          rw [sum_none hr2]
                          rw [hr2] at q'
                          exact q'
                        | true =>
                          rw [sum_some rn hr2]
                          rw [hr2] at q'
                          exact q'
                    · rw [decide_eq_false g2]
                      refine iteT ?_
                      rw [decide_eq_false (show ¬ r.length ≤ m by omega), Bool.and_false, Bool.false_and] at q'
                      exact q'
                  · rw [decide_eq_false g1]
                    refine iteF ?_
                    refine ⟨_, rfl, ?_⟩
                    refine iteT ?_
                    rw [decide_eq_false (show ¬ 1 ≤ r.length by omega), Bool.false_and, Bool.false_and] at q'
                    exact q'
                · cases hall : ((decide (1 ≤ r.length) && decide (r.length ≤ m)) && (a.all dg && r.all dg)) with
                  | false =>
                    refine iteT ?_
                    have nf : ¬ (figs (cap m) a = true ∧ figs m r = true) := by
                      rintro ⟨g, g'⟩
                      have h1 := all_of.mpr (figs_iff.mp g).2
                      have h2 := all_of.mpr (figs_iff.mp g').2
                      have h3 := (figs_iff.mp g').1
                      rw [h1, h2, decide_eq_true h3.1, decide_eq_true h3.2] at hall
                      cases hall
                    rw [if_neg nf] at q
                    exact q _ (s3 _)
                  | true =>
                    refine iteF ?_
                    rw [Bool.and_eq_true, Bool.and_eq_true, Bool.and_eq_true, decide_eq_true_eq, decide_eq_true_eq] at hall
                    obtain ⟨⟨r1, rm⟩, ha, hr2⟩ := hall
                    have yf : figs (cap m) a = true ∧ figs m r = true := ⟨figs_iff.mpr ⟨hok, all_of.mp ha⟩, figs_iff.mpr ⟨⟨r1, rm⟩, all_of.mp hr2⟩⟩
                    rw [if_pos yf] at q
                    have b5 : ((S r) ++ (Str.ofString "0000")).length = r.length + 4 := by
                      rw [len_tl, tl_append, tl_0000, tl_S, List.length_append, zs_len]
                    have cz : tl (cutS ((S r) ++ (Str.ofString "0000")) none (some (m : Int))) = r ++ zs (m - r.length) := by
                      rw [tl_cut_to, tl_append, tl_S, tl_0000, List.take_append, List.take_of_length_le rm]
                      unfold zs
                      rw [List.take_replicate, Nat.min_eq_left (by omega)]
                    have tx : tl (S a ++ cutS ((S r) ++ (Str.ofString "0000")) none (some (m : Int))) = a ++ (r ++ zs (m - r.length)) := by rw [tl_append, tl_S, cz]
                    have lz : (cutS ((S r) ++ (Str.ofString "0000")) none (some (m : Int))).length = m := by rw [len_tl, cz, List.length_append, zs_len]; omega
                    have lx : (S a ++ cutS ((S r) ++ (Str.ofString "0000")) none (some (m : Int))).length = a.length + m := by rw [len_tl, tx, List.length_append, List.length_append, zs_len]; omega
                    refine ⟨_, rfl, p, _, _, _, rfl, rfl, SqL.of (fr3 _), at0, _, rfl, _, _, rfl, rfl, ?_, _, rfl, _, rfl, _, rfl, ?_, _, _, rfl, rfl, ?_, _, rfl, ?_, ?_⟩
                    · rw [S_len]
                      exact Nat.le_trans (show r.length + 4 ≤ 600 by omega) (by decide)
                    · rw [b5]
                      exact Nat.le_trans (show r.length + 4 ≤ 600 by omega) (by decide)
                    · rw [S_len, lz]
                      exact Nat.le_trans (show _ ≤ 600 by omega) (by decide)
                    · rw [lx]
                      omega
                    · rw [tx, sum_some (by simp [an]) (all_of.mpr (digits_app (all_of.mp ha) (digits_app (all_of.mp hr2) (zs_digits _))))]
                      cases ez : tl z with
                      | nil =>
                        rw [ez] at e
                        have := congrArg List.length e
                        rw [List.length_append, List.length_cons] at this
                        have z0 : (body ([] : List Nat)).length = 0 := by decide
                        omega
                      | cons c r =>
                        obtain ⟨f1, f2⟩ := first_sign ez
                        refine ⟨_, rfl, z, _, c, rfl, rfl, line, f1, rfl, _, rfl, ?_⟩
                        rw [f2]
                        unfold sgn at q
                        refine ite2 (fun c => ?_) (fun c => ?_)
                        · rw [if_pos (of_decide_eq_true c)] at q
                          refine ⟨_, rfl, _, _, rfl, rfl, ?_⟩
                          show Q (V.int (0 - _)) _
                          rw [Int.zero_sub]
                          exact q _ (s3 _)
                        · rw [if_neg (fun x => c (decide_eq_true x))] at q
                          exact ⟨_, rfl, q _ (s3 _)⟩
        · have eL2 : spl [46] 0 [] r = a2 :: spl [46] 0 [] r2 := by
            rw [e2]
            exact spl_part1 (S := []) (acc := []) (rest := r2) w2
          obtain ⟨y, ys, ey⟩ : ∃ y ys, spl [46] 0 [] r2 = y :: ys := by
            rcases two_ways r2 with w3 | ⟨a3, r3, e3, w3⟩
            · exact ⟨_, _, spl_last1 w3⟩
            · exact ⟨a3, spl [46] 0 [] r3, by rw [e3]; exact spl_part1 (S := []) (acc := []) (rest := r3) w3⟩
          rw [eL2, ey]
          have fr : upd H1 p (.lst (((a :: a2 :: y :: ys).map S).map V.str)) p = some (.lst (((a :: a2 :: y :: ys).map S).map V.str)) := upd_same
          have many := lenD (L := a :: a2 :: y :: ys) (k := ys.length + 3) rfl
          refine cutIf true (fun Q' q' => ?_) ?_
          · refine ⟨_, rfl, p, _, rfl, .inl (SqL.of fr), _, _, rfl, rfl, _, rfl, ?_⟩
            rw [many, decide_eq_true (show (2 : Int) < ((ys.length + 3 : Nat) : Int) by omega)]
            exact iteT q'
          · refine iteT ?_
            have nf : ¬ (figs (cap m) a = true ∧ figs m r = true) := by
              rintro ⟨_, g⟩
              have d := (figs_iff.mp g).2 46 (by rw [e2]; simp)
              omega
            rw [if_neg nf] at q
            exact q _ (s2 _)
end
end K02
set_option Elab.async false
set_option linter.all false
set_option maxRecDepth 100000
set_option maxHeartbeats 8000000
namespace K02
open PySem PySem.Spec PyProof.Rows L2 Bs TL
abbrev sLaw : Stmt := top 32
theorem But.same {h : Addr} {H H1 H2 : Hp} (b : But h H1 H2) (s : Same H H1) (n : H h = none) : Same H H2 := fun c o e => b c o (ne_of_none e n) (s c o e)
/-- what is due, as data -/
def dd : Option Int → PyData
  | none => .none
  | some i => .int i
theorem dp_dd {K : PySem.W.Frag} {H : Hp} : ∀ x : Option Int, Dp K H (ov x) (dd x)
  | none => .non
  | some i => .int i
theorem dd_len {x : Option Int} (h : ∀ i, x = some i → i.natAbs < 10 ^ 20) : (dd x).shown.length ≤ 1000 := by
  cases x with
  | none =>
    have e : (dd none).shown = Str.ofString "None" := by simp only [dd, PyData.shown]
    rw [e]
    decide +kernel
  | some i =>
    have e : (dd (some i)).shown = Str.ofString (toString i) := by simp only [dd, PyData.shown]
    rw [e, len_tl, tl_toString, List.length_append]
    have := numL_len (n := i.natAbs) (k := 20) (by decide) (h i rfl)
    split <;> simp <;> omega
theorem dd_show {x : Option Int} (h : ∀ i, x = some i → i.natAbs < 10 ^ 20) : (PyData.list [dd x, dd x]).showable = true := by
  cases x with
  | none => simp [dd, PyData.showable, PyData.showableAll]
  | some i =>
    have := log_small (h i rfl)
    simp [dd, PyData.showable, PyData.showableAll, this]
theorem dd_dict (x : Option Int) : (PyData.list [dd x, dd x]).hasDict = false := by cases x <;> simp [dd, PyData.hasDict, PyData.hasDictAll]
theorem dd_depth (x : Option Int) : (PyData.list [dd x, dd x]).depth < 60 := by cases x <;> simp [dd, PyData.depth, PyData.depthAll]
theorem due_b {m : Nat} {l : List Nat} (h : m ≤ 4) : ∀ i, due m l = some i → i.natAbs < 10 ^ 20 := fun i e => by
  have q := due_small e
  have c : cap m + m ≤ 20 := by unfold cap; split <;> omega
  exact Nat.lt_of_lt_of_le q (Nat.pow_le_pow_right (by decide) c)
theorem shown_ok (m : Nat) (n : Int) : PyData.strOk (S (shownL m n)) = true := by
  have key : ∀ c ∈ shownL m n, c < 1114112 := by
    intro c hc
    have dg := fun k => padL_digits k n.natAbs
    unfold shownL at hc
    rcases List.mem_append.mp hc with q | q
    · split at q
      · simp at q; omega
      · simp at q
    · split at q
      · have := dg 1 c q; omega
      · rcases List.mem_append.mp q with q | q
        · have := dg (m + 1) c (List.mem_of_mem_take q); omega
        · rcases List.mem_cons.mp q with q | q
          · omega
          · have := dg (m + 1) c (List.mem_of_mem_drop q); omega
  unfold PyData.strOk
  show (shownL m n).toArray.all (· < 1114112) = true
  simp only [List.all_toArray, List.all_eq_true, decide_eq_true_eq]
  exact key
structure Txt3 (mg : Str → Option Value) : Prop where
  t1 : Txt mg
  t2 : Txt2 mg
  mx : mg "max" = none
  mn : mg "min" = none
  rp : mg "repr" = none
section
variable {P : Program} {w : World} {K : PySem.W.Frag} {mg : Str → Option Value} {base : Heap}
abbrev nL : List Str := ["_law_script", "_law_k", "_law_hand_here", "_law_turn", "_law_signs_here", "_law_many", "_law_kind", "_law_due_here", "_law_shown_here"]
theorem scLaw : FnScope nL ["_law_script"] (defScope sLaw) := ⟨rfl, rfl, rfl, by decide +kernel, rfl, by decide +kernel, by decide +kernel⟩
def spLaw (K : PySem.W.Frag) : Sp := fun vs H Q _ => ∃ (a : Addr) (ns : List Int), vs = [.ref a] ∧ SqL K H a (ns.map V.int) ∧ ns.length ≤ 63 ∧ ∀ H', Q (.bl true) H'
/-- the defs as they stand -/
structure Defs (K : PySem.W.Frag) (mg : Str → Option Value) (fH fS fD fR fW fSh : Addr) (dH dS dD dR dW dSh : FuncData) : Prop where
  FH : Fun K "_law_hand" "_law_hand" sHand fH dH
  bH : Binds K dH ["_law_script", "_law_k"] []
  gH : mg "_law_hand" = some (.ref fH)
  FS : Fun K "_law_signs" "_law_signs" sSigns fS dS
  bS : Binds K dS ["_law_hand_here"] []
  gS : mg "_law_signs" = some (.ref fS)
  FD : Fun K "_law_due" "_law_due" sDue fD dD
  bD : Binds K dD ["_law_signs_here", "_law_many"] []
  gD : mg "_law_due" = some (.ref fD)
  FR : Fun K "read_as" "read_as" sReadAs fR dR
  bR : Binds K dR ["form", "text"] []
  kR : KBinds K dR ["form", "text"] ["text", "form"] swp swp
  gR : mg "read_as" = some (.ref fR)
  FW : Fun K "written" "written" sWritten fW dW
  bW : Binds K dW ["form", "number"] []
  kW : KBinds K dW ["form", "number"] ["number", "form"] swp swp
  gW : mg "written" = some (.ref fW)
  FSh : Fun K "_law_shown" "_law_shown" sShown fSh dSh
  bSh : Binds K dSh ["_law_found", "_law_many"] []
  gSh : mg "_law_shown" = some (.ref fSh)
theorem ok_law {f fH fS fD fR fW fSh : Addr} {fd dH dS dD dR dW dSh : FuncData} (F : Fun K "law" "law" sLaw f fd) (T : Txt3 mg) (D : Defs K mg fH fS fD fR fW fSh dH dS dD dR dW dSh)
    (GS : FnOk P w K mg base CX0 4 fS dS ["_law_hand_here"] spSigns) (GD : FnOk P w K mg base CX0 2 fD dD ["_law_signs_here", "_law_many"] spDue) (GR : FnOk P w K mg base CX0 3 fR dR ["form", "text"] (spReadAs K)) (GW : FnOk P w K mg base CX0 2 fW dW ["form", "number"] (spWritten K)) :
    FG P w K mg base 5 f fd ["_law_script"] (spLaw K) := by
  have GH : FnOk P w K mg base CX0 1 fH dH ["_law_script", "_law_k"] (spHand K) := ok_hand D.FH T.t1
  have GSh : FnOk P w K mg base CX0 1 fSh dSh ["_law_found", "_law_many"] spShown := ok_shown D.FSh T.t1
  refine okG F scLaw (fun vs H Q E h => ?_) (fun cdv A outer s H vs Q E ng hr h => ?_)
  · obtain ⟨a, ns, rfl, _⟩ := h
    rfl
  · obtain ⟨a, ns, rfl, hS, hl, q⟩ := h
    have hr1 : Room 1 _ := hr.mono (by decide)
    have hr2 : Room 2 _ := hr.mono (by decide)
    have hr3 : Room 3 _ := hr.mono (by decide)
    refine ⟨_,pss_cons (ps_for PassesOwn.never rfl (pi_range1 rfl T.t1.range (pa_cons (pe_callB (call_max2 rfl) (by rfl) T.mx (by decide +kernel) (pa_cons pe_int (pa_cons (pe_callB (call_min2 rfl) (by rfl) T.mn (by decide +kernel) (pa_cons pe_int (pa_cons (pe_callB call_len_seq (by rfl) T.t1.len PySem.boot_len (pa_cons (pv 0) pa_nil)) pa_nil))) pa_nil))) pa_nil)) (pg_name (i := 1) scLaw.nd rfl (Or.inl rfl)) (pss_cons (ps_set (i := 2) scLaw.nd rfl (Or.inl rfl) (pe_call GH hr1 (by rfl) D.gH D.FH.kp D.bH .nil pass0 (pa_cons (pv 0) (pa_cons (pv 1) pa_nil))))
      (pss_one (ps_for PassesOwn.never rfl (pi_range1 rfl T.t1.range (pa_cons pe_int pa_nil)) (pg_name (i := 3) scLaw.nd rfl (Or.inl rfl)) (pss_cons (ps_set (i := 4) scLaw.nd rfl (Or.inl rfl) (pe_call GS hr (by rfl) D.gS D.FS.kp D.bS .nil pass0 (pa_cons (pv 2) pa_nil)))
      (pss_one (ps_for PassesOwn.never rfl (pi_range1 rfl T.t1.range (pa_cons pe_int pa_nil)) (pg_name (i := 5) scLaw.nd rfl (Or.inl rfl)) (pss_cons (ps_set (i := 6) scLaw.nd rfl (Or.inl rfl) (pe_ifExp (pt_cmpR op_eq (pv 5) pe_int (nomark _)) (pe_tup (pa_cons pe_str pa_nil)) (pe_tup (pa_cons pe_str (pa_cons (pv 5) pa_nil)))))
      (pss_cons (ps_set (i := 7) scLaw.nd rfl (Or.inl rfl) (pe_call GD hr2 (by rfl) D.gD D.FD.kp D.bD .nil pass0 (pa_cons (pv 4) (pa_cons (pv 5) pa_nil))))
      (pss_cons (ps_if (pt_cmpR op_ne (pe_callB (call_repr ng hr.units) (by rfl) T.rp (by decide +kernel) (pa_cons (pe_lst (pa_cons (pe_call GR hr3 (by rfl) D.gR D.FR.kp D.bR .nil pass0 (pa_cons (pv 6) (pa_cons (pv 4) pa_nil))) (pa_cons (callK0 GR hr3 (by rfl) D.gR D.FR.kp D.kR pass0 (pk_cons (pv 4) (pk_cons (pv 6) pk_nil))) pa_nil))) pa_nil)) (pe_callB (call_repr ng hr.units) (by rfl) T.rp (by decide +kernel) (pa_cons (pe_lst (pa_cons (pv 7) (pa_cons (pv 7) pa_nil))) pa_nil)) (nomark _)) (pss_one (ps_ret pe_bl)) pss_nil)
      (pss_one (ps_if (pt_cmpR op_notN (pv 7) pe_non (nomark _)) (pss_cons (ps_set (i := 8) scLaw.nd rfl (Or.inl rfl) (pe_call GSh hr1 (by rfl) D.gSh D.FSh.kp D.bSh .nil pass0 (pa_cons (pv 7) (pa_cons (pv 5) pa_nil))))
      (pss_cons (ps_if (pt_cmpR (op_neD hr.units) (pe_lst (pa_cons (pe_call GW hr2 (by rfl) D.gW D.FW.kp D.bW .nil pass0 (pa_cons (pv 6) (pa_cons (pv 7) pa_nil))) (pa_cons (callK0 GW hr2 (by rfl) D.gW D.FW.kp D.kW pass0 (pk_cons (pv 7) (pk_cons (pv 6) pk_nil))) pa_nil))) (pe_lst (pa_cons (pv 8) (pa_cons (pv 8) pa_nil))) (nomark _)) (pss_one (ps_ret pe_bl)) pss_nil)
      (pss_one (ps_if (pt_cmpR op_ne (pe_callB SkE.call_repr_int (by rfl) T.rp (by decide +kernel) (pa_cons (pe_call GR hr3 (by rfl) D.gR D.FR.kp D.bR .nil pass0 (pa_cons (pv 6) (pa_cons (pv 8) pa_nil))) pa_nil)) (pe_callB SkE.call_repr_int (by rfl) T.rp (by decide +kernel) (pa_cons (pv 7) pa_nil)) (nomark _)) (pss_one (ps_ret pe_bl)) pss_nil)))) pss_nil))))))))))))
      (pss_one (ps_ret pe_bl)), ?_⟩
    have lenN : (ns.map V.int).length ≤ 63 := by rw [List.length_map]; exact hl
    refine ⟨_, rfl, a, _, rfl, .inl hS, _, _, rfl, _, _, rfl, _, rfl, ?_, ?_, for_range (lo := 0) (n := Int.toNat _) (fun i σ H' => Same H H' ∧ ∃ v1 v2 v3 v4 v5 v6 v7 v8, σ = [some (.ref a), v1, v2, v3, v4, v5, v6, v7, v8]) ⟨Same.refl _, none, none, none, none, none, none, none, none, rfl⟩ ?_ ?_⟩
    · split <;> split <;> omega
    · split <;> split <;> omega
    · rintro i σ H1 hi ⟨s1, v1, v2, v3, v4, v5, v6, v7, v8, rfl⟩
      have i4 : i < 64 := by
        have : i < 4 + 1 := by
          revert hi
          split <;> split <;> omega
        omega
      rw [Int.zero_add (i : Int)]
      refine ⟨_, rfl, _, rfl, a, ns, i, rfl, s1.seq hS, hl, i4, fun h H2 nh s2 hd2 => ?_⟩
      have nh0 : H h = none := s1.free nh
      refine ⟨30, rfl, by decide, by decide, for_range (lo := 0) (n := 30) (fun j σ H' => HandAt H' h (100 * j) ∧ Same H H' ∧ ∃ u3 u4 u5 u6 u7 u8, σ = [some (.ref a), some (.int (i : Int)), some (.ref h), u3, u4, u5, u6, u7, u8]) ⟨hd2.up (by omega), s1.trans s2, v3, v4, v5, v6, v7, v8, rfl⟩ ?_ ?_⟩
      · rintro j σ H3 hj ⟨hd3, s3, u3, u4, u5, u6, u7, u8, rfl⟩
        refine ⟨_, rfl, h, _, rfl, hd3, by omega, fun z H4 gz hd4 bt4 => ?_⟩
        have zl : z.length ≤ 500 := Nat.le_trans gz.1 (by decide)
        refine ⟨5, rfl, by decide, by decide, for_range (lo := 0) (n := 5) (fun m σ H' => HandAt H' h (100 * (j + 1)) ∧ Same H H' ∧ ∃ w5 w6 w7 w8, σ = [some (.ref a), some (.int (i : Int)), some (.ref h), some (.int (0 + (j : Int))), some (.str z), w5, w6, w7, w8]) ⟨hd4.up (by omega), bt4.same s3 nh0, u5, u6, u7, u8, rfl⟩ ?_ ?_⟩
        · rintro m σ H5 hm ⟨hd5, s5, w5, w6, w7, w8, rfl⟩
          have ml : m ≤ 4 := by omega
          rw [Int.zero_add (m : Int)]
          refine gN ?_
          dsimp only
          refine cutA (fun v H' => ∃ t, v = .ref t ∧ H' t = some (.tup (kindL m)) ∧ Same H5 H') (fun Q' q' => ?_) ?_
          · refine ⟨_, rfl, rfl, _, rfl, ?_⟩
            rw [int_dec0 m]
            by_cases m0 : m = 0
            · rw [decide_eq_true m0]
              refine iteT ?_
              refine ⟨(by show 1 ≤ sizeLine; decide), fun t ht => q' _ _ ⟨t, rfl, ?_, Same.new ht⟩⟩
              rw [upd_same]
              unfold kindL
              rw [if_pos m0]
            · rw [decide_eq_false m0]
              refine iteF ?_
              refine ⟨_, rfl, (by show 2 ≤ sizeLine; decide), fun t ht => q' _ _ ⟨t, rfl, ?_, Same.new ht⟩⟩
              rw [upd_same]
              unfold kindL
              rw [if_neg m0]
          · rintro v H6 ⟨t, rfl, ht, s6⟩
            refine ⟨_, rfl, _, rfl, z, m, rfl, zl, ml, fun H7 s7 => ?_⟩
            have hx := due_b (l := tl z) ml
            have hbk : ∀ i, due m (tl z) = some i → due m (shownL m i) = some i := fun i e => back (due_small e)
            refine gN ?_
            dsimp only
            refine ⟨_, rfl, _, rfl, t, z, m, rfl, SqT.of (s7 _ _ ht), zl, ml, fun H8 s8 => ?_⟩
            refine ⟨_, rfl, _, rfl, t, z, m, rfl, SqT.of (s8 _ _ (s7 _ _ ht)), zl, ml, fun H9 s9 => ?_⟩
            generalize due m (tl z) = x at hx hbk
            refine ⟨(by show 2 ≤ sizeLine; decide), fun l1 n1 => ?_⟩
            refine ⟨_, PyData.list [dd x, dd x], rfl, .lst (SqL.of upd_same) (.cons (dp_dd x) (.cons (dp_dd x) .nil)), rfl, dd_show hx, dd_dict x, dd_depth x, two_small rfl (dd_len hx), ?_⟩
            refine ⟨_, rfl, _, rfl, (by show 2 ≤ sizeLine; decide), fun l2 n2 => ?_⟩
            refine ⟨_, PyData.list [dd x, dd x], rfl, .lst (SqL.of upd_same) (.cons (dp_dd x) (.cons (dp_dd x) .nil)), rfl, dd_show hx, dd_dict x, dd_depth x, two_small rfl (dd_len hx), ?_⟩
            refine ⟨rfl, _, rfl, ?_⟩
            rw [decide_eq_true rfl]
            refine iteF ?_
            have s10 : Same H6 (upd (upd H9 l1 (.lst [ov x, ov x])) l2 (.lst [ov x, ov x])) := (((s7.trans s8).trans s9).trans (Same.new n1)).trans (Same.new n2)
            refine ⟨_, rfl, rfl, _, rfl, ?_⟩
            cases x with
            | none =>
              rw [decide_eq_true (show ov none = V.non from rfl)]
              refine iteF ?_
              exact ⟨hd5.mono (s6.trans s10) (Nat.le_refl _), s5.trans (s6.trans s10), _, _, _, _, rfl⟩
            | some n =>
              rw [decide_eq_false (show ¬ ov (some n) = V.non from fun q => nomatch q)]
              refine iteT ?_
              have nb := hx n rfl
              have bk := hbk n rfl
              refine ⟨_, rfl, _, rfl, n, m, rfl, ml, nb, ?_⟩
              refine gN ?_
              dsimp only
              have k10 := s10 _ _ ht
              refine ⟨_, rfl, _, rfl, t, n, m, rfl, SqT.of k10, ml, nb, ?_⟩
              refine ⟨_, rfl, _, rfl, t, n, m, rfl, SqT.of k10, ml, nb, ?_⟩
              refine ⟨(by show 2 ≤ sizeLine; decide), fun l3 n3 => ?_⟩
              refine ⟨_, rfl, _, rfl, (by show 2 ≤ sizeLine; decide), fun l4 n4 => ?_⟩
              have cl : PyData.canLay0 (.list [.str (S (shownL m n)), .str (S (shownL m n))]) = true := by simp [PyData.canLay0, PyData.canLayAll0, shown_ok m n]
              have sh : SeqAt.shaped (.list [.str (S (shownL m n)), .str (S (shownL m n))]) = true := by
                unfold SeqAt.shaped
                rw [cl]
                simp [PyData.depth, PyData.depthAll]
              refine ⟨.list [.str (S (shownL m n)), .str (S (shownL m n))], .list [.str (S (shownL m n)), .str (S (shownL m n))], .lst (SqL.of (by rw [upd_ne (ne_of_none upd_same n4)]; exact upd_same)) (.cons (.str _) (.cons (.str _) .nil)), .lst (SqL.of upd_same) (.cons (.str _) (.cons (.str _) .nil)), sh, sh, _, rfl, ?_⟩
              rw [SeqAt.eqv_refl _ cl]
              refine iteF ?_
              have s11 : Same H6 (upd (upd (upd (upd H9 l1 (.lst [ov (some n), ov (some n)])) l2 (.lst [ov (some n), ov (some n)])) l3 (.lst [.str (S (shownL m n)), .str (S (shownL m n))])) l4 (.lst [.str (S (shownL m n)), .str (S (shownL m n))])) := (s10.trans (Same.new n3)).trans (Same.new n4)
              have sl : (S (shownL m n)).length ≤ 500 := by
                rw [S_len]
                unfold shownL
                have h1 : (padL 1 n.natAbs).length ≤ 20 := padL_le nb (by decide) (by decide)
                have h2 : (padL (m + 1) n.natAbs).length ≤ 20 := padL_le nb (by decide) (by omega)
                split <;> split <;> simp <;> omega
              refine ⟨_, rfl, _, rfl, t, S (shownL m n), m, rfl, SqT.of (s11 _ _ ht), sl, ml, fun H12 s12 => ?_⟩
              rw [tl_S, bk]
              refine ⟨n, rfl, log_small nb, ?_⟩
              refine ⟨_, rfl, n, rfl, log_small nb, rfl, _, rfl, ?_⟩
              rw [decide_eq_true rfl]
              refine iteF ?_
              exact ⟨hd5.mono (s6.trans (s11.trans s12)) (Nat.le_refl _), s5.trans (s6.trans (s11.trans s12)), _, _, _, _, rfl⟩
        · rintro σ H5 ⟨hd5, s5, w5, w6, w7, w8, rfl⟩
          exact ⟨hd5, s5, _, _, _, _, _, _, rfl⟩
      · rintro σ H3 ⟨hd3, s3, u3, u4, u5, u6, u7, u8, rfl⟩
        exact ⟨s3, _, _, _, _, _, _, _, _, rfl⟩
    · rintro σ H1 _
      exact q _
end
end K02
set_option Elab.async false
set_option linter.all false
set_option maxRecDepth 100000
set_option maxHeartbeats 8000000
namespace K02
open PySem PySem.Spec PyProof.Rows L2 Bs TL
/-! ### the end: what the top has left -/
theorem all_mk {l : PySem.W.OpenLaw} {w : World} {K : PySem.W.Frag} {h : Heap} {mg : Str → Option Value} {fa f1 f2 f3 f4 f5 f6 f7 f8 f9 f10 f11 f12 f13 f14 : Addr} (X : K.In h) (G : h.Ns mainGlobals mg) (hfa : mg "law" = some (.ref fa))
    {od1 an1 od2 an2 od3 an3 od4 an4 od5 an5 od6 an6 od7 an7 od8 an8 od9 an9 od10 an10 od11 an11 od12 an12 od13 an13 od14 an14 : Option Addr} {sl1 sl2 sl3 sl4 sl5 sl6 sl7 sl8 sl9 sl10 sl11 sl12 sl13 sl14 : Array (Option Value)}
    {oc1 kV1 dc1 pm1 cd1 ct1 oc2 kV2 dc2 pm2 cd2 ct2 oc3 kV3 dc3 pm3 cd3 ct3 oc4 kV4 dc4 pm4 cd4 ct4 oc5 kV5 dc5 pm5 cd5 ct5 oc6 kV6 dc6 pm6 cd6 ct6 oc7 kV7 dc7 pm7 cd7 ct7 oc8 kV8 dc8 pm8 cd8 ct8 oc9 kV9 dc9 pm9 cd9 ct9 oc10 kV10 dc10 pm10 cd10 ct10 oc11 kV11 dc11 pm11 cd11 ct11 oc12 kV12 dc12 pm12 cd12 ct12 oc13 kV13 dc13 pm13 cd13 ct13 oc14 kV14 dc14 pm14 cd14 ct14 : Value}
    {tk1 tk2 : Tok}
    (a1 : PySem.W.nsIn K mainGlobals "_law_hand" = some (some (.ref f1)))
    (l1 : K.lookup f1 = some ⟨oc1, od1, .func (PySem.W.fnOf "_law_hand" "_law_hand" (defArgs sHand) (defBody sHand) (defScope sHand) .none kV1 dc1 pm1 an1 cd1 ct1), sl1⟩)
    (c1 : PySem.W.codeIn K cd1 "_law_hand" = true) (k1 : PySem.W.keepIn K (.ref f1) = true)
    (a2 : PySem.W.nsIn K mainGlobals "_law_take" = some (some (.ref f2)))
    (l2 : K.lookup f2 = some ⟨oc2, od2, .func (PySem.W.fnOf "_law_take" "_law_take" (defArgs sTake) (defBody sTake) (defScope sTake) .none kV2 dc2 pm2 an2 cd2 ct2), sl2⟩)
    (c2 : PySem.W.codeIn K cd2 "_law_take" = true) (k2 : PySem.W.keepIn K (.ref f2) = true)
    (a3 : PySem.W.nsIn K mainGlobals "_law_pick" = some (some (.ref f3)))
    (l3 : K.lookup f3 = some ⟨oc3, od3, .func (PySem.W.fnOf "_law_pick" "_law_pick" (defArgs sPick) (defBody sPick) (defScope sPick) .none kV3 dc3 pm3 an3 cd3 ct3), sl3⟩)
    (c3 : PySem.W.codeIn K cd3 "_law_pick" = true) (k3 : PySem.W.keepIn K (.ref f3) = true)
    (a4 : PySem.W.nsIn K mainGlobals "_law_figures" = some (some (.ref f4)))
    (l4 : K.lookup f4 = some ⟨oc4, od4, .func (PySem.W.fnOf "_law_figures" "_law_figures" (defArgs sFigs) (defBody sFigs) (defScope sFigs) .none kV4 dc4 pm4 an4 cd4 ct4), sl4⟩)
    (c4 : PySem.W.codeIn K cd4 "_law_figures" = true) (k4 : PySem.W.keepIn K (.ref f4) = true)
    (a5 : PySem.W.nsIn K mainGlobals "_law_signs" = some (some (.ref f5)))
    (l5 : K.lookup f5 = some ⟨oc5, od5, .func (PySem.W.fnOf "_law_signs" "_law_signs" (defArgs sSigns) (defBody sSigns) (defScope sSigns) .none kV5 dc5 pm5 an5 cd5 ct5), sl5⟩)
    (c5 : PySem.W.codeIn K cd5 "_law_signs" = true) (k5 : PySem.W.keepIn K (.ref f5) = true)
    (a6 : PySem.W.nsIn K mainGlobals "_law_sum" = some (some (.ref f6)))
    (l6 : K.lookup f6 = some ⟨oc6, od6, .func (PySem.W.fnOf "_law_sum" "_law_sum" (defArgs sSum) (defBody sSum) (defScope sSum) .none kV6 dc6 pm6 an6 cd6 ct6), sl6⟩)
    (c6 : PySem.W.codeIn K cd6 "_law_sum" = true) (k6 : PySem.W.keepIn K (.ref f6) = true)
    (a7 : PySem.W.nsIn K mainGlobals "_law_due" = some (some (.ref f7)))
    (l7 : K.lookup f7 = some ⟨oc7, od7, .func (PySem.W.fnOf "_law_due" "_law_due" (defArgs sDue) (defBody sDue) (defScope sDue) .none kV7 dc7 pm7 an7 cd7 ct7), sl7⟩)
    (c7 : PySem.W.codeIn K cd7 "_law_due" = true) (k7 : PySem.W.keepIn K (.ref f7) = true)
    (a8 : PySem.W.nsIn K mainGlobals "_law_shown" = some (some (.ref f8)))
    (l8 : K.lookup f8 = some ⟨oc8, od8, .func (PySem.W.fnOf "_law_shown" "_law_shown" (defArgs sShown) (defBody sShown) (defScope sShown) .none kV8 dc8 pm8 an8 cd8 ct8), sl8⟩)
    (c8 : PySem.W.codeIn K cd8 "_law_shown" = true) (k8 : PySem.W.keepIn K (.ref f8) = true)
    (a9 : PySem.W.nsIn K mainGlobals "is_figures" = some (some (.ref f9)))
    (l9 : K.lookup f9 = some ⟨oc9, od9, .func (PySem.W.fnOf "is_figures" "is_figures" (defArgs sIsFig) (defBody sIsFig) (defScope sIsFig) .none kV9 dc9 pm9 an9 cd9 ct9), sl9⟩)
    (c9 : PySem.W.codeIn K cd9 "is_figures" = true) (k9 : PySem.W.keepIn K (.ref f9) = true)
    (a10 : PySem.W.nsIn K mainGlobals "read_amount" = some (some (.ref f10)))
    (l10 : K.lookup f10 = some ⟨oc10, od10, .func (PySem.W.fnOf "read_amount" "read_amount" (defArgs sReadAm) (defBody sReadAm) (defScope sReadAm) .none kV10 dc10 pm10 an10 cd10 ct10), sl10⟩)
    (c10 : PySem.W.codeIn K cd10 "read_amount" = true) (k10 : PySem.W.keepIn K (.ref f10) = true)
    (a11 : PySem.W.nsIn K mainGlobals "read_as" = some (some (.ref f11)))
    (l11 : K.lookup f11 = some ⟨oc11, od11, .func (PySem.W.fnOf "read_as" "read_as" (defArgs sReadAs) (defBody sReadAs) (defScope sReadAs) .none kV11 dc11 pm11 an11 cd11 ct11), sl11⟩)
    (c11 : PySem.W.codeIn K cd11 "read_as" = true) (k11 : PySem.W.keepIn K (.ref f11) = true)
    (a12 : PySem.W.nsIn K mainGlobals "written_amount" = some (some (.ref f12)))
    (l12 : K.lookup f12 = some ⟨oc12, od12, .func (PySem.W.fnOf "written_amount" "written_amount" (defArgs sWrAm) (defBody sWrAm) (defScope sWrAm) .none kV12 dc12 pm12 an12 cd12 ct12), sl12⟩)
    (c12 : PySem.W.codeIn K cd12 "written_amount" = true) (k12 : PySem.W.keepIn K (.ref f12) = true)
    (a13 : PySem.W.nsIn K mainGlobals "written" = some (some (.ref f13)))
    (l13 : K.lookup f13 = some ⟨oc13, od13, .func (PySem.W.fnOf "written" "written" (defArgs sWritten) (defBody sWritten) (defScope sWritten) .none kV13 dc13 pm13 an13 cd13 ct13), sl13⟩)
    (c13 : PySem.W.codeIn K cd13 "written" = true) (k13 : PySem.W.keepIn K (.ref f13) = true)
    (a14 : PySem.W.nsIn K mainGlobals "law" = some (some (.ref f14)))
    (l14 : K.lookup f14 = some ⟨oc14, od14, .func (PySem.W.fnOf "law" "law" (defArgs sLaw) (defBody sLaw) (defScope sLaw) .none kV14 dc14 pm14 an14 cd14 ct14), sl14⟩)
    (c14 : PySem.W.codeIn K cd14 "law" = true) (k14 : PySem.W.keepIn K (.ref f14) = true)
    (z_len : PySem.W.nsIn K mainGlobals "len" = some none)
    (z_abs : PySem.W.nsIn K mainGlobals "abs" = some none)
    (z_int : PySem.W.nsIn K mainGlobals "int" = some none)
    (z_range : PySem.W.nsIn K mainGlobals "range" = some none)
    (z_str : PySem.W.nsIn K mainGlobals "str" = some none)
    (z_max : PySem.W.nsIn K mainGlobals "max" = some none)
    (z_min : PySem.W.nsIn K mainGlobals "min" = some none)
    (z_repr : PySem.W.nsIn K mainGlobals "repr" = some none)
    (n_WHOLE_FIGURES : PySem.W.nsIn K mainGlobals "WHOLE_FIGURES" = some (some (.int 9 tk1)))
    (n_AMOUNT_FIGURES : PySem.W.nsIn K mainGlobals "AMOUNT_FIGURES" = some (some (.int 8 tk2))) :
    ∃ fd : FuncData, (∀ (s : Shared) (v : Value), BindsTo s fd ⟨[v], []⟩ [("_law_script", v)]) ∧ ∀ base : Heap, K.In base → base.Ns mainGlobals mg → FG l.prog w K mg base 5 fa fd ["_law_script"] (spLaw K) := by
  have e := hfa.symm.trans (PySem.W.mg_of X G a14)
  cases e
  have Fhand := fun_mk (st := sHand) l1 c1 k1
  have Ftake := fun_mk (st := sTake) l2 c2 k2
  have Fpick := fun_mk (st := sPick) l3 c3 k3
  have Ffigs := fun_mk (st := sFigs) l4 c4 k4
  have Fsigns := fun_mk (st := sSigns) l5 c5 k5
  have Fsum := fun_mk (st := sSum) l6 c6 k6
  have Fdue := fun_mk (st := sDue) l7 c7 k7
  have Fshown := fun_mk (st := sShown) l8 c8 k8
  have Fisfig := fun_mk (st := sIsFig) l9 c9 k9
  have Freadam := fun_mk (st := sReadAm) l10 c10 k10
  have Freadas := fun_mk (st := sReadAs) l11 c11 k11
  have Fwram := fun_mk (st := sWrAm) l12 c12 k12
  have Fwritten := fun_mk (st := sWritten) l13 c13 k13
  have Flaw := fun_mk (st := sLaw) l14 c14 k14
  have bhand := Fhand.binds (ps := ["_law_script", "_law_k"]) fun _ _ _ _ _ _ us hl => match us, hl with | [_, _], _ => rfl
  have ghand := PySem.W.mg_of X G a1
  have btake := Ftake.binds (ps := ["_law_hand_here", "_law_many"]) fun _ _ _ _ _ _ us hl => match us, hl with | [_, _], _ => rfl
  have gtake := PySem.W.mg_of X G a2
  have bpick := Fpick.binds (ps := ["_law_hand_here", "_law_some"]) fun _ _ _ _ _ _ us hl => match us, hl with | [_, _], _ => rfl
  have gpick := PySem.W.mg_of X G a3
  have bfigs := Ffigs.binds (ps := ["_law_hand_here", "_law_most"]) fun _ _ _ _ _ _ us hl => match us, hl with | [_, _], _ => rfl
  have gfigs := PySem.W.mg_of X G a4
  have bsigns := Fsigns.binds (ps := ["_law_hand_here"]) fun _ _ _ _ _ _ us hl => match us, hl with | [_], _ => rfl
  have gsigns := PySem.W.mg_of X G a5
  have bsum := Fsum.binds (ps := ["_law_signs_here"]) fun _ _ _ _ _ _ us hl => match us, hl with | [_], _ => rfl
  have gsum := PySem.W.mg_of X G a6
  have bdue := Fdue.binds (ps := ["_law_signs_here", "_law_many"]) fun _ _ _ _ _ _ us hl => match us, hl with | [_, _], _ => rfl
  have gdue := PySem.W.mg_of X G a7
  have bshown := Fshown.binds (ps := ["_law_found", "_law_many"]) fun _ _ _ _ _ _ us hl => match us, hl with | [_, _], _ => rfl
  have gshown := PySem.W.mg_of X G a8
  have bisfig := Fisfig.binds (ps := ["text", "most"]) fun _ _ _ _ _ _ us hl => match us, hl with | [_, _], _ => rfl
  have gisfig := PySem.W.mg_of X G a9
  have breadam := Freadam.binds (ps := ["text", "most", "places"]) fun _ _ _ _ _ _ us hl => match us, hl with | [_, _, _], _ => rfl
  have greadam := PySem.W.mg_of X G a10
  have breadas := Freadas.binds (ps := ["form", "text"]) fun _ _ _ _ _ _ us hl => match us, hl with | [_, _], _ => rfl
  have greadas := PySem.W.mg_of X G a11
  have bwram := Fwram.binds (ps := ["number", "places"]) fun _ _ _ _ _ _ us hl => match us, hl with | [_, _], _ => rfl
  have gwram := PySem.W.mg_of X G a12
  have bwritten := Fwritten.binds (ps := ["form", "number"]) fun _ _ _ _ _ _ us hl => match us, hl with | [_, _], _ => rfl
  have gwritten := PySem.W.mg_of X G a13
  refine ⟨PySem.W.fnOf "law" "law" (defArgs sLaw) (defBody sLaw) (defScope sLaw) .none kV14 dc14 pm14 an14 cd14 ct14, fun s v => .of_eq rfl, fun base _ _ => ?_⟩
  have T1 : Txt mg := ⟨PySem.W.mg_none_of X G z_len, PySem.W.mg_none_of X G z_abs, PySem.W.mg_none_of X G z_int, PySem.W.mg_none_of X G z_range⟩
  have T2 : Txt2 mg := ⟨PySem.W.mg_none_of X G z_str, ⟨_, PySem.W.mg_of X G n_WHOLE_FIGURES⟩, ⟨_, PySem.W.mg_of X G n_AMOUNT_FIGURES⟩⟩
  have T3 : Txt3 mg := ⟨T1, T2, PySem.W.mg_none_of X G z_max, PySem.W.mg_none_of X G z_min, PySem.W.mg_none_of X G z_repr⟩
  have kr := kb_swp (p1 := "form") (p2 := "text") Freadas fun _ _ _ _ _ _ _ _ => rfl
  have kw := kb_swp (p1 := "form") (p2 := "number") Fwritten fun _ _ _ _ _ _ _ _ => rfl
  exact ok_law Flaw T3 ⟨Fhand, bhand, ghand, Fsigns, bsigns, gsigns, Fdue, bdue, gdue, Freadas, breadas, kr, greadas, Fwritten, bwritten, kw, gwritten, Fshown, bshown, gshown⟩
    (ok_signs Fsigns T1 Ftake btake gtake Fpick bpick gpick Ffigs bfigs gfigs) (ok_due Fdue T1 Fsum bsum gsum) (ok_readas Freadas T1 T2 Fisfig bisfig gisfig Freadam breadam greadam) (ok_written Fwritten T1 T2 Fwram bwram gwram)
end K02
open PySem PySem.W PyProof.Rows
set_option maxRecDepth 100000 in
set_option maxHeartbeats 0 in
theorem PySem.Challenge.cw_cleanedtables_k02_numbers_read_and_writt_holds : PySem.Challenge.rw_cleanedtables_k02_numbers_read_and_writt.Holds := by
  w_on; o_law; k_head; (case hw => w_witness2)
  k_fill
  refine Bs.walkG (l := PySem.Challenge.rw_cleanedtables_k02_numbers_read_and_writt) (n := 63) (k := 5) (sp := K02.spLaw) (x := "_law_script") rfl (by decide) rfl ⟨rfl, by decide, by decide⟩ (fun w h Y => PySem.W.kIn_of Y) ?F (fun K H a ns hl _ hS => ⟨a, ns, rfl, hS, hl, fun _ => rfl⟩)
  case F =>
    intro w mg fa h KX G hmg
    refine' K02.all_mk KX G hmg ?a1 ?l1 ?c1 ?k1 ?a2 ?l2 ?c2 ?k2 ?a3 ?l3 ?c3 ?k3 ?a4 ?l4 ?c4 ?k4 ?a5 ?l5 ?c5 ?k5 ?a6 ?l6 ?c6 ?k6 ?a7 ?l7 ?c7 ?k7 ?a8 ?l8 ?c8 ?k8 ?a9 ?l9 ?c9 ?k9 ?a10 ?l10 ?c10 ?k10 ?a11 ?l11 ?c11 ?k11 ?a12 ?l12 ?c12 ?k12 ?a13 ?l13 ?c13 ?k13 ?a14 ?l14 ?c14 ?k14 ?z_len ?z_abs ?z_int ?z_range ?z_str ?z_max ?z_min ?z_repr ?n_WHOLE_FIGURES ?n_AMOUNT_FIGURES
    (case a1 => k_is)
    (case l1 => k_is)
    (case c1 => k_is)
    (case k1 => k_is)
    (case a2 => k_is)
    (case l2 => k_is)
    (case c2 => k_is)
    (case k2 => k_is)
    (case a3 => k_is)
    (case l3 => k_is)
    (case c3 => k_is)
    (case k3 => k_is)
    (case a4 => k_is)
    (case l4 => k_is)
    (case c4 => k_is)
    (case k4 => k_is)
    (case a5 => k_is)
    (case l5 => k_is)
    (case c5 => k_is)
    (case k5 => k_is)
    (case a6 => k_is)
    (case l6 => k_is)
    (case c6 => k_is)
    (case k6 => k_is)
    (case a7 => k_is)
    (case l7 => k_is)
    (case c7 => k_is)
    (case k7 => k_is)
    (case a8 => k_is)
    (case l8 => k_is)
    (case c8 => k_is)
    (case k8 => k_is)
    (case a9 => k_is)
    (case l9 => k_is)
    (case c9 => k_is)
    (case k9 => k_is)
    (case a10 => k_is)
    (case l10 => k_is)
    (case c10 => k_is)
    (case k10 => k_is)
    (case a11 => k_is)
    (case l11 => k_is)
    (case c11 => k_is)
    (case k11 => k_is)
    (case a12 => k_is)
    (case l12 => k_is)
    (case c12 => k_is)
    (case k12 => k_is)
    (case a13 => k_is)
    (case l13 => k_is)
    (case c13 => k_is)
    (case k13 => k_is)
    (case a14 => k_is)
    (case l14 => k_is)
    (case c14 => k_is)
    (case k14 => k_is)
    (case z_len => k_is)
    (case z_abs => k_is)
    (case z_int => k_is)
    (case z_range => k_is)
    (case z_str => k_is)
    (case z_max => k_is)
    (case z_min => k_is)
    (case z_repr => k_is)
    (case n_WHOLE_FIGURES => k_is)
    (case n_AMOUNT_FIGURES => k_is)
