import PyProof.Rows.All
import Wide.All
import OpenK.AllK
import Wide.FinOn
import HandS.ForMost
import HandS.Walk
import HandS.Deep
import HandS.TupAny
import HandS.Style
import HandS.Conv
import HandS.Sort
import HandS.Evl
import KE.GoesMore
import KE.GoesEnum
import KE.KRevSl
import HandS.SetFor
import HandS.Strs
import HandS.DictComp
import HandS.SortRule
import KE.DataMinMax
import HandS.IsInst
import HandS.Wide
import HandS.Star
import HandS.Comp
import HandS.NoneIn
import HandS.SortKw
import KE.SortData
import KE.DataCmp
import PyProof.SetRoads
import HandS.TupMul
import HandS.SetKeys
import HandS.AnyAll
import HandS.EndOwn
import HandS.EndTab
import HandS.Flow
import HandS.GenOver
import HandS.Nested
import HandS.Small
import HandS.Zip
import PyProof.ConsumeS
import PyProof.GenQ
import PyProof.GenRules
import PyProof.TableCode
import PyProof.Rows.Walk
import KE.OsArith
import PySem.Challenge.RW_soonerornot_k44_whole_said_lots
set_option Elab.async false
set_option linter.all false
set_option maxRecDepth 100000
set_option maxHeartbeats 4000000
/-! defs whose calls stand where no repr runs: the promise with the guards told -/
namespace Gd
open PySem PySem.Spec PyProof.Rows L2

/-- a def's promise at a place where no guard stands -/
structure FnG (P : Program) (w : World) (K : PySem.W.Frag) (mg : Str → Option Value) (base : Heap)
    (k : Nat) (f : Addr) (fd : FuncData) (ps : List Str) (sp : Sp) : Prop where
  len : ∀ vs H Q E, sp vs H Q E → vs.length = ps.length
  run : ∀ (A : Around) (outer : List Env) (s : Shared) (H : Hp) (args : Args) (us : List Value)
    (vs : List V) (Q : VK) (E : XK), A.guards = some [] → Room k A → Env0 P w K mg base A outer s H →
    BindsTo s fd args (ps.zip us) → Vals vs us → sp vs H Q E →
    codeAny (model P w) A (.call (.ref f) args) (CR CX0 outer P w H s Q E) s

section
variable {P : Program} {w : World} {K : PySem.W.Frag} {mg : Str → Option Value} {base : Heap}
theorem FnG.of {k : Nat} {f : Addr} {fd : FuncData} {ps : List Str} {sp : Sp}
    (F : FnOk P w K mg base CX0 k f fd ps sp) : FnG P w K mg base k f fd ps sp :=
  ⟨F.len, fun A outer s H args us vs Q E _ => F.run A outer s H args us vs Q E⟩
theorem FnG.mono {j k : Nat} {f : Addr} {fd : FuncData} {ps : List Str} {sp : Sp}
    (F : FnG P w K mg base j f fd ps sp) (h : j ≤ k) : FnG P w K mg base k f fd ps sp :=
  ⟨F.len, fun A outer s H args us vs Q E hg hr => F.run A outer s H args us vs Q E hg (hr.mono h)⟩

theorem fn_ofG {k : Nat} {f : Addr} {x qual : Str} {st : Stmt} {fd : FuncData} {N ps : List Str} {sp : Sp}
    (F : Fun K x qual st f fd) (S : FnScope N ps (defScope st))
    (len : ∀ vs H Q E, sp vs H Q E → vs.length = ps.length)
    (hbody : ∀ (cdv : Value) (A : Around) (outer : List Env) (s : Shared) (H : Hp) (vs : List V) (Q : VK) (E : XK),
      A.guards = some [] → Room k (A.deeper (envOfC qual (defScope st) s.heap.objs.size f cdv)) → sp vs H Q E →
      ∃ t, PSs (cxOf CX0 P w K mg base N qual (defScope st) f cdv A outer s H E).nox (defBody st) t ∧
        t { nx := fun _ H' => Q .non H', rt := Q } (start N vs) H) :
    FnG P w K mg base (k + 1) f fd ps sp := by
  obtain ⟨oc, od, kV, doc, pm, an, cdv, ct, osl, rfl, lk, hcd⟩ := F.ex
  refine ⟨len, fun A outer s H args us vs Q E hg hr e0 hb rv hsp => ?_⟩
  have hlen := len vs H Q E hsp
  have kin : K.In s.heap :=
    e0.mod.kin.keeps fun b o e => (e0.bs b o e).1
  have lim : s.heap.NoLimit :=
    e0.mod.nolimit.keeps fun b o e => (e0.bs b o e).1
  have kinds : ∀ y ∈ ps.zip us, (defScope st).names.lookup y.1 = some .local ∨
      ((defScope st).names.lookup y.1 = some .cell ∧
        ((cellsFrom (s.heap.objs.size + 1) (defScope st).names []).lookup y.1).isSome = true) := by
    rintro ⟨n, v⟩ hy
    cases S.par n (List.of_mem_zip hy).1 with
    | inl q => exact Or.inl q
    | inr q => exact Or.inr ⟨q, PySem.W.cellsFrom_some _ _ _ (Or.inl q)⟩
  refine codeAny_call_function hr.depth (kin _ _ lk) rfl S.co S.gen rfl
    (PySem.W.codeRec_of kin hcd) (hb _ _ _ _ ?_)
  refine wpAny_newFunctionEnv_cells S.kind kinds fun env henv s1 icc => ?_
  cases henv
  refine ⟨lim.keeps icc.toInCall.keep, codeAny_func ?_⟩
  obtain ⟨t, ht, hq⟩ := hbody cdv A outer s H vs Q E hg (hr.deeper _) hsp
  have inv0 := inv_start (CX := CX0) (mg := mg) (base := base) (cd := cdv) (E := E) S hr.hd e0 hlen rv icc
  refine wpAny_mono (ht.nox.run [] s1 (start N vs) H _ inv0 hq) (fun fl s' hs => ?_) (fun e s' hs => hs)
  cases fl with
  | ret u =>
    obtain ⟨v, σ', H', J, r2, q⟩ := hs
    exact ⟨v, H', J.os, J.bare, J.base, J.hok, r2, q⟩
  | next =>
    obtain ⟨σ', H', J, q⟩ := hs
    exact ⟨V.non, H', J.os, J.bare, J.base, J.hok, rfl, q⟩
  | brk =>
    obtain ⟨_, _, _, q⟩ := hs
    cases q
  | cont =>
    obtain ⟨_, _, _, q⟩ := hs
    cases q
end

section
variable {X : Cx} {k : Nat} {f : Addr} {fd : FuncData} {ps : List Str} {sp : Sp} {ds : List Value}
  {dvs : List V} {x : Str} {p pos : Pos} {e : Expr} {es : List Expr} {t : TA} {E : XK}

theorem run_fnG {pins : List (Addr × Obj)} {σ : L2.St} {H : Hp} {s : Shared} {Q : VK} {us : List Value} {vs : List V}
    (F : FnG X.prog X.w X.K X.mg X.base k f fd ps sp) (hg : X.A.guards = some []) (hr : Room k X.A)
    (hb : Binds X.K fd ps ds) (hd : Vals dvs ds)
    (I : Inv X pins σ H s) (r : Vals vs us) (h : sp (vs ++ dvs) H Q E0) :
    wpAny (model X.prog X.w) X.A (call (.ref f) us) (EP X pins σ Q) X.xe s := by
  have r2 : Vals (vs ++ dvs) (us ++ ds) := r.append hd
  have hl : (us ++ ds).length = ps.length := r2.length.symm.trans (F.len _ _ _ _ h)
  refine wpAny_call (codeAny_mono
    (F.run X.A X.stack s H ⟨us, []⟩ (us ++ ds) (vs ++ dvs) Q E0 hg hr I.env0 (hb s us I.kIn hl) r2 h) ?_)
  intro res s' hq
  match res, hq with
  | .error _, hq => exact (hq : False).elim
  | .ok (.ret u), hq => exact I.after hq
  | .ok .next, hq => exact False.elim hq
  | .ok .brk, hq => exact False.elim hq
  | .ok .cont, hq => exact False.elim hq

theorem pe_callG (F : FnG X.prog X.w X.K X.mg X.base k f fd ps sp) (hgd : X.A.guards = some []) (hr : Room k X.A)
    (hg : Gl X x) (hm : X.mg x = some (.ref f)) (hk : PySem.W.keepIn X.K (.ref f) = true)
    (hb : Binds X.K fd ps ds) (hd : Vals dvs ds) (ha : PA X (e :: es) t)
    (hdb : (x == ("__debug__" : Str)) = false := by decide)
    (he : starEach (e :: es) X.env = (false, eval e X.env) :: starEach es X.env := by rfl)
    (hpl : (backTo pos (starEach es X.env)).any (·.1) = false := by rfl) :
    PE X (.Call (.Name x p) (e :: es) [] pos) (tCall sp dvs E0 t) := by
  constructor
  intro pins s σ H Q I h
  refine wpAny_Call_Name_kw (ld_glob I hg hm ?_ hdb)
  refine PySem.W.callWith_K (h₀ := X.base) I.ok.mod.kin hk ?_ he hpl
  refine thn (ha.run pos pins s σ H _ I h) ?_
  rintro us s1 ⟨vs, H1, I1, r, q⟩
  exact ⟨I1.kIn, run_fnG F hgd hr hb hd I1 r q⟩
theorem pe_callG0 (F : FnG X.prog X.w X.K X.mg X.base k f fd ps sp) (hgd : X.A.guards = some []) (hr : Room k X.A)
    (hg : Gl X x) (hm : X.mg x = some (.ref f)) (hk : PySem.W.keepIn X.K (.ref f) = true)
    (hb : Binds X.K fd ps ds) (hd : Vals dvs ds) (hdb : (x == ("__debug__" : Str)) = false := by decide) :
    PE X (.Call (.Name x p) [] [] pos) (tCall sp dvs E0 tNil) := by
  constructor
  intro pins s σ H Q I h
  refine wpAny_Call_Name_kw (ld_glob I hg hm ?_ hdb)
  exact PySem.W.callWith_K0 I.kIn hk (run_fnG (us := []) F hgd hr hb hd I .nil h)
end

/-! repr of data -/
section
variable {X : Cx}
def rReprD (K : PySem.W.Frag) : List V → Hp → VK → Prop := fun xs H Q =>
  ∃ a d, xs = [.ref a] ∧ Dp K H (.ref a) d ∧ d.showable = true ∧ d.hasDict = false ∧ d.depth ≤ 60 ∧
    d.shown.length ≤ sizeLine ∧ Q (.str d.shown) H
theorem call_reprD (hg : X.A.guards = some []) (hu : X.A.units + 64 < cLine) :
    CallR X (.builtin "repr") (rReprD X.K) := by
  intro pins s σ H xs us Q I r h
  obtain ⟨a, d, rfl, hd, hs, hnd, hdp, hz, q⟩ := h
  obtain ⟨u, rfl, ru⟩ := vals1 r
  obtain ⟨as, rd⟩ := Dp.reads I d (.ref a) u hd ru
  cases ru
  refine repr_of_reads' rd hs (PyData.noDict_hsm hnd) hg (by omega) (fun _ _ e => e) ?_ hz
  intro h' tu tk keep
  exact ⟨.str d.shown, H, I.kept (h' := h') (t' := tk) keep, ⟨_, rfl⟩, q⟩
end

/-! the law's own end -/
theorem law_callG {P : Program} {w : World} {K : PySem.W.Frag} {mg mb : Str → Option Value} {k : Nat} {fa a : Addr}
    {fd : FuncData} {x : Str} {sp : Sp} {s1 : Shared} {vs : List Value} {ns : List Int}
    (KX : K.In s1.heap) (hns : s1.heap.Ns mainGlobals mg) (hb : s1.heap.Ns builtinsNs mb)
    (hbb : ∀ x : Str, x ≠ "__name__" → mb x = bootBuiltins x) (hlim : s1.heap.NoLimit) (hg : s1.gens = #[])
    (ha : s1.heap.get? a = some { cls := .type "list", data := .seq vs.toArray }) (hi : IntsAre vs ns)
    (hl : ns.length ≤ sizeLine) (hr : Room k callerA)
    (F : ∀ base : Heap, K.In base → base.Ns mainGlobals mg → FnG P w K mg base k fa fd [x] sp)
    (hbind : ∀ (s : Shared) (u : Value), BindsTo s fd ⟨[u], []⟩ [(x, u)])
    (hsp : ∀ H : Hp, Only H → SqL K H a (ns.map V.int) → sp [.ref a] H (fun v _ => v = .bl true) E0) :
    codeAny (model P w) callerA (.call (.ref fa) ⟨[.ref a], []⟩)
      (fun r s' => r = .ok (.ret (.bool true)) ∧ OldK s1.heap s'.heap ∧ s'.os = s1.os ∧ AllBare s'.gens) s1 := by
  have rv := vals_ints hi
  have lenV := hi.length
  suffices core : ∀ H : Hp, Only H → SqL K H a (ns.map V.int) → HOk P w H s1.heap → (∀ b, H b ≠ none → b = a) →
      (H a ≠ none → K.lookup a = none) → codeAny (model P w) callerA (.call (.ref fa) ⟨[.ref a], []⟩)
        (fun r s' => r = .ok (.ret (.bool true)) ∧ OldK s1.heap s'.heap ∧ s'.os = s1.os ∧ AllBare s'.gens) s1 by
    cases hk : K.lookup a with
    | some o =>
      have e := KX a o hk
      rw [ha] at e
      cases e
      refine core (fun _ => none) (fun _ => Or.inl rfl)
        (Or.inr ⟨_, vs.toArray, _, hk, rfl, rfl, rfl, (by rw [List.size_toArray, lenV]; exact hl), (by simpa using rv)⟩)
        (fun b u z => nomatch (show (none : Option HO) = some u from z)) (fun b z => absurd rfl z) (fun z => absurd rfl z)
    | none =>
      refine core (fun b => if b = a then some (.frz { cls := .type "list", data := .seq vs.toArray } (.lst (ns.map V.int))) else none)
        (fun b => ?_) (Or.inl (Or.inr ⟨{ cls := .type "list", data := .seq vs.toArray }, if_pos rfl⟩)) (fun b u z => ?_) (fun b z => ?_) (fun _ => hk)
      · by_cases hba : b = a
        · exact Or.inr ⟨_, _, if_pos hba⟩
        · exact Or.inl (if_neg hba)
      · by_cases hba : b = a
        · have z2 := (if_pos hba).symm.trans z
          cases z2
          cases hba
          exact ⟨ha, (by rw [List.length_map]; exact hl), vs, _, rv, ha⟩
        · have z2 := (if_neg hba).symm.trans z
          cases z2
      · by_cases hba : b = a
        · exact hba
        · exact absurd (if_neg hba) z
  intro H hO hS hok hA hK
  have dictFree : ∀ {b : Addr} {o : Obj} {es : Array DictEntry} {ep : Nat},
      s1.heap.get? b = some o → o.data = .dict es ep → H b = none := by
    intro b o es ep e d
    cases q : H b with
    | none => rfl
    | some u =>
      have eb : b = a := hA b (by rw [q]; simp)
      cases eb
      rw [ha] at e
      cases e
      exact nomatch (show Data.seq vs.toArray _ = Data.dict es ep from d)
  have nsK : ∀ {b : Addr} {m : Str → Option Value}, s1.heap.Ns b m → (hidT s1.heap H).Ns b m := by
    rintro b m ⟨o, es, ep, e, d, r⟩
    exact ⟨o, es, ep, hidT_get e (dictFree e d), d, r⟩
  have hKb : K.In (hidT s1.heap H) := by
    intro b o e
    refine hidT_get (KX b o e) ?_
    cases q : H b with
    | none => rfl
    | some u =>
      have eb : b = a := hA b (by rw [q]; simp)
      cases eb
      have := hK (by rw [q]; simp)
      rw [this] at e
      cases e
  have hM : Mod K mg (hidT s1.heap H) :=
    ⟨hKb, nsK hns, ⟨mb, nsK hb, hbb⟩, let ⟨mc, h1, h2⟩ := hlim; ⟨mc, nsK h1, h2⟩⟩
  have env : Env0 P w K mg (hidT s1.heap H) callerA [] s1 H :=
    ⟨rfl, hM, fun b o e => of_hidT e, Nat.le_of_eq (hidT_size _ _), trivial,
      fun b hb => absurd (show b ∈ ([] : List Addr) from hb) (by simp), hok, .of_eq hg⟩
  have ran := (F _ hKb (nsK hns)).run callerA [] s1 H ⟨[.ref a], []⟩ [.ref a] [.ref a] _ _ rfl hr env
    (hbind s1 (.ref a)) (.cons rfl .nil) (hsp H hO hS)
  refine codeAny_mono ran ?_
  intro r s' h
  match r, h with
  | .error _, h => exact (h : False).elim
  | .ok .next, h => exact False.elim h
  | .ok .brk, h => exact False.elim h
  | .ok .cont, h => exact False.elim h
  | .ok (.ret u), h =>
    obtain ⟨v, H', os, bare, un, hok', r', q⟩ := h
    have q2 : v = .bl true := q
    cases q2
    have eu : u = Value.bool true := r'
    cases eu
    refine ⟨rfl, OldK.of_keep fun b o e => ?_, os, bare⟩
    cases qb : H b with
    | none =>
      exact un.keep b o e qb (fun z => absurd (show b ∈ ([] : List Addr) from z) (by simp)) (by simp)
    | some u =>
      cases hO b with
      | inl z => rw [qb] at z; cases z
      | inr z =>
        obtain ⟨ob, xs, z⟩ := z
        obtain ⟨e1, _⟩ := hok b _ z
        obtain ⟨e2, _⟩ := hok' b _ (un.frzs b ob _ z)
        rw [e] at e1
        cases e1
        exact e2

theorem walk_ofG {l : PySem.W.OpenLaw} {n k : Nat} {q : Program} {loose : List Str} {XP : (Str → Option Value) → Heap → Prop}
    {YP : World → Heap → Prop} {d : DefRec} {K : Params → PySem.W.Frag} {sp : PySem.W.Frag → Sp} {x : Str}
    (hn : l.most = some n) (hn2 : n ≤ sizeLine) (hdf : d.params.defaults = []) (hr : Room k callerA)
    (hY : ∀ (w : World) (h : Heap), YP w h → (K w.params).In h)
    (F : ∀ (w : World) (mg : Str → Option Value) (fa : Addr) (h : Heap), (K w.params).In h → h.Ns mainGlobals mg →
      mg d.name = some (.ref fa) → ∃ fd : FuncData, (∀ (s : Shared) (u : Value), BindsTo s fd ⟨[u], []⟩ [(x, u)]) ∧
        ∀ base : Heap, (K w.params).In base → base.Ns mainGlobals mg → FnG l.prog w (K w.params) mg base k fa fd [x] (sp (K w.params)))
    (hsp : ∀ (K : PySem.W.Frag) (H : Hp) (a : Addr) (ns : List Int), ns.length ≤ n → Only H → SqL K H a (ns.map V.int) →
      sp K [.ref a] H (fun v _ => v = .bl true) E0) :
    PySem.W.WalkO q loose XP YP l.row.toRowW d [] (fun f vs => PySem.call f vs) := by
  refine Att.attach_call hn hdf ?_
  intro w s0 s1 mg mb fa o pm cd doc a vs ns G Y ho hd hcd hmg hobj hints hlen hg
  obtain ⟨fd, hb, hF⟩ := F w mg fa _ (hY w _ Y) G.T.g hmg
  exact law_callG (hY w _ Y) G.T.g G.T.b G.T.builtins G.T.nolimit hg hobj hints (Nat.le_trans hlen hn2) hr hF hb
    fun H hO hS => hsp (K w.params) H a ns hlen hO hS
theorem _root_.L2.Room.units65 {k : Nat} {A : Around} (r : Room k A) : A.units + 65 < cLine := by
  have := r.un
  omega
end Gd

/-! data over the layer: what an expression is worth while objects of a list M may change -/
namespace Dq
open PySem PySem.Spec PyProof.Rows L2 Gd

abbrev S := L2.St

/-! ### data at values -/
mutual
inductive Da (K : PySem.W.Frag) (H : Hp) : V → PyData → Prop
  | non : Da K H .non .none
  | bl (b : Bool) : Da K H (.bl b) (.bool b)
  | int (i : Int) : Da K H (.int i) (.int i)
  | str (x : Str) : Da K H (.str x) (.str x)
  | lst {a : Addr} {xs : List V} {ds : List PyData} : H a = some (.lst xs) → Das K H xs ds → Da K H (.ref a) (.list ds)
  | tup {a : Addr} {xs : List V} {ds : List PyData} : SqT K H a xs → Das K H xs ds → Da K H (.ref a) (.tuple ds)
inductive Das (K : PySem.W.Frag) (H : Hp) : List V → List PyData → Prop
  | nil : Das K H [] []
  | cons {v : V} {vs : List V} {d : PyData} {ds : List PyData} : Da K H v d → Das K H vs ds → Das K H (v :: vs) (d :: ds)
end

section
variable {K : PySem.W.Frag} {H H' : Hp}
theorem same_sqt {a : Addr} {xs : List V} (e : Same H H') (h : SqT K H a xs) : SqT K H' a xs := by
  rcases h with (h | ⟨o, h⟩) | h
  · exact .inl (.inl (e _ _ h))
  · exact .inl (.inr ⟨o, e _ _ h⟩)
  · exact .inr h
mutual
theorem Da.same (e : Same H H') : ∀ (d : PyData) (v : V), Da K H v d → Da K H' v d
  | .none, _, h => by cases h; exact .non
  | .bool b, _, h => by cases h; exact .bl b
  | .int i, _, h => by cases h; exact .int i
  | .str x, _, h => by cases h; exact .str x
  | .list ds, _, h => by
    cases h with
    | lst hs ha => exact .lst (e _ _ hs) (Das.same e ds _ ha)
  | .tuple ds, _, h => by
    cases h with
    | tup hs ha => exact .tup (same_sqt e hs) (Das.same e ds _ ha)
  | .dict _, _, h => by cases h
theorem Das.same (e : Same H H') : ∀ (ds : List PyData) (vs : List V), Das K H vs ds → Das K H' vs ds
  | [], _, h => by cases h; exact .nil
  | d :: ds, _, h => by
    cases h with
    | cons h1 h2 => exact .cons (Da.same e d _ h1) (Das.same e ds _ h2)
end
mutual
theorem Da.dp : ∀ (d : PyData) (v : V), Da K H v d → Dp K H v d
  | .none, _, h => by cases h; exact .non
  | .bool b, _, h => by cases h; exact .bl b
  | .int i, _, h => by cases h; exact .int i
  | .str x, _, h => by cases h; exact .str x
  | .list ds, _, h => by
    cases h with
    | lst hs ha => exact .lst (SqL.of hs) (Das.dp ds _ ha)
  | .tuple ds, _, h => by
    cases h with
    | tup hs ha => exact .tup hs (Das.dp ds _ ha)
  | .dict _, _, h => by cases h
theorem Das.dp : ∀ (ds : List PyData) (vs : List V), Das K H vs ds → DpAll K H vs ds
  | [], _, h => by cases h; exact .nil
  | d :: ds, _, h => by
    cases h with
    | cons h1 h2 => exact .cons (Da.dp d _ h1) (Das.dp ds _ h2)
end
theorem Das.length : ∀ {ds : List PyData} {vs : List V}, Das K H vs ds → vs.length = ds.length
  | [], _, h => by cases h; rfl
  | d :: ds, _, h => by
    cases h with
    | cons h1 h2 => rw [List.length_cons, List.length_cons, h2.length]
theorem Das.get : ∀ {ds : List PyData} {vs : List V} {i : Nat} {d : PyData}, Das K H vs ds → ds[i]? = some d → ∃ v, vs[i]? = some v ∧ Da K H v d
  | [], _, i, d, h, e => by simp at e
  | x :: ds, _, 0, d, h, e => by
    cases h with
    | cons h1 h2 =>
      simp at e
      subst e
      exact ⟨_, rfl, h1⟩
  | x :: ds, _, i + 1, d, h, e => by
    cases h with
    | cons h1 h2 =>
      obtain ⟨v, e1, e2⟩ := Das.get (i := i) h2 (by simpa using e)
      exact ⟨v, by simpa using e1, e2⟩
theorem Das.getV {ds : List PyData} {vs : List V} {i : Nat} {v : V} (h : Das K H vs ds) (e : vs[i]? = some v) : ∃ d, ds[i]? = some d ∧ Da K H v d := by
  have hl := h.length
  have hi : i < vs.length := (List.getElem?_eq_some_iff.mp e).1
  obtain ⟨v2, e2, r⟩ := h.get (i := i) (d := ds[i]'(by omega)) (by simp [show i < ds.length by omega])
  rw [e] at e2
  cases e2
  exact ⟨_, by simp [show i < ds.length by omega], r⟩
theorem Das.append : ∀ {ds es : List PyData} {vs ws : List V}, Das K H vs ds → Das K H ws es → Das K H (vs ++ ws) (ds ++ es)
  | [], _, _, _, h, g => by cases h; exact g
  | d :: ds, _, _, _, h, g => by
    cases h with
    | cons h1 h2 => exact .cons h1 (Das.append h2 g)
theorem Das.take : ∀ {ds : List PyData} {vs : List V} (n : Nat), Das K H vs ds → Das K H (vs.take n) (ds.take n)
  | _, _, 0, _ => .nil
  | [], _, _ + 1, h => by cases h; exact .nil
  | d :: ds, _, n + 1, h => by
    cases h with
    | cons h1 h2 => exact .cons h1 (Das.take n h2)
theorem Das.drop : ∀ {ds : List PyData} {vs : List V} (n : Nat), Das K H vs ds → Das K H (vs.drop n) (ds.drop n)
  | _, _, 0, h => h
  | [], _, _ + 1, h => by cases h; exact .nil
  | d :: ds, _, n + 1, h => by
    cases h with
    | cons h1 h2 => exact Das.drop n h2
theorem Das.reverse {ds : List PyData} {vs : List V} (h : Das K H vs ds) : Das K H vs.reverse ds.reverse := by
  induction ds generalizing vs with
  | nil => cases h; exact .nil
  | cons d ds ih =>
    cases h with
    | cons h1 h2 =>
      rw [List.reverse_cons, List.reverse_cons]
      exact (ih h2).append (.cons h1 .nil)
theorem Das.ints : ∀ (ns : List Int), Das K H (ns.map V.int) (ns.map PyData.int)
  | [] => .nil
  | n :: ns => .cons (.int n) (Das.ints ns)
theorem Das.perm {ds : List PyData} {vs ws : List V} (h : Das K H vs ds) (p : ws.Perm vs) : ∃ es, es.Perm ds ∧ Das K H ws es := by
  induction p generalizing ds with
  | nil => cases h; exact ⟨[], List.Perm.refl _, .nil⟩
  | cons x p ih =>
    cases h with
    | cons h1 h2 =>
      obtain ⟨es, q, r⟩ := ih h2
      exact ⟨_ :: es, q.cons _, .cons h1 r⟩
  | swap x y l =>
    cases h with
    | cons h1 h2 =>
      cases h2 with
      | cons h3 h4 => exact ⟨_, List.Perm.swap _ _ _, .cons h3 (.cons h1 h4)⟩
  | trans p q ih1 ih2 =>
    obtain ⟨es, e1, r1⟩ := ih2 h
    obtain ⟨fs, e2, r2⟩ := ih1 r1
    exact ⟨fs, e2.trans e1, r2⟩
theorem Da.intV {v : V} {i : Int} (h : Da K H v (.int i)) : v = .int i := by cases h; rfl
theorem Da.blV {v : V} {b : Bool} (h : Da K H v (.bool b)) : v = .bl b := by cases h; rfl
theorem Da.strV {v : V} {x : Str} (h : Da K H v (.str x)) : v = .str x := by cases h; rfl
theorem Da.nonV {v : V} (h : Da K H v .none) : v = .non := by cases h; rfl
end

/-! ### worlds: the objects that may change, the heap -/
def mn (M : List Addr) (H : Hp) : Hp := fun b => if b ∈ M then none else H b
theorem mn_out {M : List Addr} {H : Hp} {b : Addr} (h : b ∉ M) : mn M H b = H b := if_neg h
theorem mn_in {M : List Addr} {H : Hp} {b : Addr} (h : b ∈ M) : mn M H b = none := if_pos h
theorem mn_some {M : List Addr} {H : Hp} {b : Addr} {o : HO} (h : mn M H b = some o) : b ∉ M ∧ H b = some o := by
  by_cases hb : b ∈ M
  · rw [mn_in hb] at h; cases h
  · rw [mn_out hb] at h; exact ⟨hb, h⟩
theorem mn_same {M : List Addr} {H : Hp} : Same (mn M H) H := fun b o h => (mn_some h).2
abbrev Dm (K : PySem.W.Frag) (M : List Addr) (H : Hp) (v : V) (d : PyData) : Prop := Da K (mn M H) v d
abbrev Dms (K : PySem.W.Frag) (M : List Addr) (H : Hp) (vs : List V) (ds : List PyData) : Prop := Das K (mn M H) vs ds
structure Go (M : List Addr) (H : Hp) (M' : List Addr) (H' : Hp) : Prop where
  sub : ∀ b ∈ M, b ∈ M'
  new : ∀ b ∈ M', b ∈ M ∨ H b = none
  le : ∀ b o, b ∉ M' → H b = some o → H' b = some o
  tr : ∀ b ∈ M', H' b ≠ none
abbrev Tr (M : List Addr) (H : Hp) : Prop := ∀ b ∈ M, H b ≠ none
theorem Go.refl {M : List Addr} {H : Hp} (t : Tr M H) : Go M H M H := ⟨fun _ h => h, fun _ h => .inl h, fun _ _ _ h => h, t⟩
theorem Go.trans {M M1 M2 : List Addr} {H H1 H2 : Hp} (g : Go M H M1 H1) (k : Go M1 H1 M2 H2) : Go M H M2 H2 where
  sub := fun b h => k.sub b (g.sub b h)
  new := fun b h => by
    rcases k.new b h with h1 | h1
    · exact g.new b h1
    · cases e : H b with
      | none => exact .inr rfl
      | some o =>
        by_cases hb : b ∈ M1
        · exact absurd h1 (g.tr b hb)
        · rw [g.le b o hb e] at h1; cases h1
  le := fun b o hb e => k.le b o hb (g.le b o (fun z => hb (k.sub b z)) e)
  tr := k.tr
theorem Go.same {M M' : List Addr} {H H' H2 : Hp} (g : Go M H M' H') (e : Same H' H2) : Go M H M' H2 :=
  ⟨g.sub, g.new, fun b o hb h => e b o (g.le b o hb h), fun b hb => by
    have := g.tr b hb
    cases q : H' b with
    | none => exact absurd q this
    | some o => rw [e b o q]; intro z; cases z⟩
theorem Tr.same {M : List Addr} {H H' : Hp} (t : Tr M H) (e : Same H H') : Tr M H' := (Go.refl t).same e |>.tr
theorem Go.mn {M M' : List Addr} {H H' : Hp} (g : Go M H M' H') : Same (mn M H) (mn M' H') := fun b o h => by
  obtain ⟨h1, h2⟩ := mn_some h
  have hb : b ∉ M' := fun z => by
    rcases g.new b z with q | q
    · exact h1 q
    · rw [q] at h2; cases h2
  rw [mn_out hb]
  exact g.le b o hb h2
section
variable {K : PySem.W.Frag} {M M' : List Addr} {H H' : Hp}
theorem dm_go {v : V} {d : PyData} (h : Dm K M H v d) (g : Go M H M' H') : Dm K M' H' v d := Da.same g.mn _ _ h
theorem dms_go {vs : List V} {ds : List PyData} (h : Dms K M H vs ds) (g : Go M H M' H') : Dms K M' H' vs ds := Das.same g.mn _ _ h
theorem dm_same {v : V} {d : PyData} (h : Dm K M H v d) (t : Tr M H) (e : Same H H') : Dm K M H' v d := dm_go h ((Go.refl t).same e)
theorem dm_h {v : V} {d : PyData} (h : Dm K M H v d) : Da K H v d := Da.same mn_same _ _ h
theorem dms_h {vs : List V} {ds : List PyData} (h : Dms K M H vs ds) : Das K H vs ds := Das.same mn_same _ _ h
/-- a new object that is no longer changed -/
theorem go_new {p : Addr} {o : HO} (t : Tr M H) (hp : H p = none) : Go M H M (upd H p o) := (Go.refl t).same (fun b u e => by
  rw [upd_ne (ne_of_none e hp)]
  exact e)
/-- a new object that is to be changed -/
theorem go_mut {p : Addr} {o : HO} (t : Tr M H) (hp : H p = none) : Go M H (p :: M) (upd H p o) where
  sub := fun b h => List.mem_cons_of_mem _ h
  new := fun b h => by
    rcases List.mem_cons.mp h with rfl | h
    · exact .inr hp
    · exact .inl h
  le := fun b u hb e => by
    have hne : b ≠ p := fun z => hb (by rw [z]; exact List.mem_cons_self ..)
    rw [upd_ne hne]
    exact e
  tr := fun b h => by
    by_cases hb : b = p
    · subst hb
      rw [upd_same]
      intro z; cases z
    · rw [upd_ne hb]
      exact t b ((List.mem_cons.mp h).resolve_left hb)
/-- a change at one of M -/
theorem go_set {p : Addr} {o : HO} (t : Tr M H) (hp : p ∈ M) : Go M H M (upd H p o) where
  sub := fun _ h => h
  new := fun _ h => .inl h
  le := fun b u hb e => by
    have hne : b ≠ p := fun z => hb (by rw [z]; exact hp)
    rw [upd_ne hne]
    exact e
  tr := fun b h => by
    by_cases hb : b = p
    · subst hb
      rw [upd_same]
      intro z; cases z
    · rw [upd_ne hb]
      exact t b h
theorem same_new {p : Addr} {o : HO} (hp : H p = none) : Same H (upd H p o) := fun b u e => by
  rw [upd_ne (ne_of_none e hp)]
  exact e
theorem dm_newT {p : Addr} {vs : List V} {ds : List PyData} (t : Tr M H) (hp : H p = none) (h : Dms K M H vs ds) : Dm K M (upd H p (.tup vs)) (.ref p) (.tuple ds) := by
  have hM : p ∉ M := fun z => absurd hp (t p z)
  refine .tup (.inl (.inl ?_)) (dms_go h (go_new t hp))
  rw [mn_out hM, upd_same]
theorem dm_newL {p : Addr} {vs : List V} {ds : List PyData} (t : Tr M H) (hp : H p = none) (h : Dms K M H vs ds) : Dm K M (upd H p (.lst vs)) (.ref p) (.list ds) := by
  have hM : p ∉ M := fun z => absurd hp (t p z)
  refine .lst ?_ (dms_go h (go_new t hp))
  rw [mn_out hM, upd_same]
end

/-! ### what an expression, a test, arguments are worth, nothing tracked being changed -/
section
variable (K : PySem.W.Frag) (M : List Addr)
def Ev (te : TE) (σ : S) (H : Hp) (d : PyData) : Prop := ∀ M' H1, Go M H M' H1 → ∀ Q : VK, (∀ v H2, Same H1 H2 → Dm K M' H2 v d → Q v H2) → te σ H1 Q
def Eb (tt : TT) (σ : S) (H : Hp) (b : Bool) : Prop := ∀ M' H1, Go M H M' H1 → ∀ Q : Bool → Hp → Prop, (∀ H2, Same H1 H2 → Q b H2) → tt σ H1 Q
def Ea (ta : TA) (σ : S) (H : Hp) (ds : List PyData) : Prop := ∀ M' H1, Go M H M' H1 → ∀ Q : List V → Hp → Prop, (∀ vs H2, Same H1 H2 → Dms K M' H2 vs ds → Q vs H2) → ta σ H1 Q
def Eo (to : TO) (σ : S) (H : Hp) (o : Option Int) : Prop := ∀ M' H1, Go M H M' H1 → ∀ Q : Option Int → Hp → Prop, (∀ H2, Same H1 H2 → Q o H2) → to σ H1 Q
end
section
variable {K : PySem.W.Frag} {M M' : List Addr} {σ : S} {H H' : Hp} {ta tb te tc : TE} {tt tu : TT} {as : TA} {d e f : PyData} {ds es : List PyData} {r : R2} {x y : V}
theorem Ev.mono (h : Ev K M te σ H d) (g : Go M H M' H') : Ev K M' te σ H' d := fun M2 H1 k Q q => h M2 H1 (g.trans k) Q q
theorem Eb.mono {b : Bool} (h : Eb M tt σ H b) (g : Go M H M' H') : Eb M' tt σ H' b := fun M2 H1 k Q q => h M2 H1 (g.trans k) Q q
theorem Ev.is (h : Ev K M te σ H d) (z : d = e) : Ev K M te σ H e := z ▸ h
theorem Eb.is {b c : Bool} (h : Eb M tt σ H b) (z : b = c) : Eb M tt σ H c := z ▸ h
theorem ev_var {i : Nat} (h : σ[i]? = some (some x)) (hd : Dm K M H x d) : Ev K M (tVar i) σ H d := fun M2 H1 g Q q => ⟨x, h, q x H1 (Same.refl _) (dm_go hd g)⟩
theorem ev_int {i : Int} : Ev K M (tC (.int i)) σ H (.int i) := fun M2 H1 g Q q => q _ _ (Same.refl _) (.int i)
theorem ev_bl {b : Bool} : Ev K M (tC (.bl b)) σ H (.bool b) := fun M2 H1 g Q q => q _ _ (Same.refl _) (.bl b)
theorem ev_non : Ev K M (tC .non) σ H .none := fun M2 H1 g Q q => q _ _ (Same.refl _) .non
theorem ev_str {z : Str} : Ev K M (tC (.str z)) σ H (.str z) := fun M2 H1 g Q q => q _ _ (Same.refl _) (.str z)
theorem ea_nil : Ea K M tNil σ H [] := fun M2 H1 g Q q => q _ _ (Same.refl _) .nil
theorem ea_cons (h : Ev K M te σ H d) (k : Ea K M as σ H ds) : Ea K M (tCons te as) σ H (d :: ds) := fun M2 H1 g Q q =>
  h M2 H1 g _ fun v H2 e2 d2 => k M2 H2 (g.same e2) _ fun vs H3 e3 d3 => q _ _ (e2.trans e3) (.cons (dm_same d2 (g.same e2).tr e3) d3)
theorem ev_tup (h : Ea K M as σ H ds) (hz : ds.length ≤ sizeLine) : Ev K M (tTup as) σ H (.tuple ds) := fun M2 H1 g Q q =>
  h M2 H1 g _ fun vs H2 e2 d2 => ⟨by rw [d2.length]; exact hz, fun p hp => q _ _ (e2.trans (same_new hp)) (dm_newT (g.same e2).tr hp d2)⟩
theorem ev_lst (h : Ea K M as σ H ds) (hz : ds.length ≤ sizeLine) : Ev K M (tLst as) σ H (.list ds) := fun M2 H1 g Q q =>
  h M2 H1 g _ fun vs H2 e2 d2 => ⟨by rw [d2.length]; exact hz, fun p hp => q _ _ (e2.trans (same_new hp)) (dm_newL (g.same e2).tr hp d2)⟩
/-- a two-place operation by its operands' data -/
theorem ev_op (ha : Ev K M ta σ H d) (hb : Ev K M tb σ H e)
    (hr : ∀ M' H1 x y, Go M H M' H1 → Dm K M' H1 x d → Dm K M' H1 y e → ∀ Q : VK, (∀ v H2, Same H1 H2 → Dm K M' H2 v f → Q v H2) → r x y H1 Q) : Ev K M (tOp r ta tb) σ H f := fun M2 H1 g Q q =>
  ha M2 H1 g _ fun v H2 e2 d2 => hb M2 H2 (g.same e2) _ fun u H3 e3 d3 => hr M2 H3 v u ((g.same e2).same e3) (dm_same d2 (g.same e2).tr e3) d3 Q fun w H4 e4 d4 => q w H4 ((e2.trans e3).trans e4) d4
theorem ev_un {r : V → Hp → VK → Prop} (ha : Ev K M ta σ H d)
    (hr : ∀ M' H1 x, Go M H M' H1 → Dm K M' H1 x d → ∀ Q : VK, (∀ v H2, Same H1 H2 → Dm K M' H2 v f → Q v H2) → r x H1 Q) : Ev K M (tUn r ta) σ H f := fun M2 H1 g Q q =>
  ha M2 H1 g _ fun v H2 e2 d2 => hr M2 H2 v (g.same e2) d2 Q fun w H4 e4 d4 => q w H4 (e2.trans e4) d4
theorem ev_cb {r : List V → Hp → VK → Prop} (ha : Ea K M as σ H ds)
    (hr : ∀ M' H1 vs, Go M H M' H1 → Dms K M' H1 vs ds → ∀ Q : VK, (∀ v H2, Same H1 H2 → Dm K M' H2 v f → Q v H2) → r vs H1 Q) : Ev K M (tCB r as) σ H f := fun M2 H1 g Q q =>
  ha M2 H1 g _ fun v H2 e2 d2 => hr M2 H2 v (g.same e2) d2 Q fun w H4 e4 d4 => q w H4 (e2.trans e4) d4
theorem ev_I0 {g : Int → Int → Int} {i j : Int} (ha : Ev K M ta σ H (.int i)) (hb : Ev K M tb σ H (.int j)) : Ev K M (tOp (rI0 fun i j => .int (g i j)) ta tb) σ H (.int (g i j)) :=
  ev_op ha hb fun M2 H1 x y gg dx dy Q q => ⟨i, j, dx.intV, dy.intV, q _ _ (Same.refl _) (.int _)⟩
theorem ev_I {C : Int → Int → Prop} {g : Int → Int → Int} {i j : Int} (ha : Ev K M ta σ H (.int i)) (hb : Ev K M tb σ H (.int j)) (hc : C i j) : Ev K M (tOp (rI C fun i j => .int (g i j)) ta tb) σ H (.int (g i j)) :=
  ev_op ha hb fun M2 H1 x y gg dx dy Q q => ⟨i, j, dx.intV, dy.intV, hc, q _ _ (Same.refl _) (.int _)⟩
theorem ev_B0 {g : Int → Int → Bool} {i j : Int} (ha : Ev K M ta σ H (.int i)) (hb : Ev K M tb σ H (.int j)) : Ev K M (tOp (rI0 fun i j => .bl (g i j)) ta tb) σ H (.bool (g i j)) :=
  ev_op ha hb fun M2 H1 x y gg dx dy Q q => ⟨i, j, dx.intV, dy.intV, q _ _ (Same.refl _) (.bl _)⟩
theorem ev_neg {g : Int → Int} {i : Int} (ha : Ev K M ta σ H (.int i)) : Ev K M (tUn (rU fun i => .int (g i)) ta) σ H (.int (g i)) :=
  ev_un ha fun M2 H1 x gg dx Q q => ⟨i, dx.intV, q _ _ (Same.refl _) (.int _)⟩
theorem ev_eqD (ha : Ev K M ta σ H d) (hb : Ev K M tb σ H e) (sd : SeqAt.shaped d = true) (se : SeqAt.shaped e = true) : Ev K M (tOp (rEqD K) ta tb) σ H (.bool (PyData.eqv d e)) :=
  ev_op ha hb fun M2 H1 x y gg dx dy Q q => ⟨d, e, Da.dp _ _ (dm_h dx), Da.dp _ _ (dm_h dy), sd, se, q _ _ (Same.refl _) (.bl _)⟩
theorem ev_neD (ha : Ev K M ta σ H d) (hb : Ev K M tb σ H e) (sd : SeqAt.shaped d = true) (se : SeqAt.shaped e = true) : Ev K M (tOp (rNeD K) ta tb) σ H (.bool (!PyData.eqv d e)) :=
  ev_op ha hb fun M2 H1 x y gg dx dy Q q => ⟨d, e, Da.dp _ _ (dm_h dx), Da.dp _ _ (dm_h dy), sd, se, q _ _ (Same.refl _) (.bl _)⟩
def isNone : PyData → Bool
  | .none => true
  | _ => false
theorem da_none {v : V} (h : Da K H v d) : decide (v = .non) = isNone d := by
  cases h <;> rfl
theorem ev_isN (ha : Ev K M ta σ H d) : Ev K M (tIsN ta) σ H (.bool (isNone d)) := fun M2 H1 g Q q =>
  ha M2 H1 g _ fun v H2 e2 d2 => by
    show Q (.bl (decide (v = .non))) H2
    rw [da_none d2]
    exact q _ _ e2 (.bl _)
theorem ev_notN (ha : Ev K M ta σ H d) : Ev K M (tNotN ta) σ H (.bool (!isNone d)) := fun M2 H1 g Q q =>
  ha M2 H1 g _ fun v H2 e2 d2 => by
    show Q (.bl (!decide (v = .non))) H2
    rw [da_none d2]
    exact q _ _ e2 (.bl _)
theorem Das.atI {vs : List V} {i : Int} (h : Das K H vs ds) (e : L2.atI ds i = some d) : ∃ v, L2.atI vs i = some v ∧ Da K H v d := by
  unfold L2.atI at e ⊢
  rw [h.length]
  cases q : ixN ds.length i with
  | none => rw [q] at e; cases e
  | some j =>
    rw [q] at e
    exact h.get e
theorem ev_ixT {i : Int} (ha : Ev K M ta σ H (.tuple ds)) (hb : Ev K M tb σ H (.int i)) (hi : L2.atI ds i = some d) : Ev K M (tOp (rIxT K) ta tb) σ H d :=
  ev_op ha hb fun M2 H1 x y gg dx dy Q q => by
    cases dx with
    | @tup a xs _ hs hd =>
      obtain ⟨v, e1, e2⟩ := hd.atI hi
      exact ⟨a, xs, i, v, rfl, dy.intV, same_sqt mn_same hs, e1, q _ _ (Same.refl _) e2⟩
theorem ev_ixL {i : Int} (ha : Ev K M ta σ H (.list ds)) (hb : Ev K M tb σ H (.int i)) (hi : L2.atI ds i = some d) : Ev K M (tOp (rIxL K) ta tb) σ H d :=
  ev_op ha hb fun M2 H1 x y gg dx dy Q q => by
    cases dx with
    | @lst a xs _ hs hd =>
      obtain ⟨v, e1, e2⟩ := hd.atI hi
      exact ⟨a, xs, i, v, rfl, dy.intV, SqL.of (mn_same _ _ hs), e1, q _ _ (Same.refl _) e2⟩
theorem ev_len (ha : Ev K M ta σ H d) (hd : d = .list ds ∨ d = .tuple ds) : Ev K M (tCB (fun xs H Q => ∃ p ys, xs = [V.ref p] ∧ (SqL K H p ys ∨ SqT K H p ys) ∧ Q (.int ys.length) H) (tCons ta tNil)) σ H (.int ds.length) :=
  ev_cb (ea_cons ha ea_nil) fun M2 H1 vs gg dv Q q => by
    cases dv with
    | cons h1 h2 =>
      cases h2
      rcases hd with rfl | rfl
      · cases h1 with
        | @lst a xs _ hs hx => exact ⟨a, xs, rfl, .inl (SqL.of (mn_same _ _ hs)), by rw [hx.length]; exact q _ _ (Same.refl _) (.int _)⟩
      · cases h1 with
        | @tup a xs _ hs hx => exact ⟨a, xs, rfl, .inr (same_sqt mn_same hs), by rw [hx.length]; exact q _ _ (Same.refl _) (.int _)⟩
/-! tests -/
theorem eb_test {b : Bool} (h : Ev K M te σ H (.bool b)) : Eb M (tTest te) σ H b := fun M2 H1 g Q q => h M2 H1 g _ fun v H2 e2 d2 => ⟨b, d2.blV, q H2 e2⟩
theorem eb_B {b : Bool} (h : Ev K M te σ H (.bool b)) : Eb M (tB te) σ H b := fun M2 H1 g Q q => h M2 H1 g _ fun v H2 e2 d2 => ⟨b, d2.blV, q H2 e2⟩
theorem eb_and {a b : Bool} (h1 : Eb M tt σ H a) (h2 : a = true → Eb M tu σ H b) : Eb M (tAnd tt tu) σ H (a && b) := fun M2 H1 g Q q => h1 M2 H1 g _ fun H2 e2 => by
  cases a with
  | true => exact h2 rfl M2 H2 (g.same e2) Q fun H3 e3 => q H3 (e2.trans e3)
  | false => exact q H2 e2
theorem eb_or {a b : Bool} (h1 : Eb M tt σ H a) (h2 : a = false → Eb M tu σ H b) : Eb M (tOr tt tu) σ H (a || b) := fun M2 H1 g Q q => h1 M2 H1 g _ fun H2 e2 => by
  cases a with
  | true => exact q H2 e2
  | false => exact h2 rfl M2 H2 (g.same e2) Q fun H3 e3 => q H3 (e2.trans e3)
theorem eb_not {a : Bool} (h1 : Eb M tt σ H a) : Eb M (tNot tt) σ H (!a) := fun M2 H1 g Q q => h1 M2 H1 g _ fun H2 e2 => q H2 e2
theorem eb_yes : Eb M tYes σ H true := fun M2 H1 g Q q => q _ (Same.refl _)
theorem ev_andV {a b : Bool} (h1 : Ev K M ta σ H (.bool a)) (h2 : a = true → Ev K M tb σ H (.bool b)) : Ev K M (tAndV ta tb) σ H (.bool (a && b)) := fun M2 H1 g Q q => h1 M2 H1 g _ fun v H2 e2 d2 => ⟨a, d2.blV, by
  cases a with
  | true => exact h2 rfl M2 H2 (g.same e2) Q fun v H3 e3 d3 => q v H3 (e2.trans e3) d3
  | false => exact q _ H2 e2 (.bl _)⟩
theorem ev_orV {a b : Bool} (h1 : Ev K M ta σ H (.bool a)) (h2 : a = false → Ev K M tb σ H (.bool b)) : Ev K M (tOrV ta tb) σ H (.bool (a || b)) := fun M2 H1 g Q q => h1 M2 H1 g _ fun v H2 e2 d2 => ⟨a, d2.blV, by
  cases a with
  | true => exact q _ H2 e2 (.bl _)
  | false => exact h2 rfl M2 H2 (g.same e2) Q fun v H3 e3 d3 => q v H3 (e2.trans e3) d3⟩
theorem ev_notV {a : Bool} (h1 : Ev K M ta σ H (.bool a)) : Ev K M (tNotV ta) σ H (.bool (!a)) := fun M2 H1 g Q q => h1 M2 H1 g _ fun v H2 e2 d2 => ⟨a, d2.blV, q _ H2 e2 (.bl _)⟩
theorem ev_if {b : Bool} (h : Eb M tt σ H b) (h1 : b = true → Ev K M ta σ H d) (h2 : b = false → Ev K M tb σ H d) : Ev K M (tIf tt ta tb) σ H d := fun M2 H1 g Q q => h M2 H1 g _ fun H2 e2 => by
  cases b with
  | true => exact h1 rfl M2 H2 (g.same e2) Q fun v H3 e3 d3 => q v H3 (e2.trans e3) d3
  | false => exact h2 rfl M2 H2 (g.same e2) Q fun v H3 e3 d3 => q v H3 (e2.trans e3) d3
/-! calls of built-ins -/
theorem ev_int1 {i : Int} (ha : Ev K M ta σ H (.int i)) : Ev K M (tCB (fun xs H Q => (∃ i, xs = [V.int i] ∧ Q (.int i) H) ∨ ∃ k, xs = [V.bl k] ∧ Q (.int (if k then 1 else 0)) H) (tCons ta tNil)) σ H (.int i) :=
  ev_cb (ea_cons ha ea_nil) fun M2 H1 vs gg dv Q q => by
    cases dv with
    | cons h1 h2 =>
      cases h2
      cases h1
      exact .inl ⟨i, rfl, q _ _ (Same.refl _) (.int _)⟩
theorem ev_intB {k : Bool} (ha : Ev K M ta σ H (.bool k)) : Ev K M (tCB (fun xs H Q => (∃ i, xs = [V.int i] ∧ Q (.int i) H) ∨ ∃ k, xs = [V.bl k] ∧ Q (.int (if k then 1 else 0)) H) (tCons ta tNil)) σ H (.int (if k then 1 else 0)) :=
  ev_cb (ea_cons ha ea_nil) fun M2 H1 vs gg dv Q q => by
    cases dv with
    | cons h1 h2 =>
      cases h2
      cases h1
      exact .inr ⟨k, rfl, q _ _ (Same.refl _) (.int _)⟩
theorem ev_abs {i : Int} (ha : Ev K M ta σ H (.int i)) : Ev K M (tCB (fun xs H Q => ∃ i, xs = [V.int i] ∧ Q (.int (if i < 0 then -i else i)) H) (tCons ta tNil)) σ H (.int (if i < 0 then -i else i)) :=
  ev_cb (ea_cons ha ea_nil) fun M2 H1 vs gg dv Q q => by
    cases dv with
    | cons h1 h2 =>
      cases h2
      cases h1
      exact ⟨i, rfl, q _ _ (Same.refl _) (.int _)⟩
theorem ev_max2 {g : Int → Int → Int} {i j : Int} (ha : Ev K M ta σ H (.int i)) (hb : Ev K M tb σ H (.int j)) : Ev K M (tCB (fun xs H Q => ∃ i j, xs = [V.int i, V.int j] ∧ Q (.int (g i j)) H) (tCons ta (tCons tb tNil))) σ H (.int (g i j)) :=
  ev_cb (ea_cons ha (ea_cons hb ea_nil)) fun M2 H1 vs gg dv Q q => by
    cases dv with
    | cons h1 h2 =>
      cases h2 with
      | cons h2 h3 =>
        cases h3
        cases h1
        cases h2
        exact ⟨i, j, rfl, q _ _ (Same.refl _) (.int _)⟩
theorem ev_listOf (ha : Ev K M ta σ H d) (hd : d = .list ds ∨ d = .tuple ds) : Ev K M (tCB (fun xs H Q => ∃ p ys, xs = [V.ref p] ∧ (SqL K H p ys ∨ SqT K H p ys) ∧ ∀ l, H l = none → Q (.ref l) (upd H l (.lst ys))) (tCons ta tNil)) σ H (.list ds) :=
  ev_cb (ea_cons ha ea_nil) fun M2 H1 vs gg dv Q q => by
    cases dv with
    | cons h1 h2 =>
      cases h2
      rcases hd with rfl | rfl
      · cases h1 with
        | @lst a xs _ hs hx => exact ⟨a, xs, rfl, .inl (SqL.of (mn_same _ _ hs)), fun l hl => q _ _ (same_new hl) (dm_newL gg.tr hl hx)⟩
      · cases h1 with
        | @tup a xs _ hs hx => exact ⟨a, xs, rfl, .inr (same_sqt mn_same hs), fun l hl => q _ _ (same_new hl) (dm_newL gg.tr hl hx)⟩
theorem ev_tupOf (ha : Ev K M ta σ H d) (hd : d = .list ds ∨ d = .tuple ds) : Ev K M (tCB (fun xs H Q => ∃ p ys, xs = [V.ref p] ∧ ((SqL K H p ys ∧ ∀ l, H l = none → Q (.ref l) (upd H l (.tup ys))) ∨ (SqT K H p ys ∧ Q (.ref p) H))) (tCons ta tNil)) σ H (.tuple ds) :=
  ev_cb (ea_cons ha ea_nil) fun M2 H1 vs gg dv Q q => by
    cases dv with
    | cons h1 h2 =>
      cases h2
      rcases hd with rfl | rfl
      · cases h1 with
        | @lst a xs _ hs hx => exact ⟨a, xs, rfl, .inl ⟨SqL.of (mn_same _ _ hs), fun l hl => q _ _ (same_new hl) (dm_newT gg.tr hl hx)⟩⟩
      · cases h1 with
        | @tup a xs _ hs hx => exact ⟨a, xs, rfl, .inr ⟨same_sqt mn_same hs, q _ _ (Same.refl _) (.tup hs hx)⟩⟩
theorem ev_repr (ha : Ev K M ta σ H d) (hd : (∃ ds, d = .list ds) ∨ (∃ ds, d = .tuple ds)) (h1 : d.showable = true) (h2 : d.hasDict = false) (h3 : d.depth ≤ 60) (h4 : d.shown.length ≤ sizeLine) : Ev K M (tCB (rReprD K) (tCons ta tNil)) σ H (.str d.shown) :=
  ev_cb (ea_cons ha ea_nil) fun M2 H1 vs gg dv Q q => by
    cases dv with
    | cons g1 g2 =>
      cases g2
      rename_i v0
      have hv : ∃ a, v0 = V.ref a := by
        rcases hd with ⟨ds, rfl⟩ | ⟨ds, rfl⟩
        · cases g1; exact ⟨_, rfl⟩
        · cases g1; exact ⟨_, rfl⟩
      obtain ⟨a, rfl⟩ := hv
      exact ⟨a, d, rfl, Da.dp _ _ (dm_h g1), h1, h2, h3, h4, q _ _ (Same.refl _) (.str _)⟩
/-! slices, sums -/
def cutPd (xs : List PyData) (lo hi : Option Int) : List PyData := (xs.drop (HT.sIx xs.length 0 lo)).take (HT.sIx xs.length xs.length hi - HT.sIx xs.length 0 lo)
theorem eo_none : Eo M tNoPart σ H none := fun M2 H1 g Q q => q _ (Same.refl _)
theorem eo_some {i : Int} (h : Ev K M te σ H (.int i)) : Eo M (tPart te) σ H (some i) := fun M2 H1 g Q q => h M2 H1 g _ fun v H2 e2 d2 => ⟨i, d2.intV, q _ e2⟩
theorem Das.cut {vs : List V} (h : Das K H vs ds) (lo hi : Option Int) : Das K H (cutV vs lo hi) (cutPd ds lo hi) := by
  unfold cutV cutPd
  rw [h.length]
  exact (h.drop _).take _
theorem ev_slL {tl th : TO} {lo hi : Option Int} (ha : Ev K M te σ H (.list ds)) (hl : Eo M tl σ H lo) (hh : Eo M th σ H hi) : Ev K M (tSl (rSlL K) te tl th) σ H (.list (cutPd ds lo hi)) := fun M2 H1 g Q q =>
  ha M2 H1 g _ fun v H2 e2 d2 => hl M2 H2 (g.same e2) _ fun H3 e3 => hh M2 H3 ((g.same e2).same e3) _ fun H4 e4 => by
    have d4 := dm_same d2 (g.same e2).tr (e3.trans e4)
    have t4 := (((g.same e2).same e3).same e4).tr
    cases d4 with
    | @lst a xs _ hs hx => exact ⟨a, xs, rfl, SqL.of (mn_same _ _ hs), fun p hp => q _ _ (((e2.trans e3).trans e4).trans (same_new hp)) (dm_newL t4 hp (hx.cut lo hi))⟩
theorem ev_slT {tl th : TO} {lo hi : Option Int} (ha : Ev K M te σ H (.tuple ds)) (hl : Eo M tl σ H lo) (hh : Eo M th σ H hi) : Ev K M (tSl (rSlA K) te tl th) σ H (.tuple (cutPd ds lo hi)) := fun M2 H1 g Q q =>
  ha M2 H1 g _ fun v H2 e2 d2 => hl M2 H2 (g.same e2) _ fun H3 e3 => hh M2 H3 ((g.same e2).same e3) _ fun H4 e4 => by
    have d4 := dm_same d2 (g.same e2).tr (e3.trans e4)
    have t4 := (((g.same e2).same e3).same e4).tr
    have e5 := (e2.trans e3).trans e4
    cases d4 with
    | @tup a xs _ hs hx =>
      refine ⟨a, xs, rfl, same_sqt mn_same hs, fun w => ?_, fun w p hp => q _ _ (e5.trans (same_new hp)) (dm_newT t4 hp (hx.cut lo hi))⟩
      have hw : cutPd ds lo hi = ds := by
        rw [hx.length] at w
        unfold cutPd
        rw [w.1, w.2]
        simp
      rw [hw] at q
      exact q _ _ e5 (.tup hs hx)
theorem ev_revL (ha : Ev K M te σ H (.list ds)) : Ev K M (tRevL K te) σ H (.list ds.reverse) := fun M2 H1 g Q q =>
  ha M2 H1 g _ fun v H2 e2 d2 => by
    have t2 := (g.same e2).tr
    cases d2 with
    | @lst a xs _ hs hx => exact ⟨a, xs, rfl, SqL.of (mn_same _ _ hs), fun p hp => q _ _ (e2.trans (same_new hp)) (dm_newL t2 hp hx.reverse)⟩
theorem ev_cat (ha : Ev K M ta σ H (.list ds)) (hb : Ev K M tb σ H (.list es)) (hz : ds.length + es.length ≤ sizeLine) : Ev K M (tOp rCat ta tb) σ H (.list (ds ++ es)) :=
  ev_op ha hb fun M2 H1 x y gg dx dy Q q => by
    cases dx with
    | @lst a xs _ hs hx =>
      cases dy with
      | @lst b ys _ ks ky => exact ⟨a, b, xs, ys, rfl, rfl, mn_same _ _ hs, mn_same _ _ ks, by rw [hx.length, ky.length]; exact hz, fun p hp => q _ _ (same_new hp) (dm_newL gg.tr hp (hx.append ky))⟩
theorem ev_catT (ha : Ev K M ta σ H (.tuple ds)) (hb : Ev K M tb σ H (.tuple es)) (hz : ds.length + es.length ≤ sizeLine) : Ev K M (tOp (rCatA K) ta tb) σ H (.tuple (ds ++ es)) :=
  ev_op ha hb fun M2 H1 x y gg dx dy Q q => by
    cases dx with
    | @tup a xs _ hs hx =>
      cases dy with
      | @tup b ys _ ks ky =>
        refine ⟨a, b, xs, ys, rfl, rfl, same_sqt mn_same hs, same_sqt mn_same ks, by rw [hx.length, ky.length]; exact hz, fun z => ?_, fun z z2 => ?_, fun z z2 p hp => q _ _ (same_new hp) (dm_newT gg.tr hp (hx.append ky))⟩
        · subst z
          cases hx
          exact q _ _ (Same.refl _) (.tup ks ky)
        · subst z2
          cases ky
          rw [List.append_nil] at q
          exact q _ _ (Same.refl _) (.tup hs hx)
def repD (ds : List PyData) (k : Nat) : List PyData := (List.replicate k ds).flatten
theorem ev_inD (ha : Ev K M ta σ H d) (hb : Ev K M tb σ H (.list ds)) (sd : SeqAt.shaped d = true) (se : SeqAt.shaped (.list ds) = true) : Ev K M (tOp (rInD K) ta tb) σ H (.bool (ds.any fun z => PyData.eqv z d)) :=
  ev_op ha hb fun M2 H1 x y gg dx dy Q q => ⟨d, ds, Da.dp _ _ (dm_h dx), Da.dp _ _ (dm_h dy), sd, se, q _ _ (Same.refl _) (.bl _)⟩
theorem ev_notInD (ha : Ev K M ta σ H d) (hb : Ev K M tb σ H (.list ds)) (sd : SeqAt.shaped d = true) (se : SeqAt.shaped (.list ds) = true) : Ev K M (tOp (rNotInD K) ta tb) σ H (.bool (!ds.any fun z => PyData.eqv z d)) :=
  ev_op ha hb fun M2 H1 x y gg dx dy Q q => ⟨d, ds, Da.dp _ _ (dm_h dx), Da.dp _ _ (dm_h dy), sd, se, q _ _ (Same.refl _) (.bl _)⟩
end
end Dq

/-! walks, comprehensions, statements, draws, calls -/
namespace Dq
open PySem PySem.Spec PyProof.Rows L2 Gd

/-! ### what is walked -/
def Wk (K : PySem.W.Frag) (M : List Addr) (wi : TI) (σ : S) (H : Hp) (n : Nat) (it : Nat → PyData) : Prop :=
  ∀ M' H1, Go M H M' H1 → ∀ R : It → Hp → Prop, (∀ J H2 G Y, Same H1 H2 → Walk J n G Y → (∀ M3 H3, Go M' H2 M3 H3 → G H3) →
    (∀ M3 i H3 x H4, Go M' H2 M3 H3 → i < n → Y i H3 x H4 → Same H3 H4 ∧ Dm K M3 H4 x (it i)) → R J H2) → wi σ H1 R
def at0 (ds : List PyData) (i : Nat) : PyData := ds.getD i .none
theorem at0_get {ds : List PyData} {i : Nat} (h : i < ds.length) : ds[i]? = some (at0 ds i) := by
  unfold at0
  rw [List.getD_eq_getElem?_getD, List.getElem?_eq_getElem h]
  rfl
section
variable {K : PySem.W.Frag} {M M' : List Addr} {σ : S} {H H' : Hp} {ta tb te tc : TE} {tt tu : TT} {as : TA} {d e f : PyData} {ds es : List PyData} {r : R2} {x y : V} {wi : TI}
theorem wk_list (h : Ev K M te σ H (.list ds)) : Wk K M (iList K te) σ H ds.length (at0 ds) := fun M2 H1 g R k =>
  h M2 H1 g _ fun v H2 e2 d2 => by
    cases d2 with
    | @lst a xs _ hs hx =>
      refine ⟨a, rfl, ⟨xs, SqL.of (mn_same _ _ hs)⟩, ?_⟩
      have w := walk_list (K := K) (a := a) (xs := xs)
      rw [hx.length] at w
      refine k _ _ _ _ e2 w (fun M3 H3 g3 => SqL.of (mn_same _ _ (g3.mn _ _ hs))) fun M3 i H3 z H4 g3 hi hy => ?_
      obtain ⟨rfl, ez⟩ := hy
      obtain ⟨d, e5, e6⟩ := hx.getV ez
      rw [at0_get hi] at e5
      cases e5
      exact ⟨Same.refl _, Da.same g3.mn _ _ e6⟩
theorem wk_tup (h : Ev K M te σ H (.tuple ds)) : Wk K M (iTup K te) σ H ds.length (at0 ds) := fun M2 H1 g R k =>
  h M2 H1 g _ fun v H2 e2 d2 => by
    cases d2 with
    | @tup a xs _ hs hx =>
      refine ⟨a, rfl, ⟨xs, same_sqt mn_same hs⟩, ?_⟩
      have w := walk_tup (K := K) (a := a) (xs := xs)
      rw [hx.length] at w
      refine k _ _ _ _ e2 w (fun M3 H3 g3 => same_sqt mn_same (same_sqt g3.mn hs)) fun M3 i H3 z H4 g3 hi hy => ?_
      obtain ⟨rfl, ez⟩ := hy
      obtain ⟨d, e5, e6⟩ := hx.getV ez
      rw [at0_get hi] at e5
      cases e5
      exact ⟨Same.refl _, Da.same g3.mn _ _ e6⟩
theorem wk_rng1 {n : Int} (h : Ea K M as σ H [.int n]) (h1 : -(2 ^ 62) ≤ n) (h2 : n < 2 ^ 62) : Wk K M (iRng1 as) σ H n.toNat (fun i => .int (i : Nat)) := fun M2 H1 g R k =>
  h M2 H1 g _ fun vs H2 e2 d2 => by
    cases d2 with
    | cons a b =>
      cases a
      cases b
      refine ⟨n, rfl, h1, h2, ?_⟩
      refine k _ _ _ _ e2 walk_range (fun M3 H3 g3 => trivial) fun M3 i H3 z H4 g3 hi hy => ?_
      obtain ⟨rfl, ez⟩ := hy
      refine ⟨Same.refl _, ?_⟩
      rw [ez]
      show Dm K M3 H4 (.int (0 + (i : Nat))) (.int (i : Nat))
      rw [Int.zero_add]
      exact .int _
theorem wk_rng2 {a b : Int} (h : Ea K M as σ H [.int a, .int b]) (h1 : -(2 ^ 62) ≤ a ∧ a < 2 ^ 62 ∧ -(2 ^ 62) ≤ b ∧ b < 2 ^ 62) : Wk K M (iRng2 as) σ H (b - a).toNat (fun i => .int (a + (i : Nat))) := fun M2 H1 g R k =>
  h M2 H1 g _ fun vs H2 e2 d2 => by
    cases d2 with
    | cons p q =>
      cases p
      cases q with
      | cons p q =>
        cases p
        cases q
        refine ⟨a, b, rfl, h1, ?_⟩
        refine k _ _ _ _ e2 walk_range (fun M3 H3 g3 => trivial) fun M3 i H3 z H4 g3 hi hy => ?_
        obtain ⟨rfl, ez⟩ := hy
        refine ⟨Same.refl _, ?_⟩
        rw [ez]
        exact .int _
theorem wk_zip (h : Ea K M as σ H [.list ds, .list es]) : Wk K M (iZip K as) σ H (min ds.length es.length) (fun i => .tuple [at0 ds i, at0 es i]) := fun M2 H1 g R k =>
  h M2 H1 g _ fun vs H2 e2 d2 => by
    cases d2 with
    | cons p q =>
      cases q with
      | cons q q2 =>
        cases q2
        cases p with
        | @lst a xs _ hs hx =>
          cases q with
          | @lst b ys _ ks ky =>
            refine ⟨a, b, xs, ys, rfl, SqL.of (mn_same _ _ hs), SqL.of (mn_same _ _ ks), ?_⟩
            have w := walk_zip (K := K) (a := a) (b := b) (xs := xs) (ys := ys) rfl
            rw [hx.length, ky.length] at w
            refine k _ _ _ _ e2 w (fun M3 H3 g3 => ⟨SqL.of (mn_same _ _ (g3.mn _ _ hs)), SqL.of (mn_same _ _ (g3.mn _ _ ks))⟩) fun M3 i H3 z H4 g3 hi hy => ?_
            obtain ⟨T, u, w, rfl, hT, rfl, e5, e6⟩ := hy
            refine ⟨same_new hT, dm_newT g3.tr hT ?_⟩
            obtain ⟨d1, q1, q2⟩ := hx.getV e5
            obtain ⟨d2, q3, q4⟩ := ky.getV e6
            rw [at0_get (by omega)] at q1 q3
            cases q1
            cases q3
            exact .cons (Da.same g3.mn _ _ q2) (.cons (Da.same g3.mn _ _ q4) .nil)
theorem wk_enum (h : Ea K M as σ H [.list ds]) : Wk K M (iEnum K as) σ H ds.length (fun i => .tuple [.int (i : Nat), at0 ds i]) := fun M2 H1 g R k =>
  h M2 H1 g _ fun vs H2 e2 d2 => by
    cases d2 with
    | cons p q =>
      cases q
      cases p with
      | @lst a xs _ hs hx =>
        refine ⟨a, xs, rfl, SqL.of (mn_same _ _ hs), ?_⟩
        have w := walk_enum (K := K) (a := a) (xs := xs)
        rw [hx.length] at w
        refine k _ _ _ _ e2 w (fun M3 H3 g3 => SqL.of (mn_same _ _ (g3.mn _ _ hs))) fun M3 i H3 z H4 g3 hi hy => ?_
        obtain ⟨T, u, w, rfl, hT, rfl, e5, e6⟩ := hy
        cases e5
        refine ⟨same_new hT, dm_newT g3.tr hT ?_⟩
        obtain ⟨d2, q3, q4⟩ := hx.getV e6
        rw [at0_get hi] at q3
        cases q3
        exact .cons (.int _) (.cons (Da.same g3.mn _ _ q4) .nil)

/-! ### targets -/
/-- how a target takes a thing -/
def Tk (g : TG) (x : V) (σ0 : S) (H : Hp) (σ2 : S) : Prop := ∀ Q : S → Hp → Prop, Q σ2 H → g x σ0 H Q
theorem tk_name {i : Nat} {σ0 : S} : Tk (gName i) x σ0 H (σ0.set i (some x)) := fun Q q => q
theorem tk_pair {i j : Nat} {σ0 : S} {d1 d2 : PyData} (h : Dm K M H x (.tuple [d1, d2])) : ∃ v1 v2, Tk (gTup K 2 (gCons (gName i) (gCons (gName j) gNil))) x σ0 H ((σ0.set i (some v1)).set j (some v2)) ∧ Dm K M H v1 d1 ∧ Dm K M H v2 d2 := by
  cases h with
  | @tup a xs _ hs hx =>
    cases hx with
    | cons h1 h2 =>
      cases h2 with
      | cons h2 h3 =>
        cases h3
        exact ⟨_, _, fun Q q => ⟨a, _, rfl, same_sqt mn_same hs, rfl, _, _, rfl, _, _, rfl, rfl, q⟩, h1, h2⟩

/-! ### comprehensions -/
def given (n : Nat) (f : Nat → Bool) (e : Nat → PyData) : List PyData := ((List.range n).filter f).map e
theorem given_yes {n : Nat} {f : Nat → Bool} {e : Nat → PyData} (h : f n = true) : given (n + 1) f e = given n f e ++ [e n] := by
  unfold given
  rw [List.range_succ, List.filter_append, List.map_append]
  simp [h]
theorem given_no {n : Nat} {f : Nat → Bool} {e : Nat → PyData} (h : f n = false) : given (n + 1) f e = given n f e := by
  unfold given
  rw [List.range_succ, List.filter_append, List.map_append]
  simp [h]
theorem given_le (n : Nat) (f : Nat → Bool) (e : Nat → PyData) : (given n f e).length ≤ n := by
  unfold given
  rw [List.length_map]
  have := List.length_filter_le f (List.range n)
  rw [List.length_range] at this
  exact this
theorem ev_lc {g : TG} {vs : List Nat} {n : Nat} {it : Nat → PyData} (f : Nat → Bool) (el : Nat → PyData) (w : Wk K M wi σ H n it) (hn : n ≤ 1000000)
    (hs : ∀ M' H' i x, Go M H M' H' → i < n → Dm K M' H' x (it i) → ∃ σ2, Tk g x (wipe σ vs) H' σ2 ∧ wipe σ2 vs = wipe σ vs ∧ Eb M' tt σ2 H' (f i) ∧ (f i = true → Ev K M' te σ2 H' (el i))) :
    Ev K M (tLc wi g tt te vs) σ H (.list (given n f el)) := fun M2 H1 g1 Q q =>
  w M2 H1 g1 _ fun J H2 G Y e2 wk hG hY D hD => by
    have g2 : Go M H M2 H2 := g1.same e2
    have DM : D ∉ M2 := fun z => g2.tr D z hD
    have g3 : Go M2 H2 (D :: M2) (upd H2 D (.lst [])) := go_mut g2.tr hD
    refine lc_it wk (fun i H' => Go M2 H2 (D :: M2) H' ∧ Same H2 H' ∧ ∃ acc, H' D = some (.lst acc) ∧ Dms K (D :: M2) H' acc (given i f el) ∧ acc.length ≤ i)
      ⟨g3, same_new hD, [], upd_same, .nil, Nat.le_refl _⟩ (fun i H' _ p => hG _ _ p.1) (fun i z H' H4 hi p hy => ?_) (fun H' p => ?_)
    · obtain ⟨p1, ps, acc, p2, p3, p4⟩ := p
      obtain ⟨e4, d4⟩ := hY _ i H' z H4 p1 hi hy
      have g4 := p1.same e4
      obtain ⟨σ2, t1, t2, t3, t4⟩ := hs _ H4 i z (g2.trans g4) hi d4
      refine t1 _ ⟨t2, t3 _ H4 (Go.refl g4.tr) _ fun H5 e5 => ?_⟩
      have g5 := g4.same e5
      cases hf : f i with
      | true =>
        show te σ2 H5 _
        refine t4 hf _ H5 ((Go.refl g4.tr).same e5) _ fun v H6 e6 d6 => ?_
        have g6 := g5.same e6
        have s6 := (e4.trans e5).trans e6
        have a6 : H6 D = some (.lst acc) := s6 _ _ p2
        refine ⟨acc, a6, Nat.lt_of_le_of_lt p4 (by rw [sizeLine_eq]; omega), ?_⟩
        have g7 : Go M2 H2 (D :: M2) (upd H6 D (.lst (acc ++ [v]))) := g6.trans (go_set g6.tr (List.mem_cons_self ..))
        refine ⟨g7, fun b o hb => ?_, acc ++ [v], upd_same, ?_, ?_⟩
        · rw [upd_ne (ne_of_none hb hD)]
          exact s6 _ _ (ps _ _ hb)
        · rw [given_yes hf]
          have k := go_set (o := .lst (acc ++ [v])) g6.tr (List.mem_cons_self (a := D) (l := M2))
          exact (dms_go p3 (((Go.refl p1.tr).same s6).trans k)).append (.cons (dm_go d6 k) .nil)
        · rw [List.length_append]
          show acc.length + 1 ≤ i + 1
          omega
      | false =>
        show Go M2 H2 (D :: M2) H5 ∧ _
        have s5 := e4.trans e5
        refine ⟨g5, ps.trans s5, acc, s5 _ _ p2, ?_, by omega⟩
        rw [given_no hf]
        exact dms_go p3 ((Go.refl p1.tr).same s5)
    · obtain ⟨p1, ps, acc, p2, p3, p4⟩ := p
      refine q _ _ (e2.trans ps) (.lst (xs := acc) ?_ ?_)
      · rw [mn_out DM]
        exact p2
      · refine Das.same (fun b o hb => ?_) _ _ p3
        obtain ⟨h1, h2⟩ := mn_some hb
        rw [mn_out (fun z => h1 (List.mem_cons_of_mem _ z))]
        exact h2
end

/-! ### statements -/
section
variable {K : PySem.W.Frag} {M M' : List Addr} {σ : S} {H H' : Hp} {te : TE} {tt : TT} {as : TA} {d e : PyData} {ds es : List PyData} {x y : V} {wi : TI} {D : Ends} {t u : TS}
theorem q_asg {i : Nat} (tr : Tr M H) (h : Ev K M te σ H d) (k : ∀ v H1, Same H H1 → Tr M H1 → Dm K M H1 v d → u D (σ.set i (some v)) H1) : tSeq (tAsg te (gName i)) u D σ H :=
  h M H (Go.refl tr) _ fun v H1 e1 d1 => k v H1 e1 (tr.same e1) d1
theorem q_unp {i j : Nat} {d1 d2 : PyData} (tr : Tr M H) (h : Ev K M te σ H (.tuple [d1, d2])) (k : ∀ v w H1, Same H H1 → Tr M H1 → Dm K M H1 v d1 → Dm K M H1 w d2 → u D ((σ.set i (some v)).set j (some w)) H1) :
    tSeq (tAsg te (gTup K 2 (gCons (gName i) (gCons (gName j) gNil)))) u D σ H :=
  h M H (Go.refl tr) _ fun v H1 e1 d1 => by
    obtain ⟨v1, v2, t1, t2, t3⟩ := tk_pair (i := i) (j := j) (σ0 := σ) d1
    exact t1 _ (k v1 v2 H1 e1 (tr.same e1) t2 t3)
theorem q_par {i j : Nat} {d1 d2 : PyData} (tr : Tr M H) (h : Ea K M as σ H [d1, d2]) (k : ∀ v w H1, Same H H1 → Tr M H1 → Dm K M H1 v d1 → Dm K M H1 w d2 → u D ((σ.set i (some v)).set j (some w)) H1) :
    tSeq (tPar i j as) u D σ H :=
  h M H (Go.refl tr) _ fun vs H1 e1 d1 => by
    cases d1 with
    | cons h1 h2 =>
      cases h2 with
      | cons h2 h3 =>
        cases h3
        exact ⟨_, _, rfl, k _ _ H1 e1 (tr.same e1) h1 h2⟩
theorem s_if {b : Bool} {v : TS} (tr : Tr M H) (h : Eb M tt σ H b) (h1 : b = true → ∀ H1, Same H H1 → Tr M H1 → t D σ H1) (h2 : b = false → ∀ H1, Same H H1 → Tr M H1 → v D σ H1) : tIfS tt t v D σ H :=
  h M H (Go.refl tr) _ fun H1 e1 => by
    cases b with
    | true => exact h1 rfl H1 e1 (tr.same e1)
    | false => exact h2 rfl H1 e1 (tr.same e1)
theorem q_if {b : Bool} {v : TS} (tr : Tr M H) (h : Eb M tt σ H b) (h1 : b = true → ∀ H1, Same H H1 → Tr M H1 → t { D with nx := u D } σ H1) (h2 : b = false → ∀ H1, Same H H1 → Tr M H1 → v { D with nx := u D } σ H1) : tSeq (tIfS tt t v) u D σ H :=
  s_if (D := { D with nx := u D }) tr h h1 h2
theorem s_ret (tr : Tr M H) (h : Ev K M te σ H d) (k : ∀ v H1, Same H H1 → Tr M H1 → Dm K M H1 v d → D.rt v H1) : tRet te D σ H :=
  h M H (Go.refl tr) _ fun v H1 e1 d1 => k v H1 e1 (tr.same e1) d1
theorem q_drop (tr : Tr M H) (h : Ev K M te σ H d) (k : ∀ H1, Same H H1 → Tr M H1 → u D σ H1) : tSeq (tDrop te) u D σ H :=
  h M H (Go.refl tr) _ fun v H1 e1 d1 => k H1 e1 (tr.same e1)
/-- a for: the invariant by the heap ahead of it, the turn, the slots and the heap -/
theorem s_for {g : TG} {tb : TS} {n : Nat} {it : Nat → PyData} (tr : Tr M H) (w : Wk K M wi σ H n it) (Pv : Hp → Nat → S → Hp → Prop) (h0 : ∀ H1, Same H H1 → Tr M H1 → Pv H1 0 σ H1) (hG : ∀ H1 i σ' H', Same H H1 → Pv H1 i σ' H' → Go M H1 M H')
    (hs : ∀ H1 i σ' H' x H4, Same H H1 → i < n → Pv H1 i σ' H' → Same H' H4 → Dm K M H4 x (it i) → g x σ' H4 fun σ2 H2 => tb { D with nx := Pv H1 (i + 1), ct := Pv H1 (i + 1), bk := D.nx } σ2 H2)
    (hd : ∀ H1 σ' H', Same H H1 → Pv H1 n σ' H' → D.nx σ' H') : tFor wi g tb D σ H :=
  w M H (Go.refl tr) _ fun J H2 G Y e2 wk hG2 hY => by
    refine for_it wk (Pv H2) (h0 H2 e2 (tr.same e2)) (fun i σ' H' _ p => hG2 _ _ (hG H2 i σ' H' e2 p)) (fun i x σ' H' H4 hi p hy => ?_) (fun σ' H' p => hd H2 σ' H' e2 p)
    obtain ⟨e4, d4⟩ := hY M i H' x H4 (hG H2 i σ' H' e2 p) hi hy
    exact hs H2 i σ' H' x H4 e2 hi p e4 d4
theorem q_for {g : TG} {tb : TS} {n : Nat} {it : Nat → PyData} (tr : Tr M H) (w : Wk K M wi σ H n it) (Pv : Hp → Nat → S → Hp → Prop) (h0 : ∀ H1, Same H H1 → Tr M H1 → Pv H1 0 σ H1) (hG : ∀ H1 i σ' H', Same H H1 → Pv H1 i σ' H' → Go M H1 M H')
    (hs : ∀ H1 i σ' H' x H4, Same H H1 → i < n → Pv H1 i σ' H' → Same H' H4 → Dm K M H4 x (it i) → g x σ' H4 fun σ2 H2 => tb { D with nx := Pv H1 (i + 1), ct := Pv H1 (i + 1), bk := u D } σ2 H2)
    (hd : ∀ H1 σ' H', Same H H1 → Pv H1 n σ' H' → u D σ' H') : tSeq (tFor wi g tb) u D σ H :=
  s_for (D := { D with nx := u D }) tr w Pv h0 hG hs hd
end

/-! ### calls of defs that change nothing: R tells of arguments and answer -/
def spPure (K : PySem.W.Frag) (n : Nat) (R : List PyData → PyData → Prop) : Sp := fun vs H Q _ =>
  ∃ M ds d, Tr M H ∧ Dms K M H vs ds ∧ ds.length = n ∧ R ds d ∧ ∀ v H', Same H H' → Dm K M H' v d → Q v H'
theorem spPure_len {K : PySem.W.Frag} {n : Nat} {R : List PyData → PyData → Prop} : ∀ vs H Q E, spPure K n R vs H Q E → vs.length = n := by
  rintro vs H Q E ⟨M, ds, d, _, h, hl, _⟩
  rw [h.length, hl]
section
variable {K : PySem.W.Frag} {M M' : List Addr} {σ : S} {H H' : Hp} {as : TA} {ds : List PyData} {d : PyData}
theorem ev_val {v : V} (h : Dm K M H v d) : Ev K M (tC v) σ H d := fun M2 H1 g Q q => q v _ (Same.refl _) (dm_go h g)
theorem ev_call {n : Nat} {R : List PyData → PyData → Prop} {E : XK} (h : Ea K M as σ H ds) (hl : ds.length = n) (hp : R ds d) : Ev K M (tCall (spPure K n R) [] E as) σ H d := fun M2 H1 g Q q =>
  h M2 H1 g _ fun vs H2 e2 d2 => by
    rw [List.append_nil]
    exact ⟨M2, ds, d, (g.same e2).tr, d2, hl, hp, fun v H3 e3 d3 => q v H3 (e2.trans e3) d3⟩
end

/-! ### draws: the source's dict at s and its cells at c may change -/
def Kp (s c : Addr) (H H' : Hp) : Prop := ∀ b o, b ≠ s → b ≠ c → H b = some o → H' b = some o
def srcK (c : Addr) (left mixed turn : Int) : List (Key × V) := [(.inr "cells", .ref c), (.inr "left", .int left), (.inr "mixed", .int mixed), (.inr "turn", .int turn)]
def Src (s c : Addr) (H : Hp) : Prop := s ≠ c ∧ ∃ (cells : List Int) (left mixed turn : Int), H s = some (.dK (srcK c left mixed turn)) ∧ H c = some (.lst (cells.map V.int)) ∧ cells.length ≤ 63
theorem Kp.refl {s c : Addr} (H : Hp) : Kp s c H H := fun _ _ _ _ h => h
theorem Kp.trans {s c : Addr} {H H1 H2 : Hp} (a : Kp s c H H1) (b : Kp s c H1 H2) : Kp s c H H2 := fun p o h1 h2 h => b p o h1 h2 (a p o h1 h2 h)
theorem Kp.of {s c : Addr} {H H' : Hp} (e : Same H H') : Kp s c H H' := fun p o _ _ h => e p o h
theorem Src.same {s c : Addr} {H H' : Hp} (h : Src s c H) (e : Same H H') : Src s c H' := by
  obtain ⟨h0, cells, l, m, t, h1, h2, h3⟩ := h
  exact ⟨h0, cells, l, m, t, e _ _ h1, e _ _ h2, h3⟩
theorem Src.nn {s c : Addr} {H : Hp} (h : Src s c H) : H s ≠ none ∧ H c ≠ none := by
  obtain ⟨h0, cells, l, m, t, h1, h2, h3⟩ := h
  refine ⟨fun z => ?_, fun z => ?_⟩
  · rw [h1] at z; cases z
  · rw [h2] at z; cases z
theorem go_kp {M : List Addr} {s c : Addr} {H H' : Hp} (hs : s ∈ M) (hc : c ∈ M) (t : Tr M H) (k : Kp s c H H') (hS : Src s c H') : Go M H M H' where
  sub := fun _ h => h
  new := fun _ h => .inl h
  le := fun b o hb e => k b o (fun z => hb (z ▸ hs)) (fun z => hb (z ▸ hc)) e
  tr := fun b hb => by
    by_cases h1 : b = s
    · rw [h1]; exact hS.nn.1
    · by_cases h2 : b = c
      · rw [h2]; exact hS.nn.2
      · cases q : H b with
        | none => exact absurd q (t b hb)
        | some o => rw [k b o h1 h2 q]; intro z; cases z
def spDraw (K : PySem.W.Frag) (n : Nat) (pre : List PyData → Prop) (post : List PyData → PyData → Prop) : Sp := fun vs H Q _ =>
  ∃ M s c ws ds, vs = .ref s :: ws ∧ s ∈ M ∧ c ∈ M ∧ Src s c H ∧ Tr M H ∧ Dms K M H ws ds ∧ ds.length = n ∧ pre ds ∧
    ∀ v d H', Kp s c H H' → Src s c H' → Dm K M H' v d → post ds d → Q v H'
theorem spDraw_len {K : PySem.W.Frag} {n : Nat} {pre : List PyData → Prop} {post : List PyData → PyData → Prop} : ∀ vs H Q E, spDraw K n pre post vs H Q E → vs.length = n + 1 := by
  rintro vs H Q E ⟨M, s, c, ws, ds, rfl, _, _, _, _, h, hl, _⟩
  rw [List.length_cons, h.length, hl]
/-- an expression that may draw -/
def Dr (K : PySem.W.Frag) (s c : Addr) (M : List Addr) (te : TE) (σ : S) (H : Hp) (P : PyData → Prop) : Prop :=
  ∀ M' H1, Go M H M' H1 → Src s c H1 → ∀ Q : VK, (∀ v d H2, Kp s c H1 H2 → Src s c H2 → Dm K M' H2 v d → P d → Q v H2) → te σ H1 Q
section
variable {K : PySem.W.Frag} {M M' : List Addr} {s c : Addr} {σ : S} {H H' : Hp} {te ta tb : TE} {as : TA} {ds : List PyData} {d : PyData} {P P1 P2 : PyData → Prop} {tt : TT}
theorem dr_ev (h : Ev K M te σ H d) (hp : P d) : Dr K s c M te σ H P := fun M2 H1 g hS Q q => h M2 H1 g _ fun v H2 e2 d2 => q v d H2 (Kp.of e2) (hS.same e2) d2 hp
theorem Dr.imp (h : Dr K s c M te σ H P1) (i : ∀ d, P1 d → P d) : Dr K s c M te σ H P := fun M2 H1 g hS Q q => h M2 H1 g hS _ fun v d H2 k2 s2 d2 p => q v d H2 k2 s2 d2 (i d p)
theorem Dr.mono (h : Dr K s c M te σ H P) (g : Go M H M' H') : Dr K s c M' te σ H' P := fun M2 H1 k => h M2 H1 (g.trans k)
theorem dr_call {n i : Nat} {pre : List PyData → Prop} {post : List PyData → PyData → Prop} {E : XK} (hs : s ∈ M) (hc : c ∈ M) (hv : σ[i]? = some (some (.ref s))) (h : Ea K M as σ H ds) (hl : ds.length = n) (hp : pre ds) :
    Dr K s c M (tCall (spDraw K n pre post) [] E (tCons (tVar i) as)) σ H (post ds) := fun M2 H1 g hS Q q =>
  ⟨.ref s, hv, h M2 H1 g _ fun vs H2 e2 d2 => by
    show spDraw K n pre post ((V.ref s :: vs) ++ []) H2 Q E
    rw [List.append_nil]
    exact ⟨M2, s, c, vs, ds, rfl, g.sub s hs, g.sub c hc, hS.same e2, (g.same e2).tr, d2, hl, hp, fun v d H3 k3 s3 d3 p => q v d H3 ((Kp.of e2).trans k3) s3 d3 p⟩⟩
/-- first one thing is drawn, then what stands around it -/
theorem dr_bind {C : TE → TE} (hs : s ∈ M) (hc : c ∈ M) (hC : ∀ H1 Q, (ta σ H1 fun x H2 => C (tC x) σ H2 Q) → C ta σ H1 Q) (h : Dr K s c M ta σ H P1)
    (k : ∀ M' H' x d, Go M H M' H' → Src s c H' → Dm K M' H' x d → P1 d → Dr K s c M' (C (tC x)) σ H' P) : Dr K s c M (C ta) σ H P := fun M2 H1 g hS Q q =>
  hC H1 Q (h M2 H1 g hS _ fun x d H2 k2 s2 d2 p => by
    have g2 : Go M H M2 H2 := g.trans (go_kp (g.sub s hs) (g.sub c hc) g.tr k2 s2)
    exact k M2 H2 x d g2 s2 d2 p M2 H2 (Go.refl g2.tr) s2 Q fun v e H3 k3 s3 d3 p3 => q v e H3 (k2.trans k3) s3 d3 p3)
theorem dr_opl {r : R2} (hs : s ∈ M) (hc : c ∈ M) (h : Dr K s c M ta σ H P1) (k : ∀ M' H' x d, Go M H M' H' → Src s c H' → Dm K M' H' x d → P1 d → Dr K s c M' (tOp r (tC x) tb) σ H' P) : Dr K s c M (tOp r ta tb) σ H P :=
  dr_bind (C := fun t => tOp r t tb) hs hc (fun _ _ q => q) h k
theorem dr_opr {r : R2} {x : V} (hs : s ∈ M) (hc : c ∈ M) (h : Dr K s c M tb σ H P1) (k : ∀ M' H' y d, Go M H M' H' → Src s c H' → Dm K M' H' y d → P1 d → Dr K s c M' (tOp r (tC x) (tC y)) σ H' P) : Dr K s c M (tOp r (tC x) tb) σ H P :=
  dr_bind (C := fun t => tOp r (tC x) t) hs hc (fun _ _ q => q) h k
theorem dr_cb {r : List V → Hp → VK → Prop} (hs : s ∈ M) (hc : c ∈ M) (h : Dr K s c M ta σ H P1) (k : ∀ M' H' x d, Go M H M' H' → Src s c H' → Dm K M' H' x d → P1 d → Dr K s c M' (tCB r (tCons (tC x) tNil)) σ H' P) : Dr K s c M (tCB r (tCons ta tNil)) σ H P :=
  dr_bind (C := fun t => tCB r (tCons t tNil)) hs hc (fun _ _ q => q) h k
theorem dr_sl {r : V → Option Int → Option Int → Hp → VK → Prop} {tl th : TO} (hs : s ∈ M) (hc : c ∈ M) (h : Dr K s c M ta σ H P1) (k : ∀ M' H' x d, Go M H M' H' → Src s c H' → Dm K M' H' x d → P1 d → Dr K s c M' (tSl r (tC x) tl th) σ H' P) : Dr K s c M (tSl r ta tl th) σ H P :=
  dr_bind (C := fun t => tSl r t tl th) hs hc (fun _ _ q => q) h k
end
end Dq

/-! enumerate(tuple), tuple[::-1] -/
namespace PySem
open Sem (wp)
abbrev enumObj (a : Addr) : Obj := { cls := .type "enumerate", data := .fields #[.none, .bool false, .ref a, rawInt 0, .none, .none] }
abbrev tupIt (t : Addr) : Obj := { cls := .type "tuple_iterator", data := .fields #[.ref t, .int 0 0] }
theorem meets_enum_tup1 {v : Value} {o : Obj} {Hq : Heap → Prop} (B : Begins v o Hq) :
    Meets (Builtin.«enumerate.__new__» ⟨[.type "enumerate", v], []⟩) (fun _ R s => Hq s.heap ∧
      R (.ok (.ret (.ref (s.heap.push o).objs.size))) { s with heap := (s.heap.push o).push (enumObj s.heap.objs.size) }) :=
  .of_wp fun prog w A R s h => by
    obtain ⟨hp, g, d, tk, os⟩ := s
    obtain ⟨h1, h⟩ := h
    have hsub := sub_enumerate
    have q1 : ∀ {A' : Around} {E : Value → Shared → Prop} {Q : Value → Shared → Prop},
        Q (.ref hp.objs.size) ⟨hp.push o, g, d, tk, os⟩ → wpAny (model prog w) A' (pyIter v) Q E ⟨hp, g, d, tk, os⟩ :=
      fun q => B.iter prog w _ _ ⟨hp, g, d, tk, os⟩ _ h1 q
    wp_walk using q1
    refine wpAny_stack_any fun st => wpAny_pure ?_
    split
    · rename_i c _ _ _ _ _
      by_cases hcl : (c == Value.type "enumerate") = true
      all_goals
        first
          | (wp_walk using q1
             exact ⟨_, rfl, h⟩)
          | (cases (c == Value.type "enumerate")
             · wp_walk using q1
               exact ⟨_, rfl, h⟩
             · wp_walk using q1
               exact ⟨_, rfl, h⟩)
    · wp_walk using q1
      exact ⟨_, rfl, h⟩
section
variable {prog : Program} {w : World} {A : Around} {E : Value → Shared → Prop} {s : Shared}
theorem call_enum_tup {t : Addr} {items : Array Value} {Q : Value → Shared → Prop} (ht : s.heap.IsTuple t items)
    (h : ∀ h', IsEnum h' (s.heap.objs.size + 1) s.heap.objs.size 0 .none → h'.IsTupleIter s.heap.objs.size t 0 → h'.objs.size = s.heap.objs.size + 2 →
      (∀ b o, s.heap.get? b = some o → h'.get? b = some o) → Q (.ref (s.heap.objs.size + 1)) { s with heap := h' }) :
    wpAny (model prog w) A (call (.type "enumerate") [.ref t]) Q E s := by
  refine callType_new F.called_enumerate (by decide) (F.typeCall_enumerate_1 _) (F.newCall_enumerate_1 _) (fun obj => F.args_object_init_2 obj _)
    F.entry_enumerate_new (meets_enum_tup1 (begins_tuple t items)) ⟨ht, ?_⟩
  have hz : (s.heap.push (tupIt t)).objs.size = s.heap.objs.size + 1 := Heap.size_push ..
  have he : ((s.heap.push (tupIt t)).push (enumObj s.heap.objs.size)).get? (s.heap.objs.size + 1) = some (enumObj s.heap.objs.size) := by
    have hq := Heap.get?_push_size (s.heap.push (tupIt t)) (o := enumObj s.heap.objs.size) rfl
    rw [hz] at hq
    exact hq
  show _ ∧ _
  rw [hz]
  refine ⟨⟨_, he, rfl⟩, h _ he ⟨tupIt t, Heap.get?_push_of_some _ (Heap.get?_push_size _ rfl), rfl, rfl⟩ ?_ ?_⟩
  · rw [Heap.size_push, hz]
  · intro b u x
    exact Heap.get?_push_of_some _ (Heap.get?_push_of_some _ x)
end
end PySem

namespace Dq
open PySem PySem.Spec PyProof.Rows L2 Gd
def ItEt (K : PySem.W.Frag) (a : Addr) : It :=
  ⟨fun i H => ∃ (xs : List V) (x : V), SqT K H a xs ∧ xs[i]? = some x,
   fun i H v H' => ∃ T x, v = .ref T ∧ H T = none ∧ H' = upd H T (.tup [.int (i : Nat), x]) ∧ ∀ xs, SqT K H a xs → xs[i]? = some x,
   fun i H => ∃ xs : List V, SqT K H a xs ∧ xs.length ≤ i⟩
theorem turn_enumT {P : Program} {w : World} {K : PySem.W.Frag} {elts : List Expr} {kk : Nat} {tpos : Pos} (a e it : Addr) :
    Turn P w K (.Tuple elts kk tpos) (ItEt K a) [e, it] e (fun i h => (∃ old, IsEnum h e it ((i : Nat) : Int) old) ∧ h.IsTupleIter it a i ∧ e ≠ it) where
  mem := List.mem_cons_self ..
  obj := fun i h st b hb => by
    obtain ⟨⟨old, he⟩, ⟨o, ho, hc, hd⟩, _⟩ := st
    rcases List.mem_cons.mp hb with z | z
    · rw [z]; exact ⟨_, he, fun v q => nomatch q⟩
    · rw [List.mem_singleton.mp z]; exact ⟨o, ho, fun v q => by rw [hd] at q; cases q⟩
  keep := fun i h h' st k => by
    obtain ⟨⟨old, he⟩, hi, hne⟩ := st
    exact ⟨⟨old, k e (by simp) _ he⟩, hi.at fun o q => k it (by simp) o q, hne⟩
  item := by
    intro X hP hw hK hc i pins s σ H E I hf st hg
    subst hP hw hK
    obtain ⟨⟨old, he⟩, hit, hne⟩ := st
    obtain ⟨xs, x, hq, hx⟩ := hg
    obtain ⟨its, rv, p, hz⟩ := I.tuple hq
    obtain ⟨u, hu, ru⟩ := rv.get hx
    have hel : e < s.heap.objs.size := Heap.lt_size he
    have hil : it < s.heap.objs.size := by obtain ⟨_, q, _⟩ := hit; exact Heap.lt_size q
    have hat : a ≠ it := by
      intro z
      obtain ⟨o1, g1, c1, _⟩ := hit
      obtain ⟨o2, g2, c2, _⟩ := p
      rw [← z, g2] at g1
      cases g1
      rw [c2] at c1
      exact absurd (Value.type.inj c1) (by decide)
    have hae : e ≠ a := by
      intro z
      obtain ⟨o2, g2, c2, _⟩ := p
      have he2 : s.heap.get? e = some _ := he
      rw [z, g2] at he2
      cases he2
      exact absurd (Value.type.inj c2) (by decide)
    have D := Draws.tuple (prog := X.prog) (w := X.w) (A := X.A.in1) (I.ok.hd hc) it a hat its.toArray
    refine wpAny_pyNext_enum_itemD D he ⟨hit, p⟩ (show i < its.toArray.size by rw [List.size_toArray]; exact (List.getElem?_eq_some_iff.mp hu).1) hne
      (by simp only [List.mem_cons, List.not_mem_nil, or_false]; exact fun z => z.elim hne hae) fun y h' tk hy ho hst' hT hsz hk => ?_
    have hyu : y = u := by
      rw [List.getElem?_toArray, hu] at hy
      exact (Option.some.inj hy).symm
    subst hyu
    refine ⟨_, rfl, wpAny_letOwnedTupleGo_enum (s := { s with heap := h', toks := tk + 1 }) ho fun h2 he' sb => ?_⟩
    have hT2 : h2.get? s.heap.objs.size = some { cls := .type "tuple", data := .seq #[.int i tk, y] } := (sb.2 _ (Nat.ne_of_gt hel)).trans hT
    have new : ObjOk X.prog X.w (upd H s.heap.objs.size (.tup [.int (i : Nat), x])) h2 s.heap.objs.size (.tup [.int (i : Nat), x]) :=
      ⟨(by show 2 ≤ sizeLine; decide), [.int i tk, y], .cons ⟨_, rfl⟩ (.cons ru .nil), ⟨_, hT2, rfl, _, rfl⟩⟩
    have I1 : Inv X pins σ (upd H s.heap.objs.size (.tup [.int (i : Nat), x])) { s with heap := h2, toks := tk + 1 } :=
      I.turnedNew (ch := [e, it]) (fun b ob hb q => (sb.2 b (fun z => hb (by simp [z]))).trans
        (hk b ob (fun z => hb (by simp [z])) (fun z => hb (by simp [z])) q)) hf (Nat.le_refl _) new
    refine ⟨.ref s.heap.objs.size, _, I1, rfl, ⟨_, x, rfl, I.hok.fresh (Nat.le_refl _), rfl, fun ys hy => by rw [I.tuple_inj hy hq]; exact hx⟩,
      ⟨⟨y, ?_⟩, hst'.1.at fun o q => (sb.2 it (Ne.symm hne)).trans q, hne⟩, fun b hb => ?_⟩
    · have e1 : ((i + 1 : Nat) : Int) = (i : Int) + 1 := by omega
      rw [e1]
      exact he'
    · have hb2 : b < s.heap.objs.size := by
        rcases List.mem_cons.mp hb with z | z
        · rw [z]; exact hel
        · rw [List.mem_singleton.mp z]; exact hil
      rw [upd_ne (Nat.ne_of_lt hb2)]
      exact (hf b hb).1
  done := by
    intro X hP hw hK hc i pins s σ H E I hf st hg
    subst hP hw hK
    obtain ⟨⟨old, he⟩, hit, hne⟩ := st
    obtain ⟨xs, hq, hx⟩ := hg
    obtain ⟨its, rv, p, hz⟩ := I.tuple hq
    obtain ⟨f0, f1, f2, f3, f4, f5⟩ := hf it (by simp)
    have hl := rv.length
    have hT : s.TypeIs (.ref e) "enumerate" := ⟨_, he, rfl⟩
    unfold pyNext
    refine wpAny_bind (wpAny_attempt (wpAny_callSpecial?_slot (name := Str.ofString "__next__") hT F.slot_enumerate_next
      (wpAny_call_entry F.slot_enumerate_next hT F.entry_enumerate_next ?_ (F.args_enumerate_next_1 _))))
    show wpAny _ _ (field (.ref e) 2 >>= _) _ _ _
    refine wpAny_bind (wpAny_field he rfl (x := .ref it) rfl ?_)
    refine wpAny_bind (wpAny_nextOf_tuple_end (I.ok.hd hc) hit (show s.heap.IsTuple a its.toArray from p) (by simp; omega) fun h' x he2 hx2 => ?_)
    obtain ⟨o, ho, hc2⟩ := hx2
    refine wpAny_bind (wpAny_isInstance (T := "StopIteration") (b := true) ⟨o, ho, hc2⟩ isSubtype_stop ?_)
    exact wpAny_pure ⟨rfl, I.turned (t' := s.toks) (fun b o hb q => he2 b o hb q) f0 f1 f3 f4 f5⟩
  self := fun A i s Q E st h => by
    obtain ⟨⟨_, he⟩, _⟩ := st
    exact wpAny_pyIter_enum he h
def iEnumT (K : PySem.W.Frag) (ta : TA) : TI := fun σ H R => ta σ H fun vs H1 => ∃ a xs, vs = [.ref a] ∧ SqT K H1 a xs ∧ R (ItEt K a) H1
theorem pi_enumT {X : Cx} {e : Expr} {ta : TA} {p pos tpos : Pos} {elts : List Expr} {kk : Nat} (hg : Gl X "enumerate") (hm : X.mg "enumerate" = none) (ha : PA X [e] ta)
    (hs : starEach [e] X.env = [(false, eval e X.env)] := by rfl) : PI X (.Tuple elts kk tpos) (.Call (.Name "enumerate" p) [e] [] pos) (iEnumT X.K ta) := by
  constructor
  intro pins s σ H R I h
  refine Call_ (ld_blt I hg hm boot_enumerate (PyProof.Rows.callWith_type1 (thn (ha.run pos pins s σ H _ I h) ?_) hs rfl))
  rintro us s1 ⟨vs, H1, I1, r1, a, xs, rfl, hq, q⟩
  cases r1 with
  | cons r rr =>
    cases rr
    cases r
    obtain ⟨its, rv, p2, hz⟩ := I1.tuple hq
    refine call_enum_tup (show s1.heap.IsTuple a its.toArray from p2) fun h' he hit hsz hk => wpAny_pyIter_enum he ?_
    have I2 : Inv X pins σ H1 { s1 with heap := h' } := I1.kept (t' := s1.toks) hk
    refine ⟨s1.heap.objs.size + 1, [s1.heap.objs.size + 1, s1.heap.objs.size], _, _, H1, rfl, I2, turn_enumT a _ s1.heap.objs.size, ⟨⟨.none, he⟩, hit, Nat.succ_ne_self _⟩, fun b hb => ?_, q⟩
    have hle : s1.heap.objs.size ≤ b := by
      rcases List.mem_cons.mp hb with z | z
      · rw [z]; exact Nat.le_add_right _ _
      · rw [List.mem_singleton.mp z]; exact Nat.le_refl _
    exact I1.fpOk hle (I1.hok.fresh hle)
theorem walk_enumT {K : PySem.W.Frag} {a : Addr} {xs : List V} : Walk (ItEt K a) xs.length (fun H => SqT K H a xs) (YPair (fun i => some (.int (i : Nat))) (fun i => xs[i]?)) := by
  refine ⟨fun i _ hi q => ⟨xs, xs[i], q, by simp [hi]⟩, fun _ q => ⟨xs, q, Nat.le_refl _⟩, fun i H v H' _ q y => ?_⟩
  obtain ⟨T, x, h1, h2, h3, h4⟩ := y
  exact ⟨T, .int (i : Nat), x, h1, h2, h3, rfl, h4 xs q⟩
theorem wk_enumT {K : PySem.W.Frag} {M : List Addr} {σ : S} {H : Hp} {as : TA} {ds : List PyData} (h : Ea K M as σ H [.tuple ds]) : Wk K M (iEnumT K as) σ H ds.length (fun i => .tuple [.int (i : Nat), at0 ds i]) := fun M2 H1 g R k =>
  h M2 H1 g _ fun vs H2 e2 d2 => by
    cases d2 with
    | cons p q =>
      cases q
      cases p with
      | @tup a xs _ hs hx =>
        refine ⟨a, xs, rfl, same_sqt mn_same hs, ?_⟩
        have w := walk_enumT (K := K) (a := a) (xs := xs)
        rw [hx.length] at w
        refine k _ _ _ _ e2 w (fun M3 H3 g3 => same_sqt mn_same (same_sqt g3.mn hs)) fun M3 i H3 z H4 g3 hi hy => ?_
        obtain ⟨T, u, w, rfl, hT, rfl, e5, e6⟩ := hy
        cases e5
        refine ⟨same_new hT, dm_newT g3.tr hT ?_⟩
        obtain ⟨d2, q3, q4⟩ := hx.getV e6
        rw [at0_get hi] at q3
        cases q3
        exact .cons (.int _) (.cons (Da.same g3.mn _ _ q4) .nil)

/-! ### t[::-1] -/
theorem back_places (n : Nat) : Builtin.Slice.slicePlaces ((n : Int) - 1) (-1) (-1) = n := by
  unfold Builtin.Slice.slicePlaces
  rw [if_neg (by decide)]
  by_cases h : (n : Int) - 1 > -1
  · rw [if_pos h, show (-(-1 : Int)) = 1 from rfl, Int.ediv_one]
    omega
  · rw [if_neg h]
    omega
theorem fm_congr {α β : Type} {f g : α → Option β} : ∀ (l : List α), (∀ m ∈ l, f m = g m) → l.filterMap f = l.filterMap g
  | [], _ => rfl
  | x :: l, h => by
    rw [List.filterMap_cons, List.filterMap_cons, h x (List.mem_cons_self ..), fm_congr l fun m hm => h m (List.mem_cons_of_mem _ hm)]
theorem back_pick (xs : List Value) : ((List.range xs.length).filterMap fun (m : Nat) => xs.toArray[(((xs.length : Int) - 1) + (m : Int) * (-1)).toNat]?) = xs.reverse := by
  have e1 : ∀ m ∈ List.range xs.length, xs.toArray[(((xs.length : Int) - 1) + (m : Int) * (-1)).toNat]? = xs.reverse[m]? := by
    intro m hm
    have hm := List.mem_range.mp hm
    rw [List.getElem?_toArray, List.getElem?_reverse hm]
    congr 1
    omega
  have e2 : ((List.range xs.length).filterMap fun (m : Nat) => xs.toArray[(((xs.length : Int) - 1) + (m : Int) * (-1)).toNat]?) = (List.range xs.length).filterMap fun m => xs.reverse[m]? := by
    exact fm_congr _ e1
  rw [e2]
  have h := PySem.W.krv_all xs.reverse.toArray
  simpa using h
section
variable {prog : Program} {w : World} {A : Around} {E : Value → Shared → Prop} {s : Shared}
theorem getItem_tuple_back {t sl : Addr} {items : List Value} {vk : Value} {Q : Value → Shared → Prop} (ht : IsTup s.heap t items.toArray)
    (hs : s.heap.IsSliceOf sl .none .none vk) (pk : IsPart vk (some (-1))) (h : Q (.ref s.heap.objs.size) { s with heap := s.heap.push { cls := .type "tuple", data := .seq items.reverse.toArray } })
    (hsz : items.length ≤ sizeLine) : wpAny (model prog w) A (getItem (.ref t) (.ref sl)) Q E s := by
  have hok : sizeOk (.seq items.reverse.toArray) := by
    show items.reverse.toArray.size ≤ sizeLine
    rw [List.size_toArray, List.length_reverse]
    exact hsz
  obtain ⟨os, hos, hcs, hds⟩ := id hs
  have hTs : s.TypeIs (.ref sl) "slice" := ⟨os, hos, hcs⟩
  unfold getItem
  try with_reducible refine wpAny_holding ?_
  first | refine wpAny_bind (wpAny_pure ?_) | skip
  refine wpAny_bind (wpAny_sequenceKey ht.typeIs (by decide) ?_)
  refine wpAny_bind (wpAny_callSpecial?_slot (name := Str.ofString "__getitem__") ht.typeIs PyProof.Rows.slot_tuple_getitem
    (wpAny_call_entry PyProof.Rows.slot_tuple_getitem ht.typeIs entry_tuple_getitem ?_ (args_tuple_getitem _ _)))
  show wpAny _ _ (Builtin.Tuple.tupleItemsOf (.ref t) >>= _) _ _ s
  refine wpAny_bind (tupleItemsOf_ ht ?_)
  refine wpAny_bind (wpAny_typeOf hTs ?_)
  rw [if_pos (by decide)]
  rw [List.size_toArray]
  have app : ∀ Q : Int × Int × Nat → Shared → Prop, Q ((items.length : Int) - 1, -1, items.length) s → wpAny (model prog w) A.in1 (Builtin.Slice.sliceApplied (.ref sl) (pure (items.length : Int))) Q E s := by
    intro Q hQ
    unfold Builtin.Slice.sliceApplied Builtin.Slice.sliceFields
    refine wpAny_bind (wpAny_bind (wpAny_field hos hds (x := .none) rfl (wpAny_bind (wpAny_field hos hds (x := .none) rfl (wpAny_bind (wpAny_field hos hds (x := vk) rfl (wpAny_pure ?_)))))))
    refine wpAny_bind (HT.slicePart_ pk ?_)
    show wpAny _ _ (if ((-1 : Int) == 0) = true then _ else _) _ _ s
    rw [if_neg (by decide)]
    refine wpAny_bind (HT.slicePart_ .none (wpAny_bind (HT.slicePart_ .none (wpAny_bind (wpAny_pure ?_)))))
    show wpAny _ _ (pure (((items.length : Int) - 1), (-1 : Int), Builtin.Slice.slicePlaces ((items.length : Int) - 1) (-1) (-1))) _ _ s
    rw [back_places]
    exact wpAny_pure hQ
  refine wpAny_bind (app _ ?_)
  show wpAny _ _ (if (((items.length : Int) - 1) == 0 && (-1 : Int) == 1 && items.length == items.length) = true then _ else _) _ _ s
  rw [if_neg (by simp)]
  rw [back_pick]
  first
    | exact wpAny_bind (m := Builtin.Tuple.tupleExact _) (wpAny_newObj_type (wpAny_pure ⟨_, rfl, wpAny_pure h⟩) hok)
    | exact wpAny_bind (m := Builtin.Tuple.tupleExact _) (wpAny_newObj_type (wpAny_bind (wpAny_pure (wpAny_pure ⟨_, rfl, wpAny_pure h⟩))) hok)
    | exact wpAny_bind (wpAny_bind (m := Builtin.Tuple.tupleExact _) (wpAny_newObj_type (wpAny_pure (wpAny_pure ⟨_, rfl, wpAny_pure h⟩)) hok))
    | exact wpAny_bind (wpAny_bind (m := Builtin.Tuple.tupleExact _) (wpAny_newObj_type (wpAny_pure ⟨_, rfl, wpAny_pure h⟩) hok))
end
def tRevT (K : PySem.W.Frag) (te : TE) : TE := fun σ H Q => te σ H fun x H1 => ∃ a xs, x = .ref a ∧ SqT K H1 a xs ∧ ∀ p, H1 p = none → Q (.ref p) (upd H1 p (.tup xs.reverse))
theorem pe_revT {X : Cx} {e : Expr} {te : TE} {k : Nat} {p1 p2 p3 pos : Pos} (he : PE X e te) : PE X (.Subscript e (.Slice none none (some (.UnaryOp .USub (.Constant (.int 1) k p1) p2)) p3) pos) (tRevT X.K te) := by
  constructor
  intro pins s σ H Q I h
  refine Subscript_ (thn (he.run pins s σ H _ I h) ?_)
  rintro v s1 ⟨x, H1, I1, r1, a, xs, rfl, hx, q⟩
  cases r1
  have part : PO X (some (.UnaryOp .USub (.Constant (.int 1) k p1) p2)) (tPart (tUn (rU fun i => .int (-i)) (tC (.int 1)))) := po_some (pe_un un_neg pe_int)
  refine wpAny_Slice (thn (po_none.run pins s1 σ H1 (fun o H2 => o = none ∧ H2 = H1) I1 ⟨rfl, rfl⟩) ?_)
  rintro vl s2 ⟨l, H2, I2, pl, rfl, rfl⟩
  refine thn (po_none.run pins s2 σ _ (fun o H3 => o = none ∧ H3 = H2) I2 ⟨rfl, rfl⟩) ?_
  rintro vu s3 ⟨u, H3, I3, pu, rfl, rfl⟩
  refine thn (part.run pins s3 σ _ (fun o H4 => o = some (-1) ∧ H4 = H3) I3 ⟨1, rfl, -1, rfl, rfl, rfl⟩) ?_
  rintro vs s4 ⟨o, H4, I4, ps, rfl, rfl⟩
  cases pl
  cases pu
  have I5 : Inv X pins σ H4 { s4 with heap := s4.heap.push { cls := .type "slice", data := .fields #[.none, .none, vs] } } := I4.kept (t' := s4.toks) fun b ob q => Heap.get?_push_of_some _ q
  obtain ⟨its, r, ht, hz⟩ := I5.tuple hx
  show wpAny (model X.prog X.w) X.A (subscriptTail e (.Slice none none (some (.UnaryOp .USub (.Constant (.int 1) k p1) p2)) p3) (.ref a) (.ref s4.heap.objs.size)) (EP X pins σ Q) X.xe _
  refine tail_any (ops := [.ref a, .ref s4.heap.objs.size]) ht.typeIs PyProof.Rows.slot_tuple_getitem.lookup ?_ (by with_unfolding_all rfl)
  refine getItem_tuple_back ht (Heap.IsSliceOf.new _ .none .none vs) ps ?_ (by rw [← r.length]; exact hz)
  refine ⟨.ref _, _, I5.laid (t' := s4.toks) (o := .tup xs.reverse) (fun b ob q => Heap.get?_push_of_some _ q) (Nat.le_refl _) ?_, rfl, q _ (I5.hok.fresh (Nat.le_refl _))⟩
  exact ⟨(by rw [List.length_reverse]; exact hz), _, r.reverse, IsTup.new _ _⟩
section
variable {K : PySem.W.Frag} {M : List Addr} {σ : S} {H : Hp} {te : TE} {ds : List PyData}
theorem ev_revT (ha : Ev K M te σ H (.tuple ds)) : Ev K M (tRevT K te) σ H (.tuple ds.reverse) := fun M2 H1 g Q q =>
  ha M2 H1 g _ fun v H2 e2 d2 => by
    have t2 := (g.same e2).tr
    cases d2 with
    | @tup a xs _ hs hx => exact ⟨a, xs, rfl, same_sqt mn_same hs, fun p hp => q _ _ (e2.trans (same_new hp)) (dm_newT t2 hp hx.reverse)⟩
end
end Dq

/-! the rules with the written part named -/
namespace Dq
open PySem PySem.Spec PyProof.Rows L2 Gd
abbrev rLenQ (K : PySem.W.Frag) : List V → Hp → VK → Prop := fun xs H Q => ∃ p ys, xs = [V.ref p] ∧ (SqL K H p ys ∨ SqT K H p ys) ∧ Q (.int ys.length) H
abbrev rListQ (K : PySem.W.Frag) : List V → Hp → VK → Prop := fun xs H Q => ∃ p ys, xs = [V.ref p] ∧ (SqL K H p ys ∨ SqT K H p ys) ∧ ∀ l, H l = none → Q (.ref l) (upd H l (.lst ys))
abbrev rTupQ (K : PySem.W.Frag) : List V → Hp → VK → Prop := fun xs H Q => ∃ p ys, xs = [V.ref p] ∧ ((SqL K H p ys ∧ ∀ l, H l = none → Q (.ref l) (upd H l (.tup ys))) ∨ (SqT K H p ys ∧ Q (.ref p) H))
section
variable {X : Cx} {K : PySem.W.Frag}
theorem ix_tup_k (h : X.K = K) : IxR X (rIxT K) := h ▸ ix_tup
theorem ix_list_k (h : X.K = K) : IxR X (rIxL K) := h ▸ ix_list
theorem sl_list_k (h : X.K = K) : SlR X (rSlL K) := h ▸ sl_list
theorem sl_tup_k (h : X.K = K) : SlR X (rSlA K) := h ▸ sl_tupA
theorem op_eq_k (h : X.K = K) (hu : X.A.units + 64 < cLine) : OpR X (compareOp .Eq) (rEqD K) := h ▸ op_eqD hu
theorem op_ne_k (h : X.K = K) (hu : X.A.units + 64 < cLine) : OpR X (compareOp .NotEq) (rNeD K) := h ▸ op_neD hu
theorem op_in_k (h : X.K = K) (hu : X.A.units + 65 < cLine) : OpR X (compareOp .In) (rInD K) := h ▸ op_inD hu
theorem op_notIn_k (h : X.K = K) (hu : X.A.units + 65 < cLine) : OpR X (compareOp .NotIn) (rNotInD K) := h ▸ op_notInD hu
theorem op_inq_k (h : X.K = K) : OpR X (compareOp .In) (rIn K false) := h ▸ op_in_seq
theorem op_notInq_k (h : X.K = K) : OpR X (compareOp .NotIn) (rIn K true) := h ▸ op_notIn_seq
theorem op_catT_k (h : X.K = K) : OpR X (binaryOp .Add) (rCatA K) := h ▸ op_catA
theorem call_len_k (h : X.K = K) : CallR X (.builtin "len") (rLenQ K) := h ▸ call_len_seq
theorem call_list_k (h : X.K = K) : CallR X (.type "list") (rListQ K) := h ▸ call_list_of
theorem call_tup_k (h : X.K = K) : CallR X (.type "tuple") (rTupQ K) := h ▸ call_tuple_of
theorem call_repr_k (h : X.K = K) (hg : X.A.guards = some []) (hu : X.A.units + 64 < cLine) : CallR X (.builtin "repr") (rReprD K) := h ▸ call_reprD hg hu
theorem cr_sorted_k (h : X.K = K) : CallR X (.builtin "sorted") (rSorted K) := h ▸ cr_sorted
theorem cr_sortedP_k (h : X.K = K) : CallR X (.builtin "sorted") (rSortedP K) := h ▸ cr_sortedP
theorem pi_list_k {tg l : Expr} {tl : TE} (h : X.K = K) (hl : PE X l tl) : PI X tg l (iList K tl) := h ▸ pi_list hl
theorem pi_tup_k {tg l : Expr} {tl : TE} (h : X.K = K) (hl : PE X l tl) : PI X tg l (iTup K tl) := h ▸ pi_tup hl
theorem pe_revL_k {e : Expr} {te : TE} {k : Nat} {p1 p2 p3 pos : Pos} (h : X.K = K) (he : PE X e te) : PE X (.Subscript e (.Slice none none (some (.UnaryOp .USub (.Constant (.int 1) k p1) p2)) p3) pos) (tRevL K te) := h ▸ pe_revL he
theorem pe_revT_k {e : Expr} {te : TE} {k : Nat} {p1 p2 p3 pos : Pos} (h : X.K = K) (he : PE X e te) : PE X (.Subscript e (.Slice none none (some (.UnaryOp .USub (.Constant (.int 1) k p1) p2)) p3) pos) (tRevT K te) := h ▸ pe_revT he
theorem pi_zip_k {e e2 : Expr} {ta : TA} {p pos tpos : Pos} {elts : List Expr} {kk : Nat} (h : X.K = K) (hg : Gl X "zip") (hm : X.mg "zip" = none) (ha : PA X [e, e2] ta)
    (h2 : PI X (.Tuple elts kk tpos) (.Call (.Name "zip" p) [e, e2] [] pos) (iZip X.K ta)) : PI X (.Tuple elts kk tpos) (.Call (.Name "zip" p) [e, e2] [] pos) (iZip K ta) := h ▸ h2
theorem pi_k {tg it : Expr} {f : PySem.W.Frag → TI} (h : X.K = K) (h2 : PI X tg it (f X.K)) : PI X tg it (f K) := h ▸ h2
theorem pe_k {e : Expr} {f : PySem.W.Frag → TE} (h : X.K = K) (h2 : PE X e (f X.K)) : PE X e (f K) := h ▸ h2
end
end Dq

/-! sizes of data; typed walks -/
namespace Dq
open PySem PySem.Spec PyProof.Rows L2 Gd

structure Fit (n k : Nat) (d : PyData) : Prop where
  short : d.leavesShort 60 = true
  shw : d.showable = true
  nod : d.hasDict = false
  lay : d.canLay0 = true
  dep : d.depth ≤ n
  wt : d.weight ≤ k
theorem Fit.mono {n k m l : Nat} {d : PyData} (h : Fit n k d) (a : n ≤ m) (b : k ≤ l) : Fit m l d := ⟨h.short, h.shw, h.nod, h.lay, Nat.le_trans h.dep a, Nat.le_trans h.wt b⟩
theorem Fit.non : Fit 0 0 .none := ⟨rfl, rfl, rfl, rfl, Nat.le_refl _, Nat.le_refl _⟩
theorem Fit.bl (b : Bool) : Fit 0 0 (.bool b) := ⟨rfl, rfl, rfl, rfl, Nat.le_refl _, Nat.le_refl _⟩
theorem log2_lt {n k : Nat} (hk : 0 < k) (h : n < 2 ^ k) : n.log2 < k := by
  by_cases h0 : n = 0
  · rw [h0]
    simpa using hk
  · exact (Nat.log2_lt h0).mpr h
theorem Fit.int {i : Int} (k : Nat) (hk : 0 < k) (hk2 : k ≤ 190) (h : i.natAbs < 2 ^ k) : Fit 0 k (.int i) := by
  have hl := log2_lt hk h
  refine ⟨?_, ?_, rfl, rfl, Nat.le_refl _, ?_⟩
  · unfold PyData.leavesShort
    refine decide_eq_true ?_
    show (PyData.shown (.int i)).length ≤ 60
    unfold PyData.shown
    show (Str.ofString (toString i)).length ≤ 60
    rw [PySem.ofString_length]
    have h2 : i.natAbs < 10 ^ 59 := Nat.lt_of_lt_of_le h (Nat.le_trans (Nat.pow_le_pow_right (by decide) hk2) (by decide +kernel))
    exact int_text_length_le10 (k := 59) (by decide) h2
  · unfold PyData.showable
    exact decide_eq_true (by omega)
  · unfold PyData.weight
    split
    · exact Nat.zero_le _
    · omega
theorem Fit.nat {i : Int} (h0 : 0 ≤ i) (h : i < 1048576) : Fit 0 20 (.int i) := Fit.int 20 (by decide) (by decide) (by omega)
section
variable {n k : Nat}
theorem fit_all : ∀ {ds : List PyData}, (∀ d ∈ ds, Fit n k d) → PyData.leavesShortAll 60 ds = true ∧ PyData.showableAll ds = true ∧ PyData.hasDictAll ds = false ∧ PyData.canLayAll0 ds = true ∧ PyData.depthAll ds ≤ n ∧ PyData.weightAll ds ≤ ds.length * (k + 1)
  | [], _ => ⟨rfl, rfl, rfl, rfl, Nat.zero_le _, Nat.zero_le _⟩
  | d :: ds, h => by
    obtain ⟨h1, h2, h3, h4, h5, h6⟩ := fit_all (ds := ds) fun e he => h e (List.mem_cons_of_mem _ he)
    have g := h d (List.mem_cons_self ..)
    refine ⟨?_, ?_, ?_, ?_, ?_, ?_⟩
    · unfold PyData.leavesShortAll; rw [g.short, h1]; rfl
    · unfold PyData.showableAll; rw [g.shw, h2]; rfl
    · unfold PyData.hasDictAll; rw [g.nod, h3]; rfl
    · unfold PyData.canLayAll0; rw [g.lay, h4]; rfl
    · unfold PyData.depthAll; exact Nat.max_le.mpr ⟨g.dep, h5⟩
    · unfold PyData.weightAll
      rw [List.length_cons, Nat.succ_mul]
      have := g.wt
      omega
theorem Fit.tuple {ds : List PyData} (h : ∀ d ∈ ds, Fit n k d) : Fit (n + 1) (ds.length * (k + 1)) (.tuple ds) := by
  obtain ⟨h1, h2, h3, h4, h5, h6⟩ := fit_all h
  exact ⟨by unfold PyData.leavesShort; exact h1, by unfold PyData.showable; exact h2, by unfold PyData.hasDict; exact h3, by unfold PyData.canLay0; exact h4, by unfold PyData.depth; omega, by unfold PyData.weight; exact h6⟩
theorem Fit.list {ds : List PyData} (h : ∀ d ∈ ds, Fit n k d) : Fit (n + 1) (ds.length * (k + 1)) (.list ds) := by
  obtain ⟨h1, h2, h3, h4, h5, h6⟩ := fit_all h
  exact ⟨by unfold PyData.leavesShort; exact h1, by unfold PyData.showable; exact h2, by unfold PyData.hasDict; exact h3, by unfold PyData.canLay0; exact h4, by unfold PyData.depth; omega, by unfold PyData.weight; exact h6⟩
theorem Fit.shaped {d : PyData} (h : Fit n k d) (hn : n ≤ 64) : SeqAt.shaped d = true := by
  unfold SeqAt.shaped
  rw [h.lay, decide_eq_true (Nat.le_trans h.dep hn)]
  rfl
theorem Fit.size {d : PyData} (h : Fit n k d) (hk : k ≤ 270000) : d.shown.length ≤ sizeLine := by
  have := PyData.shown_le 60 (by decide) d h.short
  have h2 := h.wt
  rw [sizeLine_eq]
  omega
end
theorem sz (n : Nat) (h : n ≤ 1000 := by decide) : n ≤ sizeLine := by rw [sizeLine_eq]; omega
section
variable {K : PySem.W.Frag} {M M' : List Addr} {σ : S} {H H' : Hp} {ta tb te tc : TE} {tt tu : TT} {as : TA} {d e f : PyData} {ds es : List PyData} {r : R2} {x y : V} {wi : TI}
theorem ev_reprF {n k : Nat} (ha : Ev K M ta σ H d) (hd : (∃ ds, d = .list ds) ∨ (∃ ds, d = .tuple ds)) (h : Fit n k d) (hn : n ≤ 60) (hk : k ≤ 270000) : Ev K M (tCB (rReprD K) (tCons ta tNil)) σ H (.str d.shown) :=
  ev_repr ha hd h.shw h.nod (Nat.le_trans h.dep hn) (h.size hk)
theorem ev_eqS {a b : Str} (ha : Ev K M ta σ H (.str a)) (hb : Ev K M tb σ H (.str b)) : Ev K M (tOp rEq ta tb) σ H (.bool (decide (a = b))) :=
  ev_op ha hb fun M2 H1 x y gg dx dy Q q => by
    cases dx
    cases dy
    refine ⟨rfl, ?_⟩
    have e : decide (V.str a = V.str b) = decide (a = b) := by
      by_cases h : a = b
      · rw [h]; simp
      · rw [decide_eq_false h, decide_eq_false (fun z => h (V.str.inj z))]
    rw [e]
    exact q _ _ (Same.refl _) (.bl _)
theorem ev_neS {a b : Str} (ha : Ev K M ta σ H (.str a)) (hb : Ev K M tb σ H (.str b)) : Ev K M (tOp rNe ta tb) σ H (.bool (!decide (a = b))) :=
  ev_op ha hb fun M2 H1 x y gg dx dy Q q => by
    cases dx
    cases dy
    refine ⟨rfl, ?_⟩
    have e : decide (V.str a = V.str b) = decide (a = b) := by
      by_cases h : a = b
      · rw [h]; simp
      · rw [decide_eq_false h, decide_eq_false (fun z => h (V.str.inj z))]
    rw [e]
    exact q _ _ (Same.refl _) (.bl _)

/-! ### typed walks -/
theorem at0_map {α : Type} {f : α → PyData} {xs : List α} {i : Nat} (h : i < xs.length) : at0 (xs.map f) i = f xs[i] := by
  unfold at0
  rw [List.getD_eq_getElem?_getD, List.getElem?_map, List.getElem?_eq_getElem h]
  rfl
theorem given_map {α : Type} (p : α → Bool) (g : α → PyData) : ∀ xs : List α, given xs.length (fun i => match xs[i]? with | some a => p a | none => false) (fun i => match xs[i]? with | some a => g a | none => .none) = (xs.filter p).map g
  | [] => rfl
  | x :: xs => by
    have ih := given_map p g xs
    unfold given at ih ⊢
    rw [List.length_cons, List.range_succ_eq_map, List.filter_cons, List.filter_map]
    rw [List.filter_cons]
    by_cases h : p x = true
    · rw [if_pos (show (match (x :: xs)[0]? with | some a => p a | none => false) = true from h), if_pos h, List.map_cons, List.map_cons, List.map_map]
      exact congrArg (g x :: ·) ih
    · rw [if_neg (show ¬ (match (x :: xs)[0]? with | some a => p a | none => false) = true from h), if_neg h, List.map_map]
      exact ih
theorem ev_lcT {α : Type} {g : TG} {vs : List Nat} {xs : List α} {enc : α → PyData} (p : α → Bool) (el : α → PyData) (w : Wk K M wi σ H xs.length (at0 (xs.map enc))) (hn : xs.length ≤ 1000000)
    (hs : ∀ M' H' a x, Go M H M' H' → a ∈ xs → Dm K M' H' x (enc a) → ∃ σ2, Tk g x (wipe σ vs) H' σ2 ∧ wipe σ2 vs = wipe σ vs ∧ Eb M' tt σ2 H' (p a) ∧ (p a = true → Ev K M' te σ2 H' (el a))) :
    Ev K M (tLc wi g tt te vs) σ H (.list ((xs.filter p).map el)) := by
  rw [← given_map p el xs]
  refine ev_lc _ _ w hn fun M' H' i z g3 hi dz => ?_
  rw [at0_map hi] at dz
  obtain ⟨σ2, h1, h2, h3, h4⟩ := hs M' H' xs[i] z g3 (List.getElem_mem hi) dz
  have e : xs[i]? = some xs[i] := List.getElem?_eq_getElem hi
  refine ⟨σ2, h1, h2, ?_, ?_⟩
  · rw [e]; exact h3
  · rw [e]; exact h4
/-- all of them -/
theorem ev_lcA {α : Type} {g : TG} {vs : List Nat} {xs : List α} {enc : α → PyData} (el : α → PyData) (w : Wk K M wi σ H xs.length (at0 (xs.map enc))) (hn : xs.length ≤ 1000000)
    (hs : ∀ M' H' a x, Go M H M' H' → a ∈ xs → Dm K M' H' x (enc a) → ∃ σ2, Tk g x (wipe σ vs) H' σ2 ∧ wipe σ2 vs = wipe σ vs ∧ Ev K M' te σ2 H' (el a)) :
    Ev K M (tLc wi g tYes te vs) σ H (.list (xs.map el)) := by
  have h := ev_lcT (tt := tYes) (te := te) (g := g) (vs := vs) (fun _ => true) el w hn fun M' H' a x g3 ha dx => by
    obtain ⟨σ2, h1, h2, h3⟩ := hs M' H' a x g3 ha dx
    exact ⟨σ2, h1, h2, eb_yes, fun _ => h3⟩
  rwa [List.filter_eq_self.mpr (fun _ _ => rfl)] at h
theorem ev_lcR {g : TG} {vs : List Nat} {n : Nat} {it : Nat → PyData} (el : Nat → PyData) (w : Wk K M wi σ H n it) (hn : n ≤ 1000000)
    (hs : ∀ M' H' i x, Go M H M' H' → i < n → Dm K M' H' x (it i) → ∃ σ2, Tk g x (wipe σ vs) H' σ2 ∧ wipe σ2 vs = wipe σ vs ∧ Ev K M' te σ2 H' (el i)) :
    Ev K M (tLc wi g tYes te vs) σ H (.list ((List.range n).map el)) := by
  have h := ev_lc (tt := tYes) (te := te) (g := g) (vs := vs) (fun _ => true) el w hn fun M' H' i x g3 hi dx => by
    obtain ⟨σ2, h1, h2, h3⟩ := hs M' H' i x g3 hi dx
    exact ⟨σ2, h1, h2, eb_yes, fun _ => h3⟩
  unfold given at h
  rwa [List.filter_eq_self.mpr (fun _ _ => rfl)] at h
theorem wk_tupT {α : Type} {xs : List α} {enc : α → PyData} (h : Ev K M te σ H (.tuple (xs.map enc))) : Wk K M (iTup K te) σ H xs.length (at0 (xs.map enc)) := by
  have w := wk_tup h
  rwa [List.length_map] at w
theorem wk_listT {α : Type} {xs : List α} {enc : α → PyData} (h : Ev K M te σ H (.list (xs.map enc))) : Wk K M (iList K te) σ H xs.length (at0 (xs.map enc)) := by
  have w := wk_list h
  rwa [List.length_map] at w
theorem at0_range {α : Type} {n : Nat} {f : Nat → PyData} : True := trivial
theorem ev_ofL (h : Ev K M (tCB (fun xs H Q => ∃ p ys, xs = [V.ref p] ∧ ((SqL K H p ys ∧ ∀ l, H l = none → Q (.ref l) (upd H l (.tup ys))) ∨ (SqT K H p ys ∧ Q (.ref p) H))) (tCons ta tNil)) σ H d) : Ev K M (tCB (fun xs H Q => ∃ p ys, xs = [V.ref p] ∧ ((SqL K H p ys ∧ ∀ l, H l = none → Q (.ref l) (upd H l (.tup ys))) ∨ (SqT K H p ys ∧ Q (.ref p) H))) (tCons ta tNil)) σ H d := h
end
end Dq

/-! the source's dict -/
namespace Dq
open PySem PySem.Spec PyProof.Rows L2 Gd
section
variable {c : Addr} {l m t x : Int}
theorem src_cells : valV (srcK c l m t) (.inr "cells") = some (.ref c) := by rfl
theorem src_left : valV (srcK c l m t) (.inr "left") = some (.int l) := by rfl
theorem src_mixed : valV (srcK c l m t) (.inr "mixed") = some (.int m) := by rfl
theorem src_turn : valV (srcK c l m t) (.inr "turn") = some (.int t) := by rfl
theorem put_left : putK (srcK c l m t) (.inr "left") (.int x) = srcK c x m t := by rfl
theorem put_mixed : putK (srcK c l m t) (.inr "mixed") (.int x) = srcK c l x t := by rfl
theorem put_turn : putK (srcK c l m t) (.inr "turn") (.int x) = srcK c l m x := by rfl
theorem src_merge : mergeK [] (srcK c l m t) = srcK c l m t := by rfl
theorem src_len : (srcK c l m t).length < sizeLine := by show 4 < sizeLine; decide
end
structure SrcX (s c : Addr) (H : Hp) (cells : List Int) (l m t : Int) : Prop where
  ne : s ≠ c
  d : H s = some (.dK (srcK c l m t))
  cs : H c = some (.lst (cells.map V.int))
  len : cells.length ≤ 63
theorem SrcX.src {s c : Addr} {H : Hp} {cells : List Int} {l m t : Int} (h : SrcX s c H cells l m t) : Src s c H := ⟨h.ne, cells, l, m, t, h.d, h.cs, h.len⟩
theorem Src.x {s c : Addr} {H : Hp} (h : Src s c H) : ∃ cells l m t, SrcX s c H cells l m t := by
  obtain ⟨h0, cells, l, m, t, h1, h2, h3⟩ := h
  exact ⟨cells, l, m, t, h0, h1, h2, h3⟩
section
variable {s c : Addr} {H : Hp} {cells : List Int} {l m t : Int}
theorem SrcX.gLeft (h : SrcX s c H cells l m t) : DGet H s (.str "left") (some (.int l)) := by
  have := DGet.k (k := Sum.inr "left") h.d
  rwa [src_left] at this
theorem SrcX.gCells (h : SrcX s c H cells l m t) : DGet H s (.str "cells") (some (.ref c)) := by
  have := DGet.k (k := Sum.inr "cells") h.d
  rwa [src_cells] at this
theorem SrcX.gMixed (h : SrcX s c H cells l m t) : DGet H s (.str "mixed") (some (.int m)) := by
  have := DGet.k (k := Sum.inr "mixed") h.d
  rwa [src_mixed] at this
theorem SrcX.gTurn (h : SrcX s c H cells l m t) : DGet H s (.str "turn") (some (.int t)) := by
  have := DGet.k (k := Sum.inr "turn") h.d
  rwa [src_turn] at this
theorem SrcX.pLeft (h : SrcX s c H cells l m t) (x : Int) : ∃ H', DPut H s (.str "left") (.int x) H' ∧ SrcX s c H' cells x m t ∧ Kp s c H H' := by
  refine ⟨_, DPut.k (k := Sum.inr "left") h.d src_len, ⟨h.ne, ?_, ?_, h.len⟩, fun b o h1 h2 e => ?_⟩
  · rw [upd_same, put_left]
  · rw [upd_ne h.ne.symm]; exact h.cs
  · rw [upd_ne h1]; exact e
theorem SrcX.pMixed (h : SrcX s c H cells l m t) (x : Int) : ∃ H', DPut H s (.str "mixed") (.int x) H' ∧ SrcX s c H' cells l x t ∧ Kp s c H H' := by
  refine ⟨_, DPut.k (k := Sum.inr "mixed") h.d src_len, ⟨h.ne, ?_, ?_, h.len⟩, fun b o h1 h2 e => ?_⟩
  · rw [upd_same, put_mixed]
  · rw [upd_ne h.ne.symm]; exact h.cs
  · rw [upd_ne h1]; exact e
theorem SrcX.pTurn (h : SrcX s c H cells l m t) (x : Int) : ∃ H', DPut H s (.str "turn") (.int x) H' ∧ SrcX s c H' cells l m x ∧ Kp s c H H' := by
  refine ⟨_, DPut.k (k := Sum.inr "turn") h.d src_len, ⟨h.ne, ?_, ?_, h.len⟩, fun b o h1 h2 e => ?_⟩
  · rw [upd_same, put_turn]
  · rw [upd_ne h.ne.symm]; exact h.cs
  · rw [upd_ne h1]; exact e
theorem SrcX.drop (h : SrcX s c H cells l m t) : SrcX s c (upd H c (.lst ((cells.map V.int).dropLast))) cells.dropLast l m t := by
  refine ⟨h.ne, ?_, ?_, ?_⟩
  · rw [upd_ne h.ne]; exact h.d
  · rw [upd_same, List.map_dropLast]
  · rw [List.length_dropLast]
    have := h.len
    omega
theorem Kp.set (s c : Addr) (H : Hp) (o : HO) : Kp s c H (upd H c o) := fun b u h1 h2 e => by
  rw [upd_ne h2]
  exact e
end
theorem das_ints {K : PySem.W.Frag} {H : Hp} : ∀ {ns : List Int} {vs : List V}, Das K H vs (ns.map PyData.int) → vs = ns.map V.int
  | [], _, h => by cases h; rfl
  | n :: ns, _, h => by
    cases h with
    | cons h1 h2 =>
      cases h1
      rw [das_ints h2]
      rfl
theorem ev_use {K : PySem.W.Frag} {M : List Addr} {σ : S} {H : Hp} {te : TE} {d : PyData} {Q : VK} (tr : Tr M H) (h : Ev K M te σ H d) (k : ∀ v H2, Same H H2 → Tr M H2 → Dm K M H2 v d → Q v H2) : te σ H Q :=
  h M H (Go.refl tr) Q fun v H2 e2 d2 => k v H2 e2 (tr.same e2) d2
/-- a drawn thing -/
theorem dr_use {K : PySem.W.Frag} {M : List Addr} {s c : Addr} {σ : S} {H : Hp} {te : TE} {P : PyData → Prop} {Q : VK} (hs : s ∈ M) (hc : c ∈ M) (tr : Tr M H) (hS : Src s c H) (h : Dr K s c M te σ H P)
    (k : ∀ v d H2, Kp s c H H2 → Src s c H2 → Go M H M H2 → Dm K M H2 v d → P d → Q v H2) : te σ H Q :=
  h M H (Go.refl tr) hS Q fun v d H2 k2 s2 d2 p => k v d H2 k2 s2 (go_kp hs hc tr k2 s2) d2 p
theorem pairs_c {v : V} {tv : TE} {r : List (TE × TE)} {σ : S} {H : Hp} {Q : List (V × V) → Hp → Prop} (h : tv σ H fun y H2 => tPairs r σ H2 fun ps H3 => Q ((v, y) :: ps) H3) : tPairs ((tC v, tv) :: r) σ H Q := h
theorem pairs_cc {v w : V} {r : List (TE × TE)} {σ : S} {H : Hp} {Q : List (V × V) → Hp → Prop} (h : tPairs r σ H fun ps H3 => Q ((v, w) :: ps) H3) : tPairs ((tC v, tC w) :: r) σ H Q := h
theorem pairs_cv {v x : V} {i : Nat} {r : List (TE × TE)} {σ : S} {H : Hp} {Q : List (V × V) → Hp → Prop} (hx : σ[i]? = some (some x)) (h : tPairs r σ H fun ps H3 => Q ((v, x) :: ps) H3) : tPairs ((tC v, tVar i) :: r) σ H Q := ⟨x, hx, h⟩
theorem revL_new {K : PySem.W.Frag} {M : List Addr} {σ : S} {H : Hp} {te : TE} {ds : List PyData} {Q : VK} (tr : Tr M H) (h : Ev K M te σ H (.list ds))
    (k : ∀ p vs H1, Same H H1 → Tr M H1 → H1 p = none → Dms K M H1 vs ds.reverse → Q (.ref p) (upd H1 p (.lst vs))) : tRevL K te σ H Q :=
  h M H (Go.refl tr) _ fun v H1 e1 d1 => by
    have t1 := tr.same e1
    cases d1 with
    | @lst a xs _ hs hx => exact ⟨a, xs, rfl, SqL.of (mn_same _ _ hs), fun p hp => k p _ H1 e1 t1 hp hx.reverse⟩
theorem listOf_new {K : PySem.W.Frag} {M : List Addr} {σ : S} {H : Hp} {ta : TE} {d : PyData} {ds : List PyData} {Q : VK} (tr : Tr M H) (h : Ev K M ta σ H d) (hd : d = .list ds ∨ d = .tuple ds)
    (k : ∀ p vs H1, Same H H1 → Tr M H1 → H1 p = none → Dms K M H1 vs ds → Q (.ref p) (upd H1 p (.lst vs))) :
    tCB (fun xs H Q => ∃ p ys, xs = [V.ref p] ∧ (SqL K H p ys ∨ SqT K H p ys) ∧ ∀ l, H l = none → Q (.ref l) (upd H l (.lst ys))) (tCons ta tNil) σ H Q :=
  h M H (Go.refl tr) _ fun v H1 e1 d1 => by
    have t1 := tr.same e1
    rcases hd with rfl | rfl
    · cases d1 with
      | @lst a xs _ hs hx => exact ⟨a, xs, rfl, .inl (SqL.of (mn_same _ _ hs)), fun p hp => k p _ H1 e1 t1 hp hx⟩
    · cases d1 with
      | @tup a xs _ hs hx => exact ⟨a, xs, rfl, .inr (same_sqt mn_same hs), fun p hp => k p _ H1 e1 t1 hp hx⟩
theorem q_asg0 {te : TE} {i : Nat} {u : TS} {D : Ends} {σ : S} {H : Hp} (h : te σ H fun x H1 => u D (σ.set i (some x)) H1) : tSeq (tAsg te (gName i)) u D σ H := h
theorem s_asg0 {te : TE} {i : Nat} {D : Ends} {σ : S} {H : Hp} (h : te σ H fun x H1 => D.nx (σ.set i (some x)) H1) : tAsg te (gName i) D σ H := h
theorem pairs_n {σ : S} {H : Hp} {Q : List (V × V) → Hp → Prop} (h : Q [] H) : tPairs [] σ H Q := h
/-- the script, walked -/
theorem wk_sq {K : PySem.W.Frag} {M : List Addr} {σ : S} {H : Hp} {te : TE} {a : Addr} {ns : List Int} (hS : SqL K (mn M H) a (ns.map V.int))
    (h : ∀ H1 (Q : VK), Q (.ref a) H1 → te σ H1 Q) : Wk K M (iList K te) σ H ns.length (at0 (ns.map PyData.int)) := fun M2 H1 g R k =>
  h H1 _ (by
    have h1 : SqL K (mn M2 H1) a (ns.map V.int) := (Same.seq (K := K) g.mn hS)
    refine ⟨a, rfl, ⟨_, Same.seq (K := K) mn_same h1⟩, ?_⟩
    have w := walk_list (K := K) (a := a) (xs := ns.map V.int)
    rw [List.length_map] at w
    refine k _ _ _ _ (Same.refl _) w (fun M3 H3 g3 => Same.seq (K := K) mn_same (Same.seq (K := K) g3.mn h1)) fun M3 i H3 z H4 g3 hi hy => ?_
    obtain ⟨rfl, ez⟩ := hy
    rw [List.getElem?_map, List.getElem?_eq_getElem hi] at ez
    cases ez
    rw [at0_map hi]
    exact ⟨Same.refl _, .int _⟩)
end Dq

/-! draws: arguments, tests, comprehensions; sorted pairs -/
namespace Dq
open PySem PySem.Spec PyProof.Rows L2 Gd

def Dra (K : PySem.W.Frag) (s c : Addr) (M : List Addr) (ta : TA) (σ : S) (H : Hp) (P : List PyData → Prop) : Prop :=
  ∀ M' H1, Go M H M' H1 → Src s c H1 → ∀ Q : List V → Hp → Prop, (∀ vs ds H2, Kp s c H1 H2 → Src s c H2 → Dms K M' H2 vs ds → P ds → Q vs H2) → ta σ H1 Q
def Drb (s c : Addr) (M : List Addr) (tt : TT) (σ : S) (H : Hp) (P : Bool → Prop) : Prop :=
  ∀ M' H1, Go M H M' H1 → Src s c H1 → ∀ Q : Bool → Hp → Prop, (∀ b H2, Kp s c H1 H2 → Src s c H2 → P b → Q b H2) → tt σ H1 Q
section
variable {K : PySem.W.Frag} {M M' : List Addr} {s c : Addr} {σ : S} {H H' : Hp} {te ta tb : TE} {as : TA} {ds : List PyData} {d : PyData} {P P1 P2 : PyData → Prop} {PL PL1 : List PyData → Prop} {PB : Bool → Prop} {tt : TT} {wi : TI} {D : Ends} {u : TS}
theorem go_k (hs : s ∈ M) (hc : c ∈ M) {M1 : List Addr} {H1 H2 : Hp} (g : Go M H M1 H1) (k : Kp s c H1 H2) (S2 : Src s c H2) : Go M H M1 H2 := g.trans (go_kp (g.sub s hs) (g.sub c hc) g.tr k S2)
theorem dra_nil (h : PL []) : Dra K s c M tNil σ H PL := fun M1 H1 g hS Q q => q [] [] H1 (Kp.refl _) hS .nil h
theorem dra_cons (hs : s ∈ M) (hc : c ∈ M) (h : Dr K s c M te σ H P1) (k : ∀ d M' H', Go M H M' H' → P1 d → Dra K s c M' as σ H' fun ds => PL (d :: ds)) : Dra K s c M (tCons te as) σ H PL := fun M1 H1 g hS Q q =>
  h M1 H1 g hS _ fun v d H2 k2 S2 d2 p2 => by
    have g2 := go_k hs hc g k2 S2
    refine k d M1 H2 g2 p2 M1 H2 (Go.refl g2.tr) S2 _ fun vs ds H3 k3 S3 d3 p3 => ?_
    exact q _ _ H3 (k2.trans k3) S3 (.cons (dm_go d2 (go_kp (g.sub s hs) (g.sub c hc) g2.tr k3 S3)) d3) p3
theorem dra_ea (h : Ea K M as σ H ds) (hp : PL ds) : Dra K s c M as σ H PL := fun M1 H1 g hS Q q => h M1 H1 g _ fun vs H2 e2 d2 => q vs ds H2 (Kp.of e2) (hS.same e2) d2 hp
theorem Dra.mono (h : Dra K s c M as σ H PL) (g : Go M H M' H') : Dra K s c M' as σ H' PL := fun M2 H1 k => h M2 H1 (g.trans k)
theorem dr_tup (hs : s ∈ M) (hc : c ∈ M) (h : Dra K s c M as σ H PL) (hz : ∀ ds, PL ds → ds.length ≤ 1000) (hp : ∀ ds, PL ds → P (.tuple ds)) : Dr K s c M (tTup as) σ H P := fun M1 H1 g hS Q q =>
  h M1 H1 g hS _ fun vs ds H2 k2 S2 d2 p2 => ⟨by rw [d2.length]; exact sz _ (hz ds p2), fun p hn => q _ _ _ (k2.trans (Kp.of (same_new hn))) (S2.same (same_new hn)) (dm_newT (go_k hs hc g k2 S2).tr hn d2) (hp ds p2)⟩
theorem dr_lst (hs : s ∈ M) (hc : c ∈ M) (h : Dra K s c M as σ H PL) (hz : ∀ ds, PL ds → ds.length ≤ 1000) (hp : ∀ ds, PL ds → P (.list ds)) : Dr K s c M (tLst as) σ H P := fun M1 H1 g hS Q q =>
  h M1 H1 g hS _ fun vs ds H2 k2 S2 d2 p2 => ⟨by rw [d2.length]; exact sz _ (hz ds p2), fun p hn => q _ _ _ (k2.trans (Kp.of (same_new hn))) (S2.same (same_new hn)) (dm_newL (go_k hs hc g k2 S2).tr hn d2) (hp ds p2)⟩
/-- a call whose arguments draw, too -/
theorem dr_callA {n i : Nat} {pre : List PyData → Prop} {post : List PyData → PyData → Prop} {E : XK} (hs : s ∈ M) (hc : c ∈ M) (hv : σ[i]? = some (some (.ref s))) (h : Dra K s c M as σ H PL) (hl : ∀ ds, PL ds → ds.length = n ∧ pre ds) (hp : ∀ ds d, PL ds → post ds d → P d) :
    Dr K s c M (tCall (spDraw K n pre post) [] E (tCons (tVar i) as)) σ H P := fun M2 H1 g hS Q q =>
  ⟨.ref s, hv, h M2 H1 g hS _ fun vs ds H2 k2 S2 d2 p2 => by
    show spDraw K n pre post ((V.ref s :: vs) ++ []) H2 Q E
    rw [List.append_nil]
    exact ⟨M2, s, c, vs, ds, rfl, g.sub s hs, g.sub c hc, S2, (go_k hs hc g k2 S2).tr, d2, (hl ds p2).1, (hl ds p2).2, fun v d H3 k3 s3 d3 p => q v d H3 (k2.trans k3) s3 d3 (hp ds d p2 p)⟩⟩
theorem drb_test (h : Dr K s c M te σ H P1) (hb : ∀ d, P1 d → ∃ b, d = .bool b ∧ PB b) : Drb s c M (tTest te) σ H PB := fun M1 H1 g hS Q q =>
  h M1 H1 g hS _ fun v d H2 k2 S2 d2 p2 => by
    obtain ⟨b, rfl, pb⟩ := hb d p2
    exact ⟨b, d2.blV, q b H2 k2 S2 pb⟩
theorem dr_if (hs : s ∈ M) (hc : c ∈ M) (h : Drb s c M tt σ H PB) (h1 : ∀ M' H', Go M H M' H' → PB true → Dr K s c M' ta σ H' P) (h2 : ∀ M' H', Go M H M' H' → PB false → Dr K s c M' tb σ H' P) : Dr K s c M (tIf tt ta tb) σ H P := fun M1 H1 g hS Q q =>
  h M1 H1 g hS _ fun b H2 k2 S2 pb => by
    have g2 := go_k hs hc g k2 S2
    cases b with
    | true => exact h1 M1 H2 g2 pb M1 H2 (Go.refl g2.tr) S2 Q fun v d H3 k3 S3 d3 p3 => q v d H3 (k2.trans k3) S3 d3 p3
    | false => exact h2 M1 H2 g2 pb M1 H2 (Go.refl g2.tr) S2 Q fun v d H3 k3 S3 d3 p3 => q v d H3 (k2.trans k3) S3 d3 p3
/-! statements -/
theorem d_asg {i : Nat} (hs : s ∈ M) (hc : c ∈ M) (tr : Tr M H) (hS : Src s c H) (h : Dr K s c M te σ H P) (k : ∀ v d H1, Kp s c H H1 → Src s c H1 → Go M H M H1 → Dm K M H1 v d → P d → u D (σ.set i (some v)) H1) : tSeq (tAsg te (gName i)) u D σ H :=
  h M H (Go.refl tr) hS _ fun v d H1 k1 S1 d1 p1 => k v d H1 k1 S1 (go_kp hs hc tr k1 S1) d1 p1
theorem d_ret (hs : s ∈ M) (hc : c ∈ M) (tr : Tr M H) (hS : Src s c H) (h : Dr K s c M te σ H P) (k : ∀ v d H1, Kp s c H H1 → Src s c H1 → Go M H M H1 → Dm K M H1 v d → P d → D.rt v H1) : tRet te D σ H :=
  h M H (Go.refl tr) hS _ fun v d H1 k1 S1 d1 p1 => k v d H1 k1 S1 (go_kp hs hc tr k1 S1) d1 p1
theorem d_par {i j : Nat} (hs : s ∈ M) (hc : c ∈ M) (tr : Tr M H) (hS : Src s c H) (h : Dra K s c M as σ H PL) (hl : ∀ ds, PL ds → ∃ d1 d2, ds = [d1, d2])
    (k : ∀ v w d1 d2 H1, Kp s c H H1 → Src s c H1 → Go M H M H1 → Dm K M H1 v d1 → Dm K M H1 w d2 → PL [d1, d2] → u D ((σ.set i (some v)).set j (some w)) H1) : tSeq (tPar i j as) u D σ H :=
  h M H (Go.refl tr) hS _ fun vs ds H1 k1 S1 d1 p1 => by
    obtain ⟨a, b, rfl⟩ := hl ds p1
    cases d1 with
    | cons q1 q2 =>
      cases q2 with
      | cons q2 q3 =>
        cases q3
        exact ⟨_, _, rfl, k _ _ a b H1 k1 S1 (go_kp hs hc tr k1 S1) q1 q2 p1⟩
/-- a for over a range whose end is drawn -/
theorem d_for {g : TG} {tb : TS} (hs : s ∈ M) (hc : c ∈ M) (tr : Tr M H) (hS : Src s c H) (h : Dra K s c M as σ H PL) (hj : ∀ ds, PL ds → ∃ j : Int, ds = [.int j] ∧ 0 ≤ j ∧ j ≤ 100000) (Pv : Int → Nat → S → Hp → Prop)
    (h0 : ∀ j H1, Kp s c H H1 → Src s c H1 → Go M H M H1 → PL [.int j] → Pv j 0 σ H1)
    (hst : ∀ (j : Int) (i : Nat) σ' H', PL [.int j] → (i : Int) < j → Pv j i σ' H' → g (.int (i : Nat)) σ' H' fun σ2 H2 => tb { D with nx := Pv j (i + 1), ct := Pv j (i + 1), bk := D.nx } σ2 H2)
    (hd : ∀ (j : Int) σ' H', PL [.int j] → Pv j j.toNat σ' H' → D.nx σ' H') : tFor (iRng1 as) g tb D σ H :=
  h M H (Go.refl tr) hS _ fun vs ds H1 k1 S1 d1 p1 => by
    obtain ⟨j, rfl, hj0, hj1⟩ := hj ds p1
    cases d1 with
    | cons a b =>
      cases a
      cases b
      refine ⟨j, rfl, by omega, by omega, ?_⟩
      refine for_range (Pv j) (h0 j H1 k1 S1 (go_kp hs hc tr k1 S1) p1) (fun i σ' H' hi p => ?_) (fun σ' H' p => hd j σ' H' p1 p)
      have := hst j i σ' H' p1 (by omega) p
      rw [Int.zero_add]
      exact this
theorem dq_for {g : TG} {tb : TS} (hs : s ∈ M) (hc : c ∈ M) (tr : Tr M H) (hS : Src s c H) (h : Dra K s c M as σ H PL) (hj : ∀ ds, PL ds → ∃ j : Int, ds = [.int j] ∧ 0 ≤ j ∧ j ≤ 100000) (Pv : Int → Nat → S → Hp → Prop)
    (h0 : ∀ j H1, Kp s c H H1 → Src s c H1 → Go M H M H1 → PL [.int j] → Pv j 0 σ H1)
    (hst : ∀ (j : Int) (i : Nat) σ' H', PL [.int j] → (i : Int) < j → Pv j i σ' H' → g (.int (i : Nat)) σ' H' fun σ2 H2 => tb { D with nx := Pv j (i + 1), ct := Pv j (i + 1), bk := u D } σ2 H2)
    (hd : ∀ (j : Int) σ' H', PL [.int j] → Pv j j.toNat σ' H' → u D σ' H') : tSeq (tFor (iRng1 as) g tb) u D σ H :=
  d_for (D := { D with nx := u D }) hs hc tr hS h hj Pv h0 hst hd
theorem par3_0 {i j l : Nat} {ta : TA} (h : ta σ H fun vs H1 => ∃ x y z, vs = [x, y, z] ∧ u D (((σ.set i (some x)).set j (some y)).set l (some z)) H1) : tSeq (tPar3 i j l ta) u D σ H := h
theorem cons_0 {Q : List V → Hp → Prop} (h : te σ H fun x H1 => as σ H1 fun xs H2 => Q (x :: xs) H2) : tCons te as σ H Q := h
theorem nil_0 {Q : List V → Hp → Prop} (h : Q [] H) : tNil σ H Q := h
theorem lst_0 {Q : VK} (h : ∀ p, H p = none → Q (.ref p) (upd H p (.lst []))) : tLst tNil σ H Q := ⟨Nat.zero_le _, h⟩
theorem go_drop {p : Addr} (g : Go M H (p :: M) H') (hp : H p = none) : Go M H M H' where
  sub := fun _ h => h
  new := fun _ h => .inl h
  le := fun b o hb e => g.le b o (fun z => by
    rcases List.mem_cons.mp z with z | z
    · rw [z, hp] at e
      cases e
    · exact hb z) e
  tr := fun b hb => g.tr b (List.mem_cons_of_mem _ hb)
/-- what is no longer changed -/
theorem dm_freeze {p : Addr} {vs : List V} (hp : p ∉ M) (e : H' p = some (.lst vs)) (h : Dms K (p :: M) H' vs ds) : Dm K M H' (.ref p) (.list ds) := by
  refine .lst (xs := vs) ?_ ?_
  · rw [mn_out hp]
    exact e
  · refine Das.same (fun b o hb => ?_) _ _ h
    obtain ⟨h1, h2⟩ := mn_some hb
    rw [mn_out (fun z => h1 (List.mem_cons_of_mem _ z))]
    exact h2
/-- e appended to what may be changed -/
theorem s_app {i : Nat} {p : Addr} {vs : List V} (tr : Tr M H) (hi : σ[i]? = some (some (.ref p))) (hp : H p = some (.lst vs)) (hM : p ∈ M) (h : Ev K M te σ H d) (hz : vs.length ≤ 1000)
    (k : ∀ v H1, Same H H1 → Tr M H1 → Dm K M H1 v d → Go M H1 M (upd H1 p (.lst (vs ++ [v]))) → D.nx σ (upd H1 p (.lst (vs ++ [v])))) : tDrop (tBM K "list" rAppend (tVar i) (tCons te tNil)) D σ H :=
  ⟨.ref p, hi, .inl ⟨rfl, _, SqL.of hp⟩, h M H (Go.refl tr) _ fun v H1 e1 d1 => ⟨p, vs, v, rfl, rfl, e1 _ _ hp, by rw [sizeLine_eq]; omega, k v H1 e1 (tr.same e1) d1 (go_set (tr.same e1) hM)⟩⟩
theorem src_set {p : Addr} {o : HO} (h : Src s c H) (h1 : p ≠ s) (h2 : p ≠ c) : Src s c (upd H p o) := by
  obtain ⟨h0, cl, l, mm, tt, q1, q2, q3⟩ := h
  exact ⟨h0, cl, l, mm, tt, by rw [upd_ne (Ne.symm h1)]; exact q1, by rw [upd_ne (Ne.symm h2)]; exact q2, q3⟩
theorem cut_take {hi : Option Int} : cutPd ds none hi = ds.take (HT.sIx ds.length ds.length hi) := by
  unfold cutPd
  rw [HT.sIx_none, List.drop_zero, Nat.sub_zero]
/-! comprehensions -/
theorem dr_lc {g : TG} {vs : List Nat} {n : Nat} {it : Nat → PyData} (Pe : Nat → PyData → Prop) (hs : s ∈ M) (hc : c ∈ M) (w : Wk K M wi σ H n it) (hn : n ≤ 1000000)
    (h : ∀ M' H' i x, Go M H M' H' → i < n → Dm K M' H' x (it i) → ∃ σ2, Tk g x (wipe σ vs) H' σ2 ∧ wipe σ2 vs = wipe σ vs ∧ Dr K s c M' te σ2 H' (Pe i)) :
    Dr K s c M (tLc wi g tYes te vs) σ H fun d => ∃ ds, d = .list ds ∧ ds.length = n ∧ ∀ i e, ds[i]? = some e → Pe i e := fun M2 H1 g1 hS Q q =>
  w M2 H1 g1 _ fun J H2 G Y e2 wk hG hY D hD => by
    have g2 : Go M H M2 H2 := g1.same e2
    have S2 : Src s c H2 := hS.same e2
    have DM : D ∉ M2 := fun z => g2.tr D z hD
    have hDs : D ≠ s := fun z => DM (z ▸ g1.sub s hs)
    have hDc : D ≠ c := fun z => DM (z ▸ g1.sub c hc)
    have g3 : Go M2 H2 (D :: M2) (upd H2 D (.lst [])) := go_mut g2.tr hD
    refine lc_it wk (fun i H' => Go M2 H2 (D :: M2) H' ∧ Src s c H' ∧ Kp s c H2 H' ∧ ∃ acc ds, H' D = some (.lst acc) ∧ Dms K (D :: M2) H' acc ds ∧ ds.length = i ∧ ∀ j e, ds[j]? = some e → Pe j e)
      ⟨g3, S2.same (same_new hD), Kp.of (same_new hD), [], [], upd_same, .nil, rfl, fun j e z => by simp at z⟩ (fun i H' _ p => hG _ _ p.1) (fun i z H' H4 hi p hy => ?_) (fun H' p => ?_)
    · obtain ⟨p1, pS, ps, acc, ds, p2, p3, p4, p5⟩ := p
      obtain ⟨e4, d4⟩ := hY _ i H' z H4 p1 hi hy
      have g4 := p1.same e4
      obtain ⟨σ2, t1, t2, t4⟩ := h _ H4 i z (g2.trans g4) hi d4
      refine t1 _ ⟨t2, ?_⟩
      dsimp only [tYes]
      refine iteT ?_
      refine t4 _ H4 (Go.refl g4.tr) (pS.same e4) _ fun v d H6 k6 S6 d6 pd => ?_
      have s6 : Kp s c H' H6 := (Kp.of e4).trans k6
      have g6 := go_k (M := M2) (H := H2) (g1.sub s hs) (g1.sub c hc) g4 k6 S6
      have g46 : Go (D :: M2) H' (D :: M2) H6 := go_kp (List.mem_cons_of_mem _ (g1.sub s hs)) (List.mem_cons_of_mem _ (g1.sub c hc)) p1.tr s6 S6
      have a6 : H6 D = some (.lst acc) := s6 _ _ hDs hDc p2
      have hal := p3.length
      refine ⟨acc, a6, by rw [sizeLine_eq]; omega, ?_⟩
      have gs := go_set (o := .lst (acc ++ [v])) g6.tr (List.mem_cons_self (a := D) (l := M2))
      refine ⟨g6.trans gs, ?_, fun b o h1 h2 hb => ?_, acc ++ [v], ds ++ [d], upd_same, (dms_go p3 (g46.trans gs)).append (.cons (dm_go d6 gs) .nil), by rw [List.length_append, p4]; rfl, fun j e hj => ?_⟩
      · obtain ⟨h0, cl, l, mm, tt, q1, q2, q3⟩ := S6
        exact ⟨h0, cl, l, mm, tt, by rw [upd_ne (Ne.symm hDs)]; exact q1, by rw [upd_ne (Ne.symm hDc)]; exact q2, q3⟩
      · rw [upd_ne (ne_of_none hb hD)]
        exact s6 _ _ h1 h2 (ps _ _ h1 h2 hb)
      · by_cases hjl : j < ds.length
        · rw [List.getElem?_append_left hjl] at hj
          exact p5 j e hj
        · rw [List.getElem?_append_right (by omega)] at hj
          have hj0 : j - ds.length = 0 := by
            have := (List.getElem?_eq_some_iff.mp hj).1
            simp at this
            omega
          rw [hj0] at hj
          cases hj
          have : j = i := by omega
          subst this
          exact pd
    · obtain ⟨p1, pS, ps, acc, ds, p2, p3, p4, p5⟩ := p
      refine q _ (.list ds) _ ((Kp.of e2).trans ps) pS (.lst (xs := acc) ?_ ?_) ⟨ds, rfl, p4, p5⟩
      · rw [mn_out DM]
        exact p2
      · refine Das.same (fun b o hb => ?_) _ _ p3
        obtain ⟨h1, h2⟩ := mn_some hb
        rw [mn_out (fun z => h1 (List.mem_cons_of_mem _ z))]
        exact h2
end

/-! ### sorted of pairs, of ints -/
def rSortedQ (K : PySem.W.Frag) : List V → Hp → VK → Prop := fun vs H Q => ∃ a xs, vs = [V.ref a] ∧ SqL K H a xs ∧ (∀ x ∈ xs, ∃ t i j, x = V.ref t ∧ SqT K H t [.int i, .int j]) ∧
  ∀ ys p, ys.Perm xs → H p = none → Q (.ref p) (upd H p (.lst ys))
theorem cr_sortedQ {X : Cx} {K : PySem.W.Frag} (hK : X.K = K) : CallR X (.builtin "sorted") (rSortedQ K) := by
  subst hK
  intro pins s σ H vs us Q I r h
  obtain ⟨a, xs, rfl, hs, hx, q⟩ := h
  obtain ⟨its, rv, hl, hz⟩ := I.list hs
  obtain ⟨u, rfl, ru⟩ := vals1 r
  cases ru
  have refs : ∀ x ∈ xs, ∃ t, x = V.ref t := fun x m => let ⟨t, _, _, e, _⟩ := hx x m; ⟨t, e⟩
  obtain ⟨e1, e2⟩ := refs_back rv refs
  have len : its.length = xs.length := rv.length.symm
  refine Srt.sorted_pairs hl.isList (by rw [len]; exact hz) ?_ ?_
  · intro v hv
    obtain ⟨t, rfl⟩ := e2 v hv
    have hm : V.ref t ∈ xs := by
      rw [e1]
      exact List.mem_map.mpr ⟨_, hv, rfl⟩
    obtain ⟨t2, i, j, et, ht⟩ := hx _ hm
    cases et
    obtain ⟨its2, r2, ⟨o, ho, hc, n, hd⟩, _⟩ := I.tuple ht
    obtain ⟨u1, u2, rfl, ri, rj⟩ := vals2 r2
    obtain ⟨t1, rfl⟩ := ri
    obtain ⟨t2, rfl⟩ := rj
    exact ⟨i, j, t, o, t1, t2, n, rfl, ho, hc, hd⟩
  · intro h' d out hp k hd hn
    have h3 : ∀ u ∈ out, ∃ a, u = Value.ref a := fun u hu => e2 u (hp.mem_iff.mp hu)
    obtain ⟨n, hn⟩ := hn
    have lo : (out.map backV).length ≤ sizeLine := by
      rw [List.length_map, hp.length_eq, len]
      exact hz
    refine ⟨.ref d, upd H d (.lst (out.map backV)), I.laid (t' := s.toks) k hd ⟨lo, out, n, vals_back h3, hn⟩, rfl, q _ d ?_ (I.hok.fresh hd)⟩
    rw [e1]
    exact hp.map backV
section
variable {K : PySem.W.Frag} {M : List Addr} {σ : S} {H : Hp} {te ta : TE} {ds : List PyData} {s c : Addr}
theorem perm_map {α β : Type} {f : α → β} {es fs : List β} (h : es.Perm fs) : ∀ ps : List α, ps.map f = fs → ∃ qs : List α, qs.Perm ps ∧ es = qs.map f := by
  induction h with
  | nil => exact fun ps e => ⟨ps, List.Perm.refl _, e.symm⟩
  | @cons x l1 l2 hp ih =>
    intro ps e
    cases ps with
    | nil => cases e
    | cons p ps =>
      cases e
      obtain ⟨qs, h1, rfl⟩ := ih ps rfl
      exact ⟨p :: qs, h1.cons p, rfl⟩
  | swap x y l =>
    intro ps e
    cases ps with
    | nil => cases e
    | cons p ps =>
      cases ps with
      | nil => cases e
      | cons p2 ps =>
        cases e
        exact ⟨p2 :: p :: ps, List.Perm.swap _ _ _, rfl⟩
  | trans h1 h2 ih1 ih2 =>
    intro ps e
    obtain ⟨qs, q1, rfl⟩ := ih2 ps e
    obtain ⟨rs, q2, rfl⟩ := ih1 qs rfl
    exact ⟨rs, q2.trans q1, rfl⟩
/-- some arrangement of the pairs -/
theorem dr_sortedQ {f : Int × Int → PyData} {ps : List (Int × Int)} (hf : ∀ p, f p = .tuple [.int p.1, .int p.2]) (ha : Ev K M ta σ H (.list (ps.map f))) :
    Dr K s c M (tCB (rSortedQ K) (tCons ta tNil)) σ H fun d => ∃ qs : List (Int × Int), qs.Perm ps ∧ d = .list (qs.map f) := fun M1 H1 g hS Q q =>
  ha M1 H1 g _ fun v H2 e2 d2 => by
    have t2 := (g.same e2).tr
    cases d2 with
    | @lst a xs _ hs hx =>
      refine ⟨a, xs, rfl, SqL.of (mn_same _ _ hs), fun x hm => ?_, fun ys p hp hn => ?_⟩
      · obtain ⟨i, hi, rfl⟩ := List.getElem_of_mem hm
        obtain ⟨d, e5, e6⟩ := hx.getV (List.getElem?_eq_getElem hi)
        rw [List.getElem?_map] at e5
        cases hq : ps[i]? with
        | none => rw [hq] at e5; cases e5
        | some p =>
          rw [hq] at e5
          have : d = f p := (Option.some.inj e5).symm
          rw [this, hf] at e6
          generalize xs[i] = x at e6
          cases e6 with
          | @tup b zs _ ht hz =>
            cases hz with
            | cons z1 z2 =>
              cases z2 with
              | cons z2 z3 =>
                cases z3
                cases z1
                cases z2
                exact ⟨b, p.1, p.2, rfl, same_sqt mn_same ht⟩
      · obtain ⟨es, hes, hd⟩ := Das.perm hx hp
        obtain ⟨qs, q1, rfl⟩ := perm_map hes ps rfl
        exact q _ _ _ ((Kp.of e2).trans (Kp.of (same_new hn))) ((hS.same e2).same (same_new hn)) (dm_newL t2 hn hd) ⟨qs, q1, rfl⟩
theorem dr_sortedI {ns : List Int} (ha : Ev K M ta σ H (.list (ns.map PyData.int))) (hl : ns.length < 64) :
    Dr K s c M (tCB (rSorted K) (tCons ta tNil)) σ H fun d => ∃ ms : List Int, ms.Perm ns ∧ ms.Pairwise (· ≤ ·) ∧ d = .list (ms.map PyData.int) := fun M1 H1 g hS Q q =>
  ha M1 H1 g _ fun v H2 e2 d2 => by
    have t2 := (g.same e2).tr
    cases d2 with
    | @lst a xs _ hs hx =>
      have hv := das_ints hx
      subst hv
      refine ⟨a, ns, rfl, SqL.of (mn_same _ _ hs), hl, fun ms p h1 h2 hn => ?_⟩
      exact q _ _ _ ((Kp.of e2).trans (Kp.of (same_new hn))) ((hS.same e2).same (same_new hn)) (dm_newL t2 hn (Das.ints ms)) ⟨ms, h1, h2, rfl⟩
theorem ev_rep {es : List PyData} {tb : TE} {k : Int} (ha : Ev K M ta σ H (.list es)) (hb : Ev K M tb σ H (.int k)) (h0 : 0 ≤ k) (h1 : k ≤ 100) (h2 : es.length ≤ 1000) : Ev K M (tOp rRep ta tb) σ H (.list (List.replicate k.toNat es).flatten) :=
  ev_op ha hb fun M2 H1 x y gg dx dy Q q => by
    cases dx with
    | @lst a xs _ hs hx =>
      have hlen := hx.length
      refine ⟨a, k, xs, rfl, dy.intV, mn_same _ _ hs, by omega, by omega, ?_, fun p hp => ?_⟩
      · rw [sizeLine_eq]
        have : xs.length * k.toNat ≤ 1000 * 100 := Nat.mul_le_mul (by omega) (by omega)
        omega
      · refine q _ _ (same_new hp) (dm_newL gg.tr hp ?_)
        generalize k.toNat = m
        induction m with
        | zero => exact .nil
        | succ m ih =>
          rw [List.replicate_succ, List.replicate_succ, List.flatten_cons, List.flatten_cons]
          exact hx.append ih
def rgD (n : Int) : List PyData := (List.range n.toNat).map fun i => PyData.int (i : Nat)
theorem ev_listRg {n : Int} (ha : Ev K M ta σ H (.int n)) (h0 : 0 ≤ n) (h1 : n ≤ 1000) : Ev K M (tLstRg (tRg1 ta)) σ H (.list (rgD n)) := fun M2 H1 g Q q =>
  ha M2 H1 g _ fun v H2 e2 d2 => by
    refine ⟨n, d2.intV, ⟨by omega, by omega, by omega, by omega, by omega⟩, fun p hp => q _ _ (e2.trans (same_new hp)) (dm_newL (g.same e2).tr hp ?_)⟩
    have e : rgV 0 n = ((List.range n.toNat).map fun i : Nat => (i : Int)).map V.int := by
      unfold rgV
      rw [List.map_map, Int.sub_zero]
      refine List.map_congr_left fun i _ => ?_
      show V.int (0 + (i : Nat)) = V.int (i : Nat)
      rw [Int.zero_add]
    have e3 : rgD n = ((List.range n.toNat).map fun i : Nat => (i : Int)).map PyData.int := by
      unfold rgD
      rw [List.map_map]
      rfl
    rw [e, e3]
    exact Das.ints _
end
end Dq

/-! repr of a bool; a list made and changed; two names given what is drawn -/
namespace Dq
open PySem PySem.Spec PyProof.Rows L2 Gd
section
variable {X : Cx}
def rReprA (K : PySem.W.Frag) : List V → Hp → VK → Prop := fun xs H Q =>
  rReprD K xs H Q ∨ ∃ b, xs = [V.bl b] ∧ Q (.str (PyData.shown (.bool b))) H
theorem call_reprA (hg : X.A.guards = some []) (hu : X.A.units + 64 < cLine) : CallR X (.builtin "repr") (rReprA X.K) := by
  intro pins s σ H xs us Q I r h
  rcases h with h | ⟨b, rfl, q⟩
  · exact call_reprD hg hu pins s σ H xs us Q I r h
  · obtain ⟨u, rfl, ru⟩ := vals1 r
    cases ru
    refine PySem.P.repr_of_bool ?_
    refine ⟨.str (PyData.shown (.bool b)), H, I.kept (h' := s.heap) fun _ _ e => e, ⟨s.toks, ?_⟩, q⟩
    cases b <;> (unfold PyData.shown; rfl)
theorem call_reprA_k {K : PySem.W.Frag} (h : X.K = K) (hg : X.A.guards = some []) (hu : X.A.units + 64 < cLine) : CallR X (.builtin "repr") (rReprA K) := h ▸ call_reprA hg hu
end
section
variable {K : PySem.W.Frag} {M M' : List Addr} {σ : S} {H H' : Hp} {ta tb te tc : TE} {tt tu : TT} {as : TA} {d e f : PyData} {ds es : List PyData} {r : R2} {x y : V} {wi : TI} {D : Ends} {t u : TS} {s c : Addr} {P P1 : PyData → Prop}
theorem ev_reprA {n k : Nat} (ha : Ev K M ta σ H d) (hd : (∃ ds, d = .list ds) ∨ (∃ ds, d = .tuple ds)) (h : Fit n k d) (hn : n ≤ 60) (hk : k ≤ 270000) : Ev K M (tCB (rReprA K) (tCons ta tNil)) σ H (.str d.shown) :=
  fun M2 H1 g Q q => ev_reprF ha hd h hn hk M2 H1 g Q q |> fun z => by
    refine ha M2 H1 g _ fun v H2 e2 dv => ?_
    have hv : ∃ a, v = V.ref a := by
      rcases hd with ⟨ds, rfl⟩ | ⟨ds, rfl⟩
      · cases dv; exact ⟨_, rfl⟩
      · cases dv; exact ⟨_, rfl⟩
    obtain ⟨a, rfl⟩ := hv
    exact .inl ⟨a, d, rfl, Da.dp _ _ (dm_h dv), h.shw, h.nod, Nat.le_trans h.dep hn, h.size hk, q _ _ e2 (.str _)⟩
theorem ev_reprB {b : Bool} (ha : Ev K M ta σ H (.bool b)) : Ev K M (tCB (rReprA K) (tCons ta tNil)) σ H (.str (PyData.shown (.bool b))) :=
  fun M2 H1 g Q q => ha M2 H1 g _ fun v H2 e2 dv => .inr ⟨b, by rw [dv.blV], q _ _ e2 (.str _)⟩
/-- a list of shown things, made where it may be changed -/
theorem lst_new {Q : VK} (tr : Tr M H) (h : Ea K M as σ H ds) (hz : ds.length ≤ 1000)
    (k : ∀ p vs H1, Same H H1 → Tr M H1 → H1 p = none → Dms K M H1 vs ds → Q (.ref p) (upd H1 p (.lst vs))) : tLst as σ H Q :=
  h M H (Go.refl tr) _ fun vs H1 e1 d1 => ⟨by rw [d1.length, sizeLine_eq]; omega, fun p hp => k p vs H1 e1 (tr.same e1) hp d1⟩
theorem q_app {i : Nat} {p : Addr} {vs : List V} (tr : Tr M H) (hi : σ[i]? = some (some (.ref p))) (hp : H p = some (.lst vs)) (hM : p ∈ M) (h : Ev K M te σ H d) (hz : vs.length ≤ 1000)
    (k : ∀ v H1, Same H H1 → Tr M H1 → Dm K M H1 v d → Go M H1 M (upd H1 p (.lst (vs ++ [v]))) → u D σ (upd H1 p (.lst (vs ++ [v])))) : tSeq (tDrop (tBM K "list" rAppend (tVar i) (tCons te tNil))) u D σ H :=
  s_app (D := { D with nx := u D }) tr hi hp hM h hz k
theorem d_unp {i j : Nat} (hs : s ∈ M) (hc : c ∈ M) (tr : Tr M H) (hS : Src s c H) (h : Dr K s c M te σ H P) (hP : ∀ d, P d → ∃ d1 d2, d = .tuple [d1, d2])
    (k : ∀ v w d1 d2 H1, Kp s c H H1 → Src s c H1 → Go M H M H1 → Dm K M H1 v d1 → Dm K M H1 w d2 → P (.tuple [d1, d2]) → u D ((σ.set i (some v)).set j (some w)) H1) :
    tSeq (tAsg te (gTup K 2 (gCons (gName i) (gCons (gName j) gNil)))) u D σ H :=
  h M H (Go.refl tr) hS _ fun v d H1 k1 S1 dv p1 => by
    obtain ⟨d1, d2, rfl⟩ := hP _ p1
    obtain ⟨v1, v2, t1, t2, t3⟩ := tk_pair (i := i) (j := j) (σ0 := σ) dv
    exact t1 _ (k v1 v2 d1 d2 H1 k1 S1 (go_kp hs hc tr k1 S1) t2 t3 p1)
end
end Dq

/-! sorted(set(t)) of ints; a dict made by a comprehension; list.index of ints -/
namespace Dq
open PySem PySem.Spec PyProof.Rows L2 Gd
/-! the levels of some ints -/
def ins (x : Int) : List Int → List Int
  | [] => [x]
  | y :: ys => if x < y then x :: y :: ys else if x = y then y :: ys else y :: ins x ys
def lvl (xs : List Int) : List Int := xs.foldr ins []
theorem mem_ins {x k : Int} : ∀ {ys : List Int}, k ∈ ins x ys ↔ k = x ∨ k ∈ ys
  | [] => by unfold ins; simp
  | y :: ys => by
    unfold ins
    split
    · simp
    · split
      · rename_i h
        subst h
        simp
      · rw [List.mem_cons, mem_ins, List.mem_cons]
        constructor
        · rintro (h | h | h)
          · exact .inr (.inl h)
          · exact .inl h
          · exact .inr (.inr h)
        · rintro (h | h | h)
          · exact .inr (.inl h)
          · exact .inl h
          · exact .inr (.inr h)
theorem pw_ins {x : Int} : ∀ {ys : List Int}, ys.Pairwise (· < ·) → (ins x ys).Pairwise (· < ·)
  | [], _ => by unfold ins; simp
  | y :: ys, h => by
    obtain ⟨h1, h2⟩ := List.pairwise_cons.mp h
    unfold ins
    split
    · rename_i hx
      refine List.pairwise_cons.mpr ⟨fun z hz => ?_, h⟩
      rcases List.mem_cons.mp hz with rfl | hz
      · exact hx
      · exact Int.lt_trans hx (h1 z hz)
    · split
      · exact h
      · refine List.pairwise_cons.mpr ⟨fun z hz => ?_, pw_ins h2⟩
        rcases mem_ins.mp hz with rfl | hz
        · omega
        · exact h1 z hz
theorem mem_lvl {k : Int} : ∀ {xs : List Int}, k ∈ lvl xs ↔ k ∈ xs
  | [] => Iff.rfl
  | x :: xs => by
    show k ∈ ins x (lvl xs) ↔ _
    rw [mem_ins, mem_lvl, List.mem_cons]
theorem pw_lvl : ∀ xs : List Int, (lvl xs).Pairwise (· < ·)
  | [] => .nil
  | x :: xs => pw_ins (pw_lvl xs)
theorem ins_len {x : Int} : ∀ ys : List Int, (ins x ys).length ≤ ys.length + 1
  | [] => Nat.le_refl _
  | y :: ys => by
    unfold ins
    split
    · exact Nat.le_refl _
    · split
      · exact Nat.le_succ _
      · exact Nat.succ_le_succ (ins_len ys)
theorem lvl_len : ∀ xs : List Int, (lvl xs).length ≤ xs.length
  | [] => Nat.le_refl _
  | x :: xs => Nat.le_trans (ins_len _) (Nat.succ_le_succ (lvl_len xs))
theorem pw_eq : ∀ {xs ys : List Int}, xs.Pairwise (· < ·) → ys.Pairwise (· < ·) → (∀ k, k ∈ xs ↔ k ∈ ys) → xs = ys
  | [], [], _, _, _ => rfl
  | [], y :: ys, _, _, h => nomatch (h y).mpr (List.mem_cons_self ..)
  | x :: xs, [], _, _, h => nomatch (h x).mp (List.mem_cons_self ..)
  | x :: xs, y :: ys, hx, hy, h => by
    obtain ⟨x1, x2⟩ := List.pairwise_cons.mp hx
    obtain ⟨y1, y2⟩ := List.pairwise_cons.mp hy
    have e : x = y := by
      rcases List.mem_cons.mp ((h x).mp (List.mem_cons_self ..)) with e | a
      · exact e
      · rcases List.mem_cons.mp ((h y).mpr (List.mem_cons_self ..)) with e | b
        · exact e.symm
        · have := x1 y b
          have := y1 x a
          omega
    subst e
    rw [pw_eq x2 y2 fun k => ⟨fun a => ?_, fun a => ?_⟩]
    · rcases List.mem_cons.mp ((h k).mp (List.mem_cons_of_mem _ a)) with e | b
      · have := x1 k a
        omega
      · exact b
    · rcases List.mem_cons.mp ((h k).mpr (List.mem_cons_of_mem _ a)) with e | b
      · have := y1 k a
        omega
      · exact b
/-- its place among the levels -/
def rank (xs : List Int) (x : Int) : Int := ((lvl xs).idxOf x : Nat)
/-! set(t), t a tuple of ints -/
def rSetI (K : PySem.W.Frag) (w : World) : List V → Hp → VK → Prop := fun vs H Q => ∃ (a : Addr) (ns : List Int), vs = [V.ref a] ∧ SqT K H a (ns.map V.int) ∧ ns.length ≤ 60 ∧
  ∀ q c, H q = none → c ≤ ns.length → Q (.ref q) (upd H q (SetO w q (fun j => decide (j ∈ ns)) c))
theorem cr_setI {X : Cx} {K : PySem.W.Frag} {w : World} (hc : X.calm = true) (hK : X.K = K) (hw : X.w = w) : CallR X (.type "set") (rSetI K w) := by
  subst hK
  subst hw
  intro pins s σ H vs us Q I r h
  obtain ⟨a, ns, rfl, hs, hz, q⟩ := h
  obtain ⟨its, rv, ht, _⟩ := I.tuple hs
  rw [Vals.ref1 r]
  refine call_set_tupI ns (I.ok.hd hc) ht ?_ (by show ns.length + 1 < 4096; omega) fun h' tk c R hcn kp => ?_
  · exact Vals.ints (by simpa using rv)
  · exact ⟨.ref _, upd H s.heap.objs.size (SetO X.w s.heap.objs.size (fun j => decide (j ∈ ns)) c), I.laid (t' := tk) kp (Nat.le_refl _) (setO_new R), rfl, q _ _ (I.hok.fresh (Nat.le_refl _)) hcn⟩
theorem cr_sortedSet_k {X : Cx} {w : World} (hc : X.calm = true) (hw : X.w = w) : CallR X (.builtin "sorted") (rSortedSet w) := hw ▸ cr_sortedSet hc
theorem mt_index_k {X : Cx} {K : PySem.W.Frag} (hK : X.K = K) : MtR X "list.index" (rIndex K) := hK ▸ mt_index
section
variable {K : PySem.W.Frag} {M M' : List Addr} {σ : S} {H H' : Hp} {ta tb te tk tv : TE} {tt : TT} {as : TA} {d e : PyData} {ds : List PyData} {wi : TI} {w : World}
theorem ev_lvl {xs : List Int} (ha : Ev K M ta σ H (.tuple (xs.map PyData.int))) (hz : xs.length ≤ 60) : Ev K M (tCB (rSortedSet w) (tCons (tCB (rSetI K w) (tCons ta tNil)) tNil)) σ H (.list ((lvl xs).map PyData.int)) := fun M2 H1 g Q q =>
  ha M2 H1 g _ fun v H2 e2 dv => by
    have t2 := (g.same e2).tr
    cases dv with
    | @tup a vs _ hs hx =>
      have hvs : vs = xs.map V.int := das_ints hx
      subst hvs
      refine ⟨a, xs, rfl, same_sqt mn_same hs, hz, fun s0 c hs0 hc => ?_⟩
      refine ⟨s0, _, c, rfl, upd_same, by omega, fun ns p hp hm hl hp0 => ?_⟩
      have e3 : Same H2 (upd H2 s0 (SetO w s0 (fun j => decide (j ∈ xs)) c)) := same_new hs0
      have hn : ns = lvl xs := pw_eq hp (pw_lvl xs) fun k => by
        rw [hm, mem_lvl]
        exact decide_eq_true_iff
      subst hn
      exact q _ _ ((e2.trans e3).trans (same_new hp0)) (dm_newL (Tr.same t2 e3) hp0 (Das.ints _))
/-- d[k] where d stands in a slot -/
theorem ev_dget {i : Nat} {D : Addr} {kvs : List (Key × V)} {k r : Int} (hi : σ[i]? = some (some (.ref D))) (hD : mn M H D = some (.dK kvs)) (hv : valV kvs (.inl k) = some (.int r)) (hb : Ev K M tb σ H (.int k)) : Ev K M (tDGet (tVar i) tb) σ H (.int r) := fun M2 H1 g Q q =>
  ⟨.ref D, hi, hb M2 H1 g _ fun v H2 e2 dv => by
    cases dv
    have h2 : H2 D = some (.dK kvs) := mn_same _ _ ((g.same e2).mn _ _ hD)
    refine ⟨D, .int r, rfl, ?_, q _ _ e2 (.int r)⟩
    rw [← hv]
    exact DGet.k (k := .inl k) h2⟩
theorem ev_index {xs : List Int} {y : Int} {i : Nat} {p : V} (hi : σ[i]? = some (some p)) (hd : Dm K M H p (.list (xs.map PyData.int))) (hb : Ev K M tb σ H (.int y)) (hm : y ∈ xs) :
    Ev K M (tBM K "list" (rIndex K) (tVar i) (tCons tb tNil)) σ H (.int (xs.idxOf y : Nat)) := fun M2 H1 g Q q =>
  ⟨p, hi, by
    have h0 := dm_go hd g
    cases h0 with
    | @lst a vs _ hs hx =>
      have hvs : vs = xs.map V.int := das_ints hx
      subst hvs
      refine ⟨.inl ⟨rfl, _, SqL.of (mn_same _ _ hs)⟩, hb M2 H1 g _ fun v H2 e2 dv => ?_⟩
      cases dv
      have hl : xs.idxOf y < xs.length := List.idxOf_lt_length_of_mem hm
      have gi : ∀ m (h : m < xs.length), (xs.map V.int)[m]? = some (.int xs[m]) := fun m h => by rw [List.getElem?_map, List.getElem?_eq_getElem h]; rfl
      have e1 : xs[xs.idxOf y] = y := List.getElem_idxOf hl
      refine ⟨a, _, .int y, xs.idxOf y, .int y, rfl, rfl, SqL.of (e2 _ _ (mn_same _ _ hs)), rfl, ?_, ?_, ?_, ?_, q _ _ e2 (.int _)⟩
      · exact List.all_eq_true.mpr fun z hz => by
          obtain ⟨n, _, rfl⟩ := List.mem_map.mp hz
          rfl
      · rw [gi _ hl, e1]
      · show (y == y) = true
        exact beq_self_eq_true y
      · intro m z hm2 hz
        have h1 : m < xs.length := by omega
        rw [gi m h1] at hz
        cases hz
        have := List.not_of_lt_findIdx (p := (· == y)) (xs := xs) hm2
        exact this⟩
/-- {key: value for .. in ..}, the keys ints, no two the same -/
theorem dc_new {g : TG} {vs : List Nat} {n : Nat} {it : Nat → PyData} {Q : VK} (ky vl : Nat → Int) (tr : Tr M H) (w : Wk K M wi σ H n it) (hn : n ≤ 1000) (hd : ∀ i j, i < j → j < n → ky i ≠ ky j)
    (hs : ∀ M' H' i x, Go M H M' H' → i < n → Dm K M' H' x (it i) → ∃ σ2, Tk g x (wipe σ vs) H' σ2 ∧ wipe σ2 vs = wipe σ vs ∧ Ev K M' tk σ2 H' (.int (ky i)) ∧ Ev K M' tv σ2 H' (.int (vl i)))
    (k : ∀ D H' kvs, Same H H' → Tr M H' → D ∉ M → H D = none → H' D = some (.dK kvs) → (∀ i, i < n → valV kvs (.inl (ky i)) = some (.int (vl i))) → Q (.ref D) H') : tDc wi g tYes tk tv vs σ H Q :=
  w M H (Go.refl tr) _ fun J H2 G Y e2 wk hG hY D hD => by
    have tr2 : Tr M H2 := Tr.same tr e2
    have g2 : Go M H M H2 := (Go.refl tr).same e2
    have DM : D ∉ M := fun z => tr2 D z hD
    let Pv : Nat → Hp → Prop := fun i H' => Go M H2 (D :: M) H' ∧ Same H2 H' ∧ ∃ kvs : List (Key × V), H' D = some (.dK kvs) ∧ kvs.length ≤ i ∧ (∀ j, j < i → valV kvs (.inl (ky j)) = some (.int (vl j)))
    have P0 : Pv 0 (upd H2 D (.dK [])) := ⟨go_mut tr2 hD, same_new hD, [], upd_same, Nat.le_refl _, fun j hj => absurd hj (Nat.not_lt_zero j)⟩
    refine ⟨fun i m H' => i + m = n ∧ Pv i H', ⟨n, Nat.zero_add n, P0⟩, fun i m H' hp => ?_⟩
    obtain ⟨him, p1, ps, kvs, p2, p3, p4⟩ := hp
    by_cases hlt : i < n
    · refine .inr ⟨wk.goes _ _ hlt (hG _ _ p1), Pv (i + 1), fun H9 p9 => ⟨m - 1, by omega, by omega, p9⟩, fun z H4 hz => ?_⟩
      obtain ⟨e4, d4⟩ := hY _ i H' z H4 p1 hlt (wk.yields _ _ _ _ hlt (hG _ _ p1) hz)
      have g4 := p1.same e4
      obtain ⟨σ2, t1, t2, t3, t4⟩ := hs _ H4 i z (g2.trans g4) hlt d4
      refine t1 _ ⟨t2, ?_⟩
      show tk σ2 H4 _
      refine t3 _ H4 (Go.refl g4.tr) _ fun y H5 e5 d5 => t4 _ H5 ((Go.refl g4.tr).same e5) _ fun u H6 e6 d6 => ?_
      cases d5
      cases d6
      have s6 := (e4.trans e5).trans e6
      have g6 : Go M H2 (D :: M) H6 := (g4.same e5).same e6
      refine ⟨kvs, .inl (ky i), rfl, s6 _ _ p2, by rw [sizeLine_eq]; omega, g6.trans (go_set g6.tr (List.mem_cons_self ..)), fun b o hb => ?_, _, upd_same, Nat.le_trans (length_putK ..) (Nat.succ_le_succ p3), fun j hj => ?_⟩
      · rw [upd_ne (ne_of_none hb hD)]
        exact s6 _ _ (ps _ _ hb)
      · rw [valV_put]
        by_cases hji : j = i
        · subst hji
          exact if_pos rfl
        · have hlt2 : j < i := by omega
          rw [if_neg (fun z => hd j i hlt2 hlt (Sum.inl.inj z))]
          exact p4 j hlt2
    · have hi : i = n := by omega
      subst hi
      exact .inl ⟨wk.stops _ (hG _ _ p1), k D H' kvs (e2.trans ps) (fun b hb => p1.tr b (List.mem_cons_of_mem _ hb)) DM (e2.free hD) p2 p4⟩
end
end Dq

/-! calls whose answer is a new list; a drawn test; the first of the given ones -/
namespace Dq
open PySem PySem.Spec PyProof.Rows L2 Gd
/-- changes nothing, and answers with a new list -/
def spNew (K : PySem.W.Frag) (n : Nat) (R : List PyData → PyData → Prop) : Sp := fun vs H Q _ =>
  ∃ M ds d, Tr M H ∧ Dms K M H vs ds ∧ ds.length = n ∧ R ds d ∧ ∀ l H', H l = none → Same H H' → Dm K M H' (.ref l) d → Q (.ref l) H'
theorem spNew_len {K : PySem.W.Frag} {n : Nat} {R : List PyData → PyData → Prop} : ∀ vs H Q E, spNew K n R vs H Q E → vs.length = n := by
  rintro vs H Q E ⟨M, ds, d, _, h, hl, _⟩
  rw [h.length, hl]
section
variable {K : PySem.W.Frag} {M M' : List Addr} {σ : S} {H H' : Hp} {ta tb te : TE} {tt : TT} {as : TA} {d e : PyData} {ds : List PyData} {wi : TI} {D : Ends} {t u v : TS} {s c : Addr} {PB : Bool → Prop}
theorem ev_callN {n : Nat} {R : List PyData → PyData → Prop} {E : XK} (h : Ea K M as σ H ds) (hl : ds.length = n) (hp : R ds d) : Ev K M (tCall (spNew K n R) [] E as) σ H d := fun M2 H1 g Q q =>
  h M2 H1 g _ fun vs H2 e2 d2 => by
    show spNew K n R (vs ++ []) H2 Q E
    rw [List.append_nil]
    exact ⟨M2, ds, d, (g.same e2).tr, d2, hl, hp, fun l H3 _ e3 d3 => q _ H3 (e2.trans e3) d3⟩
/-- the new list itself -/
theorem call_new {n : Nat} {R : List PyData → PyData → Prop} {E : XK} {Q : VK} (tr : Tr M H) (h : Ea K M as σ H ds) (hl : ds.length = n) (hp : R ds d)
    (k : ∀ l H1, H l = none → Same H H1 → Tr M H1 → Dm K M H1 (.ref l) d → Q (.ref l) H1) : tCall (spNew K n R) [] E as σ H Q :=
  h M H (Go.refl tr) _ fun vs H2 e2 d2 => by
    show spNew K n R (vs ++ []) H2 Q E
    rw [List.append_nil]
    exact ⟨M, ds, d, Tr.same tr e2, d2, hl, hp, fun l H3 hl3 e3 d3 => k l H3 (e2.free hl3) (e2.trans e3) (Tr.same (Tr.same tr e2) e3) d3⟩
theorem lc_new {g : TG} {vs : List Nat} {n : Nat} {it : Nat → PyData} {Q : VK} (f : Nat → Bool) (el : Nat → PyData) (tr : Tr M H) (w : Wk K M wi σ H n it) (hn : n ≤ 1000000)
    (hs : ∀ M' H' i x, Go M H M' H' → i < n → Dm K M' H' x (it i) → ∃ σ2, Tk g x (wipe σ vs) H' σ2 ∧ wipe σ2 vs = wipe σ vs ∧ Eb M' tt σ2 H' (f i) ∧ (f i = true → Ev K M' te σ2 H' (el i)))
    (k : ∀ l H1, H l = none → Same H H1 → Tr M H1 → Dm K M H1 (.ref l) (.list (given n f el)) → Q (.ref l) H1) : tLc wi g tt te vs σ H Q := by
  have g1 : Go M H M H := Go.refl tr
  refine w M H g1 _ fun J H2 G Y e2 wk hG hY D hD => ?_
  have g2 : Go M H M H2 := g1.same e2
  have DM : D ∉ M := fun z => g2.tr D z hD
  have g3 : Go M H2 (D :: M) (upd H2 D (.lst [])) := go_mut g2.tr hD
  refine lc_it wk (fun i H' => Go M H2 (D :: M) H' ∧ Same H2 H' ∧ ∃ acc, H' D = some (.lst acc) ∧ Dms K (D :: M) H' acc (given i f el) ∧ acc.length ≤ i)
    ⟨g3, same_new hD, [], upd_same, .nil, Nat.le_refl _⟩ (fun i H' _ p => hG _ _ p.1) (fun i z H' H4 hi p hy => ?_) (fun H' p => ?_)
  · obtain ⟨p1, ps, acc, p2, p3, p4⟩ := p
    obtain ⟨e4, d4⟩ := hY _ i H' z H4 p1 hi hy
    have g4 := p1.same e4
    obtain ⟨σ2, t1, t2, t3, t4⟩ := hs _ H4 i z (g2.trans g4) hi d4
    refine t1 _ ⟨t2, t3 _ H4 (Go.refl g4.tr) _ fun H5 e5 => ?_⟩
    have g5 := g4.same e5
    cases hf : f i with
    | true =>
      show te σ2 H5 _
      refine t4 hf _ H5 ((Go.refl g4.tr).same e5) _ fun v H6 e6 d6 => ?_
      have g6 := g5.same e6
      have s6 := (e4.trans e5).trans e6
      have a6 : H6 D = some (.lst acc) := s6 _ _ p2
      refine ⟨acc, a6, Nat.lt_of_le_of_lt p4 (by rw [sizeLine_eq]; omega), ?_⟩
      have g7 : Go M H2 (D :: M) (upd H6 D (.lst (acc ++ [v]))) := g6.trans (go_set g6.tr (List.mem_cons_self ..))
      refine ⟨g7, fun b o hb => ?_, acc ++ [v], upd_same, ?_, ?_⟩
      · rw [upd_ne (ne_of_none hb hD)]
        exact s6 _ _ (ps _ _ hb)
      · rw [given_yes hf]
        have k := go_set (o := .lst (acc ++ [v])) g6.tr (List.mem_cons_self (a := D) (l := M))
        exact (dms_go p3 (((Go.refl p1.tr).same s6).trans k)).append (.cons (dm_go d6 k) .nil)
      · rw [List.length_append]
        show acc.length + 1 ≤ i + 1
        omega
    | false =>
      show Go M H2 (D :: M) H5 ∧ _
      have s5 := e4.trans e5
      refine ⟨g5, ps.trans s5, acc, s5 _ _ p2, ?_, by omega⟩
      rw [given_no hf]
      exact dms_go p3 ((Go.refl p1.tr).same s5)
  · obtain ⟨p1, ps, acc, p2, p3, p4⟩ := p
    exact k D H' (e2.free hD) (e2.trans ps) (fun b hb => p1.tr b (List.mem_cons_of_mem _ hb)) (dm_freeze DM p2 p3)
/-- what was not there before may be changed -/
theorem go_take {l : Addr} (tr : Tr M H) (e : Same H H') (hl : H l = none) (h2 : H' l ≠ none) : Go M H (l :: M) H' where
  sub := fun _ h => List.mem_cons_of_mem _ h
  new := fun b h => by
    rcases List.mem_cons.mp h with h | h
    · exact .inr (h ▸ hl)
    · exact .inl h
  le := fun b o _ q => e b o q
  tr := fun b h => by
    rcases List.mem_cons.mp h with h | h
    · rw [h]; exact h2
    · exact Tr.same tr e b h
/-- an if whose test is drawn -/
theorem dq_if (hs : s ∈ M) (hc : c ∈ M) (tr : Tr M H) (hS : Src s c H) (h : Drb s c M tt σ H PB) (h1 : ∀ H1, PB true → Kp s c H H1 → Src s c H1 → Go M H M H1 → t D σ H1) (h2 : ∀ H1, PB false → Kp s c H H1 → Src s c H1 → Go M H M H1 → v D σ H1) : tIfS tt t v D σ H :=
  h M H (Go.refl tr) hS _ fun b H1 k1 S1 p1 => by
    have g := go_kp hs hc tr k1 S1
    cases b with
    | true => exact h1 H1 p1 k1 S1 g
    | false => exact h2 H1 p1 k1 S1 g
end
theorem given_none {f : Nat → Bool} {el : Nat → PyData} : ∀ {n : Nat}, (∀ j, j < n → f j = false) → given n f el = []
  | 0, _ => rfl
  | n + 1, h => by rw [given_no (h n (Nat.lt_succ_self n)), given_none fun j hj => h j (Nat.lt_succ_of_lt hj)]
theorem given_first {f : Nat → Bool} {el : Nat → PyData} {i : Nat} (h : ∀ j, j < i → f j = false) (hi : f i = true) : ∀ {n : Nat}, i < n → ∃ r, given n f el = el i :: r
  | 0, z => absurd z (Nat.not_lt_zero i)
  | n + 1, z => by
    by_cases e : i = n
    · subst e
      exact ⟨[], by rw [given_yes hi, given_none h]; rfl⟩
    · obtain ⟨r, hr⟩ := given_first h hi (n := n) (by omega)
      cases hn : f n with
      | true => exact ⟨r ++ [el n], by rw [given_yes hn, hr]; rfl⟩
      | false => exact ⟨r, by rw [given_no hn, hr]⟩
theorem all_of {α : Type} {f : α → PyData} {p : α → Prop} : ∀ {ds : List PyData}, (∀ d ∈ ds, ∃ a, d = f a ∧ p a) → ∃ xs : List α, ds = xs.map f ∧ ∀ x ∈ xs, p x
  | [], _ => ⟨[], rfl, fun x hx => nomatch hx⟩
  | d :: ds, h => by
    obtain ⟨a, e, ha⟩ := h d (List.mem_cons_self ..)
    obtain ⟨xs, e2, hx⟩ := all_of (ds := ds) fun z hz => h z (List.mem_cons_of_mem _ hz)
    exact ⟨a :: xs, by rw [e, e2]; rfl, fun x hm => by
      rcases List.mem_cons.mp hm with rfl | hm
      · exact ha
      · exact hx x hm⟩
end Dq

/-! sorted of pairs of ints, the order told -/
namespace Dq
open PySem PySem.Spec PyProof.Rows L2 Gd
/-- q doesn't stand before p -/
def le2 (p q : Int × Int) : Prop := p.1 < q.1 ∨ (p.1 = q.1 ∧ p.2 ≤ q.2)
instance (p q : Int × Int) : Decidable (le2 p q) := by unfold le2; exact inferInstance
def insP (p : Int × Int) : List (Int × Int) → List (Int × Int)
  | [] => [p]
  | q :: r => if le2 p q then p :: q :: r else q :: insP p r
def sortP (ps : List (Int × Int)) : List (Int × Int) := ps.foldr insP []
theorem insP_perm {p : Int × Int} : ∀ l : List (Int × Int), (insP p l).Perm (p :: l)
  | [] => List.Perm.refl _
  | q :: r => by
    unfold insP
    split
    · exact List.Perm.refl _
    · exact ((insP_perm r).cons q).trans (List.Perm.swap p q r)
theorem sortP_perm : ∀ l : List (Int × Int), (sortP l).Perm l
  | [] => List.Perm.refl _
  | p :: l => (insP_perm _).trans ((sortP_perm l).cons p)
theorem insP_pw {p : Int × Int} : ∀ {l : List (Int × Int)}, l.Pairwise le2 → (insP p l).Pairwise le2
  | [], _ => List.pairwise_singleton _ _
  | q :: r, h => by
    obtain ⟨h1, h2⟩ := List.pairwise_cons.mp h
    unfold insP
    split
    · rename_i hpq
      refine List.pairwise_cons.mpr ⟨fun z hz => ?_, h⟩
      rcases List.mem_cons.mp hz with rfl | hz
      · exact hpq
      · have := h1 z hz
        unfold le2 at *
        omega
    · rename_i hpq
      refine List.pairwise_cons.mpr ⟨fun z hz => ?_, insP_pw h2⟩
      rcases List.mem_cons.mp ((insP_perm r).mem_iff.mp hz) with rfl | hz
      · unfold le2 at *
        omega
      · exact h1 z hz
theorem sortP_pw : ∀ l : List (Int × Int), (sortP l).Pairwise le2
  | [] => .nil
  | p :: l => insP_pw (sortP_pw l)
theorem pw2_eq : ∀ {l m : List (Int × Int)}, l.Pairwise le2 → m.Pairwise le2 → l.Perm m → l = m
  | [], m, _, _, h => (List.Perm.nil_eq h)
  | x :: l, [], _, _, h => absurd h.length_eq (by simp)
  | x :: l, y :: m, hl, hm, h => by
    obtain ⟨x1, x2⟩ := List.pairwise_cons.mp hl
    obtain ⟨y1, y2⟩ := List.pairwise_cons.mp hm
    have e : x = y := by
      rcases List.mem_cons.mp (h.mem_iff.mp (List.mem_cons_self ..)) with e | a
      · exact e
      · rcases List.mem_cons.mp (h.mem_iff.mpr (List.mem_cons_self ..)) with e | b
        · exact e.symm
        · have h1 := x1 y b
          have h2 := y1 x a
          unfold le2 at h1 h2
          exact Prod.ext (by omega) (by omega)
    subst e
    rw [pw2_eq x2 y2 h.cons_inv]
theorem sortP_of {l m : List (Int × Int)} (h : l.Perm m) (hl : l.Pairwise le2) : l = sortP m := pw2_eq hl (sortP_pw m) (h.trans (sortP_perm m).symm)
theorem sortP_congr {l m : List (Int × Int)} (h : l.Perm m) : sortP l = sortP m := pw2_eq (sortP_pw l) (sortP_pw m) ((sortP_perm l).trans (h.trans (sortP_perm m).symm))
/-! the rule -/
def rSortedV (K : PySem.W.Frag) : List V → Hp → VK → Prop := fun vs H Q => ∃ a xs, vs = [V.ref a] ∧ SqL K H a xs ∧ (∀ x ∈ xs, ∃ t i j, x = V.ref t ∧ SqT K H t [.int i, .int j]) ∧
  ∀ ys p, ys.Perm xs → (ys.Pairwise fun x y => ∀ t u i j k l, x = V.ref t → SqT K H t [.int i, .int j] → y = V.ref u → SqT K H u [.int k, .int l] → le2 (i, j) (k, l)) → H p = none → Q (.ref p) (upd H p (.lst ys))
theorem pair_uniq {h : Heap} {v : Value} {a b c d : Int} (p : Srt.IsPair h v a b) (q : Srt.IsPair h v c d) : a = c ∧ b = d := by
  obtain ⟨t, o, t1, t2, n, rfl, ho, hc, hd⟩ := p
  obtain ⟨t', o', t1', t2', n', e, ho', hc', hd'⟩ := q
  cases e
  rw [ho] at ho'
  cases ho'
  rw [hd] at hd'
  cases hd'
  exact ⟨rfl, rfl⟩
open Classical in
noncomputable def pairAt (h : Heap) (v : Value) : Int × Int := if e : ∃ p : Int × Int, Srt.IsPair h v p.1 p.2 then e.choose else (0, 0)
theorem pairAt_is {h : Heap} {v : Value} {a b : Int} (p : Srt.IsPair h v a b) : pairAt h v = (a, b) := by
  have e : ∃ p : Int × Int, Srt.IsPair h v p.1 p.2 := ⟨(a, b), p⟩
  unfold pairAt
  rw [dif_pos e]
  obtain ⟨h1, h2⟩ := pair_uniq e.choose_spec p
  exact Prod.ext h1 h2
theorem cr_sortedV {X : Cx} {K : PySem.W.Frag} (hK : X.K = K) : CallR X (.builtin "sorted") (rSortedV K) := by
  subst hK
  intro pins s σ H vs us Q I r h
  obtain ⟨a, xs, rfl, hs, hx, q⟩ := h
  obtain ⟨its, rv, hl, hz⟩ := I.list hs
  obtain ⟨u, rfl, ru⟩ := vals1 r
  cases ru
  have refs : ∀ x ∈ xs, ∃ t, x = V.ref t := fun x m => let ⟨t, _, _, e, _⟩ := hx x m; ⟨t, e⟩
  obtain ⟨e1, e2⟩ := refs_back rv refs
  have len : its.length = xs.length := rv.length.symm
  have pairs : ∀ {t : Addr} {i j : Int}, SqT X.K H t [.int i, .int j] → Srt.IsPair s.heap (.ref t) i j := fun {t i j} ht => by
    obtain ⟨its2, r2, ⟨o, ho, hc, n, hd⟩, _⟩ := I.tuple ht
    obtain ⟨u1, u2, rfl, ri, rj⟩ := vals2 r2
    obtain ⟨t1, rfl⟩ := ri
    obtain ⟨t2, rfl⟩ := rj
    exact ⟨t, o, t1, t2, n, rfl, ho, hc, hd⟩
  refine SrtO.sorted_pairsO (k := pairAt s.heap) hl.isList (by rw [len]; exact hz) ?_ ?_
  · intro v hv
    obtain ⟨t, rfl⟩ := e2 v hv
    have hm : V.ref t ∈ xs := by
      rw [e1]
      exact List.mem_map.mpr ⟨_, hv, rfl⟩
    obtain ⟨t2, i, j, et, ht⟩ := hx _ hm
    cases et
    have hp := pairs ht
    rw [pairAt_is hp]
    exact hp
  · intro h' d out hso hst k hd hn
    have hp : out.Perm its := hst.perm
    have h3 : ∀ u ∈ out, ∃ a, u = Value.ref a := fun u hu => e2 u (hp.mem_iff.mp hu)
    obtain ⟨n, hn⟩ := hn
    have lo : (out.map backV).length ≤ sizeLine := by
      rw [List.length_map, hp.length_eq, len]
      exact hz
    refine ⟨.ref d, upd H d (.lst (out.map backV)), I.laid (t' := s.toks) k hd ⟨lo, out, n, vals_back h3, hn⟩, rfl, q _ d ?_ ?_ (I.hok.fresh hd)⟩
    · rw [e1]
      exact hp.map backV
    · refine List.pairwise_map.mpr (List.Pairwise.imp_of_mem (fun {v u} hv hu hvu => ?_) hso)
      rintro t t2 i j k2 l2 q1 q2 q3 q4
      obtain ⟨b, rfl⟩ := h3 v hv
      obtain ⟨b2, rfl⟩ := h3 u hu
      cases q1
      cases q3
      have := SrtO.lexB_no.mp hvu
      rw [pairAt_is (pairs q2), pairAt_is (pairs q4)] at this
      unfold le2
      simp only at this
      omega
section
variable {K : PySem.W.Frag} {M : List Addr} {σ : S} {H : Hp} {te ta : TE} {ds : List PyData}
theorem ev_sortedV {f : Int × Int → PyData} {ps : List (Int × Int)} (hf : ∀ p, f p = .tuple [.int p.1, .int p.2]) (ha : Ev K M ta σ H (.list (ps.map f))) :
    Ev K M (tCB (rSortedV K) (tCons ta tNil)) σ H (.list ((sortP ps).map f)) := fun M1 H1 g Q q =>
  ha M1 H1 g _ fun v H2 e2 d2 => by
    have t2 := (g.same e2).tr
    have at2 : ∀ {x : V} {p : Int × Int}, Da K (mn M1 H2) x (f p) → ∃ b, x = V.ref b ∧ SqT K H2 b [.int p.1, .int p.2] := fun {x p} e6 => by
      rw [hf] at e6
      cases e6 with
      | @tup b zs _ ht hz =>
        cases hz with
        | cons z1 z2 =>
          cases z2 with
          | cons z2 z3 =>
            cases z3
            cases z1
            cases z2
            exact ⟨b, rfl, same_sqt mn_same ht⟩
    cases d2 with
    | @lst a xs _ hs hx =>
      refine ⟨a, xs, rfl, SqL.of (mn_same _ _ hs), fun x hm => ?_, fun ys p hp hpw hn => ?_⟩
      · obtain ⟨i, hi, rfl⟩ := List.getElem_of_mem hm
        obtain ⟨d, e5, e6⟩ := hx.getV (List.getElem?_eq_getElem hi)
        rw [List.getElem?_map] at e5
        cases hq : ps[i]? with
        | none => rw [hq] at e5; cases e5
        | some p =>
          rw [hq] at e5
          have : d = f p := (Option.some.inj e5).symm
          rw [this] at e6
          obtain ⟨b, h1, h2⟩ := at2 e6
          exact ⟨b, p.1, p.2, h1, h2⟩
      · obtain ⟨es, hes, hd⟩ := Das.perm hx hp
        obtain ⟨qs, q1, rfl⟩ := perm_map hes ps rfl
        have hlen := hd.length
        rw [List.length_map] at hlen
        have hqs : qs = sortP ps := sortP_of q1 (List.pairwise_iff_getElem.mpr fun i j hi hj hij => by
          have := List.pairwise_iff_getElem.mp hpw i j (by omega) (by omega) hij
          obtain ⟨d, e5, e6⟩ := hd.getV (List.getElem?_eq_getElem (i := i) (by omega))
          obtain ⟨d', e7, e8⟩ := hd.getV (List.getElem?_eq_getElem (i := j) (by omega))
          rw [List.getElem?_map, List.getElem?_eq_getElem hi] at e5
          rw [List.getElem?_map, List.getElem?_eq_getElem hj] at e7
          cases e5
          cases e7
          obtain ⟨b1, h1, h2⟩ := at2 e6
          obtain ⟨b2, h3, h4⟩ := at2 e8
          exact this _ _ _ _ _ _ h1 h2 h3 h4)
        subst hqs
        exact q _ _ (e2.trans (same_new hn)) (dm_newL t2 hn hd)
end
end Dq

/-! min and max of a tuple of two ints; places in a list or a tuple; tuple(range) -/
namespace Dq
open PySem PySem.Spec PyProof.Rows L2 Gd
theorem ix_any {X : Cx} {K : PySem.W.Frag} (hK : X.K = K) : IxR X (fun x y H Q => rIxT K x y H Q ∨ rIxL K x y H Q) := by
  subst hK
  intro value slice pins s σ H x y v u Q I rx ry h hs
  rcases h with h | h
  · exact ix_tup value slice pins s σ H x y v u Q I rx ry h hs
  · exact ix_list value slice pins s σ H x y v u Q I rx ry h hs
section
variable {K : PySem.W.Frag} {M : List Addr} {σ : S} {H : Hp} {te ta tb : TE} {ds : List PyData} {d : PyData}
theorem ev_ixA {i : Int} (ha : Ev K M ta σ H (.tuple ds) ∨ Ev K M ta σ H (.list ds)) (hb : Ev K M tb σ H (.int i)) (hi : L2.atI ds i = some d) : Ev K M (tOp (fun x y H Q => rIxT K x y H Q ∨ rIxL K x y H Q) ta tb) σ H d := by
  rcases ha with ha | ha
  · intro M2 H1 g Q q
    have := ev_ixT ha hb hi M2 H1 g Q q
    refine ha M2 H1 g _ fun x H2 e2 dx => hb M2 H2 (g.same e2) _ fun y H3 e3 dy => .inl ?_
    have dx3 := dm_same dx (g.same e2).tr e3
    cases dx3 with
    | @tup a xs _ hs hx =>
      obtain ⟨v, h1, h2⟩ := Das.atI hx hi
      cases dy
      exact ⟨a, xs, i, v, rfl, rfl, same_sqt mn_same hs, h1, q _ _ (e2.trans e3) h2⟩
  · intro M2 H1 g Q q
    refine ha M2 H1 g _ fun x H2 e2 dx => hb M2 H2 (g.same e2) _ fun y H3 e3 dy => .inr ?_
    have dx3 := dm_same dx (g.same e2).tr e3
    cases dx3 with
    | @lst a xs _ hs hx =>
      obtain ⟨v, h1, h2⟩ := Das.atI hx hi
      cases dy
      exact ⟨a, xs, i, v, rfl, rfl, SqL.of (mn_same _ _ hs), h1, q _ _ (e2.trans e3) h2⟩
end
/-! min(t), max(t) of a tuple of two ints -/
def rMinT (K : PySem.W.Frag) : List V → Hp → VK → Prop := fun vs H Q => ∃ a i j, vs = [V.ref a] ∧ SqT K H a [.int i, .int j] ∧ Q (.int (min i j)) H
def rMaxT (K : PySem.W.Frag) : List V → Hp → VK → Prop := fun vs H Q => ∃ a i j, vs = [V.ref a] ∧ SqT K H a [.int i, .int j] ∧ Q (.int (max i j)) H
theorem alike2 (i j : Int) : PySem.W.AlikeAll [.int i, .int j] := by
  refine ⟨fun x hx y hy => ?_, fun x hx => ?_⟩
  · simp only [List.mem_cons, List.not_mem_nil, or_false] at hx hy
    rcases hx with rfl | rfl <;> rcases hy with rfl | rfl <;> rfl
  · simp only [List.mem_cons, List.not_mem_nil, or_false] at hx
    rcases hx with rfl | rfl <;> exact PyData.noConfusion
theorem cr_minT {X : Cx} {K : PySem.W.Frag} (hc : X.calm = true) (hK : X.K = K) (hu : X.A.units + 65 < cLine) : CallR X (.builtin "min") (rMinT K) := by
  subst hK
  intro pins s σ H vs us Q I r h
  obtain ⟨a, i, j, rfl, hs, q⟩ := h
  obtain ⟨its, rv, ht, _⟩ := I.tuple hs
  rw [Vals.ref1 r]
  obtain ⟨u1, u2, rfl, ⟨t1, rfl⟩, ⟨t2, rfl⟩⟩ := vals2 rv
  refine PySem.W.min_tuple_data (I.ok.hd hc) ht (.cons (.int i t1) (.cons (.int j t2) .nil)) (alike2 i j) (by show X.A.units + 1 + 0 < cLine; omega) fun m v h' tk bs _ rd kp => ?_
  have e : PySem.W.minD (.int i) [.int j] = .int (min i j) := PySem.W.minD_ints i [j]
  rw [e] at rd
  cases rd
  exact ⟨.int _, H, I.kept kp, ⟨_, rfl⟩, q⟩
theorem cr_maxT {X : Cx} {K : PySem.W.Frag} (hc : X.calm = true) (hK : X.K = K) (hu : X.A.units + 65 < cLine) : CallR X (.builtin "max") (rMaxT K) := by
  subst hK
  intro pins s σ H vs us Q I r h
  obtain ⟨a, i, j, rfl, hs, q⟩ := h
  obtain ⟨its, rv, ht, _⟩ := I.tuple hs
  rw [Vals.ref1 r]
  obtain ⟨u1, u2, rfl, ⟨t1, rfl⟩, ⟨t2, rfl⟩⟩ := vals2 rv
  refine PySem.W.max_tuple_data (I.ok.hd hc) ht (.cons (.int i t1) (.cons (.int j t2) .nil)) (alike2 i j) (by show X.A.units + 1 + 0 < cLine; omega) fun m v h' tk bs _ rd kp => ?_
  have e : PySem.W.maxD (.int i) [.int j] = .int (max i j) := PySem.W.maxD_ints i [j]
  rw [e] at rd
  cases rd
  exact ⟨.int _, H, I.kept kp, ⟨_, rfl⟩, q⟩
section
variable {K : PySem.W.Frag} {M : List Addr} {σ : S} {H : Hp} {ta : TE} {i j : Int}
theorem pair_of {v : V} (h : Da K H v (.tuple [.int i, .int j])) : ∃ a, v = V.ref a ∧ SqT K H a [.int i, .int j] := by
  cases h with
  | @tup a zs _ ht hz =>
    cases hz with
    | cons z1 z2 =>
      cases z2 with
      | cons z2 z3 =>
        cases z3
        cases z1
        cases z2
        exact ⟨a, rfl, ht⟩
theorem ev_minT (ha : Ev K M ta σ H (.tuple [.int i, .int j])) : Ev K M (tCB (rMinT K) (tCons ta tNil)) σ H (.int (min i j)) := fun M2 H1 g Q q =>
  ha M2 H1 g _ fun v H2 e2 dv => by
    obtain ⟨a, rfl, hs⟩ := pair_of (dm_h dv)
    exact ⟨a, i, j, rfl, hs, q _ _ e2 (.int _)⟩
theorem ev_maxT (ha : Ev K M ta σ H (.tuple [.int i, .int j])) : Ev K M (tCB (rMaxT K) (tCons ta tNil)) σ H (.int (max i j)) := fun M2 H1 g Q q =>
  ha M2 H1 g _ fun v H2 e2 dv => by
    obtain ⟨a, rfl, hs⟩ := pair_of (dm_h dv)
    exact ⟨a, i, j, rfl, hs, q _ _ e2 (.int _)⟩
end
end Dq

/-! set(xs) of a list of ints; isinstance; three names at once; a chain of two comparisons -/
namespace Dq
open PySem PySem.Spec PyProof.Rows L2 Gd
/-- the empty set as it is laid -/
abbrev oSet (w : World) : Obj := ⟨.type "set", none, .set #[] 0 (.fresh 0 0 (!w.params.followText "set-order")), #[]⟩
section
variable {P : Program} {w : World} {A : Around} {E : Value → Shared → Prop} {s : Shared}
theorem laid_set_of_list {l : Addr} {items : Array Value} (ns : List Int) {Q : Value → Shared → Prop} (hh : A.handled = none) (hl : s.heap.IsList l items) (hit : IntsAre items.toList ns) (hb : ns.length + 1 < scanBound)
    (out : ∀ (g : Heap) (tk c : Nat), SetR w g s.heap.objs.size (fun j => decide (j ∈ ns)) c → c ≤ ns.length → (∀ b o, s.heap.get? b = some o → g.get? b = some o) → Q (.ref s.heap.objs.size) { s with heap := g, toks := tk }) :
    wpAny (model P w) A (call (.type "set") [.ref l]) Q E s := by
  have hsz : items.size = ns.length := by
    have q := IntsAre.length hit
    rwa [Array.length_toList] at q
  obtain ⟨_, _, hmro⟩ := F.called_set.mro
  have ⟨hmade, hsub⟩ := (⟨F.called_set.made, F.called_set.sub⟩ : _ ∧ _)
  refine wpAny_call (codeAny_of_tree (?_ : wpAny _ _ (callAny (.type "set") _) _ _ _))
  refine wpAny_pure ⟨Code.quiet_builtin _ (by decide +kernel), codeAny_builtin F.entry_type_call (?_)⟩
  rw [Around.under_plain (weight_type_call_type "set" [.ref l] []) rfl]
  have ⟨q1, q2⟩ := (⟨F.called_set.notType, F.called_set.canCreate⟩ : _ ∧ _)
  have q3 := F.typeCall_set_1 (.ref l)
  repeat (any_goals (first | assumption | wp_step))
  refine codeAny_mono (code_set_led1 (.ref l) (E := E) (Q₁ := fun o t => o = .ref s.heap.objs.size ∧ t = { s with heap := s.heap.push (oSet w) }) ⟨rfl, rfl⟩) fun r t hr => ?_
  rcases r with er | fl
  · exact hr
  · cases fl with
    | ret ob =>
      obtain ⟨rfl, rfl⟩ := hr
      have at0 : (s.heap.push (oSet w)).get? s.heap.objs.size = some (oSet w) := Heap.get?_push_size _ rfl
      have ty0 : Shared.TypeIs { s with heap := s.heap.push (oSet w) } (.ref s.heap.objs.size) "set" := ⟨_, at0, rfl⟩
      have ⟨i1, i2⟩ := (⟨F.called_set.init.lookup, F.called_set.init.bind (.ref s.heap.objs.size)⟩ : _ ∧ _)
      repeat (any_goals (first | assumption | wp_step))
      refine codeAny_mono (codeAny_call_builtin (R := wants (fun r t => r = .none ∧ ∃ g tk c, t = { s with heap := g, toks := tk } ∧ SetR w g s.heap.objs.size (fun j => decide (j ∈ ns)) c ∧ c ≤ ns.length ∧ ∀ b o, s.heap.get? b = some o → g.get? b = some o) E) F.called_set.init.plain F.entry_set_init (check_set_init_1 ty0 ?_)) fun r t hr => ?_
      · obtain ⟨⟨oc, od, odt, os⟩, ho, hc, nl, hd⟩ := hl
        simp only at hc hd
        subst hc; subst hd
        have ho1 : (s.heap.push (oSet w)).get? l = some ⟨.type "list", od, .seq items nl, os⟩ := Heap.get?_push_of_some _ ho
        have ⟨b1, b2⟩ := (⟨F.sub_list_set, F.sub_list_frozenset⟩ : _ ∧ _)
        have b3 : (Value.type "list" == Value.type "dict") = false := by decide
        have il : (s.heap.push (oSet w)).IsList l items := ⟨_, ho1, rfl, nl, rfl⟩
        unfold Builtin.«set.__init__» noKeywords Builtin.Frozenset.updateFrom
        generalize eP : pyIter = pI
        wp_walk
        subst eP
        refine wpAny_pyIter_list il (wpAny_bind (wpAny_runValue ?_))
        have lt := Heap.lt_size ho
        have h3 : A.in1.in1.in1.handled = none := by simp [hh]
        have ne1 : l ≠ (s.heap.push (oSet w)).objs.size := by rw [Heap.size_push]; exact Nat.ne_of_lt (Nat.lt_succ_of_lt lt)
        have ne2 : s.heap.objs.size ∉ [(s.heap.push (oSet w)).objs.size, l] := by
          rw [Heap.size_push]
          simp only [List.mem_cons, List.not_mem_nil, or_false, not_or]
          exact ⟨Nat.ne_of_lt (Nat.lt_succ_self _), Nat.ne_of_gt lt⟩
        have at1 : ((s.heap.push (oSet w)).push { cls := .type "list_iterator", data := .fields #[.ref l, .int 0 0] }).get? s.heap.objs.size = some (oSet w) := Heap.get?_push_of_some _ at0
        refine set_update_ints ((Walks.list h3 _ l ne1 items).toS) s.heap.objs.size ne2 ns hsz hb (fun i v hv => ?_) (items.size - 0) 0 _ (by omega) (Nat.zero_le _) ⟨⟨_, Heap.get?_push_size _ rfl, rfl, rfl⟩, il.push _⟩ ⟨0, Nat.le_refl 0, setR_new_at at1⟩ (fun s' c hm hc hS => ?_)
        · have hi : i < ns.length := by rw [← hsz]; exact (Array.getElem?_eq_some_iff.mp hv).1
          obtain ⟨t, e⟩ := IntsAre.int_at hit i v (by rw [Array.getElem?_toList]; exact hv)
          exact ⟨ns[i], t, List.getElem?_eq_getElem hi, by rw [e, List.getD_eq_getElem?_getD, List.getElem?_eq_getElem hi]; rfl⟩
        · obtain ⟨g, g2, d2, tk, o2⟩ := s'
          obtain ⟨e1, e2, e3⟩ := (⟨hm.gens, hm.drawn, hm.os⟩ : g2 = s.gens ∧ d2 = s.drawn ∧ o2 = s.os)
          subst e1; subst e2; subst e3
          refine (wpAny_pure (?_) : wpAny _ _ _ _ _ _)
          show wpAny _ _ (ret Value.none) _ _ _
          refine wpAny_pure ⟨rfl, g, tk, c, rfl, hS, by omega, fun b o e => ?_⟩
          have hb0 := Heap.lt_size e
          refine hm.heap b o ?_ (Heap.get?_push_of_some _ (Heap.get?_push_of_some _ e))
          rw [Heap.size_push]
          simp only [List.mem_cons, List.not_mem_nil, or_false, not_or]
          exact ⟨Nat.ne_of_lt hb0, Nat.ne_of_lt (Nat.lt_succ_of_lt hb0)⟩
      · rcases r with er | fl
        · exact hr
        · cases fl with
          | ret r =>
            obtain ⟨rfl, g, tk, c, rfl, a1, a2, a3⟩ := hr
            repeat (any_goals (first | assumption | wp_step))
            exact out _ _ _ a1 a2 a3
          | _ => exact hr.elim
    | _ => exact hr.elim
end

end Dq

namespace Dq
open PySem PySem.Spec PyProof.Rows L2 Gd
section
variable {X : Cx}
/-- set(xs), xs a list of ints -/
def rSetL (K : PySem.W.Frag) (w : World) : List V → Hp → VK → Prop := fun vs H Q => ∃ (a : Addr) (ns : List Int), vs = [V.ref a] ∧ SqL K H a (ns.map V.int) ∧ ns.length ≤ 4000 ∧
  ∀ q, H q = none → Q (.ref q) (upd H q (SetO w q (fun j => decide (j ∈ ns)) (lvl ns).length))
theorem card_set {w : World} {h : Heap} {a : Addr} {ns : List Int} {c : Nat} (R : SetR w h a (fun j => decide (j ∈ ns)) c) : c = (lvl ns).length := by
  obtain ⟨o, es, ep, t, _, _, _, _, hnd, hm, _, _, hsz, _⟩ := R
  have hp : (es.toList.map keyOf).Perm (lvl ns) := (List.perm_ext_iff_of_nodup hnd ((pw_lvl ns).imp fun h => Int.ne_of_lt h)).2 fun k => by
    rw [mem_lvl, ← hm k]
    exact decide_eq_true_iff
  rw [← hp.length_eq, List.length_map, Array.length_toList, hsz]
theorem cr_setL {K : PySem.W.Frag} {w : World} (hc : X.calm = true) (hK : X.K = K) (hw : X.w = w) : CallR X (.type "set") (rSetL K w) := by
  subst hK
  subst hw
  intro pins s σ H vs us Q I r h
  obtain ⟨a, ns, rfl, hs, hz, q⟩ := h
  obtain ⟨its, rv, pl, _⟩ := I.list hs
  rw [Vals.ref1 r]
  refine laid_set_of_list ns (I.ok.hd hc) pl.isList ?_ (by show ns.length + 1 < 4096; omega) fun h' tk c R hcn kp => ?_
  · exact Vals.ints (by simpa using rv)
  · have hcc := card_set R
    subst hcc
    exact ⟨.ref _, upd H s.heap.objs.size (SetO X.w s.heap.objs.size (fun j => decide (j ∈ ns)) (lvl ns).length), I.laid (t' := tk) kp (Nat.le_refl _) (setO_new R), rfl, q _ (I.hok.fresh (Nat.le_refl _))⟩
theorem call_isi_k {K : PySem.W.Frag} (hK : X.K = K) : CallR X (.builtin "isinstance") (rIsi K) := hK ▸ call_isi
end
section
variable {K : PySem.W.Frag} {M M' : List Addr} {σ : S} {H H' : Hp} {ta tb te tc : TE} {tt tu : TT} {as : TA} {d e f : PyData} {ds es : List PyData} {r : R2} {x y : V} {wi : TI} {D : Ends} {t u : TS} {s c : Addr} {P P1 : PyData → Prop} {w : World}
/-- its members, rising, at most 63 of them -/
theorem ev_lvlL {xs : List Int} (ha : Ev K M ta σ H (.list (xs.map PyData.int))) (hz : xs.length ≤ 4000) (hl : (lvl xs).length < 64) : Ev K M (tCB (rSortedSet w) (tCons (tCB (rSetL K w) (tCons ta tNil)) tNil)) σ H (.list ((lvl xs).map PyData.int)) := fun M2 H1 g Q q =>
  ha M2 H1 g _ fun v H2 e2 dv => by
    have t2 := (g.same e2).tr
    cases dv with
    | @lst a vs _ hs hx =>
      have hvs : vs = xs.map V.int := das_ints hx
      subst hvs
      refine ⟨a, xs, rfl, SqL.of (mn_same _ _ hs), hz, fun s0 hs0 => ?_⟩
      refine ⟨s0, _, _, rfl, upd_same, hl, fun ns p hp hm _ hp0 => ?_⟩
      have e3 : Same H2 (upd H2 s0 (SetO w s0 (fun j => decide (j ∈ xs)) (lvl xs).length)) := same_new hs0
      have hn : ns = lvl xs := pw_eq hp (pw_lvl xs) fun k => by
        rw [hm, mem_lvl]
        exact decide_eq_true_iff
      subst hn
      exact q _ _ ((e2.trans e3).trans (same_new hp0)) (dm_newL (Tr.same t2 e3) hp0 (Das.ints _))
theorem tyx_tup {v : V} (h : Da K H v (.tuple ds)) : TyX K H v (.type "tuple") := by
  cases h with
  | tup hs _ =>
    rcases hs with hs | ⟨o, its, n, hk, hc, _⟩
    · rcases hs with hs | ⟨o, hs⟩
      · exact .base (.tup hs)
      · exact .fTuple hs
    · exact .kTuple hk hc
theorem tyx_lst {v : V} (h : Da K H v (.list ds)) : TyX K H v (.type "list") := by
  cases h with
  | lst hs _ => exact .base (.lst hs)
theorem tyx_int {v : V} {i : Int} (h : Da K H v (.int i)) : TyX K H v (.type "int") := by
  cases h
  exact .base (.int i)
theorem tyx_bl {v : V} {b : Bool} (h : Da K H v (.bool b)) : TyX K H v (.type "bool") := by
  cases h
  exact .base (.bl b)
theorem tyx_str {v : V} {z : Str} (h : Da K H v (.str z)) : TyX K H v (.type "str") := by
  cases h
  exact .base (.str z)
theorem tyx_non {v : V} (h : Da K H v .none) : TyX K H v (.type "NoneType") := by
  cases h
  exact .base .non
theorem ev_isi {a b : String} {k : Bool} (ha : Ev K M ta σ H d) (ht : ∀ {H : Hp} {v : V}, Da K H v d → TyX K H v (.type a)) (hk : kitB a b = some k) : Ev K M (tCB (rIsi K) (tCons ta (tCons (tC (.ty b)) tNil))) σ H (.bool k) := fun M2 H1 g Q q =>
  ha M2 H1 g _ fun v H2 e2 dv => ⟨v, .ty b, .type a, .type b, k, rfl, .ty b, ht (dm_h dv), kit_ty hk, q _ _ e2 (.bl k)⟩
theorem ev_chain {g1 g2 : Int → Int → Bool} {i j k : Int} (ha : Ev K M ta σ H (.int i)) (hb : Ev K M tb σ H (.int j)) (hc : Ev K M tc σ H (.int k)) :
    Ev K M (tChain (rI0 fun i j => .bl (g1 i j)) (rI0 fun i j => .bl (g2 i j)) ta tb tc) σ H (.bool (g1 i j && g2 j k)) := fun M2 H1 g Q q =>
  ha M2 H1 g _ fun x H2 e2 dx => hb M2 H2 (g.same e2) _ fun y H3 e3 dy => by
    cases dx
    cases dy
    refine ⟨i, j, rfl, rfl, _, rfl, ?_⟩
    cases h : g1 i j with
    | false => exact iteF (q _ _ (e2.trans e3) (by rw [h]; exact .bl false))
    | true =>
      refine iteT (hc M2 H3 ((g.same e2).same e3) _ fun z H4 e4 dz => ?_)
      cases dz
      exact ⟨j, k, rfl, rfl, q _ _ ((e2.trans e3).trans e4) (by rw [h]; exact .bl _)⟩
theorem tk_three {i j l : Nat} {σ0 : S} {v1 v2 v3 : V} {p : Addr} (h : SqT K H p [v1, v2, v3]) : Tk (gTup K 3 (gCons (gName i) (gCons (gName j) (gCons (gName l) gNil)))) (.ref p) σ0 H (((σ0.set i (some v1)).set j (some v2)).set l (some v3)) :=
  fun Q q => ⟨p, _, rfl, h, rfl, _, _, rfl, _, _, rfl, _, _, rfl, rfl, q⟩
/-- a, b, c = .., three values, none of them drawn -/
theorem q_par3 {i j l : Nat} {d1 d2 d3 : PyData} (tr : Tr M H) (h : Ea K M as σ H [d1, d2, d3]) (k : ∀ v w z H1, Same H H1 → Tr M H1 → Dm K M H1 v d1 → Dm K M H1 w d2 → Dm K M H1 z d3 → u D (((σ.set i (some v)).set j (some w)).set l (some z)) H1) :
    tSeq (tPar3 i j l as) u D σ H := h M H (Go.refl tr) _ fun vs H1 e1 d1 => by
  cases d1 with
  | cons a1 r1 =>
    cases r1 with
    | cons a2 r2 =>
      cases r2 with
      | cons a3 r3 =>
        cases r3
        exact ⟨_, _, _, rfl, k _ _ _ H1 e1 (tr.same e1) a1 a2 a3⟩
end
end Dq

/-! repr of None and of an int, too; equal rows of ints -/
namespace Dq
open PySem PySem.Spec PyProof.Rows L2 Gd
section
variable {X : Cx}
def rReprZ (K : PySem.W.Frag) : List V → Hp → VK → Prop := fun xs H Q =>
  rReprA K xs H Q ∨ (xs = [V.non] ∧ Q (.str (PyData.shown .none)) H) ∨ ∃ i : Int, xs = [V.int i] ∧ i.natAbs.log2 < 1920 ∧ Q (.str (PyData.shown (.int i))) H
theorem call_reprZ (hg : X.A.guards = some []) (hu : X.A.units + 64 < cLine) : CallR X (.builtin "repr") (rReprZ X.K) := by
  intro pins s σ H xs us Q I r h
  rcases h with h | ⟨rfl, q⟩ | ⟨i, rfl, hi, q⟩
  · exact call_reprA hg hu pins s σ H xs us Q I r h
  · obtain ⟨u, rfl, ru⟩ := vals1 r
    cases ru
    refine PySem.P.repr_of_none ?_
    refine ⟨.str (PyData.shown .none), H, I.kept (h' := s.heap) fun _ _ e => e, ⟨s.toks, ?_⟩, q⟩
    unfold PyData.shown
    rfl
  · obtain ⟨u, rfl, ru⟩ := vals1 r
    obtain ⟨t, rfl⟩ := ru
    refine PySem.P.repr_of_int hi ?_
    refine ⟨.str (PyData.shown (.int i)), H, I.kept (h' := s.heap) fun _ _ e => e, ⟨s.toks, ?_⟩, q⟩
    unfold PyData.shown
    rfl
theorem call_reprZ_k {K : PySem.W.Frag} (h : X.K = K) (hg : X.A.guards = some []) (hu : X.A.units + 64 < cLine) : CallR X (.builtin "repr") (rReprZ K) := h ▸ call_reprZ hg hu
end
section
variable {K : PySem.W.Frag} {M M' : List Addr} {σ : S} {H H' : Hp} {ta tb te tc : TE} {tt tu : TT} {as : TA} {d e f : PyData} {ds es : List PyData} {r : R2} {x y : V} {wi : TI} {D : Ends} {t u : TS} {s c : Addr} {P P1 : PyData → Prop} {w : World}
/-- lists, tuples, bools, None -/
def plainD : PyData → Bool
  | .list _ => true
  | .tuple _ => true
  | .bool _ => true
  | .none => true
  | _ => false
theorem ev_reprZ {n k : Nat} (ha : Ev K M ta σ H d) (hd : plainD d = true) (h : Fit n k d) (hn : n ≤ 60) (hk : k ≤ 270000) : Ev K M (tCB (rReprZ K) (tCons ta tNil)) σ H (.str d.shown) := fun M2 H1 g Q q => by
  cases d with
  | list ds =>
    refine ha M2 H1 g _ fun v H2 e2 dv => ?_
    cases dv with
    | lst hs hx => exact .inl (.inl ⟨_, .list ds, rfl, Da.dp _ _ (dm_h (.lst hs hx)), h.shw, h.nod, Nat.le_trans h.dep hn, h.size hk, q _ _ e2 (.str _)⟩)
  | tuple ds =>
    refine ha M2 H1 g _ fun v H2 e2 dv => ?_
    cases dv with
    | tup hs hx => exact .inl (.inl ⟨_, .tuple ds, rfl, Da.dp _ _ (dm_h (.tup hs hx)), h.shw, h.nod, Nat.le_trans h.dep hn, h.size hk, q _ _ e2 (.str _)⟩)
  | bool b => exact ha M2 H1 g _ fun v H2 e2 dv => .inl (.inr ⟨b, by rw [dv.blV], q _ _ e2 (.str _)⟩)
  | none => exact ha M2 H1 g _ fun v H2 e2 dv => .inr (.inl ⟨by rw [dv.nonV], q _ _ e2 (.str _)⟩)
  | _ => cases hd
theorem ev_reprZi {i : Int} (ha : Ev K M ta σ H (.int i)) (hi : i.natAbs.log2 < 1920) : Ev K M (tCB (rReprZ K) (tCons ta tNil)) σ H (.str (PyData.shown (.int i))) :=
  fun M2 H1 g Q q => ha M2 H1 g _ fun v H2 e2 dv => .inr (.inr ⟨i, by rw [dv.intV], hi, q _ _ e2 (.str _)⟩)
end
theorem eqv_ints : ∀ xs ys : List Int, PyData.eqvAll (xs.map PyData.int) (ys.map PyData.int) = decide (xs = ys)
  | [], [] => by unfold PyData.eqvAll; rfl
  | [], y :: ys => by unfold PyData.eqvAll; rfl
  | x :: xs, [] => by unfold PyData.eqvAll; rfl
  | x :: xs, y :: ys => by
    have ih := eqv_ints xs ys
    rw [List.map_cons, List.map_cons]
    unfold PyData.eqvAll
    rw [ih]
    have e : PyData.eqv (.int x) (.int y) = (x == y) := by unfold PyData.eqv; rfl
    rw [e, Bool.eq_iff_iff, Bool.and_eq_true, beq_iff_eq, decide_eq_true_iff, decide_eq_true_iff, List.cons.injEq]
theorem eqv_tupI (xs ys : List Int) : PyData.eqv (.tuple (xs.map PyData.int)) (.tuple (ys.map PyData.int)) = decide (xs = ys) := by
  unfold PyData.eqv
  exact eqv_ints xs ys
theorem eqv_lstI (xs ys : List Int) : PyData.eqv (.list (xs.map PyData.int)) (.list (ys.map PyData.int)) = decide (xs = ys) := by
  unfold PyData.eqv
  exact eqv_ints xs ys
end Dq

/-! constants of the top: nested tuples, read off the written part -/
namespace Dq
open PySem PySem.Spec PyProof.Rows L2 Gd
def vOf : Value → V
  | .bool b => .bl b
  | .int i _ => .int i
  | .str x _ => .str x
  | .ref a => .ref a
  | _ => .non
def readL (f : Value → Option PyData) : List Value → Option (List PyData)
  | [] => some []
  | v :: r => match f v with
    | none => none
    | some d => match readL f r with
      | none => none
      | some ds => some (d :: ds)
/-- what a written value is, tuples down to a depth -/
def readV (K : PySem.W.Frag) : Nat → Value → Option PyData
  | _, .none => some .none
  | _, .bool b => some (.bool b)
  | _, .int i _ => some (.int i)
  | _, .str x _ => some (.str x)
  | n + 1, .ref a => match K.lookup a with
    | some ⟨.type t, none, .seq its _, _⟩ => if t = "tuple" then (if its.size ≤ 1000 then (readL (readV K n) its.toList).map PyData.tuple else none) else none
    | _ => none
  | _, _ => none
theorem readL_das {K : PySem.W.Frag} {H : Hp} {f : Value → Option PyData} (hf : ∀ v d, f v = some d → RelV (vOf v) v ∧ Da K H (vOf v) d) : ∀ (vs : List Value) (ds : List PyData), readL f vs = some ds → Vals (vs.map vOf) vs ∧ Das K H (vs.map vOf) ds
  | [], ds, h => by
    cases h
    exact ⟨.nil, .nil⟩
  | v :: r, ds, h => by
    unfold readL at h
    cases h1 : f v with
    | none => rw [h1] at h; cases h
    | some d =>
      rw [h1] at h
      cases h2 : readL f r with
      | none => rw [h2] at h; cases h
      | some es =>
        rw [h2] at h
        cases h
        obtain ⟨a, b⟩ := hf v d h1
        obtain ⟨x, y⟩ := readL_das hf r es h2
        exact ⟨.cons a x, .cons b y⟩
theorem readV_da {K : PySem.W.Frag} {H : Hp} : ∀ (n : Nat) (v : Value) (d : PyData), readV K n v = some d → RelV (vOf v) v ∧ Da K H (vOf v) d
  | n, .none, d, h => by
    unfold readV at h
    cases h
    exact ⟨rfl, .non⟩
  | n, .bool b, d, h => by
    unfold readV at h
    cases h
    exact ⟨rfl, .bl b⟩
  | n, .int i t, d, h => by
    unfold readV at h
    cases h
    exact ⟨⟨t, rfl⟩, .int i⟩
  | n, .str x t, d, h => by
    unfold readV at h
    cases h
    exact ⟨⟨t, rfl⟩, .str x⟩
  | n + 1, .ref a, d, h => by
    unfold readV at h
    split at h
    · next t its m _ hk =>
      split at h
      · next ht =>
        subst ht
        split at h
        · next hz =>
          cases hr : readL (readV K n) its.toList with
          | none => rw [hr] at h; cases h
          | some ds =>
            rw [hr] at h
            cases h
            obtain ⟨x, y⟩ := readL_das (K := K) (H := H) (readV_da n) its.toList ds hr
            exact ⟨rfl, .tup (.inr ⟨_, its, m, hk, rfl, rfl, by rw [sizeLine_eq]; omega, x⟩) y⟩
        · cases h
      · cases h
    · cases h
  | 0, .ref a, d, h => by
    unfold readV at h
    cases h
  | n, .bytes b t, d, h => by unfold readV at h; cases h
  | n, .float b t, d, h => by unfold readV at h; cases h
  | n, .type t, d, h => by unfold readV at h; cases h
  | n, .builtin t, d, h => by unfold readV at h; cases h
  | n, .ellipsis, d, h => by unfold readV at h; cases h
  | n, .notImplemented, d, h => by unfold readV at h; cases h
theorem readV_ty {K : PySem.W.Frag} {n : Nat} {a : Addr} {d : PyData} (h : readV K n (.ref a) = some d) : ∃ o, K.lookup a = some o ∧ o.cls = .type "tuple" ∧ o.dict = none := by
  cases n with
  | zero =>
    unfold readV at h
    cases h
  | succ n =>
    unfold readV at h
    split at h
    · next t its m _ hk =>
      split at h
      · next ht =>
        subst ht
        exact ⟨_, hk, rfl, rfl⟩
      · cases h
    · cases h
section
variable {K : PySem.W.Frag} {M M' : List Addr} {σ : S} {H H' : Hp}
/-- a constant -/
theorem ev_const {a : Addr} {n : Nat} {d : PyData} (h : readV K n (.ref a) = some d) : Ev K M (tC (.ref a)) σ H d := fun M2 H1 g Q q => q _ _ (Same.refl _) (readV_da n _ d h).2
end
end Dq

/-! t.index(y), t a tuple of data -/
namespace Dq
open PySem PySem.Spec PyProof.Rows L2 Gd
section
variable {X : Cx}
def rIndexT (K : PySem.W.Frag) : V → List V → Hp → VK → Prop := fun x xs H Q => ∃ (a : Addr) (y : V) (d : PyData) (ds : List PyData) (j : Nat) (z : PyData), x = V.ref a ∧ xs = [y] ∧ Dp K H (V.ref a) (.tuple ds) ∧ Dp K H y d ∧
  SeqAt.shaped (.tuple ds) = true ∧ SeqAt.shaped d = true ∧ ds[j]? = some z ∧ PyData.eqv z d = true ∧ (∀ (m : Nat) (z' : PyData), m < j → ds[m]? = some z' → PyData.eqv z' d = false) ∧ Q (.int (j : Nat)) H
theorem mt_indexT (hu : X.A.units + 65 < cLine) : MtR X "tuple.index" (rIndexT X.K) := by
  intro pins s σ H x xs v us Q I rx rxs h
  obtain ⟨a, y, d, ds, j, z, rfl, rfl, hl, hy, sl, sd, hz, hzj, hno, q⟩ := h
  cases rx
  cases rxs with
  | cons ry rt =>
    rename_i uy ut
    cases rt
    obtain ⟨bs, r1⟩ := Dp.reads I d y uy hy ry
    have lay : PyData.canLayAll0 ds = true := SeqAt.canLay_of_shaped sl
    have room : X.A.units + 1 + min (PyData.depthAll ds) d.depth < cLine := room_in_shaped sd hu
    cases hl with
    | tup hs ha =>
      obtain ⟨its, rv, ⟨⟨oc, od, odt, osl⟩, ho, hc, n, hdt⟩, hlen⟩ := I.tuple hs
      simp only at hc hdt
      subst hc hdt
      obtain ⟨as, h4⟩ := Dp.readsAll I ds _ its ha rv
      have n1 : its.length = ds.length := SeqAt.ReadsAll.length ds its as h4
      have hmap : its.map (SeqAt.readOf s.heap) = ds := SeqAt.readsAll_map ds its as lay h4
      obtain ⟨hjd, _⟩ := List.getElem?_eq_some_iff.mp hz
      have hj : j < its.toArray.size := by
        rw [List.size_toArray]
        omega
      have reads : ∀ (m : Nat) (hm : m < its.toArray.size) (z' : PyData), ds[m]? = some z' → SeqAt.readOf s.heap its.toArray[m] = z' := fun m hm z' hz' => by
        have hml : m < its.length := by rwa [List.size_toArray] at hm
        rw [← hmap, List.getElem?_map, List.getElem?_eq_getElem hml] at hz'
        simpa using Option.some.inj hz'
      refine call_meets PySem.F.slot_tuple_index ⟨_, ho, rfl⟩ PySem.F.entry_tuple_index (PySem.F.args_tuple_index_2 _ _)
        (TI.tuple_indexAt a its.toArray n od osl uy (fun u => PyData.eqv (SeqAt.readOf s.heap u) d) j hj ?_ ?_) ⟨ho, SeqAt.items_eqAt (vs := its.toArray) (show ReadsAll s.heap its.toArray.toList ds as from h4) r1 lay (SeqAt.canLay_of_shaped sd) room, .int (j : Nat), H, I.tok _, ⟨_, rfl⟩, q⟩
      · show PyData.eqv (SeqAt.readOf s.heap its.toArray[j]) d = true
        rw [reads j hj z hz, hzj]
      · intro m hm hmj
        show PyData.eqv (SeqAt.readOf s.heap its.toArray[m]) d = false
        have hmd : m < ds.length := by omega
        have e : ds[m]? = some ds[m] := List.getElem?_eq_getElem hmd
        rw [reads m hm _ e, hno m _ hmj e]
theorem mt_indexT_k {K : PySem.W.Frag} (hK : X.K = K) (hu : X.A.units + 65 < cLine) : MtR X "tuple.index" (rIndexT K) := hK ▸ mt_indexT hu
end
section
variable {K : PySem.W.Frag} {M M' : List Addr} {σ : S} {H H' : Hp} {ta tb te tc : TE} {d e : PyData} {ds es : List PyData}
theorem ev_indexT {a : Addr} {k j : Nat} {z : PyData} (hr : readV K k (.ref a) = some (.tuple ds)) (hb : Ev K M tb σ H d) (sl : SeqAt.shaped (.tuple ds) = true) (sd : SeqAt.shaped d = true) (hz : ds[j]? = some z) (he : PyData.eqv z d = true) (hno : ∀ (m : Nat) (z' : PyData), m < j → ds[m]? = some z' → PyData.eqv z' d = false) :
    Ev K M (tBM K "tuple" (rIndexT K) (tC (.ref a)) (tCons tb tNil)) σ H (.int (j : Nat)) := fun M2 H1 g Q q =>
  ⟨.inr (.inl ⟨rfl, readV_ty hr⟩), hb M2 H1 g _ fun y H3 e3 dy => ⟨_, _, d, ds, j, z, rfl, rfl, Da.dp _ _ (readV_da k _ _ hr).2, Da.dp _ _ (dm_h dy), sl, sd, hz, he, hno, q _ _ e3 (.int _)⟩⟩
end
end Dq

/-! list comprehensions of three clauses -/
namespace Dq
open PySem PySem.Spec PyProof.Rows L2 Gd
/-- a clause's tests -/
abbrev testsAt (ifs : List Expr) (env : Env) : Sem Bool := forIn ifs true fun c r => if r = true then (isTrue c env (eval c env) >>= fun ok => pure (ForInStep.yield ok)) else pure (ForInStep.yield r)
/-- what comes of a raise within -/
abbrev errIn (prog : Program) (w : World) (A : Around) (env : Env) (R : Result → Shared → Prop) : Value → Shared → Prop := notedBy (model prog w) A env fun x t => R (.error x) t
abbrev e3 (elt t0 i0 t1 i1 t2 i2 : Expr) (f0 f1 f2 : List Expr) (sc : Scope) (pos : Pos) : Expr := .ListComp elt [⟨t0, i0, f0, 0⟩, ⟨t1, i1, f1, 0⟩, ⟨t2, i2, f2, 0⟩] sc pos
section
variable {elt t0 i0 t1 i1 t2 i2 : Expr} {f0 f1 f2 : List Expr} {sc : Scope} {pos : Pos} {it acc : Value} {env : Env}
theorem turn3_0 : compTurn (e3 elt t0 i0 t1 i1 t2 i2 f0 f1 f2 sc pos) 0 it acc env = (do
    standAt i0.pos
    match ← pyNext it with
    | none => pure (.done .next)
    | some v =>
      letOwnedTupleGo t0 it v
      assign t0 env v
      let mut ok := true
      for q in f0 do
        if ok then ok ← isTrue q env (eval q env)
      if ok then
        let y ← eval i1 env
        standAt i1.pos
        let y ← foldedSetIterable i1 env y
        let _ ← runOwn (.compStart (e3 elt t0 i0 t1 i1 t2 i2 f0 f1 f2 sc pos) 1 (← holding [y] (pyIter y)) acc env) env
      again (.compLoop (e3 elt t0 i0 t1 i1 t2 i2 f0 f1 f2 sc pos) 0 it acc env)) := by rfl
theorem turn3_1 : compTurn (e3 elt t0 i0 t1 i1 t2 i2 f0 f1 f2 sc pos) 1 it acc env = (do
    standAt i1.pos
    match ← pyNext it with
    | none => pure (.done .next)
    | some v =>
      letOwnedTupleGo t1 it v
      assign t1 env v
      let mut ok := true
      for q in f1 do
        if ok then ok ← isTrue q env (eval q env)
      if ok then
        let y ← eval i2 env
        standAt i2.pos
        let y ← foldedSetIterable i2 env y
        let _ ← runOwn (.compStart (e3 elt t0 i0 t1 i1 t2 i2 f0 f1 f2 sc pos) 2 (← holding [y] (pyIter y)) acc env) env
      again (.compLoop (e3 elt t0 i0 t1 i1 t2 i2 f0 f1 f2 sc pos) 1 it acc env)) := by rfl
theorem turn3_2 : compTurn (e3 elt t0 i0 t1 i1 t2 i2 f0 f1 f2 sc pos) 2 it acc env = (do
    standAt i2.pos
    match ← pyNext it with
    | none => pure (.done .next)
    | some v =>
      letOwnedTupleGo t2 it v
      assign t2 env v
      let mut ok := true
      for q in f2 do
        if ok then ok ← isTrue q env (eval q env)
      if ok then
        (do let _ ← call (.builtin "list.append") [acc, ← eval elt env])
      again (.compLoop (e3 elt t0 i0 t1 i1 t2 i2 f0 f1 f2 sc pos) 2 it acc env)) := by rfl
end
section
variable {prog : Program} {w : World} {A : Around} {R : Result → Shared → Prop} {s : Shared} {tg nx elt el0 : Expr} {gs : List Comprehension} {sc : Scope} {ps : Pos} {fs : List Expr} {d : Nat} {it acc : Value} {env : Env}
/-- one turn of a clause: L is what its tests let by -/
def TurnP (prog : Program) (w : World) (A : Around) (env : Env) (R : Result → Shared → Prop) (tg : Expr) (fs : List Expr) (it : Value) (L : (Shared → Prop) → Shared → Prop) (n : Nat) (I : Nat → Shared → Prop) (s : Shared) : Prop :=
  wpAny (model prog w) A (pyNext it) (fun r s1 => match r with
    | none => R (.ok .next) s1
    | some v => wpAny (model prog w) A (letOwnedTupleGo tg it v) (fun _ s2 => wpAny (model prog w) A (assign tg env v) (fun _ s3 =>
        wpAny (model prog w) A (testsAt fs env) (fun ok s4 => if ok = true then L (fun s5 => ∃ m, m < n ∧ I m s5) s4 else ∃ m, m < n ∧ I m s4) (errIn prog w A env R) s3) (errIn prog w A env R) s2) (errIn prog w A env R) s1) (errIn prog w A env R) s
/-- the next clause's whole loop -/
def NextL (prog : Program) (w : World) (A : Around) (env : Env) (R : Result → Shared → Prop) (e nx : Expr) (d : Nat) (acc : Value) (Q : Shared → Prop) (s : Shared) : Prop :=
  wpAny (model prog w) A (eval nx env) (fun y s1 => wpAny (model prog w) A (pyIter y) (fun j s2 => codeAny (model prog w) A (.compStart e d j acc env) (fun r t => match r with
    | .ok _ => Q t
    | .error _ => False) s2) (errIn prog w A env R) s1) (errIn prog w A env R) s
/-- the item, put in -/
def PutL (prog : Program) (w : World) (A : Around) (env : Env) (R : Result → Shared → Prop) (elt : Expr) (acc : Value) (Q : Shared → Prop) (s : Shared) : Prop :=
  wpAny (model prog w) A (eval elt env) (fun y s1 => wpAny (model prog w) A (call (.builtin "list.append") [acc, y]) (fun _ s2 => Q s2) (errIn prog w A env R) s1) (errIn prog w A env R) s
theorem loop_mid (hs : ∀ y, foldedSetIterable nx env y = pure y) {ip : Pos} (ht : compTurn (.ListComp el0 gs sc ps) d it acc env = (do
    standAt ip
    match ← pyNext it with
    | none => pure (.done .next)
    | some v =>
      letOwnedTupleGo tg it v
      assign tg env v
      let mut ok := true
      for q in fs do
        if ok then ok ← isTrue q env (eval q env)
      if ok then
        let y ← eval nx env
        standAt nx.pos
        let y ← foldedSetIterable nx env y
        let _ ← runOwn (.compStart (.ListComp el0 gs sc ps) (d + 1) (← holding [y] (pyIter y)) acc env) env
      again (.compLoop (.ListComp el0 gs sc ps) d it acc env))) (I : Nat → Shared → Prop)
    (turn : ∀ n s, I n s → TurnP prog w A env R tg fs it (NextL prog w A env R (.ListComp el0 gs sc ps) nx (d + 1) acc) n I s) (n : Nat) (h : I n s) : codeAny (model prog w) A (.compLoop (.ListComp el0 gs sc ps) d it acc env) R s := by
  refine codeAny_loop rfl I (fun n s hI => ?_) n h
  show wpAny _ A ((compTurn (.ListComp el0 gs sc ps) d it acc env).onRaise (fun y => do noteFrame y env; theTreesLotGoes y)) _ _ s
  refine wpAny_noted ?_
  rw [ht]
  refine wpAny_bind (wpAny_standAt (wpAny_bind (wpAny_mono (turn n s hI) (fun r s1 q1 => ?_) fun _ _ z => z)))
  cases r with
  | none => exact wpAny_pure q1
  | some v =>
    refine wpAny_bind (wpAny_mono q1 (fun _ s2 q2 => wpAny_bind (wpAny_mono q2 (fun _ s3 q3 => wpAny_bind (wpAny_mono q3 (fun ok s4 q4 => ?_) fun _ _ z => z)) fun _ _ z => z)) fun _ _ z => z)
    cases ok with
    | false => exact wpAny_pure ⟨rfl, q4⟩
    | true =>
      refine wpAny_bind (wpAny_mono q4 (fun y s5 q5 => wpAny_bind (wpAny_standAt (wpAny_bind (wpAny_of_eq (hs y) (wpAny_bind (wpAny_holding (wpAny_mono q5 (fun j s6 q6 => ?_) fun _ _ z => z))))))) fun _ _ z => z)
      refine wpAny_bind (wpAny_runOwn ?_)
      rw [Around.mark_none]
      refine codeAny_mono q6 fun r t hr => ?_
      cases r with
      | error x => exact hr.elim
      | ok f => first | exact wpAny_pure ⟨rfl, hr⟩ | exact wpAny_bind (wpAny_pure (wpAny_pure ⟨rfl, hr⟩))
theorem loop_last {ip : Pos} (ht : compTurn (.ListComp el0 gs sc ps) d it acc env = (do
    standAt ip
    match ← pyNext it with
    | none => pure (.done .next)
    | some v =>
      letOwnedTupleGo tg it v
      assign tg env v
      let mut ok := true
      for q in fs do
        if ok then ok ← isTrue q env (eval q env)
      if ok then
        (do let _ ← call (.builtin "list.append") [acc, ← eval elt env])
      again (.compLoop (.ListComp el0 gs sc ps) d it acc env))) (I : Nat → Shared → Prop)
    (turn : ∀ n s, I n s → TurnP prog w A env R tg fs it (PutL prog w A env R elt acc) n I s) (n : Nat) (h : I n s) : codeAny (model prog w) A (.compLoop (.ListComp el0 gs sc ps) d it acc env) R s := by
  refine codeAny_loop rfl I (fun n s hI => ?_) n h
  show wpAny _ A ((compTurn (.ListComp el0 gs sc ps) d it acc env).onRaise (fun y => do noteFrame y env; theTreesLotGoes y)) _ _ s
  refine wpAny_noted ?_
  rw [ht]
  refine wpAny_bind (wpAny_standAt (wpAny_bind (wpAny_mono (turn n s hI) (fun r s1 q1 => ?_) fun _ _ z => z)))
  cases r with
  | none => exact wpAny_pure q1
  | some v =>
    refine wpAny_bind (wpAny_mono q1 (fun _ s2 q2 => wpAny_bind (wpAny_mono q2 (fun _ s3 q3 => wpAny_bind (wpAny_mono q3 (fun ok s4 q4 => ?_) fun _ _ z => z)) fun _ _ z => z)) fun _ _ z => z)
    cases ok with
    | false => exact wpAny_pure ⟨rfl, q4⟩
    | true => exact wpAny_bind (wpAny_bind (wpAny_mono q4 (fun y s5 q5 => wpAny_bind (wpAny_mono q5 (fun _ s6 q6 => wpAny_pure (wpAny_pure ⟨rfl, q6⟩)) fun _ _ z => z)) fun _ _ z => z))
theorem start_at {c : Comprehension} (hc : (clausesOf (.ListComp el0 gs sc ps))[d]? = some c) (ha : (c.is_async != 0) = false) (h0 : codeAny (model prog w) A (.compLoop (.ListComp el0 gs sc ps) d it acc env) R s)
    (h : wpAny (model prog w) A (pyIter it) (fun j t => codeAny (model prog w) A (.compLoop (.ListComp el0 gs sc ps) d j acc env) R t) (errIn prog w A env R) s) : codeAny (model prog w) A (.compStart (.ListComp el0 gs sc ps) d it acc env) R s := by
  refine codeAny_of_tree ?_
  show wpAny _ A ((compStart (.ListComp el0 gs sc ps) d it acc env).onRaise (fun y => do noteFrame y env; standAt theWindowsPlace)) _ _ s
  refine wpAny_notedAt ?_
  unfold compStart
  rw [hc]
  simp only [Option.elim, ha]
  show wpAny _ _ (ask >>= _) _ _ s
  refine wpAny_bind (wpAny_askSetting (wpAny_ite ?_))
  split
  · first
      | exact wpAny_bind (wpAny_pure (wpAny_pure ⟨rfl, h0⟩))
      | exact wpAny_pure ⟨rfl, h0⟩
  · refine wpAny_bind (wpAny_rule ?_)
    first
      | exact wpAny_bind (wpAny_standAt (wpAny_bind (wpAny_mono h (fun j t q => wpAny_pure ⟨rfl, q⟩) fun _ _ z => z)))
      | (show wpAny _ _ (standAt c.iter.pos >>= _) _ _ s; exact wpAny_bind (wpAny_standAt (wpAny_bind (wpAny_mono h (fun j t q => wpAny_pure ⟨rfl, q⟩) fun _ _ z => z))))
end
/-! their readings -/
/-- the item goes to the list at D -/
def tPut (te : TE) (D : Addr) : L2.St → Hp → (Hp → Prop) → Prop := fun σ H Nx => te σ H fun y H1 => ∃ acc, H1 D = some (.lst acc) ∧ acc.length < sizeLine ∧ Nx (upd H1 D (.lst (acc ++ [y])))
/-- a clause within: T is what stands in it -/
def tNest (wi : TI) (g : TG) (tt : TT) (vs : List Nat) (T : L2.St → Hp → (Hp → Prop) → Prop) : L2.St → Hp → (Hp → Prop) → Prop := fun σ H Nx => wi σ H fun J H1 => ∃ W : Nat → Nat → Hp → Prop, (∃ m, W 0 m H1) ∧ ∀ j k H, W j k H →
  (J.stop j H ∧ Nx H) ∨ (J.go j H ∧ ∃ Ny : Hp → Prop, (∀ H', Ny H' → ∃ k', k' < k ∧ W (j + 1) k' H') ∧ ∀ x H', J.yld j H x H' → g x (wipe σ vs) H' fun σ2 H2 => wipe σ2 vs = wipe σ vs ∧ tt σ2 H2 fun b H3 => if b = true then T σ2 H3 Ny else Ny H3)
/-- the whole: own are the block's slots -/
def tLcT (wi : TI) (g : TG) (tt : TT) (own : List Nat) (T : Addr → L2.St → Hp → (Hp → Prop) → Prop) : TE := fun σ H Q => wi σ H fun J H1 => ∀ D, H1 D = none → ∃ W : Nat → Nat → Hp → Prop, (∃ m, W 0 m (upd H1 D (.lst []))) ∧ ∀ j k H, W j k H →
  (J.stop j H ∧ Q (.ref D) H) ∨ (J.go j H ∧ ∃ Ny : Hp → Prop, (∀ H', Ny H' → ∃ k', k' < k ∧ W (j + 1) k' H') ∧ ∀ x H', J.yld j H x H' → g x (wipe σ own) H' fun σ2 H2 => wipe σ2 own = wipe σ own ∧ tt σ2 H2 fun b H3 => if b = true then T D σ2 H3 Ny else Ny H3)
def Post (Y : Cx) (pins : List (Addr × Obj)) (σ : L2.St) (vs : List Nat) (Nx : Hp → Prop) (s : Shared) : Prop :=
  ∃ σ' H', Inv Y pins σ' H' s ∧ σ'.length = σ.length ∧ (∀ (j : Nat) v, j ∉ vs → σ[j]? = some (some v) → σ'[j]? = some (some v)) ∧ Nx H'
/-- a piece of the run does as its reading says -/
def Does (Y : Cx) (L : (Shared → Prop) → Shared → Prop) (T : L2.St → Hp → (Hp → Prop) → Prop) (vs : List Nat) : Prop :=
  ∀ (pins : List (Addr × Obj)) (s : Shared) (σ : L2.St) (H : Hp) (Nx : Hp → Prop) (Q : Shared → Prop), Inv Y pins σ H s → T σ H Nx → (∀ t, Post Y pins σ vs Nx t → Q t) → L Q s
section
variable {Y : Cx} {elt tg nx e : Expr} {fs : List Expr} {te : TE} {wi : TI} {g : TG} {tt : TT} {D : Addr} {R : Result → Shared → Prop} {T : L2.St → Hp → (Hp → Prop) → Prop} {vs vs' : List Nat} {d : Nat}
theorem thnY {α : Type} {t : Sem α} {Q Q' : α → Shared → Prop} {E : Value → Shared → Prop} {s : Shared} (hY : Y.xe = fun _ _ => False) (h : wpAny (model Y.prog Y.w) Y.A t Q Y.xe s) (hQ : ∀ a t, Q a t → Q' a t) : wpAny (model Y.prog Y.w) Y.A t Q' E s := by
  rw [hY] at h
  exact thnF h hQ
theorem put_does (hY : Y.xe = fun _ _ => False) (pe : PE Y elt te) : Does Y (PutL Y.prog Y.w Y.A Y.env R elt (.ref D)) (tPut te D) [] := fun pins s σ H Nx Q I h hQ =>
  thnY hY (pe.run pins s σ H _ I h) fun z s1 ⟨yv, H1, I1, r1, acc, hD, hz, nx⟩ => app_ok I1 hD hz r1 fun s2 I2 => hQ s2 ⟨σ, _, I2, rfl, fun _ _ _ e => e, nx⟩
theorem nest_does (hY : Y.xe = fun _ _ => False) (hc : Y.calm = true) (pi : PI Y tg nx wi) (pg : PG Y tg g) (pt : PTs Y fs tt) {L : (Result → Shared → Prop) → (Shared → Prop) → Shared → Prop} (hin : ∀ R, Does Y (L R) T vs') (hvs : ∀ i ∈ vs', i ∈ vs)
    (hloop : ∀ (it : Value) (R : Result → Shared → Prop) (I : Nat → Shared → Prop), (∀ n s, I n s → TurnP Y.prog Y.w Y.A Y.env R tg fs it (L R) n I s) → ∀ n s, I n s → codeAny (model Y.prog Y.w) Y.A (.compLoop e d it (.ref D) Y.env) R s)
    (hst : ∀ (it : Value) (R : Result → Shared → Prop) (s : Shared), codeAny (model Y.prog Y.w) Y.A (.compLoop e d it (.ref D) Y.env) R s → wpAny (model Y.prog Y.w) Y.A (pyIter it) (fun j t => codeAny (model Y.prog Y.w) Y.A (.compLoop e d j (.ref D) Y.env) R t) (errIn Y.prog Y.w Y.A Y.env R) s →
      codeAny (model Y.prog Y.w) Y.A (.compStart e d it (.ref D) Y.env) R s) :
    Does Y (NextL Y.prog Y.w Y.A Y.env R e nx d (.ref D)) (tNest wi g tt vs T) vs := by
  intro pins s σ H Nx Q I h hQ
  refine thnY hY (pi.run pins s σ H _ I h) fun y s1 hx => thnY hY hx fun j s2 h2 => ?_
  obtain ⟨it, fp, tn, J, H2, e1, I2, Tn, st2, f2, W, ⟨m0, w0⟩, turn⟩ := h2
  subst e1
  have stat : ∀ {H' : Hp}, (∀ b ∈ fp, H' b = none) → ∀ b ∈ fp, FpOk Y pins H' b := fun hn b hb => ⟨hn b hb, (f2 b hb).2⟩
  have go : codeAny (model Y.prog Y.w) Y.A (.compLoop e d (.ref it) (.ref D) Y.env) (fun r t => match r with
      | .ok _ => Q t
      | .error _ => False) s2 := by
    refine hloop (.ref it) _ (fun k t => ∃ j H', Inv Y pins (wipe σ vs) H' t ∧ tn j t.heap ∧ (∀ b ∈ fp, H' b = none) ∧ W j k H') ?_ m0 s2 ⟨0, H2, I2.weak (wipe_length _ _) (fun j v z => (wipe_some z).1), st2, fun b hb => (f2 b hb).1, w0⟩
    rintro k s3 ⟨j, H3, I3, st3, n3, w3⟩
    unfold TurnP
    rcases turn j k H3 w3 with ⟨stop, nx1⟩ | ⟨gon, Ny, hNy, step⟩
    · refine thnF (Tn.done Y rfl rfl rfl hc j _ s3 (wipe σ vs) H3 (fun _ _ => False) I3 (stat n3) st3 stop) fun r s4 ⟨hr, I4⟩ => ?_
      subst hr
      exact hQ s4 ⟨_, H3, I4, wipe_length _ _, fun j v hj z => by rw [wipe_out hj]; exact z, nx1⟩
    · refine thnF (Tn.item Y rfl rfl rfl hc j _ s3 (wipe σ vs) H3 (fun _ _ => False) I3 (stat n3) st3 gon) fun r s4 ⟨u, hr, h4⟩ => ?_
      subst hr
      refine thnF h4 fun _ s5 ⟨x, H5, I5, r5, y5, st5, n5⟩ => ?_
      have I6 := I5.pinned (stat n5) (Tn.obj _ _ st5)
      refine thnY hY (pg.run _ s5 (wipe σ vs) H5 x u _ I6 r5 (step x H5 y5)) fun _ s7 ⟨σ7, H7, I7, hw, q7⟩ => ?_
      have hl7 : (wipe σ vs).length = σ7.length := by rw [← hw, wipe_length]
      have hk7 : ∀ (j : Nat) v, (wipe σ vs)[j]? = some (some v) → j ∉ vs' ∧ σ7[j]? = some (some v) := fun j v z => by
        rw [← hw] at z
        obtain ⟨a, b⟩ := wipe_some z
        exact ⟨fun q => b (hvs j q), a⟩
      have fin : ∀ {σ' : L2.St} {t : Shared} {H' : Hp}, Inv Y (pins ++ pinsAt fp s5.heap) σ' H' t → σ'.length = σ7.length → (∀ (j : Nat) v, j ∉ vs' → σ7[j]? = some (some v) → σ'[j]? = some (some v)) → Ny H' → ∃ m, m < k ∧ ∃ j H', Inv Y pins (wipe σ vs) H' t ∧ tn j t.heap ∧ (∀ b ∈ fp, H' b = none) ∧ W j m H' := fun {σ' t H'} I' hl hk ny => by
        obtain ⟨m, hm, w'⟩ := hNy H' ny
        have pin : ∀ b ∈ fp, ∀ o, s5.heap.get? b = some o → t.heap.get? b = some o ∧ H' b = none := fun b hb o z =>
          let q := I'.pin (b, o) (List.mem_append_right _ (List.mem_append_right _ (mem_pinsAt hb z)))
          ⟨q.1, q.2.1⟩
        refine ⟨m, hm, j + 1, H', I'.unpinned.weak (hl7.trans hl.symm) (fun j v z => hk j v (hk7 j v z).1 (hk7 j v z).2), Tn.keep _ _ _ st5 fun b hb o z => (pin b hb o z).1, fun b hb => ?_, w'⟩
        obtain ⟨o, z, _⟩ := Tn.obj _ _ st5 b hb
        exact (pin b hb o z).2
      refine thnY hY (pt.run _ s7 σ7 H7 _ I7 q7) fun b s8 ⟨H8, I8, q8⟩ => ?_
      cases b with
      | false => exact fin I8 rfl (fun _ _ _ z => z) q8
      | true => exact hin _ _ s8 σ7 H8 Ny _ I8 q8 fun t ⟨σ', H', I', hl, hk, ny⟩ => fin I' hl hk ny
  exact hst _ _ s2 go (Tn.self Y.A 0 _ _ _ st2 go)
end
end Dq

namespace Dq
open PySem PySem.Spec PyProof.Rows L2 Gd
section
variable {X : Cx} {elt t0 i0 t1 i1 t2 i2 : Expr} {f0 f1 f2 : List Expr} {sc : Scope} {pos : Pos} {own : List (Str × Nat)} {vs1 vs2 : List Nat} {wi0 wi1 wi2 : TI} {g0 g1 g2 : TG} {tt0 tt1 tt2 : TT} {te : TE}
abbrev blkX (X : Cx) (sc : Scope) (s : Shared) (H : Hp) (C : Addr) (cl : List (Str × Addr)) (fp : List Addr) : Cx := X.blk s H sc (compEnvC sc cl C X.env) fp
theorem pe_lc3 (hc : X.calm = true) (hN : X.N.Nodup) (hi : PI X t0 i0 wi0) (ok : BlkOk X.N X.env.scope sc own) (hv1 : ∀ i ∈ vs1, i ∈ own.map (·.2)) (hv2 : ∀ i ∈ vs2, i ∈ vs1)
    (pg0 : ∀ s H C cl fp, PG (blkX X sc s H C cl fp) t0 g0) (pt0 : ∀ s H C cl fp, PTs (blkX X sc s H C cl fp) f0 tt0)
    (pi1 : ∀ s H C cl fp, PI (blkX X sc s H C cl fp) t1 i1 wi1) (pg1 : ∀ s H C cl fp, PG (blkX X sc s H C cl fp) t1 g1) (pt1 : ∀ s H C cl fp, PTs (blkX X sc s H C cl fp) f1 tt1)
    (pi2 : ∀ s H C cl fp, PI (blkX X sc s H C cl fp) t2 i2 wi2) (pg2 : ∀ s H C cl fp, PG (blkX X sc s H C cl fp) t2 g2) (pt2 : ∀ s H C cl fp, PTs (blkX X sc s H C cl fp) f2 tt2)
    (pe : ∀ s H C cl fp, PE (blkX X sc s H C cl fp) elt te)
    (hs0 : ∀ x, foldedSetIterable i0 X.env x = pure x := by intro _; rfl) (hs1 : ∀ env x, foldedSetIterable i1 env x = pure x := by intro _ _; rfl) (hs2 : ∀ env x, foldedSetIterable i2 env x = pure x := by intro _ _; rfl) :
    PE X (e3 elt t0 i0 t1 i1 t2 i2 f0 f1 f2 sc pos) (tLcT wi0 g0 tt0 (own.map (·.2)) fun D => tNest wi1 g1 tt1 vs1 (tNest wi2 g2 tt2 vs2 (tPut te D))) := by
  refine ⟨fun pins s σ H Q I h => ?_⟩
  rw [eval_ListComp]
  have fr : ∀ y ∈ sc.names, y.2 = .free → ∃ c, X.env.cells.lookup y.1 = some c := fun y hy z => (ok.free y hy z).elim (fun q => I.ok.has _ (.inl q)) fun q => I.ok.has _ (.inr q)
  refine wpAny_comprehension_free rfl hs0 (closure_ok fr) ok.kind (fun y hy z => by rw [ok.uniq y hy, z]) (thn (hi.run pins s σ H _ I h) fun _ s1 h1 => thn h1 fun _ s2 h2 => ?_)
  obtain ⟨it, fp, tn, J, H2, e1, I2, Tn, st2, f2', q⟩ := h2
  subst e1
  refine wpAny_newObj_type (newEnv_comp ?_) (by show 0 ≤ sizeLine; decide)
  obtain ⟨W, ⟨m0, w0⟩, turn⟩ := q _ (I2.hok.fresh (Nat.le_refl s2.heap.objs.size))
  generalize hs3 : ({ s2 with heap := s2.heap.push { cls := .type "list", data := .seq ([] : List Value).toArray } } : Shared) = s3
  have push : s3.heap = s2.heap.push { cls := .type "list", data := .seq ([] : List Value).toArray } := by rw [← hs3]
  have I3 : Inv X pins σ (upd H2 s2.heap.objs.size (.lst [])) s3 := by
    rw [← hs3]
    exact I2.laid (t' := s2.toks) (fun b o z => Heap.get?_push_of_some _ z) (Nat.le_refl _) ⟨Nat.zero_le _, [], 0, .nil, Heap.get?_push_size _ rfl⟩
  have st3 : tn 0 s3.heap := Tn.keep _ _ _ st2 fun b _ o z => by rw [push]; exact Heap.get?_push_of_some _ z
  have lt3 : ∀ b ∈ fp, FpOk X pins (upd H2 s2.heap.objs.size (.lst [])) b ∧ b < s3.heap.objs.size := fun b hb => by
    obtain ⟨o, z, _⟩ := Tn.obj _ _ st2 b hb
    have hlt := Heap.lt_size z
    refine ⟨⟨?_, (f2' b hb).2⟩, by rw [push, Heap.size_push]; exact Nat.lt_succ_of_lt hlt⟩
    rw [upd_ne (Nat.ne_of_lt hlt)]
    exact (f2' b hb).1
  generalize s2.heap.objs.size = D at turn w0 I3 lt3
  generalize upd H2 D (.lst []) = H3 at w0 I3 lt3
  have I4 := block_start I3 ok hN lt3
  have kp4 : ∀ b o, s3.heap.get? b = some o → (pushCells (s3.heap.push { cls := .type "dict", data := .dict #[] }) sc.names).get? b = some o := fun b o z => pushCells_keeps _ _ _ _ (Heap.get?_push_of_some _ z)
  have a0 := pg0 s3 H3 s3.heap.objs.size (cellsFrom (s3.heap.objs.size + 1) sc.names (cloFrom X.env.cells sc.names [])) fp
  have b0 := pt0 s3 H3 s3.heap.objs.size (cellsFrom (s3.heap.objs.size + 1) sc.names (cloFrom X.env.cells sc.names [])) fp
  have c1 := pi1 s3 H3 s3.heap.objs.size (cellsFrom (s3.heap.objs.size + 1) sc.names (cloFrom X.env.cells sc.names [])) fp
  have a1 := pg1 s3 H3 s3.heap.objs.size (cellsFrom (s3.heap.objs.size + 1) sc.names (cloFrom X.env.cells sc.names [])) fp
  have b1 := pt1 s3 H3 s3.heap.objs.size (cellsFrom (s3.heap.objs.size + 1) sc.names (cloFrom X.env.cells sc.names [])) fp
  have c2 := pi2 s3 H3 s3.heap.objs.size (cellsFrom (s3.heap.objs.size + 1) sc.names (cloFrom X.env.cells sc.names [])) fp
  have a2 := pg2 s3 H3 s3.heap.objs.size (cellsFrom (s3.heap.objs.size + 1) sc.names (cloFrom X.env.cells sc.names [])) fp
  have b2 := pt2 s3 H3 s3.heap.objs.size (cellsFrom (s3.heap.objs.size + 1) sc.names (cloFrom X.env.cells sc.names [])) fp
  have z2 := pe s3 H3 s3.heap.objs.size (cellsFrom (s3.heap.objs.size + 1) sc.names (cloFrom X.env.cells sc.names [])) fp
  generalize hY : blkX X sc s3 H3 s3.heap.objs.size (cellsFrom (s3.heap.objs.size + 1) sc.names (cloFrom X.env.cells sc.names [])) fp = Y at a0 b0 c1 a1 b1 c2 a2 b2 z2
  have I4 : Inv Y [] (wipe σ (own.map (·.2))) H3 { s3 with heap := pushCells (s3.heap.push { cls := .type "dict", data := .dict #[] }) sc.names } := by rw [← hY]; exact I4
  have yx : Y.xe = fun _ _ => False := by cases hY; rfl
  have yp : Y.prog = X.prog := by cases hY; rfl
  have yw : Y.w = X.w := by cases hY; rfl
  have yk : Y.K = X.K := by cases hY; rfl
  have ya : Y.A = X.A := by cases hY; rfl
  have yc : Y.calm = true := by cases hY; exact hc
  have yl : Y.env.locals = s3.heap.objs.size := by cases hY; rfl
  have ye : Y.ex = fp := by cases hY; rfl
  have ypn : Y.pn = [] := by cases hY; rfl
  have key : codeAny (model Y.prog Y.w) Y.A (.compStart (e3 elt t0 i0 t1 i1 t2 i2 f0 f1 f2 sc pos) 0 (.ref it) (.ref D) Y.env) (compPost (model X.prog X.w) X.A X.xe none (EP X pins σ Q) (.ref D) s3.heap.objs.size) { s3 with heap := pushCells (s3.heap.push { cls := .type "dict", data := .dict #[] }) sc.names } := by
    have st4 : tn 0 (pushCells (s3.heap.push { cls := .type "dict", data := .dict #[] }) sc.names) := Tn.keep _ _ _ st3 fun b _ o z => kp4 b o z
    have stat : ∀ {σ' : L2.St} {H' : Hp} {t : Shared}, Inv Y [] σ' H' t → (∀ b ∈ fp, H' b = none) → ∀ b ∈ fp, FpOk Y [] H' b := fun {σ' H' t} I' hn b hb =>
      have hb' : b ∈ Y.ex := by rw [ye]; exact hb
      ⟨hn b hb, (I'.ok.exf b hb').1, I'.ok.exfs b hb', .inl hb', fun x c z => (I'.ok.exf b hb').2 x c z, fun p hp => by rw [ypn] at hp; exact absurd hp (by simp)⟩
    have inner2 : ∀ R, Does Y (PutL Y.prog Y.w Y.A Y.env R elt (.ref D)) (tPut te D) [] := fun R => put_does yx z2
    have inner1 : ∀ R, Does Y (NextL Y.prog Y.w Y.A Y.env R (e3 elt t0 i0 t1 i1 t2 i2 f0 f1 f2 sc pos) i2 2 (.ref D)) (tNest wi2 g2 tt2 vs2 (tPut te D)) vs2 := fun R =>
      nest_does yx yc c2 a2 b2 inner2 (fun i hi => absurd hi List.not_mem_nil) (fun j R I tn n s h => loop_last turn3_2 I tn n h) (fun j R s h0 h => start_at (c := ⟨t2, i2, f2, 0⟩) rfl rfl h0 h)
    have inner0 : ∀ R, Does Y (NextL Y.prog Y.w Y.A Y.env R (e3 elt t0 i0 t1 i1 t2 i2 f0 f1 f2 sc pos) i1 1 (.ref D)) (tNest wi1 g1 tt1 vs1 (tNest wi2 g2 tt2 vs2 (tPut te D))) vs1 := fun R =>
      nest_does yx yc c1 a1 b1 inner1 hv2 (fun j R I tn n s h => loop_mid (hs2 _) turn3_1 I tn n h) (fun j R s h0 h => start_at (c := ⟨t1, i1, f1, 0⟩) rfl rfl h0 h)
    have loop : codeAny (model Y.prog Y.w) Y.A (.compLoop (e3 elt t0 i0 t1 i1 t2 i2 f0 f1 f2 sc pos) 0 (.ref it) (.ref D) Y.env) (compPost (model X.prog X.w) X.A X.xe none (EP X pins σ Q) (.ref D) s3.heap.objs.size) { s3 with heap := pushCells (s3.heap.push { cls := .type "dict", data := .dict #[] }) sc.names } := by
      have Ty : Turn Y.prog Y.w Y.K t0 J fp it tn := by rw [yp, yw, yk]; exact Tn
      refine loop_mid (hs1 _) turn3_0 (fun k t => ∃ j H', Inv Y [] (wipe σ (own.map (·.2))) H' t ∧ tn j t.heap ∧ (∀ b ∈ fp, H' b = none) ∧ W j k H') ?_ m0 ⟨0, H3, I4, st4, fun b hb => (lt3 b hb).1.1, w0⟩
      rintro k s5 ⟨j, H5, I5, st5, n5, w5⟩
      unfold TurnP
      rcases turn j k H5 w5 with ⟨stop, qq⟩ | ⟨gon, Ny, hNy, step⟩
      · refine thnF (Ty.done Y rfl rfl rfl yc j [] s5 _ H5 (fun _ _ => False) I5 (stat I5 n5) st5 stop) fun r s6 ⟨hr, I6⟩ => ?_
        subst hr
        obtain ⟨m, hn, _⟩ := I6.loc
        have hn : s6.heap.Ns s3.heap.objs.size m := by rw [← yl]; exact hn
        have nC : H5 s3.heap.objs.size = none := by rw [← yl]; exact I6.free
        subst hY
        have I7 : Inv X pins σ H5 s6 := I3.call' (ch := fp) I6.os I6.base I6.hok I6.bare fun b hb => ⟨(lt3 b hb).1.2.2.2.1, (lt3 b hb).1.2.1, (lt3 b hb).1.2.2.2.2.1, (lt3 b hb).1.2.2.2.2.2⟩
        obtain ⟨q0, q1, q2, q3, q4, q5⟩ := I3.fpOk (Nat.le_refl _) nC
        exact ⟨m, hn, fun h' sb => ⟨.ref D, H5, I7.turned (t' := s6.toks) (fun b o hb z => (sb.2 b hb).trans z) q0 q1 q3 q4 q5, rfl, qq⟩⟩
      · refine thnF (Ty.item Y rfl rfl rfl yc j [] s5 _ H5 (fun _ _ => False) I5 (stat I5 n5) st5 gon) fun r s6 ⟨u, hr, h6⟩ => ?_
        subst hr
        refine thnF h6 fun _ s7 ⟨x, H7, I7, r7, y7, st7, n7⟩ => ?_
        have I8 := I7.pinned (stat I7 n7) (Ty.obj _ _ st7)
        refine thnY yx (a0.run _ s7 _ H7 x u _ I8 r7 (step x H7 y7)) fun _ s9 ⟨σ9, H9, I9, hw, q9⟩ => ?_
        have hl9 : (wipe σ (own.map (·.2))).length = σ9.length := by rw [← hw, wipe_length]
        have hk9 : ∀ (j : Nat) v, (wipe σ (own.map (·.2)))[j]? = some (some v) → j ∉ vs1 ∧ σ9[j]? = some (some v) := fun j v z => by
          rw [← hw] at z
          obtain ⟨a, b⟩ := wipe_some z
          exact ⟨fun q => b (hv1 j q), a⟩
        have fin : ∀ {σ' : L2.St} {t : Shared} {H' : Hp}, Inv Y ([] ++ pinsAt fp s7.heap) σ' H' t → σ'.length = σ9.length → (∀ (j : Nat) v, j ∉ vs1 → σ9[j]? = some (some v) → σ'[j]? = some (some v)) → Ny H' → ∃ m, m < k ∧ ∃ j H', Inv Y [] (wipe σ (own.map (·.2))) H' t ∧ tn j t.heap ∧ (∀ b ∈ fp, H' b = none) ∧ W j m H' := fun {σ' t H'} I' hl hk ny => by
          obtain ⟨m, hm, w'⟩ := hNy H' ny
          have pin : ∀ b ∈ fp, ∀ o, s7.heap.get? b = some o → t.heap.get? b = some o ∧ H' b = none := fun b hb o z =>
            let q := I'.pin (b, o) (List.mem_append_right _ (List.mem_append_right _ (mem_pinsAt hb z)))
            ⟨q.1, q.2.1⟩
          refine ⟨m, hm, j + 1, H', (I'.unpinned (pins := [])).weak (hl9.trans hl.symm) (fun j v z => hk j v (hk9 j v z).1 (hk9 j v z).2), Ty.keep _ _ _ st7 fun b hb o z => (pin b hb o z).1, fun b hb => ?_, w'⟩
          obtain ⟨o, z, _⟩ := Ty.obj _ _ st7 b hb
          exact (pin b hb o z).2
        refine thnY yx (b0.run _ s9 σ9 H9 _ I9 q9) fun b s10 ⟨H10, I10, q10⟩ => ?_
        cases b with
        | false => exact fin I10 rfl (fun _ _ _ z => z) q10
        | true => exact inner0 _ _ s10 σ9 H10 Ny _ I10 q10 fun t ⟨σ', H', I', hl, hk, ny⟩ => fin I' hl hk ny
    exact start_at (c := ⟨t0, i0, f0, 0⟩) rfl rfl loop (by
      rw [yp, yw]
      exact Tn.self Y.A 0 _ _ _ st4 (by rw [yp, yw] at loop; exact loop))
  rw [yp, yw, ya] at key
  rw [← hY] at key
  exact key
end
end Dq

/-! what comprehensions of two and three clauses are worth -/
namespace Dq
open PySem PySem.Spec PyProof.Rows L2 Gd
def flatN (n : Nat) (el : Nat → List PyData) : List PyData := (List.range n).flatMap el
theorem flatN_succ {n : Nat} {el : Nat → List PyData} : flatN (n + 1) el = flatN n el ++ el n := by
  unfold flatN
  rw [List.range_succ, List.flatMap_append]
  simp
theorem flatN_le {el : Nat → List PyData} : ∀ {n j : Nat}, j ≤ n → (flatN j el).length ≤ (flatN n el).length
  | 0, j, h => by
    have e : j = 0 := by omega
    rw [e]
    exact Nat.le_refl _
  | n + 1, j, h => by
    by_cases c : j = n + 1
    · rw [c]
      exact Nat.le_refl _
    · have := flatN_le (el := el) (show j ≤ n by omega)
      rw [flatN_succ, List.length_append]
      omega
theorem flatN_map {α : Type} (el : α → List PyData) : ∀ xs : List α, flatN xs.length (fun i => match xs[i]? with | some a => el a | none => []) = xs.flatMap el := by
  intro xs
  have key : ∀ n, n ≤ xs.length → flatN n (fun i => match xs[i]? with | some a => el a | none => []) = (xs.take n).flatMap el := by
    intro n
    induction n with
    | zero => intro _; rfl
    | succ n ih =>
      intro h
      have hn : n < xs.length := by omega
      rw [flatN_succ, ih (by omega), List.take_succ_eq_append_getElem hn, List.flatMap_append, List.getElem?_eq_getElem hn]
      simp
  have := key xs.length (Nat.le_refl _)
  rwa [List.take_length] at this
def Nst (K : PySem.W.Frag) (M : List Addr) (D : Addr) (T : L2.St → Hp → (Hp → Prop) → Prop) (σ : S) (H : Hp) (ds : List PyData) : Prop :=
  ∀ M' H1 acc, Go M H M' H1 → D ∈ M' → H1 D = some (.lst acc) → acc.length + ds.length ≤ 1000000 → ∀ Nx : Hp → Prop,
    (∀ H2 vs, Go M' H1 M' H2 → (∀ b o, b ≠ D → H1 b = some o → H2 b = some o) → H2 D = some (.lst (acc ++ vs)) → Dms K M' H2 vs ds → Nx H2) → T σ H1 Nx
section
variable {K : PySem.W.Frag} {M M' : List Addr} {σ : S} {H H' : Hp} {te : TE} {tt : TT} {d : PyData} {wi : TI} {g : TG} {vs : List Nat} {D : Addr} {T : L2.St → Hp → (Hp → Prop) → Prop}
theorem nst_put (h : Ev K M te σ H d) : Nst K M D (tPut te D) σ H [d] := fun M1 H1 acc go hD hl hz Nx k =>
  h M1 H1 go _ fun v H2 e2 d2 => by
    have g2 := (Go.refl go.tr).same e2
    have g3 : Go M1 H2 M1 (upd H2 D (.lst (acc ++ [v]))) := go_set g2.tr hD
    have hz : acc.length + 1 ≤ 1000000 := hz
    exact ⟨acc, e2 _ _ hl, Nat.lt_of_lt_of_le (Nat.lt_succ_self _) (by rw [sizeLine_eq]; omega), k _ [v] (g2.trans g3) (fun b o hb e => by rw [upd_ne hb]; exact e2 _ _ e) upd_same (.cons (dm_go d2 g3) .nil)⟩
theorem nst_nest {n : Nat} {it : Nat → PyData} (el : Nat → List PyData) (w : Wk K M wi σ H n it)
    (hs : ∀ M' H' i x, Go M H M' H' → i < n → Dm K M' H' x (it i) → ∃ σ2 b, Tk g x (wipe σ vs) H' σ2 ∧ wipe σ2 vs = wipe σ vs ∧ Eb M' tt σ2 H' b ∧ (b = true → Nst K M' D T σ2 H' (el i)) ∧ (b = false → el i = [])) :
    Nst K M D (tNest wi g tt vs T) σ H (flatN n el) := fun M1 H1 acc go hD hl hz Nx k =>
  w M1 H1 go _ fun J H2 G Y e2 wk hG hY => by
    have g2 : Go M H M1 H2 := go.same e2
    let Pv : Nat → Hp → Prop := fun j H' => Go M1 H2 M1 H' ∧ (∀ b o, b ≠ D → H2 b = some o → H' b = some o) ∧ ∃ ws, H' D = some (.lst (acc ++ ws)) ∧ Dms K M1 H' ws (flatN j el)
    refine ⟨fun j m H' => m = n - j ∧ j ≤ n ∧ Pv j H', ⟨n, by simp, Nat.zero_le _, Go.refl g2.tr, fun b o _ e => e, [], by rw [List.append_nil]; exact e2 _ _ hl, .nil⟩, ?_⟩
    rintro j m H3 ⟨rfl, hj, p1, p2, ws, p3, p4⟩
    have q := hG _ _ p1
    by_cases hlt : j < n
    · refine .inr ⟨wk.goes j H3 hlt q, Pv (j + 1), fun H' p' => ⟨n - (j + 1), by omega, rfl, hlt, p'⟩, fun x H4 y => ?_⟩
      obtain ⟨e4, d4⟩ := hY _ j H3 x H4 p1 hlt (wk.yields j H3 x H4 hlt q y)
      have g4 := p1.same e4
      obtain ⟨σ2, b, t1, t2, t3, t4, t5⟩ := hs _ H4 j x (g2.trans g4) hlt d4
      refine t1 _ ⟨t2, t3 _ H4 (Go.refl g4.tr) _ fun H5 e5 => ?_⟩
      have g5 := g4.same e5
      have s5 := e4.trans e5
      have a5 : H5 D = some (.lst (acc ++ ws)) := s5 _ _ p3
      cases b with
      | true =>
        refine iteT (t4 rfl _ H5 (acc ++ ws) ((Go.refl g4.tr).same e5) hD a5 ?_ _ fun H6 us k1 k2 k3 k4 => ?_)
        · have h1 := flatN_le (el := el) (show j + 1 ≤ n from hlt)
          have h2 := p4.length
          rw [flatN_succ, List.length_append] at h1
          rw [List.length_append]
          omega
        · refine ⟨g5.trans k1, fun b o hb e => k2 _ _ hb (s5 _ _ (p2 _ _ hb e)), ws ++ us, by rw [← List.append_assoc]; exact k3, ?_⟩
          rw [flatN_succ]
          exact (dms_go p4 (((Go.refl p1.tr).same s5).trans k1)).append k4
      | false =>
        refine iteF ⟨g5, fun b o hb e => s5 _ _ (p2 _ _ hb e), ws, a5, ?_⟩
        rw [flatN_succ, t5 rfl, List.append_nil]
        exact dms_go p4 ((Go.refl p1.tr).same s5)
    · have e : j = n := by omega
      subst e
      exact .inl ⟨wk.stops H3 q, k H3 ws (((Go.refl go.tr).same e2).trans p1) (fun b o hb e => p2 _ _ hb (e2 _ _ e)) p3 p4⟩
theorem nst_nestA {α : Type} {xs : List α} {enc : α → PyData} (el : α → List PyData) (w : Wk K M wi σ H xs.length (at0 (xs.map enc)))
    (hs : ∀ M' H' a x, Go M H M' H' → a ∈ xs → Dm K M' H' x (enc a) → ∃ σ2 b, Tk g x (wipe σ vs) H' σ2 ∧ wipe σ2 vs = wipe σ vs ∧ Eb M' tt σ2 H' b ∧ (b = true → Nst K M' D T σ2 H' (el a)) ∧ (b = false → el a = [])) :
    Nst K M D (tNest wi g tt vs T) σ H (xs.flatMap el) := by
  rw [← flatN_map]
  refine nst_nest _ w fun M' H' i x g hi dx => ?_
  rw [at0_map hi] at dx
  rw [List.getElem?_eq_getElem hi]
  exact hs M' H' xs[i] x g (List.getElem_mem hi) dx
/-- the whole -/
theorem ev_lcN {n : Nat} {it : Nat → PyData} {T : Addr → L2.St → Hp → (Hp → Prop) → Prop} (el : Nat → List PyData) (w : Wk K M wi σ H n it) (hz : (flatN n el).length ≤ 1000000)
    (hs : ∀ M' H' i x D, Go M H M' H' → i < n → Dm K M' H' x (it i) → ∃ σ2 b, Tk g x (wipe σ vs) H' σ2 ∧ wipe σ2 vs = wipe σ vs ∧ Eb M' tt σ2 H' b ∧ (b = true → Nst K M' D (T D) σ2 H' (el i)) ∧ (b = false → el i = [])) :
    Ev K M (tLcT wi g tt vs T) σ H (.list (flatN n el)) := fun M1 H1 go Q q =>
  w M1 H1 go _ fun J H2 G Y e2 wk hG hY D hD => by
    have g2 : Go M H M1 H2 := go.same e2
    have DM : D ∉ M1 := fun z => g2.tr D z hD
    have g3 : Go M1 H2 (D :: M1) (upd H2 D (.lst [])) := go_mut g2.tr hD
    let Pv : Nat → Hp → Prop := fun j H' => Go M1 H2 (D :: M1) H' ∧ Same H2 H' ∧ ∃ ws, H' D = some (.lst ws) ∧ Dms K (D :: M1) H' ws (flatN j el)
    refine ⟨fun j m H' => m = n - j ∧ j ≤ n ∧ Pv j H', ⟨n, by simp, Nat.zero_le _, g3, same_new hD, [], upd_same, .nil⟩, ?_⟩
    rintro j m H3 ⟨rfl, hj, p1, p2, ws, p3, p4⟩
    have q1 := hG _ _ p1
    by_cases hlt : j < n
    · refine .inr ⟨wk.goes j H3 hlt q1, Pv (j + 1), fun H' p' => ⟨n - (j + 1), by omega, rfl, hlt, p'⟩, fun x H4 y => ?_⟩
      obtain ⟨e4, d4⟩ := hY _ j H3 x H4 p1 hlt (wk.yields j H3 x H4 hlt q1 y)
      have g4 := p1.same e4
      obtain ⟨σ2, b, t1, t2, t3, t4, t5⟩ := hs _ H4 j x D (g2.trans g4) hlt d4
      refine t1 _ ⟨t2, t3 _ H4 (Go.refl g4.tr) _ fun H5 e5 => ?_⟩
      have g5 := g4.same e5
      have s5 := e4.trans e5
      have a5 : H5 D = some (.lst ws) := s5 _ _ p3
      cases b with
      | true =>
        refine iteT (t4 rfl _ H5 ws ((Go.refl g4.tr).same e5) (List.mem_cons_self ..) a5 ?_ _ fun H6 us k1 k2 k3 k4 => ?_)
        · have h1 := flatN_le (el := el) (show j + 1 ≤ n from hlt)
          have h2 := p4.length
          rw [flatN_succ, List.length_append] at h1
          omega
        · refine ⟨g5.trans k1, fun b o hb => k2 _ _ (fun z => by rw [z, hD] at hb; cases hb) (s5 _ _ (p2 _ _ hb)), ws ++ us, k3, ?_⟩
          rw [flatN_succ]
          exact (dms_go p4 (((Go.refl p1.tr).same s5).trans k1)).append k4
      | false =>
        refine iteF ⟨g5, p2.trans s5, ws, a5, ?_⟩
        rw [flatN_succ, t5 rfl, List.append_nil]
        exact dms_go p4 ((Go.refl p1.tr).same s5)
    · have e : j = n := by omega
      subst e
      refine .inl ⟨wk.stops H3 q1, q _ _ (e2.trans p2) (.lst (xs := ws) ?_ ?_)⟩
      · rw [mn_out DM]
        exact p3
      · refine Das.same (fun b o hb => ?_) _ _ p4
        obtain ⟨h1, h2⟩ := mn_some hb
        rw [mn_out (fun z => h1 (List.mem_cons_of_mem _ z))]
        exact h2
theorem ev_lcNA {α : Type} {xs : List α} {enc : α → PyData} {T : Addr → L2.St → Hp → (Hp → Prop) → Prop} (el : α → List PyData) (w : Wk K M wi σ H xs.length (at0 (xs.map enc))) (hz : (xs.flatMap el).length ≤ 1000000)
    (hs : ∀ M' H' a x D, Go M H M' H' → a ∈ xs → Dm K M' H' x (enc a) → ∃ σ2 b, Tk g x (wipe σ vs) H' σ2 ∧ wipe σ2 vs = wipe σ vs ∧ Eb M' tt σ2 H' b ∧ (b = true → Nst K M' D (T D) σ2 H' (el a)) ∧ (b = false → el a = [])) :
    Ev K M (tLcT wi g tt vs T) σ H (.list (xs.flatMap el)) := by
  rw [← flatN_map] at hz ⊢
  refine ev_lcN _ w hz fun M' H' i x D g hi dx => ?_
  rw [at0_map hi] at dx
  rw [List.getElem?_eq_getElem hi]
  exact hs M' H' xs[i] x D g (List.getElem_mem hi) dx
theorem lc2_is {wi1 : TI} {g1 : TG} {tt1 : TT} {vs1 : List Nat} : tLc2 wi g tt wi1 g1 tt1 te vs vs1 = tLcT wi g tt vs fun D => tNest wi1 g1 tt1 vs1 (tPut te D) := rfl
end
end Dq

/-! in of tuples of data; sorted ints; stars; more targets -/
namespace Dq
open PySem PySem.Spec PyProof.Rows L2 Gd
section
variable {X : Cx}
def rInT (K : PySem.W.Frag) : R2 := fun x y H Q => ∃ d ds, Dp K H x d ∧ Dp K H y (.tuple ds) ∧ SeqAt.shaped d = true ∧ SeqAt.shaped (.tuple ds) = true ∧ Q (.bl (ds.any fun z => PyData.eqv z d)) H
def rNotInT (K : PySem.W.Frag) : R2 := fun x y H Q => ∃ d ds, Dp K H x d ∧ Dp K H y (.tuple ds) ∧ SeqAt.shaped d = true ∧ SeqAt.shaped (.tuple ds) = true ∧ Q (.bl (!ds.any fun z => PyData.eqv z d)) H
theorem op_inT {K : PySem.W.Frag} (hK : X.K = K) (hu : X.A.units + 65 < cLine) : OpR X (compareOp .In) (rInT K) := by
  subst hK
  intro pins s σ H x y v u Q I rx ry h
  obtain ⟨d, ds, hd, he, sd, se, q⟩ := h
  obtain ⟨_, r1⟩ := Dp.reads I d x v hd rx
  obtain ⟨_, r2⟩ := Dp.reads I (.tuple ds) y u he ry
  exact SeqAt.in_tuple_reads r2 r1 (SeqAt.canLay_of_shaped se) (SeqAt.canLay_of_shaped sd) (room_in_shaped sd hu) ⟨.bl _, H, I, rfl, q⟩
theorem op_notInT {K : PySem.W.Frag} (hK : X.K = K) (hu : X.A.units + 65 < cLine) : OpR X (compareOp .NotIn) (rNotInT K) := by
  subst hK
  intro pins s σ H x y v u Q I rx ry h
  obtain ⟨d, ds, hd, he, sd, se, q⟩ := h
  obtain ⟨_, r1⟩ := Dp.reads I d x v hd rx
  obtain ⟨_, r2⟩ := Dp.reads I (.tuple ds) y u he ry
  exact SeqAt.notIn_tuple_reads r2 r1 (SeqAt.canLay_of_shaped se) (SeqAt.canLay_of_shaped sd) (room_in_shaped sd hu) ⟨.bl _, H, I, rfl, q⟩
theorem pe_const {x : Str} {a : Addr} {pos : Pos} (hg : Gl X x) (hm : X.mg x = some (.ref a)) (hd : (x == ("__debug__" : Str)) = false := by decide) : PE X (.Name x pos) (tC (.ref a)) := pe_glob (v := .ref a) hg hm rfl hd
theorem lc2_k {e : Expr} {wi wi1 : TI} {g g1 : TG} {tt tt1 : TT} {te : TE} {vs vs1 : List Nat} (h : PE X e (tLc2 wi g tt wi1 g1 tt1 te vs vs1)) : PE X e (tLcT wi g tt vs fun D => tNest wi1 g1 tt1 vs1 (tPut te D)) := h
theorem pg_unl_k {K : PySem.W.Frag} {es : List Expr} {k : Nat} {pos : Pos} {t : TGs} {n : Nat} (hK : X.K = K) (hc : X.calm = true) (h : PGs X es t)
    (hn : (assignEach es X.env).length = n := by rfl) (hst : (assignEach es X.env).findIdx? (·.1) = none := by rfl) : PG X (.Tuple es k pos) (gUnl K n t) := hK ▸ pg_unl hc h hn hst
theorem pa_star_k {K : PySem.W.Frag} {e : Expr} {p : Pos} {es : List Expr} {te : TE} {t : TA} (hK : X.K = K) (he : PE X e te) (hr : PA X es t) (hs : starEach (.Starred e p :: es) X.env = (true, eval e X.env) :: starEach es X.env := by rfl) : PA X (.Starred e p :: es) (StX.tStar K te t) := hK ▸ StX.pa_star he hr hs
end
theorem flat_congr {α β : Type} {f g : α → List β} : ∀ {l : List α}, (∀ a ∈ l, f a = g a) → l.flatMap f = l.flatMap g
  | [], _ => rfl
  | a :: l, h => by
    rw [List.flatMap_cons, List.flatMap_cons, h a (List.mem_cons_self ..), flat_congr (l := l) fun b hb => h b (List.mem_cons_of_mem _ hb)]
/-- ints, in order -/
def insI (x : Int) : List Int → List Int
  | [] => [x]
  | y :: ys => if x ≤ y then x :: y :: ys else y :: insI x ys
def srtI (xs : List Int) : List Int := xs.foldr insI []
theorem insI_perm {x : Int} : ∀ l : List Int, (insI x l).Perm (x :: l)
  | [] => List.Perm.refl _
  | y :: ys => by
    unfold insI
    split
    · exact List.Perm.refl _
    · exact ((insI_perm ys).cons y).trans (List.Perm.swap x y ys)
theorem srtI_perm : ∀ l : List Int, (srtI l).Perm l
  | [] => List.Perm.refl _
  | x :: l => (insI_perm _).trans ((srtI_perm l).cons x)
theorem insI_pw {x : Int} : ∀ {l : List Int}, l.Pairwise (· ≤ ·) → (insI x l).Pairwise (· ≤ ·)
  | [], _ => List.pairwise_singleton _ _
  | y :: ys, h => by
    have h1 := List.pairwise_cons.mp h
    unfold insI
    split
    · next c => exact List.pairwise_cons.mpr ⟨fun z hz => by
        rcases List.mem_cons.mp hz with rfl | hz
        · exact c
        · exact Int.le_trans c (h1.1 z hz), h⟩
    · next c => exact List.pairwise_cons.mpr ⟨fun z hz => by
        rcases List.mem_cons.mp ((insI_perm ys).mem_iff.mp hz) with rfl | hz
        · omega
        · exact h1.1 z hz, insI_pw h1.2⟩
theorem srtI_pw : ∀ l : List Int, (srtI l).Pairwise (· ≤ ·)
  | [] => .nil
  | _ :: l => insI_pw (srtI_pw l)
theorem pwI_eq : ∀ {l m : List Int}, l.Pairwise (· ≤ ·) → m.Pairwise (· ≤ ·) → l.Perm m → l = m
  | [], m, _, _, p => (List.Perm.nil_eq p)
  | x :: l, [], _, _, p => (List.Perm.eq_nil p)
  | x :: l, y :: m, h1, h2, p => by
    have a1 := List.pairwise_cons.mp h1
    have a2 := List.pairwise_cons.mp h2
    have e : x = y := by
      have m1 : x ∈ y :: m := p.mem_iff.mp (List.mem_cons_self ..)
      have m2 : y ∈ x :: l := p.mem_iff.mpr (List.mem_cons_self ..)
      rcases List.mem_cons.mp m1 with q | q
      · exact q
      · rcases List.mem_cons.mp m2 with r | r
        · exact r.symm
        · have := a1.1 y r
          have := a2.1 x q
          omega
    subst e
    rw [pwI_eq a1.2 a2.2 ((List.perm_cons x).mp p)]
section
variable {K : PySem.W.Frag} {M M' : List Addr} {σ : S} {H H' : Hp} {ta tb te tc : TE} {tt tu : TT} {as : TA} {d e f : PyData} {ds es : List PyData} {r : R2} {x y : V} {wi : TI} {D : Ends} {t u : TS} {s c : Addr} {P P1 : PyData → Prop} {w : World}
theorem ev_srt {xs : List Int} (ha : Ev K M ta σ H (.list (xs.map PyData.int))) (hl : xs.length < 64) : Ev K M (tCB (rSorted K) (tCons ta tNil)) σ H (.list ((srtI xs).map PyData.int)) := fun M2 H1 g Q q =>
  ha M2 H1 g _ fun v H2 e2 d2 => by
    have t2 := (g.same e2).tr
    cases d2 with
    | @lst a vs _ hs hx =>
      have hv := das_ints hx
      subst hv
      refine ⟨a, xs, rfl, SqL.of (mn_same _ _ hs), hl, fun ms p h1 h2 hn => ?_⟩
      have em : ms = srtI xs := pwI_eq h2 (srtI_pw xs) (h1.trans (srtI_perm xs).symm)
      subst em
      exact q _ _ (e2.trans (same_new hn)) (dm_newL t2 hn (Das.ints _))
theorem ev_inT (ha : Ev K M ta σ H d) (hb : Ev K M tb σ H (.tuple ds)) (sd : SeqAt.shaped d = true) (se : SeqAt.shaped (.tuple ds) = true) : Ev K M (tOp (rInT K) ta tb) σ H (.bool (ds.any fun z => PyData.eqv z d)) :=
  ev_op ha hb fun M2 H1 x y gg dx dy Q q => ⟨d, ds, Da.dp _ _ (dm_h dx), Da.dp _ _ (dm_h dy), sd, se, q _ _ (Same.refl _) (.bl _)⟩
theorem ev_notInT (ha : Ev K M ta σ H d) (hb : Ev K M tb σ H (.tuple ds)) (sd : SeqAt.shaped d = true) (se : SeqAt.shaped (.tuple ds) = true) : Ev K M (tOp (rNotInT K) ta tb) σ H (.bool (!ds.any fun z => PyData.eqv z d)) :=
  ev_op ha hb fun M2 H1 x y gg dx dy Q q => ⟨d, ds, Da.dp _ _ (dm_h dx), Da.dp _ _ (dm_h dy), sd, se, q _ _ (Same.refl _) (.bl _)⟩
theorem any_int (xs : List Int) (k : Int) : ((xs.map PyData.int).any fun z => PyData.eqv z (.int k)) = decide (k ∈ xs) := by
  rw [List.any_map, Bool.eq_iff_iff, List.any_eq_true, decide_eq_true_iff]
  have e : ∀ z : Int, PyData.eqv (.int z) (.int k) = (z == k) := fun z => by unfold PyData.eqv; rfl
  constructor
  · rintro ⟨z, hz, h⟩
    have h : PyData.eqv (.int z) (.int k) = true := h
    rw [e, beq_iff_eq] at h
    exact h ▸ hz
  · intro h
    refine ⟨k, h, ?_⟩
    show PyData.eqv (.int k) (.int k) = true
    rw [e, beq_self_eq_true]
theorem ea_star (ha : Ev K M te σ H d) (hd : d = .tuple ds ∨ d = .list ds) (k : Ea K M as σ H es) : Ea K M (StX.tStar K te as) σ H (ds ++ es) := fun M2 H1 g Q q =>
  ha M2 H1 g _ fun v H2 e2 dv => by
    rcases hd with rfl | rfl
    · cases dv with
      | @tup p xs _ hs hx => exact ⟨p, xs, rfl, .inl (same_sqt mn_same hs), k M2 H2 (g.same e2) _ fun vs H3 e3 d3 => q _ _ (e2.trans e3) ((dms_go hx ((Go.refl (g.same e2).tr).same e3)).append d3)⟩
    · cases dv with
      | @lst p xs _ hs hx => exact ⟨p, xs, rfl, .inr (SqL.of (mn_same _ _ hs)), k M2 H2 (g.same e2) _ fun vs H3 e3 d3 => q _ _ (e2.trans e3) ((dms_go hx ((Go.refl (g.same e2).tr).same e3)).append d3)⟩
theorem tk_four {i j k l : Nat} {σ0 : S} {d1 d2 d3 d4 : PyData} (h : Dm K M H x (.tuple [d1, d2, d3, d4])) : ∃ v1 v2 v3 v4, Tk (gTup K 4 (gCons (gName i) (gCons (gName j) (gCons (gName k) (gCons (gName l) gNil))))) x σ0 H ((((σ0.set i (some v1)).set j (some v2)).set k (some v3)).set l (some v4)) ∧ Dm K M H v1 d1 ∧ Dm K M H v2 d2 ∧ Dm K M H v3 d3 ∧ Dm K M H v4 d4 := by
  cases h with
  | @tup a xs _ hs hx =>
    cases hx with
    | cons h1 hx =>
      cases hx with
      | cons h2 hx =>
        cases hx with
        | cons h3 hx =>
          cases hx with
          | cons h4 hx =>
            cases hx
            exact ⟨_, _, _, _, fun Q q => ⟨a, _, rfl, same_sqt mn_same hs, rfl, _, _, rfl, _, _, rfl, _, _, rfl, _, _, rfl, rfl, q⟩, h1, h2, h3, h4⟩
theorem tk_threeT {i j k : Nat} {σ0 : S} {d1 d2 d3 : PyData} (h : Dm K M H x (.tuple [d1, d2, d3])) : ∃ v1 v2 v3, Tk (gTup K 3 (gCons (gName i) (gCons (gName j) (gCons (gName k) gNil)))) x σ0 H (((σ0.set i (some v1)).set j (some v2)).set k (some v3)) ∧ Dm K M H v1 d1 ∧ Dm K M H v2 d2 ∧ Dm K M H v3 d3 := by
  cases h with
  | @tup a xs _ hs hx =>
    cases hx with
    | cons h1 hx =>
      cases hx with
      | cons h2 hx =>
        cases hx with
        | cons h3 hx =>
          cases hx
          exact ⟨_, _, _, fun Q q => ⟨a, _, rfl, same_sqt mn_same hs, rfl, _, _, rfl, _, _, rfl, _, _, rfl, rfl, q⟩, h1, h2, h3⟩
theorem tk_threeL {i j k : Nat} {σ0 : S} {d1 d2 d3 : PyData} (h : Dm K M H x (.list [d1, d2, d3])) : ∃ v1 v2 v3, Tk (gUnl K 3 (gCons (gName i) (gCons (gName j) (gCons (gName k) gNil)))) x σ0 H (((σ0.set i (some v1)).set j (some v2)).set k (some v3)) ∧ Dm K M H v1 d1 ∧ Dm K M H v2 d2 ∧ Dm K M H v3 d3 := by
  cases h with
  | @lst a xs _ hs hx =>
    cases hx with
    | cons h1 hx =>
      cases hx with
      | cons h2 hx =>
        cases hx with
        | cons h3 hx =>
          cases hx
          exact ⟨_, _, _, fun Q q => ⟨a, _, rfl, SqL.of (mn_same _ _ hs), rfl, _, _, rfl, _, _, rfl, _, _, rfl, rfl, q⟩, h1, h2, h3⟩
end
end Dq

/-! comprehensions whose tests draw; more targets -/
namespace Dq
open PySem PySem.Spec PyProof.Rows L2 Gd
theorem given_congr {f f' : Nat → Bool} {el : Nat → PyData} : ∀ {n : Nat}, (∀ j, j < n → f j = f' j) → given n f el = given n f' el
  | 0, _ => rfl
  | n + 1, h => by
    have ih := given_congr (f := f) (f' := f') (el := el) (n := n) fun j hj => h j (by omega)
    cases q : f n with
    | true => rw [given_yes q, given_yes (by rw [← h n (by omega)]; exact q), ih]
    | false => rw [given_no q, given_no (by rw [← h n (by omega)]; exact q), ih]
section
variable {K : PySem.W.Frag} {M M' : List Addr} {σ : S} {H H' : Hp} {ta tb te tc : TE} {tt tu : TT} {as : TA} {d e f : PyData} {ds es : List PyData} {r : R2} {x y : V} {wi : TI} {D : Ends} {t u : TS} {s c : Addr} {P P1 : PyData → Prop} {PB : Bool → Prop} {w : World}
theorem drb_and {a : Bool} (h1 : Eb M tt σ H a) (h2 : a = true → Drb s c M tu σ H PB) (h0 : a = false → PB false) : Drb s c M (tAnd tt tu) σ H PB := fun M1 H1 g hS Q q => h1 M1 H1 g _ fun H2 e2 => by
  cases a with
  | false => exact iteF (q false H2 (Kp.of e2) (hS.same e2) (h0 rfl))
  | true => exact iteT (h2 rfl M1 H2 (g.same e2) (hS.same e2) Q fun b H3 k3 S3 p3 => q b H3 ((Kp.of e2).trans k3) S3 p3)
theorem drb_eb {a : Bool} (h1 : Eb M tt σ H a) (h2 : PB a) : Drb s c M tt σ H PB := fun M1 H1 g hS Q q => h1 M1 H1 g _ fun H2 e2 => q a H2 (Kp.of e2) (hS.same e2) h2
theorem dr_lcC {g : TG} {vs : List Nat} {n : Nat} {it : Nat → PyData} (el : Nat → PyData) (hs : s ∈ M) (hc : c ∈ M) (w : Wk K M wi σ H n it) (hn : n ≤ 1000000)
    (h : ∀ M' H' i x, Go M H M' H' → i < n → Dm K M' H' x (it i) → ∃ σ2, Tk g x (wipe σ vs) H' σ2 ∧ wipe σ2 vs = wipe σ vs ∧ Drb s c M' tt σ2 H' (fun _ => True) ∧ Ev K M' te σ2 H' (el i)) :
    Dr K s c M (tLc wi g tt te vs) σ H fun d => ∃ f : Nat → Bool, d = .list (given n f el) := fun M2 H1 g1 hS Q q =>
  w M2 H1 g1 _ fun J H2 G Y e2 wk hG hY D hD => by
    have g2 : Go M H M2 H2 := g1.same e2
    have DM : D ∉ M2 := fun z => g2.tr D z hD
    have hDs : D ≠ s := fun z => DM (z ▸ g1.sub s hs)
    have hDc : D ≠ c := fun z => DM (z ▸ g1.sub c hc)
    have g3 : Go M2 H2 (D :: M2) (upd H2 D (.lst [])) := go_mut g2.tr hD
    refine lc_it wk (fun i H' => Go M2 H2 (D :: M2) H' ∧ Src s c H' ∧ Kp s c H2 H' ∧ ∃ acc f, H' D = some (.lst acc) ∧ Dms K (D :: M2) H' acc (given i f el))
      ⟨g3, (hS.same e2).same (same_new hD), Kp.of (same_new hD), [], fun _ => false, upd_same, .nil⟩ (fun i H' _ p => hG _ _ p.1) (fun i z H' H4 hi p hy => ?_) (fun H' p => ?_)
    · obtain ⟨p1, pS, ps, acc, f, p2, p3⟩ := p
      obtain ⟨e4, d4⟩ := hY _ i H' z H4 p1 hi hy
      have g4 := p1.same e4
      obtain ⟨σ2, t1, t2, t4, t5⟩ := h _ H4 i z (g2.trans g4) hi d4
      refine t1 _ ⟨t2, t4 _ H4 (Go.refl g4.tr) (pS.same e4) _ fun b H6 k6 S6 _ => ?_⟩
      have s6 : Kp s c H' H6 := (Kp.of e4).trans k6
      have g6 := go_k (M := M2) (H := H2) (g1.sub s hs) (g1.sub c hc) g4 k6 S6
      have g46 : Go (D :: M2) H' (D :: M2) H6 := go_kp (List.mem_cons_of_mem _ (g1.sub s hs)) (List.mem_cons_of_mem _ (g1.sub c hc)) p1.tr s6 S6
      have g44 : Go (D :: M2) H4 (D :: M2) H6 := go_kp (List.mem_cons_of_mem _ (g1.sub s hs)) (List.mem_cons_of_mem _ (g1.sub c hc)) g4.tr k6 S6
      have a6 : H6 D = some (.lst acc) := s6 _ _ hDs hDc p2
      let f' : Nat → Bool := fun j => if j = i then b else f j
      have ef : given i f el = given i f' el := given_congr fun j hj => by
        show f j = if j = i then b else f j
        rw [if_neg (by omega)]
      have fi : f' i = b := if_pos rfl
      have hal := p3.length
      have hgl := given_le i f el
      cases b with
      | true =>
        refine iteT (t5 _ H6 g44 _ fun v H7 e7 d7 => ?_)
        have gs := go_set (o := .lst (acc ++ [v])) (g6.same e7).tr (List.mem_cons_self (a := D) (l := M2))
        refine ⟨acc, e7 _ _ a6, by rw [sizeLine_eq]; omega, (g6.same e7).trans gs, ?_, fun b o h1 h2 hb => ?_, acc ++ [v], f', upd_same, ?_⟩
        · obtain ⟨h0, cl, l, mm, tt, q1, q2, q3⟩ := S6.same e7
          exact ⟨h0, cl, l, mm, tt, by rw [upd_ne (Ne.symm hDs)]; exact q1, by rw [upd_ne (Ne.symm hDc)]; exact q2, q3⟩
        · rw [upd_ne (ne_of_none hb hD)]
          exact e7 _ _ (s6 _ _ h1 h2 (ps _ _ h1 h2 hb))
        · rw [given_yes fi, ← ef]
          exact (dms_go p3 ((g46.same e7).trans gs)).append (.cons (dm_go d7 gs) .nil)
      | false =>
        refine iteF ⟨g6, S6, fun b o h1 h2 hb => s6 _ _ h1 h2 (ps _ _ h1 h2 hb), acc, f', a6, ?_⟩
        rw [given_no fi, ← ef]
        exact dms_go p3 g46
    · obtain ⟨p1, pS, ps, acc, f, p2, p3⟩ := p
      refine q _ (.list (given n f el)) _ ((Kp.of e2).trans ps) pS (.lst (xs := acc) ?_ ?_) ⟨f, rfl⟩
      · rw [mn_out DM]
        exact p2
      · refine Das.same (fun b o hb => ?_) _ _ p3
        obtain ⟨h1, h2⟩ := mn_some hb
        rw [mn_out (fun z => h1 (List.mem_cons_of_mem _ z))]
        exact h2
/-- a, b, c = [..], drawn -/
theorem d_unl3 {i j l : Nat} (hs : s ∈ M) (hc : c ∈ M) (tr : Tr M H) (hS : Src s c H) (h : Dr K s c M te σ H P) (hP : ∀ d, P d → ∃ d1 d2 d3, d = .list [d1, d2, d3])
    (k : ∀ v w z d1 d2 d3 H1, Kp s c H H1 → Src s c H1 → Go M H M H1 → Dm K M H1 v d1 → Dm K M H1 w d2 → Dm K M H1 z d3 → P (.list [d1, d2, d3]) → u D (((σ.set i (some v)).set j (some w)).set l (some z)) H1) :
    tSeq (tAsg te (gUnl K 3 (gCons (gName i) (gCons (gName j) (gCons (gName l) gNil))))) u D σ H :=
  h M H (Go.refl tr) hS _ fun v d H1 k1 S1 dv p1 => by
    obtain ⟨d1, d2, d3, rfl⟩ := hP _ p1
    obtain ⟨v1, v2, v3, t1, t2, t3, t4⟩ := tk_threeL (i := i) (j := j) (k := l) (σ0 := σ) dv
    exact t1 _ (k v1 v2 v3 d1 d2 d3 H1 k1 S1 (go_kp hs hc tr k1 S1) t2 t3 t4 p1)
theorem q_unp3 {i j l : Nat} {d1 d2 d3 : PyData} (tr : Tr M H) (h : Ev K M te σ H (.tuple [d1, d2, d3])) (k : ∀ v w z H1, Same H H1 → Tr M H1 → Dm K M H1 v d1 → Dm K M H1 w d2 → Dm K M H1 z d3 → u D (((σ.set i (some v)).set j (some w)).set l (some z)) H1) :
    tSeq (tAsg te (gTup K 3 (gCons (gName i) (gCons (gName j) (gCons (gName l) gNil))))) u D σ H :=
  h M H (Go.refl tr) _ fun v H1 e1 dv => by
    obtain ⟨v1, v2, v3, t1, t2, t3, t4⟩ := tk_threeT (i := i) (j := j) (k := l) (σ0 := σ) dv
    exact t1 _ (k v1 v2 v3 H1 e1 (tr.same e1) t2 t3 t4)
theorem q_unp4 {i j l m : Nat} {d1 d2 d3 d4 : PyData} (tr : Tr M H) (h : Ev K M te σ H (.tuple [d1, d2, d3, d4])) (k : ∀ v w z q H1, Same H H1 → Tr M H1 → Dm K M H1 v d1 → Dm K M H1 w d2 → Dm K M H1 z d3 → Dm K M H1 q d4 → u D ((((σ.set i (some v)).set j (some w)).set l (some z)).set m (some q)) H1) :
    tSeq (tAsg te (gTup K 4 (gCons (gName i) (gCons (gName j) (gCons (gName l) (gCons (gName m) gNil)))))) u D σ H :=
  h M H (Go.refl tr) _ fun v H1 e1 dv => by
    obtain ⟨v1, v2, v3, v4, t1, t2, t3, t4, t5⟩ := tk_four (i := i) (j := j) (k := l) (l := m) (σ0 := σ) dv
    exact t1 _ (k v1 v2 v3 v4 H1 e1 (tr.same e1) t2 t3 t4 t5)
end
/-- a cut, of anything -/
def cutG {α : Type} (xs : List α) (lo hi : Option Int) : List α := (xs.drop (HT.sIx xs.length 0 lo)).take (HT.sIx xs.length xs.length hi - HT.sIx xs.length 0 lo)
theorem cut_map {α : Type} {f : α → PyData} {xs : List α} {lo hi : Option Int} : cutPd (xs.map f) lo hi = (cutG xs lo hi).map f := by
  unfold cutPd cutG
  rw [List.length_map, ← List.map_drop, ← List.map_take]
theorem cutG_sub {α : Type} {xs : List α} {lo hi : Option Int} : (cutG xs lo hi).Sublist xs := (List.take_sublist _ _).trans (List.drop_sublist _ _)
end Dq

/-! sorted of tuples of ints, any number of them; max of a list, of a tuple with a default; tuples compared; how many a set has -/
namespace Dq
open PySem PySem.Spec PyProof.Rows L2 Gd
def tI (xs : List Int) : PyData := .tuple (xs.map .int)
/-! the order of rows of ints -/
def ltL : List Int → List Int → Bool
  | _, [] => false
  | [], _ :: _ => true
  | x :: xs, y :: ys => if x = y then ltL xs ys else decide (x < y)
theorem ltL_as : ∀ a b : List Int, ltL a b = true → ltL b a = false
  | a, [], h => by cases a <;> cases h
  | [], _ :: _, _ => rfl
  | x :: xs, y :: ys, h => by
    unfold ltL at h ⊢
    by_cases e : x = y
    · rw [if_pos e] at h
      rw [if_pos e.symm]
      exact ltL_as xs ys h
    · rw [if_neg e, decide_eq_true_iff] at h
      rw [if_neg (Ne.symm e)]
      exact decide_eq_false (by omega)
theorem ltL_an : ∀ a b : List Int, ltL a b = false → ltL b a = false → a = b
  | [], [], _, _ => rfl
  | x :: xs, [], _, h => by cases h
  | [], y :: ys, h, _ => by cases h
  | x :: xs, y :: ys, h, g => by
    unfold ltL at h g
    by_cases e : x = y
    · rw [if_pos e] at h
      rw [if_pos e.symm] at g
      rw [e, ltL_an xs ys h g]
    · rw [if_neg e, decide_eq_false_iff_not] at h
      rw [if_neg (Ne.symm e), decide_eq_false_iff_not] at g
      exact absurd e (by omega)
theorem ltL_nt : ∀ a b c : List Int, ltL b a = false → ltL c b = false → ltL c a = false
  | [], b, c, _, _ => by cases c <;> rfl
  | x :: xs, [], _, h, _ => by cases h
  | x :: xs, y :: ys, [], _, g => by cases g
  | x :: xs, y :: ys, z :: zs, h, g => by
    unfold ltL at h g ⊢
    by_cases e : y = x
    · rw [if_pos e] at h
      by_cases e2 : z = y
      · rw [if_pos e2] at g
        rw [if_pos (e2.trans e)]
        exact ltL_nt xs ys zs h g
      · rw [if_neg e2, decide_eq_false_iff_not] at g
        rw [if_neg (by omega)]
        exact decide_eq_false (by omega)
    · rw [if_neg e, decide_eq_false_iff_not] at h
      by_cases e2 : z = y
      · rw [if_neg (by omega)]
        exact decide_eq_false (by omega)
      · rw [if_neg e2, decide_eq_false_iff_not] at g
        rw [if_neg (by omega)]
        exact decide_eq_false (by omega)
theorem ltL_is : ∀ a b : List Int, decide (a < b) = ltL a b
  | [], [] => by rfl
  | x :: xs, [] => by rfl
  | [], y :: ys => by
    unfold ltL
    exact decide_eq_true (List.nil_lt_cons y ys)
  | x :: xs, y :: ys => by
    have ih := ltL_is xs ys
    unfold ltL
    rw [Bool.eq_iff_iff, decide_eq_true_iff, List.cons_lt_cons_iff]
    by_cases e : x = y
    · rw [if_pos e, ← ih, decide_eq_true_iff]
      exact ⟨fun h => by
        rcases h with h | h
        · omega
        · exact h.2, fun h => .inr ⟨e, h⟩⟩
    · rw [if_neg e, decide_eq_true_iff]
      exact ⟨fun h => by
        rcases h with h | h
        · exact h
        · exact absurd h.1 e, fun h => .inl h⟩
theorem ltL_data (a b : List Int) : PySem.W.dataLt (tI a) (tI b) = ltL a b := (PySem.W.dataLt_tuple _ _).trans ((PySem.W.dataLt_ints a b).trans (ltL_is a b))
/-! a sort that reckons -/
section
variable {α : Type}
def mrgI (le : α → α → Bool) (x : α) (rec : List α → List α) : List α → List α
  | [] => x :: rec []
  | y :: ys => if le x y then x :: rec (y :: ys) else y :: mrgI le x rec ys
def mrg (le : α → α → Bool) : List α → List α → List α
  | [] => fun ys => ys
  | x :: xs => mrgI le x (mrg le xs)
def mprs (le : α → α → Bool) : List (List α) → List (List α)
  | a :: b :: r => mrg le a b :: mprs le r
  | r => r
def mall (le : α → α → Bool) : Nat → List (List α) → List α
  | 0, _ => []
  | n + 1, ls => match ls with
    | [] => []
    | [a] => a
    | ls => mall le n (mprs le ls)
def msrt (le : α → α → Bool) (l : List α) : List α := mall le (l.length + 1) (l.map fun x => [x])
variable {le : α → α → Bool}
theorem mrgI_perm {x : α} {xs : List α} {rec : List α → List α} (h : ∀ zs, (rec zs).Perm (xs ++ zs)) : ∀ ys, (mrgI le x rec ys).Perm (x :: xs ++ ys)
  | [] => (h []).cons x
  | y :: ys => by
    unfold mrgI
    split
    · exact (h _).cons x
    · exact ((mrgI_perm h ys).cons y).trans (List.perm_middle (l₁ := x :: xs)).symm
theorem mrg_perm : ∀ xs ys : List α, (mrg le xs ys).Perm (xs ++ ys)
  | [], _ => List.Perm.refl _
  | _ :: xs, ys => mrgI_perm (mrg_perm xs) ys
theorem mprs_perm : ∀ ls : List (List α), (mprs le ls).flatten.Perm ls.flatten
  | [] => List.Perm.refl _
  | [a] => List.Perm.refl _
  | a :: b :: r => by
    unfold mprs
    rw [List.flatten_cons, List.flatten_cons, List.flatten_cons, ← List.append_assoc]
    exact (mrg_perm a b).append (mprs_perm r)
theorem mprs_len : ∀ ls : List (List α), (mprs le ls).length ≤ ls.length ∧ (2 ≤ ls.length → (mprs le ls).length < ls.length)
  | [] => ⟨Nat.le_refl _, fun h => absurd h (by simp)⟩
  | [a] => ⟨Nat.le_refl _, fun h => absurd h (by simp)⟩
  | a :: b :: r => by
    have := (mprs_len r).1
    unfold mprs
    simp only [List.length_cons]
    omega
theorem mall_perm : ∀ (n : Nat) (ls : List (List α)), ls.length < n → (mall le n ls).Perm ls.flatten
  | 0, _, h => absurd h (Nat.not_lt_zero _)
  | n + 1, [], _ => List.Perm.refl _
  | n + 1, [a], _ => by
    show a.Perm [a].flatten
    rw [List.flatten_cons, List.flatten_nil, List.append_nil]
  | n + 1, a :: b :: r, h => by
    have h2 := (mprs_len (le := le) (a :: b :: r)).2 (by simp)
    exact (mall_perm n _ (by omega)).trans (mprs_perm _)
theorem flat_one (l : List α) : (l.map fun x => [x]).flatten = l := by
  induction l with
  | nil => rfl
  | cons x l ih => rw [List.map_cons, List.flatten_cons, ih]; rfl
theorem msrt_perm (l : List α) : (msrt le l).Perm l := by
  have h := mall_perm (le := le) (l.length + 1) (l.map fun x => [x]) (by rw [List.length_map]; omega)
  rw [flat_one] at h
  exact h
theorem mrgI_pw (tot : ∀ a b, le a b = false → le b a = true) (tr : ∀ a b c, le a b = true → le b c = true → le a c = true) {x : α} {xs : List α} {rec : List α → List α} (hp : ∀ zs, (rec zs).Perm (xs ++ zs)) (hr : ∀ zs, zs.Pairwise (fun a b => le a b = true) → (rec zs).Pairwise fun a b => le a b = true) (hx : ∀ z ∈ xs, le x z = true) :
    ∀ ys, ys.Pairwise (fun a b => le a b = true) → (mrgI le x rec ys).Pairwise fun a b => le a b = true
  | [], _ => List.pairwise_cons.mpr ⟨fun z hz => by
      have := (hp []).mem_iff.mp hz
      rw [List.append_nil] at this
      exact hx z this, hr [] .nil⟩
  | y :: ys, h => by
    obtain ⟨h1, h2⟩ := List.pairwise_cons.mp h
    unfold mrgI
    split
    · next c => exact List.pairwise_cons.mpr ⟨fun z hz => by
        rcases List.mem_append.mp ((hp _).mem_iff.mp hz) with hz | hz
        · exact hx z hz
        · rcases List.mem_cons.mp hz with rfl | hz
          · exact c
          · exact tr _ _ _ c (h1 z hz), hr _ h⟩
    · next c =>
      have c := tot _ _ (Bool.not_eq_true _ ▸ c)
      exact List.pairwise_cons.mpr ⟨fun z hz => by
        rcases List.mem_append.mp ((mrgI_perm hp ys).mem_iff.mp hz) with hz | hz
        · rcases List.mem_cons.mp hz with rfl | hz
          · exact c
          · exact tr _ _ _ c (hx z hz)
        · exact h1 z hz, mrgI_pw tot tr hp hr hx ys h2⟩
theorem mrg_pw (tot : ∀ a b, le a b = false → le b a = true) (tr : ∀ a b c, le a b = true → le b c = true → le a c = true) : ∀ xs ys : List α, xs.Pairwise (fun a b => le a b = true) → ys.Pairwise (fun a b => le a b = true) → (mrg le xs ys).Pairwise fun a b => le a b = true
  | [], ys, _, h => h
  | x :: xs, ys, h1, h2 => mrgI_pw tot tr (mrg_perm xs) (fun zs hz => mrg_pw tot tr xs zs (List.pairwise_cons.mp h1).2 hz) (List.pairwise_cons.mp h1).1 ys h2
theorem mprs_pw (tot : ∀ a b, le a b = false → le b a = true) (tr : ∀ a b c, le a b = true → le b c = true → le a c = true) : ∀ ls : List (List α), (∀ l ∈ ls, l.Pairwise fun a b => le a b = true) → ∀ l ∈ mprs le ls, l.Pairwise fun a b => le a b = true
  | [], h, l, hl => h l hl
  | [a], h, l, hl => h l hl
  | a :: b :: r, h, l, hl => by
    unfold mprs at hl
    rcases List.mem_cons.mp hl with rfl | hl
    · exact mrg_pw tot tr a b (h a (List.mem_cons_self ..)) (h b (List.mem_cons_of_mem _ (List.mem_cons_self ..)))
    · exact mprs_pw tot tr r (fun l hl => h l (List.mem_cons_of_mem _ (List.mem_cons_of_mem _ hl))) l hl
theorem mall_pw (tot : ∀ a b, le a b = false → le b a = true) (tr : ∀ a b c, le a b = true → le b c = true → le a c = true) : ∀ (n : Nat) (ls : List (List α)), (∀ l ∈ ls, l.Pairwise fun a b => le a b = true) → (mall le n ls).Pairwise fun a b => le a b = true
  | 0, _, _ => .nil
  | n + 1, [], _ => .nil
  | n + 1, [a], h => h a (List.mem_cons_self ..)
  | n + 1, a :: b :: r, h => mall_pw tot tr n _ (mprs_pw tot tr _ h)
theorem msrt_pw (tot : ∀ a b, le a b = false → le b a = true) (tr : ∀ a b c, le a b = true → le b c = true → le a c = true) (l : List α) : (msrt le l).Pairwise fun a b => le a b = true :=
  mall_pw tot tr _ _ fun m hm => by
    obtain ⟨x, _, rfl⟩ := List.mem_map.mp hm
    exact List.pairwise_singleton _ _
theorem srt_eq (an : ∀ a b, le a b = true → le b a = true → a = b) : ∀ {l m : List α}, l.Pairwise (fun a b => le a b = true) → m.Pairwise (fun a b => le a b = true) → l.Perm m → l = m
  | [], m, _, _, p => (List.Perm.nil_eq p)
  | x :: l, [], _, _, p => (List.Perm.eq_nil p)
  | x :: l, y :: m, h1, h2, p => by
    have a1 := List.pairwise_cons.mp h1
    have a2 := List.pairwise_cons.mp h2
    have e : x = y := by
      rcases List.mem_cons.mp (p.mem_iff.mp (List.mem_cons_self ..)) with q | q
      · exact q
      · rcases List.mem_cons.mp (p.mem_iff.mpr (List.mem_cons_self ..)) with r | r
        · exact r.symm
        · exact an _ _ (a1.1 y r) (a2.1 x q)
    subst e
    rw [srt_eq an a1.2 a2.2 ((List.perm_cons x).mp p)]
end
def leL (a b : List Int) : Bool := !ltL b a
theorem leL_tot (a b : List Int) (h : leL a b = false) : leL b a = true := by
  unfold leL at h ⊢
  rw [ltL_as b a (by cases q : ltL b a with | true => rfl | false => rw [q] at h; cases h)]
  rfl
theorem leL_no {a b : List Int} : leL a b = true ↔ ltL b a = false := by
  unfold leL
  cases ltL b a <;> simp
theorem leL_tr (a b c : List Int) (h : leL a b = true) (g : leL b c = true) : leL a c = true := leL_no.mpr (ltL_nt a b c (leL_no.mp h) (leL_no.mp g))
theorem leL_an (a b : List Int) (h : leL a b = true) (g : leL b a = true) : a = b := ltL_an a b (leL_no.mp g) (leL_no.mp h)
def srtL (l : List (List Int)) : List (List Int) := msrt leL l
theorem srtL_perm (l : List (List Int)) : (srtL l).Perm l := msrt_perm l
theorem srtL_pw (l : List (List Int)) : (srtL l).Pairwise fun a b => leL a b = true := msrt_pw leL_tot leL_tr l
theorem srtL_of {l m : List (List Int)} (h : l.Pairwise fun a b => leL a b = true) (p : l.Perm m) : l = srtL m := srt_eq leL_an h (srtL_pw m) (p.trans (srtL_perm m).symm)
theorem srtL_congr {l m : List (List Int)} (p : l.Perm m) : srtL l = srtL m := srtL_of (srtL_pw l) ((srtL_perm l).trans p)
end Dq

/-! the rules -/
namespace Dq
open PySem PySem.Spec PyProof.Rows L2 Gd
open Classical in
noncomputable def rowAt (h : Heap) (v : Value) : List Int := if e : ∃ is : List Int, ∃ as, Reads h v (tI is) as then e.choose else []
theorem alike_rows (a b : List Int) : PySem.W.alike (tI a) (tI b) = true := by
  unfold tI PySem.W.alike
  exact PySem.W.alike_ints a b
theorem tI_inj {a b : List Int} (h : tI a = tI b) : a = b := by
  unfold tI at h
  have h := PyData.tuple.inj h
  exact (List.map_inj_right fun x y e => PyData.int.inj e).mp h
theorem rowAt_is {h : Heap} {v : Value} {is : List Int} {as : List Addr} (r : Reads h v (tI is) as) : rowAt h v = is := by
  have e : ∃ is : List Int, ∃ as, Reads h v (tI is) as := ⟨is, as, r⟩
  unfold rowAt
  rw [dif_pos e]
  obtain ⟨as', q⟩ := e.choose_spec
  exact tI_inj (PySem.W.alike_unique _ _ _ _ _ (alike_rows _ _) q r)
theorem depth_row (a : List Int) : (tI a).depth = 1 := by
  unfold tI PyData.depth
  rw [PySem.W.depth_ints]
theorem each_same {α : Type} {R : α → α → Prop} : ∀ {l : List α}, (∀ a ∈ l, R a a) → PySem.W.EachIs R l l
  | [], _ => .nil
  | a :: l, h => .cons (h a (List.mem_cons_self ..)) (each_same fun b hb => h b (List.mem_cons_of_mem _ hb))
theorem each_eq {α : Type} : ∀ {l m : List α}, PySem.W.EachIs (fun a b => a = b) l m → l = m
  | _, _, .nil => rfl
  | _, _, .cons h t => by rw [h, each_eq t]
def rSortedL (K : PySem.W.Frag) : List V → Hp → VK → Prop := fun vs H Q => ∃ a xs, vs = [V.ref a] ∧ SqL K H a xs ∧ (∀ x ∈ xs, ∃ is : List Int, Da K H x (tI is) ∧ (is = [] → xs.length ≤ 1)) ∧
  ∀ ys p, ys.Perm xs → (ys.Pairwise fun x y => ∀ is js : List Int, Da K H x (tI is) → Da K H y (tI js) → leL is js = true) → H p = none → Q (.ref p) (upd H p (.lst ys))
theorem cr_sortedL {X : Cx} {K : PySem.W.Frag} (hK : X.K = K) (hu : X.A.units + 65 < cLine) : CallR X (.builtin "sorted") (rSortedL K) := by
  subst hK
  intro pins s σ H vs us Q I r h
  obtain ⟨a, xs, rfl, hs, hx, q⟩ := h
  obtain ⟨its, rv, hl, hz⟩ := I.list hs
  obtain ⟨u, rfl, ru⟩ := vals1 r
  cases ru
  have refs : ∀ x ∈ xs, ∃ t, x = V.ref t := fun x m => by
    obtain ⟨is, hd, _⟩ := hx x m
    cases hd with
    | tup ht hz => exact ⟨_, rfl⟩
  obtain ⟨e1, e2⟩ := refs_back rv refs
  have len : its.length = xs.length := rv.length.symm
  have rd : ∀ v ∈ its, ∃ as, Reads s.heap v (tI (rowAt s.heap v)) as := fun v hv => by
    obtain ⟨t, rfl⟩ := e2 v hv
    have hm : V.ref t ∈ xs := by
      rw [e1]
      exact List.mem_map.mpr ⟨_, hv, rfl⟩
    obtain ⟨is, hd, _⟩ := hx _ hm
    obtain ⟨as, hr⟩ := Dp.reads I _ _ _ (Da.dp _ _ hd) (show RelV (V.ref t) (Value.ref t) from rfl)
    exact ⟨as, by rw [rowAt_is hr]; exact hr⟩
  have fin : ∀ out : List Value, out.Perm its → (out.Pairwise fun u v => leL (rowAt s.heap u) (rowAt s.heap v) = true) → ∀ (h' : Heap) (d : Addr), (∀ b o, s.heap.get? b = some o → h'.get? b = some o) → s.heap.objs.size ≤ d → (∃ n, h'.get? d = some (seqObj "list" out.toArray n)) → EP X pins σ Q (.ref d) { s with heap := h' } := fun out hp hso h' d k hd ⟨n, hn⟩ => by
    have h3 : ∀ u ∈ out, ∃ a, u = Value.ref a := fun u hu => e2 u (hp.mem_iff.mp hu)
    have lo : (out.map backV).length ≤ sizeLine := by
      rw [List.length_map, hp.length_eq, len]
      exact hz
    refine ⟨.ref d, upd H d (.lst (out.map backV)), I.laid (t' := s.toks) k hd ⟨lo, out, n, vals_back h3, hn⟩, rfl, q _ d ?_ ?_ (I.hok.fresh hd)⟩
    · rw [e1]
      exact hp.map backV
    · refine List.pairwise_map.mpr (List.Pairwise.imp_of_mem (fun {v u} hv hu hvu => ?_) hso)
      intro is js d1 d2
      obtain ⟨b, rfl⟩ := h3 v hv
      obtain ⟨b2, rfl⟩ := h3 u hu
      obtain ⟨_, r1⟩ := Dp.reads I _ _ _ (Da.dp _ _ d1) (show RelV (V.ref b) (Value.ref b) from rfl)
      obtain ⟨_, r2⟩ := Dp.reads I _ _ _ (Da.dp _ _ d2) (show RelV (V.ref b2) (Value.ref b2) from rfl)
      rw [rowAt_is r1, rowAt_is r2] at hvu
      exact hvu
  by_cases h1 : its.length ≤ 1
  · refine SrtO.sorted_ord (ltv := fun _ _ => false) ⟨fun _ _ _ => rfl, fun _ _ _ _ _ => rfl⟩ hl.isList (by rw [len]; exact hz) (fun h2 => absurd h2 (by omega)) fun out hs hb => ?_
    have hp : out.Perm its := hb.perm
    refine fin out hp ?_ _ _ (fun b o e => sortedAll_old e) (Nat.le_succ _) (sortedAll_at s.heap its out.toArray)
    have hl : out.length ≤ 1 := by
      rw [hp.length_eq]
      exact h1
    match out, hl with
    | [], _ => exact .nil
    | [v], _ => exact List.pairwise_singleton _ _
  · refine PySem.W.sorted_data (R := fun v b => v = b) (bs := its) (enc := fun v => tI (rowAt s.heap v)) hl.isList (each_same fun _ _ => rfl) (each_same fun v hv => rd v hv) (fun d hd d' hd' => ?_) (.inl fun d hd => ?_) (by rw [len]; exact hz) (fun b hb => ?_) fun out ho eo => ?_
    · obtain ⟨v, _, rfl⟩ := List.mem_map.mp hd
      obtain ⟨v', _, rfl⟩ := List.mem_map.mp hd'
      exact alike_rows _ _
    · obtain ⟨v, hv, rfl⟩ := List.mem_map.mp hd
      obtain ⟨t, rfl⟩ := e2 v hv
      have hm : V.ref t ∈ xs := by
        rw [e1]
        exact List.mem_map.mpr ⟨_, hv, rfl⟩
      obtain ⟨is, hd, hne⟩ := hx _ hm
      obtain ⟨as, hr⟩ := Dp.reads I _ _ _ (Da.dp _ _ hd) (show RelV (V.ref t) (Value.ref t) from rfl)
      show ∃ x r, tI (rowAt s.heap (.ref t)) = .tuple (x :: r)
      rw [rowAt_is hr]
      cases is with
      | nil => exact absurd (hne rfl) (by omega)
      | cons i is => exact ⟨_, _, rfl⟩
    · show X.A.units + 2 + (tI _).depth < cLine
      rw [depth_row]
      omega
    · have eo := each_eq eo
      subst eo
      refine fin _ (List.mergeSort_perm _ _) ?_ _ _ (fun b o e => sortedAll_old e) (Nat.le_succ _) (sortedAll_at s.heap its _)
      refine (PySem.W.sort_pairwise (PySem.W.sortLe_total (listOrd itemOrd) false fun v => PySem.W.keyToks (tI (rowAt s.heap v))) its).imp fun {u v} huv => ?_
      have huv : (!PySem.W.dataLt (tI (rowAt s.heap v)) (tI (rowAt s.heap u))) = true := huv
      rw [ltL_data] at huv
      exact huv
section
variable {K : PySem.W.Frag} {M : List Addr} {σ : S} {H : Hp} {te ta tb : TE} {ds : List PyData} {d : PyData} {w : World}
theorem ev_sortedL {xs : List (List Int)} (ha : Ev K M ta σ H (.list (xs.map tI))) (hne : xs.length ≤ 1 ∨ [] ∉ xs) : Ev K M (tCB (rSortedL K) (tCons ta tNil)) σ H (.list ((srtL xs).map tI)) := fun M1 H1 g Q q =>
  ha M1 H1 g _ fun v H2 e2 d2 => by
    have t2 := (g.same e2).tr
    cases d2 with
    | @lst a vs _ hs hx =>
      have hlv := hx.length
      rw [List.length_map] at hlv
      refine ⟨a, vs, rfl, SqL.of (mn_same _ _ hs), fun x hm => ?_, fun ys p hp hpw hn => ?_⟩
      · obtain ⟨i, hi, rfl⟩ := List.getElem_of_mem hm
        obtain ⟨d, e5, e6⟩ := hx.getV (List.getElem?_eq_getElem hi)
        have hi' : i < xs.length := by omega
        rw [List.getElem?_map, List.getElem?_eq_getElem hi'] at e5
        cases e5
        refine ⟨xs[i], Da.same mn_same _ _ e6, fun e => ?_⟩
        rcases hne with h | h
        · omega
        · exact absurd (e ▸ List.getElem_mem hi') h
      · obtain ⟨es, hes, hd⟩ := Das.perm hx hp
        obtain ⟨qs, q1, rfl⟩ := perm_map hes xs rfl
        have hlen := hd.length
        rw [List.length_map] at hlen
        have hqs : qs = srtL xs := srtL_of (List.pairwise_iff_getElem.mpr fun i j hi hj hij => by
          have := List.pairwise_iff_getElem.mp hpw i j (by omega) (by omega) hij
          obtain ⟨d, e5, e6⟩ := hd.getV (List.getElem?_eq_getElem (i := i) (by omega))
          obtain ⟨d', e7, e8⟩ := hd.getV (List.getElem?_eq_getElem (i := j) (by omega))
          rw [List.getElem?_map, List.getElem?_eq_getElem hi] at e5
          rw [List.getElem?_map, List.getElem?_eq_getElem hj] at e7
          cases e5
          cases e7
          exact this _ _ (Da.same mn_same _ _ e6) (Da.same mn_same _ _ e8)) q1
        subst hqs
        exact q _ _ (e2.trans (same_new hn)) (dm_newL t2 hn hd)
theorem op_repT_k {X : Cx} {K : PySem.W.Frag} (hK : X.K = K) : OpR X (binaryOp .Mult) (rRepT K) := hK ▸ op_repT
theorem cr_max_k {X : Cx} {K : PySem.W.Frag} (hc : X.calm = true) (hK : X.K = K) : CallR X (.builtin "max") (rMax K) := hK ▸ cr_max hc
theorem ev_maxL {xs : List Int} {m : Int} (ha : Ev K M ta σ H (.list (xs.map PyData.int))) (hm : m ∈ xs) (hb : ∀ y ∈ xs, y ≤ m) : Ev K M (tCB (rMax K) (tCons ta tNil)) σ H (.int m) := fun M1 H1 g Q q =>
  ha M1 H1 g _ fun v H2 e2 d2 => by
    cases d2 with
    | @lst a vs _ hs hx =>
      have hv := das_ints hx
      subst hv
      refine ⟨a, xs, rfl, SqL.of (mn_same _ _ hs), List.length_pos_of_mem hm, fun m' h1 h2 => ?_⟩
      have e : m' = m := by
        have := h2 m hm
        have := hb m' h1
        omega
      subst e
      exact q _ _ e2 (.int _)
/-! max(t, default=-1) -/
def topI (xs : List Int) : Int := xs.foldl max (-1)
theorem top_from (xs : List Int) : ∀ a : Int, xs.foldl max a = max a (xs.foldl max a) := by
  induction xs with
  | nil => intro a; show a = max a a; omega
  | cons x xs ih =>
    intro a
    show xs.foldl max (max a x) = max a (xs.foldl max (max a x))
    have := ih (max a x)
    omega
theorem top_is (xs : List Int) : ∀ a : Int, (xs.foldl max a = a ∨ xs.foldl max a ∈ xs) ∧ ∀ y ∈ xs, y ≤ xs.foldl max a := by
  induction xs with
  | nil => intro a; exact ⟨.inl rfl, fun y hy => nomatch hy⟩
  | cons x xs ih =>
    intro a
    show (xs.foldl max (max a x) = a ∨ _) ∧ ∀ y ∈ x :: xs, y ≤ xs.foldl max (max a x)
    obtain ⟨h1, h2⟩ := ih (max a x)
    have h3 := top_from xs (max a x)
    refine ⟨?_, fun y hy => ?_⟩
    · show _ ∨ xs.foldl max (max a x) ∈ x :: xs
      rcases h1 with h | h
      · rw [h]
        by_cases c : x ≤ a
        · left; omega
        · right
          have e : max a x = x := by omega
          rw [e]
          exact List.mem_cons_self ..
      · exact .inr (List.mem_cons_of_mem _ h)
    · rcases List.mem_cons.mp hy with rfl | hy
      · omega
      · exact h2 y hy
def rMaxDT (K : PySem.W.Frag) : List V → List V → Hp → VK → Prop := fun vs zs H Q => ∃ (a : Addr) (ns : List Int), vs = [V.ref a] ∧ zs = [V.int (-1)] ∧ SqT K H a (ns.map V.int) ∧ (∀ n ∈ ns, -1 ≤ n) ∧ Q (.int (topI ns)) H
theorem alikes (ns : List Int) : PySem.W.AlikeAll (ns.map PyData.int) := by
  refine ⟨fun x hx y hy => ?_, fun x hx => ?_⟩
  · obtain ⟨i, _, rfl⟩ := List.mem_map.mp hx
    obtain ⟨j, _, rfl⟩ := List.mem_map.mp hy
    rfl
  · obtain ⟨i, _, rfl⟩ := List.mem_map.mp hx
    exact PyData.noConfusion
theorem cr_maxDT {X : Cx} {K : PySem.W.Frag} (hc : X.calm = true) (hK : X.K = K) (hu : X.A.units + 65 < cLine) : CallRK X (.builtin "max") [Str.ofString "default"] (rMaxDT K) := by
  subst hK
  intro pins s σ H vs zs us ws Q I r rz h
  obtain ⟨a, ns, rfl, rfl, hs, hb, q⟩ := h
  obtain ⟨its, rv, ht, _⟩ := I.tuple hs
  obtain rfl := Vals.ref1 r
  obtain ⟨w1, rfl, t1, rfl⟩ := vals1 rz
  obtain ⟨as, rd⟩ := Dp.readsAll I (ns.map PyData.int) _ its (Das.dp _ _ (Das.ints ns)) rv
  refine PySem.W.max_tuple_default (I.ok.hd hc) ht (by simpa using rd) (alikes ns) (by rw [PySem.W.depth_ints]; omega) (fun e h' tk kp => ?_) fun y ys i v h' tk bs e _ rd kp => ?_
  · have e : ns = [] := List.map_eq_nil_iff.mp e
    subst e
    exact ⟨.int _, H, I.kept kp, ⟨_, rfl⟩, q⟩
  · cases ns with
    | nil => cases e
    | cons n ns =>
      rw [List.map_cons] at e
      injection e with e3 e4
      subst e3
      subst e4
      rw [PySem.W.maxD_ints] at rd
      have e5 : ns.foldl max n = topI (n :: ns) := by
        show _ = ns.foldl max (max (-1) n)
        have := hb n (List.mem_cons_self ..)
        congr 1
        omega
      rw [e5] at rd
      cases rd
      exact ⟨.int _, H, I.kept kp, ⟨_, rfl⟩, q⟩
theorem ev_maxDT {xs : List Int} (ha : Ev K M ta σ H (.tuple (xs.map PyData.int))) (hk : Ev K M tb σ H (.int (-1))) (hb : ∀ n ∈ xs, -1 ≤ n) : Ev K M (tCKw (rMaxDT K) (tCons ta tNil) (tCons tb tNil)) σ H (.int (topI xs)) := fun M1 H1 g Q q =>
  ha M1 H1 g _ fun v H2 e2 d2 => by
    refine hk M1 H2 (g.same e2) _ fun v3 H3 e3 d3 => ?_
    have d2 := dm_same d2 (g.same e2).tr e3
    cases d2 with
    | @tup a vs _ hs hx =>
      have hv := das_ints hx
      subst hv
      cases d3
      exact ⟨a, xs, rfl, rfl, same_sqt mn_same hs, hb, q _ _ (e2.trans e3) (.int _)⟩
/-! tuples of ints compared -/
def rGeL (K : PySem.W.Frag) : R2 := fun x y H Q => ∃ a b : List Int, Da K H x (tI a) ∧ Da K H y (tI b) ∧ Q (.bl (!ltL a b)) H
theorem op_geL {X : Cx} {K : PySem.W.Frag} (hK : X.K = K) (hu : X.A.units + 65 < cLine) : OpR X (compareOp .GtE) (rGeL K) := by
  subst hK
  intro pins s σ H x y v u Q I rx ry h
  obtain ⟨a, b, hd, he, q⟩ := h
  obtain ⟨_, r1⟩ := Dp.reads I _ x v (Da.dp _ _ hd) rx
  obtain ⟨_, r2⟩ := Dp.reads I _ y u (Da.dp _ _ he) ry
  refine PySem.W.ge_data r1 r2 (alike_rows _ _) PyData.noConfusion (by rw [depth_row, depth_row]; omega) ?_
  rw [ltL_data]
  exact ⟨.bl _, H, I, rfl, q⟩
theorem ev_geL {a b : List Int} (ha : Ev K M ta σ H (tI a)) (hb : Ev K M tb σ H (tI b)) : Ev K M (tOp (rGeL K) ta tb) σ H (.bool (!ltL a b)) :=
  ev_op ha hb fun M2 H1 x y gg dx dy Q q => ⟨a, b, dm_h dx, dm_h dy, q _ _ (Same.refl _) (.bl _)⟩
/-! len(set(t)) -/
def rLenO (w : World) : List V → Hp → VK → Prop := fun vs H Q => ∃ (a : Addr) (S : Int → Bool) (n m : Nat), vs = [V.ref a] ∧ H a = some (SetO w a S n) ∧ (∀ ns : List Int, ns.Nodup → (∀ k, k ∈ ns ↔ S k = true) → ns.length = m) ∧ Q (.int m) H
theorem call_lenO {X : Cx} {w : World} (hw : X.w = w) : CallR X (.builtin "len") (rLenO w) := by
  subst hw
  intro pins s σ H vs us Q I r h
  obtain ⟨a, S, n, m, rfl, ha, hm, q⟩ := h
  obtain rfl := Vals.ref1 r
  obtain ⟨o, es, ep, t, ho, hex, hd, g, nd, hmem, hb, hf, hn, hr, hl⟩ := setO_get I ha
  have e := hm _ nd fun k => (hmem k).symm
  rw [List.length_map, Array.length_toList] at e
  have hb : es.size < 4096 := hb
  exact call_len_set ho hex hd hf (by omega) ⟨.int m, H, I.tok _, ⟨_, by rw [e]⟩, q⟩
theorem nd_len {a b : List Int} (ha : a.Nodup) (hb : b.Nodup) (h : ∀ k, k ∈ a ↔ k ∈ b) : a.length = b.length := ((List.perm_ext_iff_of_nodup ha hb).mpr h).length_eq
theorem ev_lenSet {xs : List Int} (ha : Ev K M ta σ H (.tuple (xs.map PyData.int))) (hz : xs.length ≤ 60) : Ev K M (tCB (rLenO w) (tCons (tCB (rSetI K w) (tCons ta tNil)) tNil)) σ H (.int ((lvl xs).length : Nat)) := fun M2 H1 g Q q =>
  ha M2 H1 g _ fun v H2 e2 dv => by
    cases dv with
    | @tup a vs _ hs hx =>
      have hvs : vs = xs.map V.int := das_ints hx
      subst hvs
      refine ⟨a, xs, rfl, same_sqt mn_same hs, hz, fun s0 c hs0 hc => ?_⟩
      have e3 : Same H2 (upd H2 s0 (SetO w s0 (fun j => decide (j ∈ xs)) c)) := same_new hs0
      refine ⟨s0, _, c, _, rfl, upd_same, fun ns hn hk => nd_len hn ((pw_lvl xs).imp fun h => Int.ne_of_lt h) fun k => by rw [hk, mem_lvl, decide_eq_true_iff], q _ _ (e2.trans e3) (.int _)⟩
theorem das_rep {K : PySem.W.Frag} {H : Hp} {xs : List V} {ds : List PyData} (hx : Das K H xs ds) : ∀ m : Nat, Das K H (List.replicate m xs).flatten (List.replicate m ds).flatten
  | 0 => .nil
  | m + 1 => by
    rw [List.replicate_succ, List.replicate_succ, List.flatten_cons, List.flatten_cons]
    exact hx.append (das_rep hx m)
theorem ev_repT {es : List PyData} {k : Int} (ha : Ev K M ta σ H (.tuple es)) (hb : Ev K M tb σ H (.int k)) (h0 : 2 ≤ k) (h1 : k ≤ 1000) (h2 : es.length ≤ 1000) (h3 : es ≠ []) : Ev K M (tOp (rRepT K) ta tb) σ H (.tuple (List.replicate k.toNat es).flatten) :=
  ev_op ha hb fun M2 H1 x y gg dx dy Q q => by
    cases dx with
    | @tup a xs _ hs hx =>
      cases dy
      have hl := hx.length
      refine ⟨a, k, xs, rfl, rfl, same_sqt mn_same hs, fun e => ?_, h0, h1, by omega, fun p hp => q _ _ (same_new hp) (dm_newT gg.tr hp (das_rep hx _))⟩
      subst e
      cases es with
      | nil => exact h3 rfl
      | cons d es => cases hl
end
end Dq

/-! new lists that are changed later -/
namespace Dq
open PySem PySem.Spec PyProof.Rows L2 Gd
section
variable {K : PySem.W.Frag} {M M' : List Addr} {σ : S} {H H' H0 : Hp} {ta tb te : TE} {tt : TT} {as : TA} {d e : PyData} {ds es : List PyData} {wi : TI} {D : Ends} {t u v : TS}
theorem same_upd {p : Addr} {o : HO} (h0 : H0 p = none) (e : Same H0 H') : Same H0 (upd H' p o) := fun b x hb => by
  rw [upd_ne (ne_of_none hb h0)]
  exact e _ _ hb
theorem given_all {n : Nat} {el : Nat → PyData} : given n (fun _ => true) el = (List.range n).map el := by
  unfold given
  rw [List.filter_eq_self.mpr fun _ _ => rfl]
theorem lc_mut {g : TG} {vs : List Nat} {n : Nat} {it : Nat → PyData} {Q : VK} (f : Nat → Bool) (el : Nat → PyData) (tr : Tr M H) (w : Wk K M wi σ H n it) (hn : n ≤ 1000000)
    (hs : ∀ M' H' i x, Go M H M' H' → i < n → Dm K M' H' x (it i) → ∃ σ2, Tk g x (wipe σ vs) H' σ2 ∧ wipe σ2 vs = wipe σ vs ∧ Eb M' tt σ2 H' (f i) ∧ (f i = true → Ev K M' te σ2 H' (el i)))
    (k : ∀ l acc H1, H l = none → Same H H1 → Go M H (l :: M) H1 → H1 l = some (.lst acc) → Dms K (l :: M) H1 acc (given n f el) → Q (.ref l) H1) : tLc wi g tt te vs σ H Q := by
  have g1 : Go M H M H := Go.refl tr
  refine w M H g1 _ fun J H2 G Y e2 wk hG hY D hD => ?_
  have g2 : Go M H M H2 := g1.same e2
  have DM : D ∉ M := fun z => g2.tr D z hD
  have g3 : Go M H2 (D :: M) (upd H2 D (.lst [])) := go_mut g2.tr hD
  refine lc_it wk (fun i H' => Go M H2 (D :: M) H' ∧ Same H2 H' ∧ ∃ acc, H' D = some (.lst acc) ∧ Dms K (D :: M) H' acc (given i f el) ∧ acc.length ≤ i)
    ⟨g3, same_new hD, [], upd_same, .nil, Nat.le_refl _⟩ (fun i H' _ p => hG _ _ p.1) (fun i z H' H4 hi p hy => ?_) (fun H' p => ?_)
  · obtain ⟨p1, ps, acc, p2, p3, p4⟩ := p
    obtain ⟨e4, d4⟩ := hY _ i H' z H4 p1 hi hy
    have g4 := p1.same e4
    obtain ⟨σ2, t1, t2, t3, t4⟩ := hs _ H4 i z (g2.trans g4) hi d4
    refine t1 _ ⟨t2, t3 _ H4 (Go.refl g4.tr) _ fun H5 e5 => ?_⟩
    have g5 := g4.same e5
    cases hf : f i with
    | true =>
      show te σ2 H5 _
      refine t4 hf _ H5 ((Go.refl g4.tr).same e5) _ fun v H6 e6 d6 => ?_
      have g6 := g5.same e6
      have s6 := (e4.trans e5).trans e6
      have a6 : H6 D = some (.lst acc) := s6 _ _ p2
      refine ⟨acc, a6, Nat.lt_of_le_of_lt p4 (by rw [sizeLine_eq]; omega), ?_⟩
      have g7 : Go M H2 (D :: M) (upd H6 D (.lst (acc ++ [v]))) := g6.trans (go_set g6.tr (List.mem_cons_self ..))
      refine ⟨g7, fun b o hb => ?_, acc ++ [v], upd_same, ?_, ?_⟩
      · rw [upd_ne (ne_of_none hb hD)]
        exact s6 _ _ (ps _ _ hb)
      · rw [given_yes hf]
        have k := go_set (o := .lst (acc ++ [v])) g6.tr (List.mem_cons_self (a := D) (l := M))
        exact (dms_go p3 (((Go.refl p1.tr).same s6).trans k)).append (.cons (dm_go d6 k) .nil)
      · rw [List.length_append]
        show acc.length + 1 ≤ i + 1
        omega
    | false =>
      show Go M H2 (D :: M) H5 ∧ _
      have s5 := e4.trans e5
      refine ⟨g5, ps.trans s5, acc, s5 _ _ p2, ?_, by omega⟩
      rw [given_no hf]
      exact dms_go p3 ((Go.refl p1.tr).same s5)
  · obtain ⟨p1, ps, acc, p2, p3, p4⟩ := p
    exact k D acc H' (e2.free hD) (e2.trans ps) (g2.trans p1) p2 p3
theorem cat_newM {Q : VK} (tr : Tr M H) (ha : Ev K M ta σ H (.list ds)) (hb : Ev K M tb σ H (.list es)) (hz : ds.length + es.length ≤ 1000000)
    (k : ∀ p vs H1, Same H H1 → Tr M H1 → H1 p = none → Dms K M H1 vs (ds ++ es) → Q (.ref p) (upd H1 p (.lst vs))) : tOp rCat ta tb σ H Q :=
  ha M H (Go.refl tr) _ fun x H1 e1 dx => hb M H1 ((Go.refl tr).same e1) _ fun y H2 e2 dy => by
    have dx2 := dm_same dx (Tr.same tr e1) e2
    have t2 := Tr.same tr (e1.trans e2)
    cases dx2 with
    | @lst a xs _ hs hx =>
      cases dy with
      | @lst b ys _ ks ky => exact ⟨a, b, xs, ys, rfl, rfl, mn_same _ _ hs, mn_same _ _ ks, by rw [hx.length, ky.length, sizeLine_eq]; omega, fun p hp => k p _ H2 (e1.trans e2) t2 hp (hx.append ky)⟩
theorem sort_new {xs : List (List Int)} {Q : VK} (tr : Tr M H) (ha : Ev K M ta σ H (.list (xs.map tI))) (hne : xs.length ≤ 1 ∨ [] ∉ xs)
    (k : ∀ l H1, H l = none → Same H H1 → Tr M H1 → Dm K M H1 (.ref l) (.list ((srtL xs).map tI)) → Q (.ref l) H1) : tCB (rSortedL K) (tCons ta tNil) σ H Q :=
  ha M H (Go.refl tr) _ fun v H2 e2 d2 => by
    have t2 := Tr.same tr e2
    cases d2 with
    | @lst a vs _ hs hx =>
      have hlv := hx.length
      rw [List.length_map] at hlv
      refine ⟨a, vs, rfl, SqL.of (mn_same _ _ hs), fun x hm => ?_, fun ys p hp hpw hn => ?_⟩
      · obtain ⟨i, hi, rfl⟩ := List.getElem_of_mem hm
        obtain ⟨d, e5, e6⟩ := hx.getV (List.getElem?_eq_getElem hi)
        have hi' : i < xs.length := by omega
        rw [List.getElem?_map, List.getElem?_eq_getElem hi'] at e5
        cases e5
        refine ⟨xs[i], Da.same mn_same _ _ e6, fun e => ?_⟩
        rcases hne with h | h
        · omega
        · exact absurd (e ▸ List.getElem_mem hi') h
      · obtain ⟨es, hes, hd⟩ := Das.perm hx hp
        obtain ⟨qs, q1, rfl⟩ := perm_map hes xs rfl
        have hlen := hd.length
        rw [List.length_map] at hlen
        have hqs : qs = srtL xs := srtL_of (List.pairwise_iff_getElem.mpr fun i j hi hj hij => by
          have := List.pairwise_iff_getElem.mp hpw i j (by omega) (by omega) hij
          obtain ⟨d, e5, e6⟩ := hd.getV (List.getElem?_eq_getElem (i := i) (by omega))
          obtain ⟨d', e7, e8⟩ := hd.getV (List.getElem?_eq_getElem (i := j) (by omega))
          rw [List.getElem?_map, List.getElem?_eq_getElem hi] at e5
          rw [List.getElem?_map, List.getElem?_eq_getElem hj] at e7
          cases e5
          cases e7
          exact this _ _ (Da.same mn_same _ _ e6) (Da.same mn_same _ _ e8)) q1
        subst hqs
        exact k p _ (e2.free hn) (e2.trans (same_new hn)) (Tr.same t2 (same_new hn)) (dm_newL t2 hn hd)
end
theorem ps_lc2k {X : Cx} {st : Stmt} {wi wi1 : TI} {g g1 gg : TG} {tt tt1 : TT} {te : TE} {vs vs1 : List Nat} (h : PS X st (tAsg (tLc2 wi g tt wi1 g1 tt1 te vs vs1) gg)) : PS X st (tAsg (tLcT wi g tt vs fun D => tNest wi1 g1 tt1 vs1 (tPut te D)) gg) := h
/-! orders, spread -/
def bmp (g x : Int) : Int := x + (if decide (x ≥ g) = true then 1 else 0)
def lv (r : List Int) : Nat := (topI r + 1).toNat
def widA (r : List Int) : List (List Int) := (List.range (lv r)).map fun l => r ++ [((l : Nat) : Int)]
def gapR (r : List Int) (g : Nat) : List Int := r.map (bmp (g : Nat)) ++ [((g : Nat) : Int)]
def wid (r : List Int) : List (List Int) := widA r ++ (List.range (lv r + 1)).map (gapR r)
theorem top_ge (r : List Int) : -1 ≤ topI r := by
  have := top_from r (-1)
  unfold topI
  omega
theorem lv_is (r : List Int) : ((lv r : Nat) : Int) = topI r + 1 := by
  have := top_ge r
  unfold lv
  omega
theorem wid_ne (r : List Int) : [] ∉ wid r := fun h => by
  rcases List.mem_append.mp h with h | h
  · obtain ⟨l, _, e⟩ := List.mem_map.mp h
    exact absurd e (by simp)
  · obtain ⟨l, _, e⟩ := List.mem_map.mp h
    unfold gapR at e
    exact absurd e (by simp)
theorem wid_len (r : List Int) : (wid r).length = 2 * lv r + 1 := by
  unfold wid widA
  rw [List.length_append, List.length_map, List.length_map, List.length_range, List.length_range]
  omega
end Dq

/-! two names at once, the second of them a new list; a slice to a drawn place -/
namespace Dq
open PySem PySem.Spec PyProof.Rows L2 Gd
section
variable {K : PySem.W.Frag} {M M' : List Addr} {σ : S} {H H' H1 H3 : Hp} {ta tb te : TE} {tt : TT} {as : TA} {d d1 e : PyData} {ds es : List PyData} {wi : TI} {D : Ends} {t u v : TS} {s c : Addr} {P P1 : PyData → Prop}
theorem dr_slR {r : V → Option Int → Option Int → Hp → VK → Prop} {x : V} (hs : s ∈ M) (hc : c ∈ M) (h : Dr K s c M te σ H P1) (k : ∀ M' H' y d, Go M H M' H' → Src s c H' → Dm K M' H' y d → P1 d → Dr K s c M' (tSl r (tC x) tNoPart (tPart (tC y))) σ H' P) : Dr K s c M (tSl r (tC x) tNoPart (tPart te)) σ H P :=
  dr_bind (C := fun t => tSl r (tC x) tNoPart (tPart t)) hs hc (fun _ _ q => q) h k
theorem q_parN {i j n : Nat} {R : List PyData → PyData → Prop} {E : XK} (tr : Tr M H) (h1 : Ev K M te σ H d1) (h2 : ∀ v H1, Same H H1 → Tr M H1 → Dm K M H1 v d1 → Ea K M as σ H1 ds) (hl : ds.length = n) (hp : R ds d)
    (k : ∀ v H1 l H2, Same H H1 → Tr M H1 → Dm K M H1 v d1 → H1 l = none → Same H1 H2 → Tr M H2 → Dm K M H2 (.ref l) d → u D ((σ.set i (some v)).set j (some (.ref l))) H2) :
    tSeq (tPar i j (tCons te (tCons (tCall (spNew K n R) [] E as) tNil))) u D σ H :=
  h1 M H (Go.refl tr) _ fun v H1 e1 dv => call_new (tr.same e1) (h2 v H1 e1 (tr.same e1) dv) hl hp fun l H2 hl2 e2 t2 dl => ⟨_, _, rfl, k v H1 l H2 e1 (tr.same e1) dv hl2 e2 t2 dl⟩
theorem q_parL {i j : Nat} (tr : Tr M H) (h1 : Ev K M te σ H d1)
    (k : ∀ v H1 p, Same H H1 → Tr M H1 → Dm K M H1 v d1 → H1 p = none → u D ((σ.set i (some v)).set j (some (.ref p))) (upd H1 p (.lst []))) :
    tSeq (tPar i j (tCons te (tCons (tLst tNil) tNil))) u D σ H :=
  h1 M H (Go.refl tr) _ fun v H1 e1 dv => lst_new (K := K) (ds := []) (tr.same e1) ea_nil (Nat.zero_le _) fun p vs H2 e2 t2 hp dvs => by
    cases dvs
    exact ⟨_, _, rfl, k v H2 p (e1.trans e2) t2 (dm_same dv (tr.same e1) e2) hp⟩
theorem q_appDrop {i : Nat} {l : Addr} (tr : Tr M H1) (hl : H1 l = none) (e : Same H1 H3) (d3 : Dm K M H3 (.ref l) (.list ds)) (hz : ds.length ≤ 1000) (hi : σ[i]? = some (some (.ref l))) (h : Ev K (l :: M) te σ H3 d)
    (k : ∀ H4 o, Same H3 H4 → Go M H1 M (upd H4 l o) → u D σ (upd H4 l o)) : tSeq (tDrop (tBM K "list" rAppend (tVar i) (tCons te tNil))) u D σ H3 := by
  cases d3 with
  | @lst a vs _ hs hx =>
    have h3 : H3 l = some (.lst vs) := mn_same _ _ hs
    have g := go_take tr e hl (by rw [h3]; exact fun z => nomatch z)
    refine q_app (K := K) (M := l :: M) g.tr hi h3 (List.mem_cons_self ..) h (by rw [hx.length]; exact hz) fun v H4 e4 t4 dv g4 => k H4 _ e4 (go_drop ((g.same e4).trans g4) hl)
end
end Dq

/-! a dict with int keys whose values are lists of ints that grow -/
namespace Dq
open PySem PySem.Spec PyProof.Rows L2 Gd
/-- nb k = the list of k, its place and its numbers; H1 = the heap before the first of them -/
structure DL (H1 H : Hp) (D : Addr) (kvs : List (Key × V)) (nb : Int → Option (Addr × List Int)) (n : Nat) : Prop where
  dict : H D = some (.dK kvs)
  len : kvs.length ≤ n
  has : ∀ k p ns, nb k = some (p, ns) → valV kvs (.inl k) = some (.ref p) ∧ H p = some (.lst (ns.map V.int)) ∧ H1 p = none ∧ p ≠ D
  no : ∀ k, nb k = none → valV kvs (.inl k) = none
  inj : ∀ k k' p ns ns', nb k = some (p, ns) → nb k' = some (p, ns') → k = k'
def nbPut (nb : Int → Option (Addr × List Int)) (a : Int) (p : Addr) (ns : List Int) : Int → Option (Addr × List Int) := fun k => if k = a then some (p, ns) else nb k
def SbD (D : Addr) (H1 H : Hp) : Prop := ∀ x o, x ≠ D → H1 x = some o → H x = some o
section
variable {K : PySem.W.Frag} {σ : S} {H H1 : Hp} {D : Addr} {kvs : List (Key × V)} {nb : Int → Option (Addr × List Int)} {n : Nat} {En : Ends} {u : TS}
theorem s_adj {i j l : Nat} {a b : Int} (hi : σ[i]? = some (some (.ref D))) (hj : σ[j]? = some (some (.int a))) (hl : σ[l]? = some (some (.int b))) (h : DL H1 H D kvs nb n) (hs : SbD D H1 H) (hD : H1 D ≠ none) (hn : n ≤ 1000) (hb : ∀ k p ns, nb k = some (p, ns) → ns.length ≤ 1000)
    (k : ∀ H' kvs' p ns, DL H1 H' D kvs' (nbPut nb a p (ns ++ [b])) (n + 1) → (nb a = some (p, ns) ∨ (nb a = none ∧ ns = [])) → SbD D H1 H' → (∀ x, H x ≠ none → H' x ≠ none) → En.nx σ H') :
    tDrop (tBM K "list" rAppend (tDSetd (tVar i) (tVar j) (tLst tNil)) (tCons (tVar l) tNil)) En σ H := by
  refine ⟨.ref D, hi, D, rfl, .inl ⟨kvs, .inl h.dict⟩, .int a, hj, Nat.zero_le _, fun z hz => ?_⟩
  have zD : z ≠ D := fun e => by
    rw [e, h.dict] at hz
    cases hz
  have z1 : H1 z = none := by
    cases q : H1 z with
    | none => rfl
    | some o =>
      rw [hs z o zD q] at hz
      cases hz
  refine ⟨kvs, .inl a, by rw [upd_ne (Ne.symm zD)]; exact h.dict, rfl, by rw [sizeLine_eq]; have := h.len; omega, fun v hv => ?_, fun hv => ?_⟩
  · cases q : nb a with
    | none =>
      rw [h.no a q] at hv
      cases hv
    | some t =>
      obtain ⟨p, ns⟩ := t
      obtain ⟨h1, h2, h3, h4⟩ := h.has a p ns q
      rw [h1] at hv
      cases hv
      have zp : p ≠ z := fun e => by
        rw [e, hz] at h2
        cases h2
      have hp : upd H z (.lst []) p = some (.lst (ns.map V.int)) := by
        rw [upd_ne zp]
        exact h2
      refine ⟨.inl ⟨rfl, _, SqL.of hp⟩, .int b, hl, p, ns.map V.int, .int b, rfl, rfl, hp, by rw [List.length_map, sizeLine_eq]; have := hb a p ns q; omega, ?_⟩
      refine k (upd (upd H z (.lst [])) p (.lst (ns.map V.int ++ [.int b]))) kvs p ns ⟨?_, by have := h.len; omega, fun k' p' ns' hk => ?_, fun k' hk => ?_, fun k' k'' p' ns' ns'' hk hk' => ?_⟩ (.inl q) (fun x o hx ho => ?_) (fun x hx => ?_)
      · rw [upd_ne (Ne.symm h4), upd_ne (Ne.symm zD)]
        exact h.dict
      · unfold nbPut at hk
        by_cases e : k' = a
        · rw [if_pos e] at hk
          cases hk
          refine ⟨by rw [e]; exact h1, ?_, h3, h4⟩
          rw [upd_same, List.map_append]
          rfl
        · rw [if_neg e] at hk
          obtain ⟨g1, g2, g3, g4⟩ := h.has k' p' ns' hk
          have pp : p' ≠ p := fun e2 => e (h.inj k' a p' ns' ns hk (e2 ▸ q))
          have pz : p' ≠ z := fun e2 => by
            rw [e2, hz] at g2
            cases g2
          refine ⟨g1, ?_, g3, g4⟩
          rw [upd_ne pp, upd_ne pz]
          exact g2
      · unfold nbPut at hk
        by_cases e : k' = a
        · rw [if_pos e] at hk
          cases hk
        · rw [if_neg e] at hk
          exact h.no k' hk
      · unfold nbPut at hk hk'
        by_cases e : k' = a
        · rw [if_pos e] at hk
          cases hk
          by_cases e' : k'' = a
          · rw [e, e']
          · rw [if_neg e'] at hk'
            rw [e]
            exact h.inj a k'' _ _ _ q hk'
        · rw [if_neg e] at hk
          by_cases e' : k'' = a
          · rw [if_pos e'] at hk'
            cases hk'
            rw [e']
            exact h.inj k' a _ _ _ hk q
          · rw [if_neg e'] at hk'
            exact h.inj k' k'' _ _ _ hk hk'
      · have xp : x ≠ p := fun e => by
          rw [e, h3] at ho
          cases ho
        have xz : x ≠ z := fun e => by
          rw [e, z1] at ho
          cases ho
        rw [upd_ne xp, upd_ne xz]
        exact hs x o hx ho
      · by_cases e : x = p
        · rw [e, upd_same]
          exact fun z => nomatch z
        · rw [upd_ne e]
          by_cases e2 : x = z
          · rw [e2, upd_same]
            exact fun z => nomatch z
          · rw [upd_ne e2]
            exact hx
  · have q : nb a = none := by
      cases q : nb a with
      | none => rfl
      | some t =>
        obtain ⟨p, ns⟩ := t
        rw [(h.has a p ns q).1] at hv
        cases hv
    have hp : upd (upd H z (.lst [])) D (.dK (putK kvs (.inl a) (.ref z))) z = some (.lst []) := by
      rw [upd_ne zD, upd_same]
    have fresh : ∀ k' p' ns', nb k' = some (p', ns') → p' ≠ z := fun k' p' ns' hk e => by
      have := (h.has k' p' ns' hk).2.1
      rw [e, hz] at this
      cases this
    refine ⟨.inl ⟨rfl, _, SqL.of hp⟩, .int b, hl, z, [], .int b, rfl, rfl, hp, by rw [sizeLine_eq]; exact Nat.succ_pos _, ?_⟩
    refine k (upd (upd (upd H z (.lst [])) D (.dK (putK kvs (.inl a) (.ref z)))) z (.lst ([] ++ [.int b]))) (putK kvs (.inl a) (.ref z)) z [] ⟨?_, ?_, fun k' p' ns' hk => ?_, fun k' hk => ?_, fun k' k'' p' ns' ns'' hk hk' => ?_⟩ (.inr ⟨q, rfl⟩) (fun x o hx ho => ?_) (fun x hx => ?_)
    · rw [upd_ne (Ne.symm zD), upd_same]
    · have := length_putK kvs (Sum.inl a) (V.ref z)
      have := h.len
      omega
    · unfold nbPut at hk
      by_cases e : k' = a
      · rw [if_pos e] at hk
        cases hk
        refine ⟨by rw [valV_put, if_pos (by rw [e])], by rw [upd_same]; rfl, z1, zD⟩
      · rw [if_neg e] at hk
        obtain ⟨g1, g2, g3, g4⟩ := h.has k' p' ns' hk
        refine ⟨by rw [valV_put, if_neg (fun z => e (Sum.inl.inj z))]; exact g1, ?_, g3, g4⟩
        rw [upd_ne (fresh k' p' ns' hk), upd_ne g4, upd_ne (fresh k' p' ns' hk)]
        exact g2
    · unfold nbPut at hk
      by_cases e : k' = a
      · rw [if_pos e] at hk
        cases hk
      · rw [if_neg e] at hk
        rw [valV_put, if_neg (fun z => e (Sum.inl.inj z))]
        exact h.no k' hk
    · unfold nbPut at hk hk'
      by_cases e : k' = a
      · rw [if_pos e] at hk
        cases hk
        by_cases e' : k'' = a
        · rw [e, e']
        · rw [if_neg e'] at hk'
          exact absurd rfl (fresh k'' _ _ hk')
      · rw [if_neg e] at hk
        by_cases e' : k'' = a
        · rw [if_pos e'] at hk'
          cases hk'
          exact absurd rfl (fresh k' _ _ hk)
        · rw [if_neg e'] at hk'
          exact h.inj k' k'' _ _ _ hk hk'
    · have xz : x ≠ z := fun e => by
        rw [e, z1] at ho
        cases ho
      rw [upd_ne xz, upd_ne hx, upd_ne xz]
      exact hs x o hx ho
    · by_cases e : x = z
      · rw [e, upd_same]
        exact fun z => nomatch z
      · rw [upd_ne e]
        by_cases e2 : x = D
        · rw [e2, upd_same]
          exact fun z => nomatch z
        · rw [upd_ne e2, upd_ne e]
          exact hx
theorem q_adj {i j l : Nat} {a b : Int} (hi : σ[i]? = some (some (.ref D))) (hj : σ[j]? = some (some (.int a))) (hl : σ[l]? = some (some (.int b))) (h : DL H1 H D kvs nb n) (hs : SbD D H1 H) (hD : H1 D ≠ none) (hn : n ≤ 1000) (hb : ∀ k p ns, nb k = some (p, ns) → ns.length ≤ 1000)
    (k : ∀ H' kvs' p ns, DL H1 H' D kvs' (nbPut nb a p (ns ++ [b])) (n + 1) → (nb a = some (p, ns) ∨ (nb a = none ∧ ns = [])) → SbD D H1 H' → (∀ x, H x ≠ none → H' x ≠ none) → u En σ H') :
    tSeq (tDrop (tBM K "list" rAppend (tDSetd (tVar i) (tVar j) (tLst tNil)) (tCons (tVar l) tNil))) u En σ H := s_adj (En := { En with nx := u En }) hi hj hl h hs hD hn hb k
end
end Dq

/-! what ties lead to -/
namespace Dq
open PySem PySem.Spec PyProof.Rows L2 Gd
def nbrs (ts : List (Int × Int)) (k : Int) : List Int := ts.flatMap fun p => (if p.1 = k then [p.2] else []) ++ (if p.2 = k then [p.1] else [])
def eps (ts : List (Int × Int)) : List Int := ts.flatMap fun p => [p.2, p.1]
theorem nbrs_sub (k : Int) : ∀ ts : List (Int × Int), (nbrs ts k).Sublist (eps ts)
  | [] => List.Sublist.refl _
  | p :: ts => by
    unfold nbrs eps
    rw [List.flatMap_cons, List.flatMap_cons]
    refine List.Sublist.append ?_ (nbrs_sub k ts)
    show List.Sublist _ ([p.2] ++ [p.1])
    refine List.Sublist.append ?_ ?_
    · split
      · exact List.Sublist.refl _
      · exact List.nil_sublist _
    · split
      · exact List.Sublist.refl _
      · exact List.nil_sublist _
theorem eps_len : ∀ ts : List (Int × Int), (eps ts).length = 2 * ts.length
  | [] => rfl
  | p :: ts => by
    have := eps_len ts
    unfold eps at this ⊢
    rw [List.flatMap_cons, List.length_append, this]
    show 2 + 2 * ts.length = 2 * (ts.length + 1)
    omega
theorem nbrs_len (ts : List (Int × Int)) (k : Int) : (nbrs ts k).length ≤ 2 * ts.length := by
  rw [← eps_len]
  exact (nbrs_sub k ts).length_le
theorem mem_nbrs {ts : List (Int × Int)} {k m : Int} : m ∈ nbrs ts k ↔ (k, m) ∈ ts ∨ (m, k) ∈ ts := by
  unfold nbrs
  rw [List.mem_flatMap]
  constructor
  · rintro ⟨p, hp, h⟩
    rcases List.mem_append.mp h with h | h
    · split at h
      · next e =>
        rw [List.mem_singleton.mp h, ← e]
        exact .inl hp
      · exact nomatch h
    · split at h
      · next e =>
        rw [List.mem_singleton.mp h, ← e]
        exact .inr hp
      · exact nomatch h
  · rintro (h | h)
    · exact ⟨_, h, List.mem_append_left _ (by rw [if_pos rfl]; exact List.mem_singleton.mpr rfl)⟩
    · exact ⟨_, h, List.mem_append_right _ (by rw [if_pos rfl]; exact List.mem_singleton.mpr rfl)⟩
theorem nbrs_snoc (ts : List (Int × Int)) (p : Int × Int) (k : Int) : nbrs (ts ++ [p]) k = nbrs ts k ++ ((if p.1 = k then [p.2] else []) ++ (if p.2 = k then [p.1] else [])) := by
  unfold nbrs
  rw [List.flatMap_append, List.flatMap_cons, List.flatMap_nil, List.append_nil]
def unf (ts : List (Int × Int)) (f : List Int) : Nat := ((eps ts).filter fun m => !decide (m ∈ f)).length
def grow (ts : List (Int × Int)) (f : List Int) (k : Int) : List Int := (nbrs ts k).filter fun m => !decide (m ∈ f)
theorem len_split {α : Type} (p : α → Bool) : ∀ l : List α, (l.filter p).length + (l.filter fun x => !p x).length = l.length
  | [] => rfl
  | x :: l => by
    have ih := len_split p l
    rw [List.filter_cons, List.filter_cons]
    cases q : p x with
    | true =>
      rw [if_pos rfl, if_neg (by simp), List.length_cons, List.length_cons]
      omega
    | false =>
      rw [if_neg (by simp), if_pos (by simp), List.length_cons, List.length_cons]
      omega
theorem unf_grow (ts : List (Int × Int)) (f : List Int) (k : Int) : (grow ts f k).length + unf ts (f ++ grow ts f k) ≤ unf ts f := by
  have h1 : (grow ts f k).Sublist ((eps ts).filter fun m => !decide (m ∈ f)) := (nbrs_sub k ts).filter _
  have h2 := len_split (fun m => decide (m ∈ grow ts f k)) ((eps ts).filter fun m => !decide (m ∈ f))
  have h3 : ((grow ts f k).filter fun m => decide (m ∈ grow ts f k)).Sublist (((eps ts).filter fun m => !decide (m ∈ f)).filter fun m => decide (m ∈ grow ts f k)) := h1.filter _
  have h4 : (grow ts f k).filter (fun m => decide (m ∈ grow ts f k)) = grow ts f k := List.filter_eq_self.mpr fun m hm => decide_eq_true hm
  rw [h4] at h3
  have h5 := h3.length_le
  have h6 : ((eps ts).filter fun m => !decide (m ∈ f)).filter (fun m => !decide (m ∈ grow ts f k)) = (eps ts).filter fun m => !decide (m ∈ f ++ grow ts f k) := by
    rw [List.filter_filter]
    refine List.filter_congr fun m _ => ?_
    rw [Bool.eq_iff_iff]
    simp only [Bool.and_eq_true, Bool.not_eq_true', decide_eq_false_iff_not, List.mem_append, not_or]
    exact ⟨fun h => ⟨h.2, h.1⟩, fun h => ⟨h.2, h.1⟩⟩
  rw [h6] at h2
  unfold unf
  omega
section
variable {K : PySem.W.Frag} {M : List Addr} {σ : S} {H H' H1 : Hp} {tb te : TE} {d e : PyData} {D : Addr} {kvs : List (Key × V)}
theorem ev_dget2 {i : Nat} {k : Int} (hi : σ[i]? = some (some (.ref D))) (hD : mn M H D = some (.dK kvs)) (hb : Ev K M tb σ H (.int k)) (hx : Ev K M te σ H e) (hv : (∃ v, valV kvs (.inl k) = some v ∧ Dm K M H v d) ∨ (valV kvs (.inl k) = none ∧ d = e)) :
    Ev K M (tDGet2 (tVar i) tb te) σ H d := fun M2 H1 g Q q => ⟨.ref D, hi, D, rfl, .inl ⟨kvs, .inl (mn_same _ _ (g.mn _ _ hD))⟩, hb M2 H1 g _ fun v H2 e2 dv => hx M2 H2 (g.same e2) _ fun z H3 e3 dz => by
  cases dv
  have h3 : H3 D = some (.dK kvs) := mn_same _ _ (((g.same e2).same e3).mn _ _ hD)
  rcases hv with ⟨v, h1, h2⟩ | ⟨h1, rfl⟩
  · exact ⟨some v, .inl ⟨kvs, .inl k, .inl h3, rfl, h1.symm⟩, q v H3 (e2.trans e3) (dm_go h2 ((g.same e2).same e3))⟩
  · exact ⟨none, .inl ⟨kvs, .inl k, .inl h3, rfl, h1.symm⟩, q z H3 (e2.trans e3) dz⟩⟩
theorem go_sb (tr : Tr M H) (hD : D ∈ M) (h : SbD D H H') (hk : ∀ x, H x ≠ none → H' x ≠ none) : Go M H M H' where
  sub := fun _ h => h
  new := fun _ h => .inl h
  le := fun b o hb e => h b o (fun z => hb (z ▸ hD)) e
  tr := fun b hb => hk b (tr b hb)
end
def adjOf (nb : Int → Option (Addr × List Int)) (k : Int) : List Int := match nb k with
  | some (_, ns) => ns
  | none => []
theorem adj_put {nb : Int → Option (Addr × List Int)} {a b : Int} {p : Addr} {ns : List Int} (h : nb a = some (p, ns) ∨ (nb a = none ∧ ns = [])) (k : Int) : adjOf (nbPut nb a p (ns ++ [b])) k = adjOf nb k ++ (if a = k then [b] else []) := by
  unfold adjOf nbPut
  by_cases e : k = a
  · subst e
    rw [if_pos rfl, if_pos rfl]
    rcases h with h | ⟨h, rfl⟩ <;> rw [h] <;> rfl
  · rw [if_neg e, if_neg (fun z => e z.symm), List.append_nil]
end Dq

/-! sorted of a tuple of ints -/
namespace PyProof.Rows
open PySem
section
variable {prog : Program} {w : World} {A : Around} {E : Value → Shared → Prop} {s : Shared}
theorem collect_tupO {l : Addr} {vs : List Value} {Q : List Value → Shared → Prop} (hl : s.heap.IsTuple l vs.toArray)
    (h : Q vs { s with heap := (s.heap.push (seqObj "list" #[] 0)).update s.heap.objs.size (Obj.mapSeq (· ++ vs.toArray)) }) (hsz : vs.length ≤ sizeLine) :
    wpAny (model prog w) A (collect (.ref l)) Q E s := by
  obtain ⟨o, ho, hc, n, hd⟩ := id hl
  unfold collect
  refine wpAny_bind (wpAny_runValue (codeAny_builtin entry_proto_collect' ?_))
  show wpAny _ _ (do again (.builtin "list.__iadd__" ⟨[← newList [], .ref l], []⟩)) _ _ s
  refine wpAny_bind (wpAny_newList (wpAny_pure ⟨Code.quiet_builtin _ (by decide +kernel), codeAny_builtin entry_list_iadd' ?_⟩))
  show wpAny _ _ (Builtin.List.listExtendWith (.ref s.heap.objs.size) (.ref l) (.ref s.heap.objs.size)) _ _ { s with heap := s.heap.push (seqObj "list" #[] 0) }
  unfold Builtin.List.listExtendWith
  have ho' : (s.heap.push (seqObj "list" #[] 0)).get? l = some o := Heap.get?_push_of_some _ ho
  refine wpAny_bind (wpAny_typeOf (T := "tuple") ⟨o, ho', hc⟩ ?_)
  have ht : (Value.type "tuple" == Value.type "tuple") = true := by rfl
  rw [if_pos (by rw [ht]; simp)]
  refine wpAny_bind (listItems_at ho' hd ?_)
  refine wpAny_bind (listItems_at (xs := #[]) (n := 0) (Heap.get?_push_size _ rfl) rfl ?_)
  rw [if_neg (by simp)]
  refine wpAny_bind (listUpdate_at (xs := #[]) (n := 0) (Heap.get?_push_size _ rfl) rfl ?_ (Nat.zero_le _) (by show (#[] ++ vs.toArray).size ≤ sizeLine + 1; simp only [Array.size_append, List.size_toArray, List.length_nil]; omega))
  refine wpAny_pure ?_
  show wpAny (model prog w) A (do
      let o ← load s.heap.objs.size
      match o.data with
      | .seq xs _ => pure xs.toList
      | _ => unsupported "internal:collect") Q E { s with heap := (s.heap.push (seqObj "list" #[] 0)).update s.heap.objs.size (Obj.mapSeq (· ++ vs.toArray)) }
  refine wpAny_bind (wpAny_load (get?_update_seq (Heap.get?_push_size _ rfl) _) ?_)
  show wpAny _ _ (pure ((#[] : Array Value) ++ vs.toArray).toList) Q E _
  rw [show ((#[] : Array Value) ++ vs.toArray).toList = vs by simp]
  exact wpAny_pure h
end
end PyProof.Rows
namespace SrtO
open PySem PyProof.Rows Srt
section
variable {prog : Program} {w : World} {A : Around} {E : Value → Shared → Prop} {s : Shared}
theorem sorted_ordT {l : Addr} {vs : List Value} {ltv : Value → Value → Bool} {Q : Value → Shared → Prop} (O : Swo ltv) (hl : s.heap.IsTuple l vs.toArray) (hz : vs.length ≤ sizeLine)
    (hS : 2 ≤ vs.length → ∀ (h₁ : Heap) (a : Addr), h₁.get? a = some (seqObj "list" vs.toArray 0) → (∀ b o, s.heap.get? b = some o → b ≠ a ∧ h₁.get? b = some o) → SortableO prog w A.in1.in1 { s with heap := h₁ } a vs ltv)
    (h : ∀ out : List Value, Srtd ltv out → Stb ltv out vs → Q (.ref (s.heap.objs.size + 1)) { s with heap := sortedAll s.heap vs out.toArray }) :
    wpAny (model prog w) A (call (.builtin "sorted") [.ref l]) Q E s := by
  refine Calls.call_function_entry kind_sorted plain_sorted entry_sorted (args_sorted1 _) ?_
  unfold Builtin.«sorted»
  refine wpAny_bind (m := checkCount "sorted" 1 1 _) (wpAny_pure ?_)
  refine wpAny_bind (collect_tupO hl ?_ hz)
  refine wpAny_bind (wpAny_newList ?_ hz)
  have hsz : ((s.heap.push (seqObj "list" #[] 0)).update s.heap.objs.size (Obj.mapSeq (· ++ vs.toArray))).objs.size = s.heap.objs.size + 1 := by
    rw [Heap.size_update, size_push']
  have hoL : (((s.heap.push (seqObj "list" #[] 0)).update s.heap.objs.size (Obj.mapSeq (· ++ vs.toArray))).push (seqObj "list" vs.toArray 0)).get? (s.heap.objs.size + 1) = some (seqObj "list" vs.toArray 0) := by
    rw [← hsz]; exact Heap.get?_push_size _ rfl
  have keep : ∀ b o, s.heap.get? b = some o → b ≠ s.heap.objs.size + 1 ∧ (((s.heap.push (seqObj "list" #[] 0)).update s.heap.objs.size (Obj.mapSeq (· ++ vs.toArray))).push (seqObj "list" vs.toArray 0)).get? b = some o := fun b o q => by
    have hlt : b < s.heap.objs.size := Heap.lt_size q
    refine ⟨Nat.ne_of_lt (Nat.lt_succ_of_lt hlt), Heap.get?_push_of_some _ ?_⟩
    rw [Heap.get?_update_ne _ _ _ _ (Nat.ne_of_lt hlt)]
    exact Heap.get?_push_of_some _ q
  show wpAny _ _ _ _ _ { s with heap := ((s.heap.push (seqObj "list" #[] 0)).update s.heap.objs.size (Obj.mapSeq (· ++ vs.toArray))).push (seqObj "list" vs.toArray 0) }
  rw [hsz]
  refine wpAny_bind (wpAny_holding (wpAny_call_entry slot_list_sort ⟨_, hoL, rfl⟩ entry_list_sort (list_sort_ord O hoL hz (fun h2 => hS h2 _ _ hoL keep) fun out hs hb => ⟨_, rfl, ?_⟩) (args_list_sort _)))
  exact wpAny_pure ⟨_, rfl, h out hs hb⟩
end
end SrtO
namespace Dq
open PySem PySem.Spec PyProof.Rows L2 Gd
def rSortedTI (K : PySem.W.Frag) : List V → Hp → VK → Prop := fun vs H Q => ∃ (a : Addr) (ns : List Int), vs = [V.ref a] ∧ SqT K H a (ns.map V.int) ∧ ∀ (ns' : List Int) (p : Addr), ns'.Perm ns → ns'.Pairwise (· ≤ ·) → H p = none → Q (.ref p) (upd H p (.lst (ns'.map V.int)))
theorem cr_sortedTI {X : Cx} {K : PySem.W.Frag} (hK : X.K = K) : CallR X (.builtin "sorted") (rSortedTI K) := by
  subst hK
  intro pins s σ H vs us Q I r h
  obtain ⟨a, ns, rfl, hs, q⟩ := h
  obtain ⟨its, rv, ht, hz⟩ := I.tuple hs
  rw [Vals.ref1 r]
  have hi := rv.ints
  have hlen := rv.length
  refine SrtO.sorted_ordT SrtO.swo_int ht (by rw [← hlen]; exact hz) (fun h2 h₁ a' _ _ => SrtO.ints_sortable hi h2) fun out h1 h2 => ?_
  obtain ⟨k1, k2, k3⟩ := SrtO.ints_out hi h1 h2
  obtain ⟨ep, he'⟩ := sortedAll_at s.heap its out.toArray
  have hlen2 : ((out.map SrtO.iv).map V.int).length ≤ sizeLine := by
    rw [List.length_map, k2.length_eq]
    rw [List.length_map] at hz
    exact hz
  exact ⟨.ref _, upd H (s.heap.objs.size + 1) (.lst ((out.map SrtO.iv).map V.int)), I.laid (t' := s.toks) (fun _ _ => sortedAll_old) (Nat.le_succ _) ⟨hlen2, out, ep, vals_of_ints k1, he'⟩, rfl, q _ _ k2 k3 (I.hok.fresh (Nat.le_succ _))⟩
section
variable {K : PySem.W.Frag} {M : List Addr} {σ : S} {H : Hp} {ta : TE}
theorem ev_srtT {xs : List Int} (ha : Ev K M ta σ H (.tuple (xs.map PyData.int))) : Ev K M (tCB (rSortedTI K) (tCons ta tNil)) σ H (.list ((srtI xs).map PyData.int)) := fun M2 H1 g Q q =>
  ha M2 H1 g _ fun v H2 e2 d2 => by
    have t2 := (g.same e2).tr
    cases d2 with
    | @tup a vs _ hs hx =>
      have hv := das_ints hx
      subst hv
      refine ⟨a, xs, rfl, same_sqt mn_same hs, fun ms p h1 h2 hn => ?_⟩
      have em : ms = srtI xs := pwI_eq h2 (srtI_pw xs) (h1.trans (srtI_perm xs).symm)
      subst em
      exact q _ _ (e2.trans (same_new hn)) (dm_newL t2 hn (Das.ints _))
end
end Dq

/-! a small language: what its programs are worth, as a Bool of what follows -/
namespace Mp
open PySem PySem.Spec PyProof.Rows L2 Gd Dq

/-- what a slot holds: nothing; data that stay; a list, a dict of its own; the source of draws -/
inductive SV where
  | un | dat (d : PyData) | ol (ds : List PyData) | od (kvs : List (Key × PyData)) | src
/-- what an expression gives: data; a new list, a new dict; what slot i holds; the source -/
inductive ER where
  | dat (d : PyData) | nw (ds : List PyData) | nd (kvs : List (Key × PyData)) | lc (i : Nat) | src
abbrev SD := List SV
def gs (sd : SD) (i : Nat) : SV := sd.getD i .un
/-- the data, to be looked at -/
def dOf (sd : SD) : ER → Option PyData
  | .dat d => some d
  | .nw ds => some (.list ds)
  | .lc i => match gs sd i with
    | .ol ds => some (.list ds)
    | _ => none
  | _ => none
/-- the data, to be kept -/
def sOf : ER → Option PyData
  | .dat d => some d
  | .nw ds => some (.list ds)
  | _ => none
def ob {α : Type} (o : Option α) (k : α → Bool) : Bool := match o with
  | some a => k a
  | none => false
def gd {α : Type} (b : Bool) (a : α) : Option α := match b with
  | true => some a
  | false => none

/-! operations -/
inductive BK where
  | add | sub | mul | fdiv | mod | pow | band | bor | bxor | shl | shr | eq | ne | lt | le | gt | ge | inn | nin | ix
def small (n : Nat) : Bool := Nat.ble n 1000000
def powOk (i j : Int) : Bool := decide (0 ≤ j) && decide (j ≤ 1000) && decide (i.natAbs < 18446744073709551616)
def mulOk (i j : Int) : Bool := decide (i.natAbs.log2 + j.natAbs.log2 < 1000000)
def cmpOk (a b : PyData) : Bool := PySem.W.alike a b && (match a with | .none => false | _ => true) && Nat.ble a.depth 60
def addF : PyData → PyData → Option ER
  | .int i, .int j => some (.dat (.int (i + j)))
  | .str a, .str b => gd (small (a.length + b.length)) (.dat (.str (a ++ b)))
  | .list a, .list b => gd (small (a.length + b.length)) (.nw (a ++ b))
  | .tuple a, .tuple b => gd (small (a.length + b.length)) (.dat (.tuple (a ++ b)))
  | _, _ => none
def mulF : PyData → PyData → Option ER
  | .int i, .int j => gd (mulOk i j) (.dat (.int (i * j)))
  | .list a, .int k => gd (decide (-1000 ≤ k) && decide (k ≤ 1000) && Nat.ble a.length 1000) (.nw (List.replicate k.toNat a).flatten)
  | .tuple a, .int k => gd (decide (2 ≤ k) && decide (k ≤ 1000) && Nat.ble a.length 1000 && Nat.ble 1 a.length) (.dat (.tuple (List.replicate k.toNat a).flatten))
  | _, _ => none
/-- of two ints -/
def intF (c : Int → Int → Bool) (f : Int → Int → Int) : PyData → PyData → Option ER
  | .int i, .int j => gd (c i j) (.dat (.int (f i j)))
  | _, _ => none
def cmpF (g : Int → Int → Bool) (f : PyData → PyData → Bool) : PyData → PyData → Option ER
  | .int i, .int j => some (.dat (.bool (g i j)))
  | a, b => gd (cmpOk a b) (.dat (.bool (f a b)))
def inF (f : Bool → Bool) (a : PyData) : PyData → Option ER
  | .list ds => gd (SeqAt.shaped a && SeqAt.shaped (.list ds)) (.dat (.bool (f (ds.any fun z => PyData.eqv z a))))
  | .tuple ds => gd (SeqAt.shaped a && SeqAt.shaped (.tuple ds)) (.dat (.bool (f (ds.any fun z => PyData.eqv z a))))
  | _ => none
def ixF : PyData → PyData → Option ER
  | .list ds, .int i => (L2.atI ds i).map .dat
  | .tuple ds, .int i => (L2.atI ds i).map .dat
  | _, _ => none
def binF : BK → PyData → PyData → Option ER
  | .add => addF
  | .sub => intF (fun _ _ => true) fun i j => i - j
  | .mul => mulF
  | .fdiv => intF (fun _ j => decide (0 < j) && Nat.blt j.natAbs.log2 9000) fun i j => i / j
  | .mod => intF (fun _ j => decide (0 < j)) fun i j => i % j
  | .pow => intF powOk fun i j => i ^ j.toNat
  | .band => intF (fun _ _ => true) Builtin.bitAnd
  | .bor => intF (fun _ _ => true) Builtin.bitOr
  | .bxor => intF (fun _ _ => true) Builtin.bitXor
  | .shl => intF powOk fun i j => i * 2 ^ j.toNat
  | .shr => intF (fun _ j => decide (0 ≤ j)) fun i j => i / 2 ^ j.toNat
  | .eq => fun a b => gd (SeqAt.shaped a && SeqAt.shaped b) (.dat (.bool (PyData.eqv a b)))
  | .ne => fun a b => gd (SeqAt.shaped a && SeqAt.shaped b) (.dat (.bool (!PyData.eqv a b)))
  | .lt => cmpF (fun i j => decide (i < j)) fun a b => PySem.W.dataLt a b
  | .le => cmpF (fun i j => decide (i ≤ j)) fun a b => !PySem.W.dataLt b a
  | .gt => cmpF (fun i j => decide (j < i)) fun a b => PySem.W.dataLt b a
  | .ge => cmpF (fun i j => decide (j ≤ i)) fun a b => !PySem.W.dataLt a b
  | .inn => inF fun b => b
  | .nin => inF fun b => !b
  | .ix => ixF
inductive UK where
  | neg | inv
def unF : UK → PyData → Option ER
  | .neg, .int i => some (.dat (.int (-i)))
  | .inv, .int i => some (.dat (.int (Builtin.bitNot i)))
  | _, _ => none
/-- built-in functions -/
inductive BI where
  | len | int | abs | max2 | min2 | tup | lst | sorted | repr | ss | bool | max1 | min1 | lens | isint | istup | sum
def setI (ds : List PyData) : Option (List Int) := ds.foldr (fun d r => match d, r with
  | .int i, some l => some (i :: l)
  | _, _ => none) (some [])
/-- sorting of alike things -/
def insD (x : PyData) : List PyData → List PyData
  | [] => [x]
  | y :: ys => match PySem.W.dataLt y x with
    | true => y :: insD x ys
    | false => x :: y :: ys
def sortD (ds : List PyData) : List PyData := ds.foldr insD []
def oneShape : List PyData → Bool
  | [] => true
  | .tuple (_ :: _) :: ds => ds.all fun d => match d with
    | .tuple (_ :: _) => true
    | _ => false
  | .none :: _ => false
  | .tuple [] :: ds => ds.isEmpty
  | _ :: ds => ds.all fun d => match d with
    | .none => false
    | .tuple _ => false
    | _ => true
def sortOk (ds : List PyData) : Bool := (ds.all fun d => ds.all fun e => PySem.W.alike d e) && oneShape ds && (ds.all fun d => Nat.ble d.depth 60)
def fitB : Nat → PyData → Bool
  | _, d => d.leavesShort 60 && d.showable && !d.hasDict && d.canLay0 && Nat.ble d.depth 60 && Nat.ble d.weight 270000
def biF : BI → List PyData → Option ER
  | .len, [.list ds] => some (.dat (.int ds.length))
  | .len, [.tuple ds] => some (.dat (.int ds.length))
  | .int, [.int i] => some (.dat (.int i))
  | .int, [.bool b] => some (.dat (.int (match b with | true => 1 | false => 0)))
  | .abs, [.int i] => some (.dat (.int (if i < 0 then -i else i)))
  | .max2, [.int i, .int j] => some (.dat (.int (if i < j then j else i)))
  | .min2, [.int i, .int j] => some (.dat (.int (if j < i then j else i)))
  | .tup, [.list ds] => some (.dat (.tuple ds))
  | .tup, [.tuple ds] => some (.dat (.tuple ds))
  | .lst, [.list ds] => some (.nw ds)
  | .lst, [.tuple ds] => some (.nw ds)
  | _, _ => none
end Mp

/-! what stands in the machine for it; operations of two values -/
namespace Mp
open PySem PySem.Spec PyProof.Rows L2 Gd Dq

/-- what is known of the module: its constants, the tables of its defs' code objects -/
structure KT where
  K : PySem.W.Frag
  w : World
  t0 : Addr
  ts : List Addr
def KT.tb (K : KT) : List Addr := K.t0 :: K.ts
def KT.ta (K : KT) (j : Nat) : Addr := K.tb.getD j K.t0
theorem KT.ta_mem (K : KT) (j : Nat) : K.ta j ∈ K.tb := by
  unfold KT.ta
  rw [List.getD_eq_getElem?_getD]
  by_cases h : j < K.tb.length
  · rw [List.getElem?_eq_getElem h]
    exact List.getElem_mem h
  · rw [List.getElem?_eq_none (by omega)]
    exact List.mem_cons_self ..
instance : Coe KT PySem.W.Frag := ⟨KT.K⟩
/-- what calls may change: the source of draws, the tables of code objects -/
structure Wr where
  src : Option (Addr × Addr)
  tb : List Addr
def srcL : Option (Addr × Addr) → List Addr
  | some p => [p.1, p.2]
  | none => []
def wrM (so : Wr) : List Addr := srcL so.src ++ so.tb
/-- none of these -/
def NS (so : Wr) (b : Addr) : Prop := b ∉ wrM so
structure SrH (so : Wr) (H : Hp) : Prop where
  sr : ∀ s c, so.src = some (s, c) → Src s c H
  tb : ∀ P ∈ so.tb, GxR.TabG H P
structure SrcO (so : Wr) (M : List Addr) (H : Hp) : Prop where
  hd : SrH so H
  mem : ∀ b ∈ wrM so, b ∈ M
/-- nothing changed but these -/
structure Kq (so : Wr) (H H' : Hp) : Prop where
  kp : ∀ b o, NS so b → H b = some o → H' b = some o
  sr : SrH so H'
section
variable {K : PySem.W.Frag} {so : Wr} {M : List Addr} {H H' H2 : Hp}
theorem wr_src {s c : Addr} (e : so.src = some (s, c)) : s ∈ wrM so ∧ c ∈ wrM so := by
  unfold wrM srcL
  rw [e]
  exact ⟨List.mem_append_left _ (List.mem_cons_self ..), List.mem_append_left _ (List.mem_cons_of_mem _ (List.mem_cons_self ..))⟩
theorem wr_tb {P : Addr} (h : P ∈ so.tb) : P ∈ wrM so := List.mem_append_right _ h
theorem wr_or {b : Addr} (h : b ∈ wrM so) : (∃ s c, so.src = some (s, c) ∧ (b = s ∨ b = c)) ∨ b ∈ so.tb := by
  unfold wrM at h
  rcases List.mem_append.mp h with h | h
  · left
    unfold srcL at h
    split at h
    · rename_i p e
      obtain ⟨s, c⟩ := p
      refine ⟨s, c, e, ?_⟩
      simpa using h
    · cases h
  · exact .inr h
theorem SrH.nn (h : SrH so H) {b : Addr} (hb : b ∈ wrM so) : H b ≠ none := by
  rcases wr_or hb with ⟨s, c, e, z⟩ | z
  · have := (h.sr s c e).nn
    rcases z with rfl | rfl
    · exact this.1
    · exact this.2
  · obtain ⟨ps, e, _⟩ := h.tb b z
    rw [e]
    intro z
    cases z
theorem SrH.same (h : SrH so H) (e : Same H H') : SrH so H' := ⟨fun s c z => (h.sr s c z).same e, fun P z => let ⟨ps, q, t⟩ := h.tb P z; ⟨ps, e _ _ q, t⟩⟩
theorem SrH.set (h : SrH so H) {a : Addr} (n : NS so a) {o : HO} : SrH so (upd H a o) :=
  ⟨fun s c z => src_set (h.sr s c z) (fun q => n (q ▸ (wr_src z).1)) (fun q => n (q ▸ (wr_src z).2)), fun P z => let ⟨ps, q, t⟩ := h.tb P z; ⟨ps, by rw [upd_ne (fun (q : P = a) => n (q ▸ wr_tb z))]; exact q, t⟩⟩
theorem Kq.trans (a : Kq so H H') (b : Kq so H' H2) : Kq so H H2 := ⟨fun p o n e => b.kp p o n (a.kp p o n e), b.sr⟩
theorem SrcO.same (h : SrcO so M H) (e : Same H H') : Kq so H H' := ⟨fun b o _ z => e b o z, h.hd.same e⟩
theorem SrcO.refl (h : SrcO so M H) : Kq so H H := h.same (Same.refl _)
theorem SrcO.q (h : SrcO so M H) (k : Kq so H H') : SrcO so M H' := ⟨k.sr, h.mem⟩
theorem SrcO.cons (h : SrcO so M H) (k : SrH so H') {a : Addr} : SrcO so (a :: M) H' := ⟨k, fun b hb => List.mem_cons_of_mem _ (h.mem b hb)⟩
theorem ns_out' {b : Addr} (hS : SrcO so M H) (h : b ∉ M) : NS so b := fun q => h (hS.mem b q)
theorem go_q (hS : SrcO so M H) (t : Tr M H) (k : Kq so H H') : Go M H M H' where
  sub := fun _ h => h
  new := fun _ h => .inl h
  le := fun b o hb e => k.kp b o (ns_out' hS hb) e
  tr := fun b hb => by
    by_cases h : b ∈ wrM so
    · exact k.sr.nn h
    · cases q : H b with
      | none => exact absurd q (t b hb)
      | some o => rw [k.kp b o h q]; intro z; cases z
theorem Kq.free (k : Kq so H H') {a : Addr} (h : H' a = none) : H a = none := by
  cases q : H a with
  | none => rfl
  | some o =>
    by_cases n : a ∈ wrM so
    · exact absurd h (k.sr.nn n)
    · rw [k.kp a o n q] at h; cases h
end
/-- looked at -/
def Vw (K : PySem.W.Frag) (M : List Addr) (H : Hp) (v : V) : PyData → Prop
  | .list ds => ∃ a vs, v = .ref a ∧ H a = some (.lst vs) ∧ Dms K M H vs ds
  | .none => Dm K M H v .none
  | .bool b => Dm K M H v (.bool b)
  | .int i => Dm K M H v (.int i)
  | .str z => Dm K M H v (.str z)
  | .tuple ds => Dm K M H v (.tuple ds)
  | .dict ds => Dm K M H v (.dict ds)
section
variable {K : PySem.W.Frag} {so : Wr} {M : List Addr} {H H' H2 : Hp} {v w : V} {d e : PyData}
theorem vw_da (h : Vw K M H v d) : Da K H v d := by
  cases d with
  | list ds =>
    obtain ⟨a, vs, rfl, h1, h2⟩ := h
    exact .lst h1 (dms_h h2)
  | none => exact dm_h h
  | bool b => exact dm_h h
  | int b => exact dm_h h
  | str b => exact dm_h h
  | tuple b => exact dm_h h
  | dict b => exact dm_h h
theorem vw_dm (h : Dm K M H v d) : Vw K M H v d := by
  cases d with
  | list ds =>
    cases h with
    | lst h1 h2 => exact ⟨_, _, rfl, (mn_some h1).2, h2⟩
  | none => exact h
  | bool b => exact h
  | int b => exact h
  | str b => exact h
  | tuple b => exact h
  | dict b => exact h
theorem vw_int {i : Int} (h : Vw K M H v (.int i)) : v = .int i := Da.intV (show Dm K M H v (.int i) from h)
theorem vw_bool {i : Bool} (h : Vw K M H v (.bool i)) : v = .bl i := Da.blV (show Dm K M H v (.bool i) from h)
theorem vw_str {i : Str} (h : Vw K M H v (.str i)) : v = .str i := Da.strV (show Dm K M H v (.str i) from h)
theorem vw_none (h : Vw K M H v .none) : v = .non := Da.nonV (show Dm K M H v .none from h)
theorem vw_list {ds : List PyData} (h : Vw K M H v (.list ds)) : ∃ a vs, v = .ref a ∧ H a = some (.lst vs) ∧ Dms K M H vs ds := h
theorem vw_tuple {ds : List PyData} (h : Vw K M H v (.tuple ds)) : ∃ a vs, v = .ref a ∧ SqT K H a vs ∧ Dms K M H vs ds := by
  have h : Dm K M H v (.tuple ds) := h
  cases h with
  | tup h1 h2 => exact ⟨_, _, rfl, same_sqt mn_same h1, h2⟩
theorem vw_dp (h : Vw K M H v d) : Dp K H v d := Da.dp _ _ (vw_da h)
end
/-- a new list at a -/
structure Nw (K : PySem.W.Frag) (M : List Addr) (H : Hp) (a : Addr) (vs : List V) (ds : List PyData) : Prop where
  at_ : H a = some (.lst vs)
  out : a ∉ M
  el : Dms K (a :: M) H vs ds
theorem Nw.dm {K : PySem.W.Frag} {M : List Addr} {H : Hp} {a : Addr} {vs : List V} {ds : List PyData} (h : Nw K M H a vs ds) : Dm K M H (.ref a) (.list ds) := dm_freeze h.out h.at_ h.el
/-- a result -/
def RN (K : PySem.W.Frag) (M : List Addr) (H H' : Hp) (v : V) : ER → Prop
  | .dat d => Dm K M H' v d
  | .nw ds => ∃ a vs, v = .ref a ∧ H a = none ∧ Nw K M H' a vs ds
  | _ => False
def Kvs (K : PySem.W.Frag) (M : List Addr) (H : Hp) : List (Key × V) → List (Key × PyData) → Prop := Paired fun p q => p.1 = q.1 ∧ Dm K M H p.2 q.2
def Sl (K : PySem.W.Frag) (so : Wr) (M : List Addr) (H : Hp) (x : Option (Option V)) : SV → Prop
  | .un => True
  | .dat d => ∃ v, x = some (some v) ∧ Dm K M H v d
  | .ol ds => ∃ a vs, x = some (some (.ref a)) ∧ a ∈ M ∧ NS so a ∧ H a = some (.lst vs) ∧ Dms K M H vs ds
  | .od kvs => ∃ a vs, x = some (some (.ref a)) ∧ a ∈ M ∧ NS so a ∧ H a = some (.dK vs) ∧ Kvs K M H vs kvs
  | .src => ∃ s c, so.src = some (s, c) ∧ x = some (some (.ref s))
def owns : SV → Bool
  | .ol _ => true
  | .od _ => true
  | _ => false
structure St (K : KT) (so : Wr) (M : List Addr) (H : Hp) (σ : S) (sd : SD) : Prop where
  sl : ∀ i, Sl K so M H (σ[i]?) (gs sd i)
  sep : ∀ i j a, i ≠ j → owns (gs sd i) = true → owns (gs sd j) = true → σ[i]? = some (some (.ref a)) → σ[j]? = some (some (.ref a)) → False
  sr : SrcO so M H
  tr : Tr M H
  len : sd.length = σ.length
  tbs : ∀ P ∈ K.tb, P ∈ so.tb
def Re (K : PySem.W.Frag) (so : Wr) (M : List Addr) (H0 H : Hp) (σ : S) (sd : SD) (v : V) : ER → Prop
  | .dat d => Dm K M H v d
  | .nw ds => ∃ a vs, v = .ref a ∧ H0 a = none ∧ Nw K M H a vs ds
  | .nd kvs => ∃ a vs, v = .ref a ∧ H0 a = none ∧ a ∉ M ∧ H a = some (.dK vs) ∧ Kvs K (a :: M) H vs kvs
  | .lc i => σ[i]? = some (some v) ∧ owns (gs sd i) = true
  | .src => ∃ s c, so.src = some (s, c) ∧ v = .ref s
section
variable {K : KT} {so : Wr} {M M' : List Addr} {H H0 H' H2 : Hp} {σ : S} {sd : SD} {v w : V} {r : ER} {d e : PyData}
theorem kvs_go {vs : List (Key × V)} {kvs : List (Key × PyData)} (h : Kvs K M H vs kvs) (g : Go M H M' H') : Kvs K M' H' vs kvs := Paired.mapP h fun _ _ z => ⟨z.1, dm_go z.2 g⟩
theorem Sl.go {x : Option (Option V)} {sv : SV} (h : Sl K so M H x sv) (g : Go M H M' H') (k : ∀ b o, b ∈ M → NS so b → H b = some o → H' b = some o) : Sl K so M' H' x sv := by
  cases sv with
  | un => trivial
  | dat d =>
    obtain ⟨v, e, hd⟩ := h
    exact ⟨v, e, dm_go hd g⟩
  | ol ds =>
    obtain ⟨a, vs, e, h1, h2, h3, h4⟩ := h
    exact ⟨a, vs, e, g.sub a h1, h2, k a _ h1 h2 h3, dms_go h4 g⟩
  | od ds =>
    obtain ⟨a, vs, e, h1, h2, h3, h4⟩ := h
    exact ⟨a, vs, e, g.sub a h1, h2, k a _ h1 h2 h3, kvs_go h4 g⟩
  | src => exact h
theorem St.go (h : St K so M H σ sd) (k : Kq so H H') : Go M H M H' := go_q h.sr h.tr k
theorem St.q (h : St K so M H σ sd) (k : Kq so H H') : St K so M H' σ sd :=
  ⟨fun i => (h.sl i).go (h.go k) fun b o _ n e => k.kp b o n e, h.sep, h.sr.q k, (h.go k).tr, h.len, h.tbs⟩
theorem ns_out {b : Addr} (hS : SrcO so M H) (h : b ∉ M) : NS so b := ns_out' hS h
theorem go_a {a : Addr} {o : HO} (s : St K so M H σ sd) (e : H a = some o) (k : Kq so H H') : Go (a :: M) H (a :: M) H' :=
  go_q (s.sr.cons s.sr.hd) (fun b hb => by
    rcases List.mem_cons.mp hb with rfl | hb
    · rw [e]; intro z; cases z
    · exact s.tr b hb) k
theorem Re.q (h : Re K so M H0 H σ sd v r) (s : St K so M H σ sd) (k : Kq so H H') : Re K so M H0 H' σ sd v r := by
  cases r with
  | dat d => exact dm_go h (s.go k)
  | nw ds =>
    obtain ⟨a, vs, h1, h2, h3⟩ := h
    exact ⟨a, vs, h1, h2, k.kp _ _ (ns_out s.sr h3.out) h3.at_, h3.out, dms_go h3.el (go_a s h3.at_ k)⟩
  | nd kvs =>
    obtain ⟨a, vs, h1, h2, h3, h4, h5⟩ := h
    exact ⟨a, vs, h1, h2, h3, k.kp _ _ (ns_out s.sr h3) h4, kvs_go h5 (go_a s h4 k)⟩
  | lc i => exact h
  | src => exact h
theorem Re.vw (h : Re K so M H0 H σ sd v r) (s : St K so M H σ sd) (e : dOf sd r = some d) : Vw K M H v d := by
  cases r with
  | dat d => cases e; exact vw_dm h
  | nw ds => cases e; obtain ⟨a, vs, rfl, _, h3⟩ := h; exact vw_dm h3.dm
  | nd kvs => cases e
  | lc i =>
    have hs := s.sl i
    unfold dOf at e
    simp only at e
    split at e
    · rename_i ds hg
      cases e
      rw [hg] at hs
      obtain ⟨a, vs, h1, h2, h3, h4, h5⟩ := hs
      rw [h.1] at h1
      cases h1
      exact ⟨a, vs, rfl, h4, h5⟩
    · cases e
  | src => cases e
theorem Re.dm (h : Re K so M H0 H σ sd v r) (e : sOf r = some d) : Dm K M H v d := by
  cases r with
  | dat d => cases e; exact h
  | nw ds => cases e; obtain ⟨a, vs, rfl, _, h3⟩ := h; exact h3.dm
  | nd kvs => cases e
  | lc i => cases e
  | src => cases e
theorem RN.re (h : RN K M H H' v r) (k : Kq so H0 H) : Re K so M H0 H' σ sd v r := by
  cases r with
  | dat d => exact h
  | nw ds =>
    obtain ⟨a, vs, e, h2, h3⟩ := h
    exact ⟨a, vs, e, k.free h2, h3⟩
  | nd kvs => exact h.elim
  | lc i => exact h.elim
  | src => exact h.elim
theorem ob_some {α : Type} {o : Option α} {k : α → Bool} (h : ob o k = true) : ∃ a, o = some a ∧ k a = true := by
  cases o with
  | none => cases h
  | some a => exact ⟨a, rfl, h⟩
theorem gd_some {α : Type} {b : Bool} {a c : α} (h : gd b a = some c) : b = true ∧ c = a := by
  cases b with
  | false => cases h
  | true => cases h; exact ⟨rfl, rfl⟩
theorem small_le {n : Nat} (h : small n = true) : n ≤ sizeLine := by
  have := Nat.le_of_ble_eq_true h
  rw [sizeLine_eq]
  omega
theorem small_le' {n : Nat} (h : small n = true) : n ≤ 1000000 := Nat.le_of_ble_eq_true h
end
/-- what an expression is worth -/
def OkE (K : KT) (te : TE) (f : SD → (ER → Bool) → Bool) : Prop := ∀ (so : Wr) (M : List Addr) (H : Hp) (σ : S) (sd : SD), St K so M H σ sd → ∀ k : ER → Bool, f sd k = true →
  ∀ Q : VK, (∀ v r H', k r = true → Kq so H H' → Re K so M H H' σ sd v r → Q v H') → te σ H Q
end Mp

namespace Mp
open PySem PySem.Spec PyProof.Rows L2 Gd Dq
def rOr (r s : R2) : R2 := fun x y H Q => r x y H Q ∨ s x y H Q
def rStrAdd : R2 := fun x y H Q => ∃ i j, x = .str i ∧ y = .str j ∧ i.length + j.length ≤ sizeLine ∧ Q (.str (i ++ j)) H
/-- comparison of alike data -/
def rCmpD (K : PySem.W.Frag) (f : PyData → PyData → Bool) : R2 := fun x y H Q => ∃ d e, Dp K H x d ∧ Dp K H y e ∧ PySem.W.alike d e = true ∧ d ≠ .none ∧ d.depth ≤ 60 ∧ Q (.bl (f d e)) H
def opV (K : PySem.W.Frag) : BK → R2
  | .add => rOr (rI0 fun i j => .int (i + j)) (rOr rCat (rOr (rCatA K) rStrAdd))
  | .sub => rI0 fun i j => .int (i - j)
  | .mul => rOr (rI CMulW fun i j => .int (i * j)) (rOr rRep (rRepT K))
  | .fdiv => rI CDivW fun i j => .int (i / j)
  | .mod => rI (fun _ j => 0 < j) fun i j => .int (i % j)
  | .pow => rI CPow fun i j => .int (i ^ j.toNat)
  | .band => rI0 fun i j => .int (Builtin.bitAnd i j)
  | .bor => rI0 fun i j => .int (Builtin.bitOr i j)
  | .bxor => rI0 fun i j => .int (Builtin.bitXor i j)
  | .shl => rI CPow fun i j => .int (i * 2 ^ j.toNat)
  | .shr => rI (fun _ j => 0 ≤ j) fun i j => .int (i / 2 ^ j.toNat)
  | .eq => rEqD K
  | .ne => rNeD K
  | .lt => rOr (rI0 fun i j => .bl (decide (i < j))) (rCmpD K fun d e => PySem.W.dataLt d e)
  | .le => rOr (rI0 fun i j => .bl (decide (i ≤ j))) (rCmpD K fun d e => !PySem.W.dataLt e d)
  | .gt => rOr (rI0 fun i j => .bl (decide (j < i))) (rCmpD K fun d e => PySem.W.dataLt e d)
  | .ge => rOr (rI0 fun i j => .bl (decide (j ≤ i))) (rCmpD K fun d e => !PySem.W.dataLt d e)
  | .inn => rOr (rInD K) (rInT K)
  | .nin => rOr (rNotInD K) (rNotInT K)
  | .ix => rOr (rIxT K) (rIxL K)
section
variable {X : Cx} {K : PySem.W.Frag}
theorem ok_add (hK : X.K = K) : OpR X (binaryOp .Add) (opV K .add) := by
  subst hK
  exact OpR.or op_add (OpR.or op_cat (OpR.or op_catA op_add_str))
theorem ok_sub : OpR X (binaryOp .Sub) (opV K .sub) := op_sub
theorem ok_mul (hK : X.K = K) : OpR X (binaryOp .Mult) (opV K .mul) := by
  subst hK
  exact OpR.or op_mulW (OpR.or op_rep op_repT)
theorem ok_fdiv : OpR X (binaryOp .FloorDiv) (opV K .fdiv) := op_fdivW
theorem ok_mod : OpR X (binaryOp .Mod) (opV K .mod) := op_mod
theorem ok_pow : OpR X (binaryOp .Pow) (opV K .pow) := op_pow
theorem ok_band : OpR X (binaryOp .BitAnd) (opV K .band) := op_and
theorem ok_bor : OpR X (binaryOp .BitOr) (opV K .bor) := op_or
theorem ok_bxor : OpR X (binaryOp .BitXor) (opV K .bxor) := op_xor
theorem ok_shl : OpR X (binaryOp .LShift) (opV K .shl) := op_shl
theorem ok_shr : OpR X (binaryOp .RShift) (opV K .shr) := op_shr
theorem ok_eq (hK : X.K = K) (hu : X.A.units + 65 < cLine) : OpR X (compareOp .Eq) (opV K .eq) := by
  subst hK
  exact op_eqD (by omega)
theorem ok_ne (hK : X.K = K) (hu : X.A.units + 65 < cLine) : OpR X (compareOp .NotEq) (opV K .ne) := by
  subst hK
  exact op_neD (by omega)
theorem min_le {a b c : Nat} (h : a ≤ c) : min a b ≤ c := Nat.le_trans (Nat.min_le_left _ _) h
theorem cmp_lt (hK : X.K = K) (hu : X.A.units + 65 < cLine) : OpR X (compareOp .Lt) (rCmpD K fun d e => PySem.W.dataLt d e) := by
  subst hK
  intro pins s σ H x y v u Q I rx ry h
  obtain ⟨d, e, hd, he, ha, hn, hz, q⟩ := h
  obtain ⟨as, r1⟩ := Dp.reads I d x v hd rx
  obtain ⟨bs, r2⟩ := Dp.reads I e y u he ry
  exact PySem.W.lt_data r1 r2 ha hn (by have := min_le (b := e.depth) hz; omega) ⟨.bl _, H, I, rfl, q⟩
theorem cmp_le (hK : X.K = K) (hu : X.A.units + 65 < cLine) : OpR X (compareOp .LtE) (rCmpD K fun d e => !PySem.W.dataLt e d) := by
  subst hK
  intro pins s σ H x y v u Q I rx ry h
  obtain ⟨d, e, hd, he, ha, hn, hz, q⟩ := h
  obtain ⟨as, r1⟩ := Dp.reads I d x v hd rx
  obtain ⟨bs, r2⟩ := Dp.reads I e y u he ry
  exact PySem.W.le_data r1 r2 ha hn (by have := min_le (b := e.depth) hz; omega) ⟨.bl _, H, I, rfl, q⟩
theorem cmp_gt (hK : X.K = K) (hu : X.A.units + 65 < cLine) : OpR X (compareOp .Gt) (rCmpD K fun d e => PySem.W.dataLt e d) := by
  subst hK
  intro pins s σ H x y v u Q I rx ry h
  obtain ⟨d, e, hd, he, ha, hn, hz, q⟩ := h
  obtain ⟨as, r1⟩ := Dp.reads I d x v hd rx
  obtain ⟨bs, r2⟩ := Dp.reads I e y u he ry
  exact PySem.W.gt_data r1 r2 ha hn (by have := min_le (b := e.depth) hz; omega) ⟨.bl _, H, I, rfl, q⟩
theorem cmp_ge (hK : X.K = K) (hu : X.A.units + 65 < cLine) : OpR X (compareOp .GtE) (rCmpD K fun d e => !PySem.W.dataLt d e) := by
  subst hK
  intro pins s σ H x y v u Q I rx ry h
  obtain ⟨d, e, hd, he, ha, hn, hz, q⟩ := h
  obtain ⟨as, r1⟩ := Dp.reads I d x v hd rx
  obtain ⟨bs, r2⟩ := Dp.reads I e y u he ry
  exact PySem.W.ge_data r1 r2 ha hn (by have := min_le (b := e.depth) hz; omega) ⟨.bl _, H, I, rfl, q⟩
theorem ok_lt (hK : X.K = K) (hu : X.A.units + 65 < cLine) : OpR X (compareOp .Lt) (opV K .lt) := OpR.or op_lt (cmp_lt hK hu)
theorem ok_le (hK : X.K = K) (hu : X.A.units + 65 < cLine) : OpR X (compareOp .LtE) (opV K .le) := OpR.or op_le (cmp_le hK hu)
theorem ok_gt (hK : X.K = K) (hu : X.A.units + 65 < cLine) : OpR X (compareOp .Gt) (opV K .gt) := OpR.or op_gt (cmp_gt hK hu)
theorem ok_ge (hK : X.K = K) (hu : X.A.units + 65 < cLine) : OpR X (compareOp .GtE) (opV K .ge) := OpR.or op_ge (cmp_ge hK hu)
theorem ok_in (hK : X.K = K) (hu : X.A.units + 65 < cLine) : OpR X (compareOp .In) (opV K .inn) := OpR.or (by subst hK; exact op_inD hu) (op_inT hK hu)
theorem ok_nin (hK : X.K = K) (hu : X.A.units + 65 < cLine) : OpR X (compareOp .NotIn) (opV K .nin) := OpR.or (by subst hK; exact op_notInD hu) (op_notInT hK hu)
theorem ok_ix (hK : X.K = K) : IxR X (opV K .ix) := ix_any hK
end
section
variable {K : PySem.W.Frag} {so : Wr} {M : List Addr} {H : Hp} {x y : V} {r : ER} {d e : PyData} {Q : VK}
theorem rn_int {H' : Hp} {i : Int} : RN K M H H' (.int i) (.dat (.int i)) := .int i
theorem rn_bl {H' : Hp} {b : Bool} : RN K M H H' (.bl b) (.dat (.bool b)) := .bl b
theorem rn_newL {p : Addr} {vs : List V} {ds : List PyData} (t : Tr M H) (hp : H p = none) (h : Dms K M H vs ds) : RN K M H (upd H p (.lst vs)) (.ref p) (.nw ds) := ⟨p, vs, rfl, hp, upd_same, fun z => t p z hp, dms_go h (go_mut t hp)⟩
theorem cmpOk_of {a b : PyData} (h : cmpOk a b = true) : PySem.W.alike a b = true ∧ a ≠ .none ∧ a.depth ≤ 60 := by
  unfold cmpOk at h
  rw [Bool.and_eq_true, Bool.and_eq_true] at h
  refine ⟨h.1.1, ?_, Nat.le_of_ble_eq_true h.2⟩
  intro z
  subst z
  exact absurd h.1.2 (by simp)
theorem powOk_of {i j : Int} (h : powOk i j = true) : CPow i j := by
  unfold powOk at h
  simp only [Bool.and_eq_true, decide_eq_true_eq] at h
  refine ⟨h.1.1, by omega, ?_⟩
  have := h.2
  omega
theorem mulOk_of {i j : Int} (h : mulOk i j = true) : CMulW i j := by
  unfold mulOk at h
  exact (of_decide_eq_true h : _ < 1000000)
theorem das_cut_rep {vs : List V} {ds : List PyData} (h : Dms K M H vs ds) (m : Nat) : Dms K M H (List.replicate m vs).flatten (List.replicate m ds).flatten := das_rep h m
theorem int_ok {c : Int → Int → Bool} {C : Int → Int → Prop} {f : Int → Int → Int} (hc : ∀ i j, c i j = true → C i j) (h1 : Vw K M H x d) (h2 : Vw K M H y e) (hb : intF c f d e = some r) (q : ∀ v H', Same H H' → RN K M H H' v r → Q v H') : rI C (fun i j => .int (f i j)) x y H Q := by
  cases d <;> cases e <;> first | (cases hb; done) | skip
  obtain ⟨hz, rfl⟩ := gd_some hb
  exact ⟨_, _, vw_int h1, vw_int h2, hc _ _ hz, q _ _ (Same.refl _) (.int _)⟩
theorem int_ok0 {f : Int → Int → Int} (h1 : Vw K M H x d) (h2 : Vw K M H y e) (hb : intF (fun _ _ => true) f d e = some r) (q : ∀ v H', Same H H' → RN K M H H' v r → Q v H') : rI0 (fun i j => .int (f i j)) x y H Q := by
  cases d <;> cases e <;> first | (cases hb; done) | skip
  obtain ⟨hz, rfl⟩ := gd_some (b := true) hb
  exact ⟨_, _, vw_int h1, vw_int h2, q _ _ (Same.refl _) (.int _)⟩
theorem cmp_ok {g : Int → Int → Bool} {f : PyData → PyData → Bool} (h1 : Vw K M H x d) (h2 : Vw K M H y e) (hb : cmpF g f d e = some r) (q : ∀ v H', Same H H' → RN K M H H' v r → Q v H') : rOr (rI0 fun i j => .bl (g i j)) (rCmpD K f) x y H Q := by
  have dt : ∀ b, gd (cmpOk d e) (ER.dat (.bool b)) = some r → f d e = b → rOr (rI0 fun i j => .bl (g i j)) (rCmpD K f) x y H Q := fun b hb hf => by
    obtain ⟨hz, rfl⟩ := gd_some hb
    obtain ⟨c1, c2, c3⟩ := cmpOk_of hz
    exact .inr ⟨d, e, vw_dp h1, vw_dp h2, c1, c2, c3, by rw [hf]; exact q _ _ (Same.refl _) (.bl _)⟩
  cases d <;> cases e <;> first | exact dt _ hb rfl | skip
  cases hb
  exact .inl ⟨_, _, vw_int h1, vw_int h2, q _ _ (Same.refl _) (.bl _)⟩
/-- the rule's question, answered -/
theorem op_ok (o : BK) (t : Tr M H) (h1 : Vw K M H x d) (h2 : Vw K M H y e) (hb : binF o d e = some r) (q : ∀ v H', Same H H' → RN K M H H' v r → Q v H') : opV K o x y H Q := by
  cases o with
  | add =>
    have hb : addF d e = some r := hb
    cases d <;> cases e <;> first | (cases hb; done) | skip
    · cases hb
      exact .inl ⟨_, _, vw_int h1, vw_int h2, q _ _ (Same.refl _) (.int _)⟩
    · obtain ⟨hz, rfl⟩ := gd_some hb
      exact .inr (.inr (.inr ⟨_, _, vw_str h1, vw_str h2, small_le hz, q _ _ (Same.refl _) (.str _)⟩))
    · obtain ⟨hz, rfl⟩ := gd_some hb
      obtain ⟨a, vs, rfl, ha, hv⟩ := vw_list h1
      obtain ⟨b, ws, rfl, hb, hw⟩ := vw_list h2
      exact .inr (.inl ⟨a, b, vs, ws, rfl, rfl, ha, hb, by rw [hv.length, hw.length]; exact small_le hz, fun p hp => q _ _ (same_new hp) (rn_newL t hp (hv.append hw))⟩)
    · obtain ⟨hz, rfl⟩ := gd_some hb
      obtain ⟨a, vs, rfl, ha, hv⟩ := vw_tuple h1
      obtain ⟨b, ws, rfl, hb, hw⟩ := vw_tuple h2
      refine .inr (.inr (.inl ⟨a, b, vs, ws, rfl, rfl, ha, hb, by rw [hv.length, hw.length]; exact small_le hz, fun z => ?_, fun z z2 => ?_, fun z z2 p hp => q _ _ (same_new hp) (dm_newT t hp (hv.append hw))⟩))
      · subst z
        cases hv
        exact q _ _ (Same.refl _) h2
      · subst z2
        cases hw
        rw [List.append_nil] at q
        exact q _ _ (Same.refl _) h1
  | sub => exact int_ok0 h1 h2 hb q
  | mul =>
    have hb : mulF d e = some r := hb
    cases d <;> cases e <;> first | (cases hb; done) | skip
    · obtain ⟨hz, rfl⟩ := gd_some hb
      exact .inl ⟨_, _, vw_int h1, vw_int h2, mulOk_of hz, q _ _ (Same.refl _) (.int _)⟩
    · obtain ⟨hz, rfl⟩ := gd_some hb
      obtain ⟨a, vs, rfl, ha, hv⟩ := vw_list h1
      rw [Bool.and_eq_true, Bool.and_eq_true, decide_eq_true_iff, decide_eq_true_iff] at hz
      have hz3 := Nat.le_of_ble_eq_true hz.2
      refine .inr (.inl ⟨a, _, vs, rfl, vw_int h2, ha, by omega, by omega, ?_, fun p hp => q _ _ (same_new hp) (rn_newL t hp (das_rep hv _))⟩)
      rw [hv.length, sizeLine_eq]
      refine Nat.le_trans (Nat.mul_le_mul hz3 (show _ ≤ 1000 by omega)) (by decide)
    · obtain ⟨hz, rfl⟩ := gd_some hb
      obtain ⟨a, vs, rfl, ha, hv⟩ := vw_tuple h1
      rw [Bool.and_eq_true, Bool.and_eq_true, Bool.and_eq_true, decide_eq_true_iff, decide_eq_true_iff] at hz
      refine .inr (.inr ⟨a, _, vs, rfl, vw_int h2, ha, ?_, hz.1.1.1, hz.1.1.2, ?_, fun p hp => q _ _ (same_new hp) (dm_newT t hp (das_rep hv _))⟩)
      · intro z
        subst z
        cases hv
        exact absurd (Nat.le_of_ble_eq_true hz.2) (by decide)
      · rw [hv.length]
        exact Nat.le_of_ble_eq_true hz.1.2
  | fdiv => exact int_ok (C := CDivW) (fun i j h => by rw [Bool.and_eq_true, decide_eq_true_iff] at h; exact ⟨h.1, by have := h.2; unfold Nat.blt at this; exact Nat.le_of_ble_eq_true this⟩) h1 h2 hb q
  | mod => exact int_ok (fun i j h => of_decide_eq_true h) h1 h2 hb q
  | pow => exact int_ok (C := CPow) (fun i j h => powOk_of h) h1 h2 hb q
  | band => exact int_ok0 h1 h2 hb q
  | bor => exact int_ok0 h1 h2 hb q
  | bxor => exact int_ok0 h1 h2 hb q
  | shl => exact int_ok (C := CPow) (fun i j h => powOk_of h) h1 h2 hb q
  | shr => exact int_ok (fun i j h => of_decide_eq_true h) h1 h2 hb q
  | eq =>
    obtain ⟨hz, rfl⟩ := gd_some hb
    rw [Bool.and_eq_true] at hz
    exact ⟨d, e, vw_dp h1, vw_dp h2, hz.1, hz.2, q _ _ (Same.refl _) (.bl _)⟩
  | ne =>
    obtain ⟨hz, rfl⟩ := gd_some hb
    rw [Bool.and_eq_true] at hz
    exact ⟨d, e, vw_dp h1, vw_dp h2, hz.1, hz.2, q _ _ (Same.refl _) (.bl _)⟩
  | lt => exact cmp_ok h1 h2 hb q
  | le => exact cmp_ok h1 h2 hb q
  | gt => exact cmp_ok h1 h2 hb q
  | ge => exact cmp_ok h1 h2 hb q
  | inn =>
    have hb : inF (fun b => b) d e = some r := hb
    cases e with
    | list ds =>
      obtain ⟨hz, rfl⟩ := gd_some hb
      rw [Bool.and_eq_true] at hz
      exact .inl ⟨d, ds, vw_dp h1, vw_dp h2, hz.1, hz.2, q _ _ (Same.refl _) (.bl _)⟩
    | tuple ds =>
      obtain ⟨hz, rfl⟩ := gd_some hb
      rw [Bool.and_eq_true] at hz
      exact .inr ⟨d, ds, vw_dp h1, vw_dp h2, hz.1, hz.2, q _ _ (Same.refl _) (.bl _)⟩
    | _ => exact nomatch hb
  | nin =>
    have hb : inF (fun b => !b) d e = some r := hb
    cases e with
    | list ds =>
      obtain ⟨hz, rfl⟩ := gd_some hb
      rw [Bool.and_eq_true] at hz
      exact .inl ⟨d, ds, vw_dp h1, vw_dp h2, hz.1, hz.2, q _ _ (Same.refl _) (.bl _)⟩
    | tuple ds =>
      obtain ⟨hz, rfl⟩ := gd_some hb
      rw [Bool.and_eq_true] at hz
      exact .inr ⟨d, ds, vw_dp h1, vw_dp h2, hz.1, hz.2, q _ _ (Same.refl _) (.bl _)⟩
    | _ => exact nomatch hb
  | ix =>
    have hb : ixF d e = some r := hb
    cases d <;> cases e <;> first | (cases hb; done) | skip
    · rename_i ds i _
      have hb : (L2.atI ds i).map ER.dat = some r := hb
      obtain ⟨a, vs, rfl, ha, hv⟩ := vw_list h1
      cases hi : L2.atI ds i with
      | none => rw [hi] at hb; cases hb
      | some z =>
        rw [hi] at hb
        cases hb
        obtain ⟨v, e1, e2⟩ := hv.atI hi
        exact .inr ⟨a, vs, i, v, rfl, vw_int h2, SqL.of ha, e1, q _ _ (Same.refl _) e2⟩
    · rename_i ds i _
      have hb : (L2.atI ds i).map ER.dat = some r := hb
      obtain ⟨a, vs, rfl, ha, hv⟩ := vw_tuple h1
      cases hi : L2.atI ds i with
      | none => rw [hi] at hb; cases hb
      | some z =>
        rw [hi] at hb
        cases hb
        obtain ⟨v, e1, e2⟩ := hv.atI hi
        exact .inl ⟨a, vs, i, v, rfl, vw_int h2, ha, e1, q _ _ (Same.refl _) e2⟩
/-- one operand behind the other -/
theorem okE_bin {K : KT} {ta tb : TE} {f g : SD → (ER → Bool) → Bool} (o : BK) (ha : OkE K ta f) (hb : OkE K tb g) :
    OkE K (tOp (opV K o) ta tb) (fun sd k => f sd fun r1 => g sd fun r2 => ob (dOf sd r1) fun d1 => ob (dOf sd r2) fun d2 => ob (binF o d1 d2) k) := by
  intro so M H σ sd s k hk Q q
  refine ha so M H σ sd s _ hk _ fun v1 r1 H1 k1 q1 e1 => ?_
  have s1 := s.q q1
  refine hb so M H1 σ sd s1 _ k1 _ fun v2 r2 H2 k2 q2 e2 => ?_
  obtain ⟨d1, hd1, k2⟩ := ob_some k2
  obtain ⟨d2, hd2, k2⟩ := ob_some k2
  obtain ⟨r, hr, k2⟩ := ob_some k2
  have s2 := s1.q q2
  refine op_ok o s2.tr ((e1.q s1 q2).vw s2 hd1) (e2.vw s2 hd2) hr fun v H3 z h => ?_
  have q12 := q1.trans q2
  exact q v r H3 k2 (q12.trans (s2.sr.same z)) (h.re q12)
end
end Mp

/-! names, constants, displays, truth, tests, slices -/
namespace Mp
open PySem PySem.Spec PyProof.Rows L2 Gd Dq
section
variable {X : Cx} {K : PySem.W.Frag}
def iAny (K : PySem.W.Frag) (tl : TE) : TI := fun σ H R => tl σ H fun x H1 => ∃ a, x = .ref a ∧ (((∃ xs, SqL K H1 a xs) ∧ R (Itl K a) H1) ∨ ((∃ xs, SqT K H1 a xs) ∧ R (Itt K a) H1))
theorem pi_any {tg l : Expr} {tl : TE} (hK : X.K = K) (hl : PE X l tl) : PI X tg l (iAny K tl) := by
  subst hK
  refine ⟨fun pins s σ H R I h => ?_⟩
  refine thn (hl.run pins s σ H _ I h) fun v s1 ⟨x, H1, I1, r1, q1⟩ => ?_
  obtain ⟨a, e, ⟨⟨xs, hq⟩, q⟩ | ⟨⟨xs, hq⟩, q⟩⟩ := q1
  · subst e
    cases r1
    obtain ⟨its, rv, p, hz⟩ := I1.list hq
    refine wpAny_pyIter_list p.isList ?_
    refine ⟨s1.heap.objs.size, [s1.heap.objs.size], _, _, H1, rfl, I1.kept (t' := s1.toks) fun b o e => Heap.get?_push_of_some _ e, turn_list a _, ⟨_, Heap.get?_push_size _ rfl, rfl, rfl⟩, fun b hb => ?_, q⟩
    have e : b = s1.heap.objs.size := by simpa using hb
    subst e
    exact I1.fpOk (Nat.le_refl _) (I1.hok.fresh (Nat.le_refl _))
  · subst e
    cases r1
    obtain ⟨its, rv, p, hz⟩ := I1.tuple hq
    refine wpAny_pyIter_tuple p ?_
    refine ⟨s1.heap.objs.size, [s1.heap.objs.size], _, _, H1, rfl, I1.kept (t' := s1.toks) fun b o e => Heap.get?_push_of_some _ e, turn_tuple a _, ⟨_, Heap.get?_push_size _ rfl, rfl, rfl⟩, fun b hb => ?_, q⟩
    have e : b = s1.heap.objs.size := by simpa using hb
    subst e
    exact I1.fpOk (Nat.le_refl _) (I1.hok.fresh (Nat.le_refl _))
def tRev (K : PySem.W.Frag) (te : TE) : TE := fun σ H Q => te σ H fun x H1 => ∃ a xs, x = .ref a ∧ ((SqL K H1 a xs ∧ ∀ p, H1 p = none → Q (.ref p) (upd H1 p (.lst xs.reverse))) ∨ (SqT K H1 a xs ∧ ∀ p, H1 p = none → Q (.ref p) (upd H1 p (.tup xs.reverse))))
theorem pe_rev {e : Expr} {te : TE} {k : Nat} {p1 p2 p3 pos : Pos} (hK : X.K = K) (he : PE X e te) : PE X (.Subscript e (.Slice none none (some (.UnaryOp .USub (.Constant (.int 1) k p1) p2)) p3) pos) (tRev K te) := by
  subst hK
  constructor
  intro pins s σ H Q I h
  refine Subscript_ (thn (he.run pins s σ H _ I h) ?_)
  rintro v s1 ⟨x, H1, I1, r1, a, xs, rfl, hq⟩
  cases r1
  have part : PO X (some (.UnaryOp .USub (.Constant (.int 1) k p1) p2)) (tPart (tUn (rU fun i => .int (-i)) (tC (.int 1)))) := po_some (pe_un un_neg pe_int)
  refine wpAny_Slice (thn (po_none.run pins s1 σ H1 (fun o H2 => o = none ∧ H2 = H1) I1 ⟨rfl, rfl⟩) ?_)
  rintro vl s2 ⟨l, H2, I2, pl, rfl, rfl⟩
  refine thn (po_none.run pins s2 σ _ (fun o H3 => o = none ∧ H3 = H2) I2 ⟨rfl, rfl⟩) ?_
  rintro vu s3 ⟨u, H3, I3, pu, rfl, rfl⟩
  refine thn (part.run pins s3 σ _ (fun o H4 => o = some (-1) ∧ H4 = H3) I3 ⟨1, rfl, -1, rfl, rfl, rfl⟩) ?_
  rintro vs s4 ⟨o, H4, I4, ps, rfl, rfl⟩
  cases pl
  cases pu
  have I5 : Inv X pins σ H4 { s4 with heap := s4.heap.push { cls := .type "slice", data := .fields #[.none, .none, vs] } } := I4.kept (t' := s4.toks) fun b ob q => Heap.get?_push_of_some _ q
  show wpAny (model X.prog X.w) X.A (subscriptTail e (.Slice none none (some (.UnaryOp .USub (.Constant (.int 1) k p1) p2)) p3) (.ref a) (.ref s4.heap.objs.size)) (EP X pins σ Q) X.xe _
  rcases hq with ⟨hx, q⟩ | ⟨hx, q⟩
  · obtain ⟨its, r, ht, hz⟩ := I5.list hx
    have hlen := r.length
    refine tail_any (ops := [.ref a, .ref s4.heap.objs.size]) ht.isList.typeIs (PySem.slot_list_getitem.lookup) ?_ (by with_unfolding_all rfl)
    refine wpAny_getItem_list_slice (lo := none) (hi := none) ht.isList (Heap.IsSliceOf.new _ .none .none vs) .none .none ps (by decide) ?_ (by rw [List.size_toArray]; omega)
    rw [PySem.W.krv_pick]
    refine ⟨.ref _, _, I5.laid (t' := s4.toks) (o := .lst xs.reverse) (fun b ob q => Heap.get?_push_of_some _ q) (Nat.le_refl _) ?_, rfl, q _ (I5.hok.fresh (Nat.le_refl _))⟩
    exact ⟨by rw [List.length_reverse]; exact hz, _, 0, r.reverse, Heap.get?_push_size _ rfl⟩
  · obtain ⟨its, r, ht, hz⟩ := I5.tuple hx
    refine tail_any (ops := [.ref a, .ref s4.heap.objs.size]) ht.typeIs PyProof.Rows.slot_tuple_getitem.lookup ?_ (by with_unfolding_all rfl)
    refine getItem_tuple_back ht (Heap.IsSliceOf.new _ .none .none vs) ps ?_ (by rw [← r.length]; exact hz)
    refine ⟨.ref _, _, I5.laid (t' := s4.toks) (o := .tup xs.reverse) (fun b ob q => Heap.get?_push_of_some _ q) (Nat.le_refl _) ?_, rfl, q _ (I5.hok.fresh (Nat.le_refl _))⟩
    exact ⟨(by rw [List.length_reverse]; exact hz), _, r.reverse, IsTup.new _ _⟩
def rSlV (K : PySem.W.Frag) : V → Option Int → Option Int → Hp → VK → Prop := fun x lo hi H Q => rSlL K x lo hi H Q ∨ rSlA K x lo hi H Q
theorem sl_any (hK : X.K = K) : SlR X (rSlV K) := by
  subst hK
  exact SlR.or sl_list (sl_tup_k rfl)
end
section
variable {K : KT} {te ta tb tc : TE} {tt tu : TT} {f g h : SD → (ER → Bool) → Bool} {so : Wr} {M : List Addr} {H : Hp} {σ : S} {sd : SD}
/-- a slot -/
def varF (i : Nat) : SD → (ER → Bool) → Bool := fun sd k => match gs sd i with
  | .un => false
  | .dat d => k (.dat d)
  | .ol _ => k (.lc i)
  | .od _ => k (.lc i)
  | .src => k .src
theorem okE_var (i : Nat) : OkE K (tVar i) (varF i) := by
  intro so M H σ sd s k hk Q q
  have hs := s.sl i
  unfold varF at hk
  split at hk
  · cases hk
  · rename_i d hg
    rw [hg] at hs
    obtain ⟨v, e, hd⟩ := hs
    exact ⟨v, e, q v (.dat d) H hk s.sr.refl hd⟩
  · rename_i d hg
    rw [hg] at hs
    obtain ⟨a, vs, e, _⟩ := hs
    exact ⟨_, e, q _ (.lc i) H hk s.sr.refl ⟨e, by rw [hg]; rfl⟩⟩
  · rename_i d hg
    rw [hg] at hs
    obtain ⟨a, vs, e, _⟩ := hs
    exact ⟨_, e, q _ (.lc i) H hk s.sr.refl ⟨e, by rw [hg]; rfl⟩⟩
  · rename_i hg
    rw [hg] at hs
    obtain ⟨a, c, e, e2⟩ := hs
    exact ⟨_, e2, q _ .src H hk s.sr.refl ⟨a, c, e, rfl⟩⟩
def conF (d : PyData) : SD → (ER → Bool) → Bool := fun _ k => k (.dat d)
theorem okE_con {v : V} {d : PyData} (hd : ∀ H : Hp, Da K H v d) : OkE K (tC v) (conF d) := by
  intro so M H σ sd s k hk Q q
  exact q v (.dat d) H hk s.sr.refl (hd _)
theorem okE_int {i : Int} : OkE K (tC (.int i)) (conF (.int i)) := okE_con fun _ => .int i
theorem okE_bl {i : Bool} : OkE K (tC (.bl i)) (conF (.bool i)) := okE_con fun _ => .bl i
theorem okE_non : OkE K (tC .non) (conF .none) := okE_con fun _ => .non
theorem okE_str {z : Str} : OkE K (tC (.str z)) (conF (.str z)) := okE_con fun _ => .str z
theorem okE_cst {a : Addr} {n : Nat} {d : PyData} (h : readV K n (.ref a) = some d) : OkE K (tC (.ref a)) (conF d) := okE_con fun _ => (readV_da n _ d h).2
/-! one operand -/
theorem okE_un1 {r : V → Hp → VK → Prop} {F : SD → ER → (ER → Bool) → Bool} (ha : OkE K ta f)
    (hr : ∀ so M H0 H σ sd, St K so M H σ sd → Kq so H0 H → ∀ v x, Re K so M H0 H σ sd v x → ∀ k, F sd x k = true → ∀ Q : VK, (∀ w y H', k y = true → Kq so H H' → Re K so M H0 H' σ sd w y → Q w H') → r v H Q) :
    OkE K (tUn r ta) (fun sd k => f sd fun x => F sd x k) := by
  intro so M H σ sd s k hk Q q
  refine ha so M H σ sd s _ hk _ fun v1 r1 H1 k1 q1 e1 => ?_
  exact hr so M H H1 σ sd (s.q q1) q1 v1 r1 e1 k k1 Q fun w y H' z k2 e2 => q w y H' z (q1.trans k2) e2
def unV : UK → V → Hp → VK → Prop
  | .neg => rU fun i => .int (-i)
  | .inv => rU fun i => .int (Builtin.bitNot i)
theorem okE_un (o : UK) (ha : OkE K ta f) : OkE K (tUn (unV o) ta) (fun sd k => f sd fun x => ob (dOf sd x) fun d => ob (unF o d) k) := by
  refine okE_un1 (F := fun sd x k => ob (dOf sd x) fun d => ob (unF o d) k) ha fun so M H0 H σ sd s q0 v x e k hk Q q => ?_
  obtain ⟨d, hd, hk⟩ := ob_some hk
  obtain ⟨r, hr, hk⟩ := ob_some hk
  have hv := e.vw s hd
  cases o <;> cases d <;> first | (cases hr; done) | skip
  · cases hr
    exact ⟨_, vw_int hv, q _ _ H hk s.sr.refl (.int _)⟩
  · cases hr
    exact ⟨_, vw_int hv, q _ _ H hk s.sr.refl (.int _)⟩
def isNon : ER → Bool
  | .dat .none => true
  | _ => false
theorem re_non {H0 : Hp} {v : V} {r : ER} (h : Re K so M H0 H σ sd v r) (s : St K so M H σ sd) : decide (v = .non) = isNon r := by
  cases r with
  | dat d =>
    have h : Da K (mn M H) v d := h
    cases h <;> rfl
  | nw ds => obtain ⟨a, vs, rfl, _⟩ := h; rfl
  | nd ds => obtain ⟨a, vs, rfl, _⟩ := h; rfl
  | lc i =>
    obtain ⟨h1, h2⟩ := h
    have hs := s.sl i
    cases hg : gs sd i with
    | ol ds => rw [hg] at hs; obtain ⟨a, vs, e, _⟩ := hs; rw [h1] at e; cases e; rfl
    | od ds => rw [hg] at hs; obtain ⟨a, vs, e, _⟩ := hs; rw [h1] at e; cases e; rfl
    | un => rw [hg] at h2; cases h2
    | dat d => rw [hg] at h2; cases h2
    | src => rw [hg] at h2; cases h2
  | src => obtain ⟨a, c, _, rfl⟩ := h; rfl
theorem okE_isN (ha : OkE K ta f) : OkE K (tIsN ta) (fun sd k => f sd fun x => k (.dat (.bool (isNon x)))) := by
  intro so M H σ sd s k hk Q q
  refine ha so M H σ sd s _ hk _ fun v1 r1 H1 k1 q1 e1 => ?_
  refine q _ _ H1 k1 q1 ?_
  rw [re_non e1 (s.q q1)]
  exact .bl _
theorem okE_ntN (ha : OkE K ta f) : OkE K (tNotN ta) (fun sd k => f sd fun x => k (.dat (.bool (!isNon x)))) := by
  intro so M H σ sd s k hk Q q
  refine ha so M H σ sd s _ hk _ fun v1 r1 H1 k1 q1 e1 => ?_
  refine q _ _ H1 k1 q1 ?_
  rw [re_non e1 (s.q q1)]
  exact .bl _
/-! truth -/
def truD : PyData → Option Bool
  | .none => some false
  | .bool b => some b
  | .int i => some (i != 0)
  | .str z => gd (small z.length) ((z.length : Int) != 0)
  | .list ds => some (!ds.isEmpty)
  | .tuple ds => some (!ds.isEmpty)
  | .dict _ => none
def truR (sd : SD) : ER → Option Bool
  | .dat d => truD d
  | .nw ds => some (!ds.isEmpty)
  | .lc i => match gs sd i with
    | .ol ds => some (!ds.isEmpty)
    | .od kvs => some (!kvs.isEmpty)
    | _ => none
  | _ => none
theorem das_empty {H' : Hp} {vs : List V} {ds : List PyData} (h : Das K H' vs ds) : (!vs.isEmpty) = !ds.isEmpty := by cases h <;> rfl
theorem paired_empty {α β : Type} {R : α → β → Prop} {xs : List α} {ys : List β} (h : Paired R xs ys) : (!xs.isEmpty) = !ys.isEmpty := by cases h <;> rfl
theorem truD_ok {v : V} {d : PyData} {b : Bool} (h : Vw K M H v d) (e : truD d = some b) : TruV K v H b := by
  cases d with
  | none => cases e; rw [vw_none h]; rfl
  | bool c => cases e; rw [vw_bool h]; rfl
  | int c => cases e; rw [vw_int h]; rfl
  | str z =>
    obtain ⟨hz, rfl⟩ := gd_some e
    rw [vw_str h]
    exact ⟨small_le hz, rfl⟩
  | list ds =>
    cases e
    obtain ⟨a, vs, rfl, ha, hv⟩ := vw_list h
    exact .inl ⟨vs, SqL.of ha, (das_empty hv).symm⟩
  | tuple ds =>
    cases e
    obtain ⟨a, vs, rfl, ha, hv⟩ := vw_tuple h
    exact .inr (.inl ⟨vs, ha, (das_empty hv).symm⟩)
  | dict ds => cases e
theorem truR_ok {H0 : Hp} {v : V} {r : ER} {b : Bool} (h : Re K so M H0 H σ sd v r) (s : St K so M H σ sd) (e : truR sd r = some b) : TruV K v H b := by
  cases r with
  | dat d => exact truD_ok (vw_dm h) e
  | nw ds => obtain ⟨a, vs, rfl, _, h3⟩ := h; exact truD_ok (d := .list ds) (vw_dm h3.dm) e
  | nd kvs => cases e
  | src => cases e
  | lc i =>
    have hs := s.sl i
    unfold truR at e
    simp only at e
    split at e
    · rename_i ds hg
      exact truD_ok (d := .list ds) (h.vw s (by unfold dOf; simp only; rw [hg])) e
    · rename_i ds hg
      rw [hg] at hs
      obtain ⟨a, vs, h1, h2, h3, h4, h5⟩ := hs
      rw [h.1] at h1
      cases h1
      cases e
      exact .inr (.inr ⟨vs, h4, (paired_empty h5).symm⟩)
    · cases e
theorem Re.back {H0 H1 : Hp} {v : V} {r : ER} (h : Re K so M H1 H σ sd v r) (k : Kq so H0 H1) : Re K so M H0 H σ sd v r := by
  cases r with
  | dat d => exact h
  | nw ds =>
    obtain ⟨a, vs, h1, h2, h3⟩ := h
    exact ⟨a, vs, h1, k.free h2, h3⟩
  | nd kvs =>
    obtain ⟨a, vs, h1, h2, h3⟩ := h
    exact ⟨a, vs, h1, k.free h2, h3⟩
  | lc i => exact h
  | src => exact h
theorem okE_or (ha : OkE K ta f) (hb : OkE K tb g) : OkE K (tOrT K ta tb) (fun sd k => f sd fun x => ob (truR sd x) fun b => match b with
    | true => k x
    | false => g sd k) := by
  intro so M H σ sd s k hk Q q
  refine ha so M H σ sd s _ hk _ fun v1 r1 H1 k1 q1 e1 => ?_
  obtain ⟨b, hb1, k1⟩ := ob_some k1
  refine ⟨b, truR_ok e1 (s.q q1) hb1, ?_⟩
  cases b with
  | true => exact q v1 r1 H1 k1 q1 e1
  | false => exact hb so M H1 σ sd (s.q q1) _ k1 Q fun v r H2 k2 q2 e2 => q v r H2 k2 (q1.trans q2) (e2.back q1)
theorem okE_and (ha : OkE K ta f) (hb : OkE K tb g) : OkE K (tAndT K ta tb) (fun sd k => f sd fun x => ob (truR sd x) fun b => match b with
    | true => g sd k
    | false => k x) := by
  intro so M H σ sd s k hk Q q
  refine ha so M H σ sd s _ hk _ fun v1 r1 H1 k1 q1 e1 => ?_
  obtain ⟨b, hb1, k1⟩ := ob_some k1
  refine ⟨b, truR_ok e1 (s.q q1) hb1, ?_⟩
  cases b with
  | false => exact q v1 r1 H1 k1 q1 e1
  | true => exact hb so M H1 σ sd (s.q q1) _ k1 Q fun v r H2 k2 q2 e2 => q v r H2 k2 (q1.trans q2) (e2.back q1)
theorem okE_not (ha : OkE K ta f) : OkE K (tNotT K ta) (fun sd k => f sd fun x => ob (truR sd x) fun b => k (.dat (.bool (!b)))) := by
  intro so M H σ sd s k hk Q q
  refine ha so M H σ sd s _ hk _ fun v1 r1 H1 k1 q1 e1 => ?_
  obtain ⟨b, hb1, k1⟩ := ob_some k1
  exact ⟨b, truR_ok e1 (s.q q1) hb1, q _ _ H1 k1 q1 (.bl _)⟩
/-! tests -/
def OkT (K : KT) (tt : TT) (f : SD → (Bool → Bool) → Bool) : Prop := ∀ (so : Wr) (M : List Addr) (H : Hp) (σ : S) (sd : SD), St K so M H σ sd → ∀ k : Bool → Bool, f sd k = true →
  ∀ Q : Bool → Hp → Prop, (∀ b H', k b = true → Kq so H H' → Q b H') → tt σ H Q
variable {ft gt : SD → (Bool → Bool) → Bool}
def tTru (K : PySem.W.Frag) (ta : TE) : TT := fun σ H Q => ta σ H fun x H' => ∃ k, TruV K x H' k ∧ Q k H'
theorem okT_tru (ha : OkE K ta f) : OkT K (tTru K ta) (fun sd k => f sd fun x => ob (truR sd x) k) := by
  intro so M H σ sd s k hk Q q
  refine ha so M H σ sd s _ hk _ fun v1 r1 H1 k1 q1 e1 => ?_
  obtain ⟨b, hb1, k1⟩ := ob_some k1
  exact ⟨b, truR_ok e1 (s.q q1) hb1, q b H1 k1 q1⟩
def bOf : ER → Option Bool
  | .dat (.bool b) => some b
  | _ => none
theorem okT_bl (ha : OkE K ta f) : OkT K (tTest ta) (fun sd k => f sd fun x => ob (bOf x) k) := by
  intro so M H σ sd s k hk Q q
  refine ha so M H σ sd s _ hk _ fun v1 r1 H1 k1 q1 e1 => ?_
  obtain ⟨b, hb1, k1⟩ := ob_some k1
  have : r1 = .dat (.bool b) := by
    unfold bOf at hb1
    split at hb1
    · cases hb1; rfl
    · cases hb1
  subst this
  have e1 : Da K (mn M H1) v1 (.bool b) := e1
  exact ⟨b, e1.blV, q b H1 k1 q1⟩
theorem okT_and (ha : OkT K tt ft) (hb : OkT K tu gt) : OkT K (tAnd tt tu) (fun sd k => ft sd fun b => match b with
    | true => gt sd k
    | false => k false) := by
  intro so M H σ sd s k hk Q q
  refine ha so M H σ sd s _ hk _ fun b H1 k1 q1 => ?_
  cases b with
  | true => exact hb so M H1 σ sd (s.q q1) _ k1 Q fun b H2 k2 q2 => q b H2 k2 (q1.trans q2)
  | false => exact q false H1 k1 q1
theorem okT_or (ha : OkT K tt ft) (hb : OkT K tu gt) : OkT K (tOr tt tu) (fun sd k => ft sd fun b => match b with
    | true => k true
    | false => gt sd k) := by
  intro so M H σ sd s k hk Q q
  refine ha so M H σ sd s _ hk _ fun b H1 k1 q1 => ?_
  cases b with
  | false => exact hb so M H1 σ sd (s.q q1) _ k1 Q fun b H2 k2 q2 => q b H2 k2 (q1.trans q2)
  | true => exact q true H1 k1 q1
theorem okT_not (ha : OkT K tt ft) : OkT K (tNot tt) (fun sd k => ft sd fun b => k (!b)) := by
  intro so M H σ sd s k hk Q q
  exact ha so M H σ sd s _ hk _ fun b H1 k1 q1 => q _ H1 k1 q1
theorem okT_yes : OkT K tYes (fun sd k => k true) := by
  intro so M H σ sd s k hk Q q
  exact q true H hk s.sr.refl
theorem okE_if (ht : OkT K tt ft) (ha : OkE K ta f) (hb : OkE K tb g) : OkE K (tIf tt ta tb) (fun sd k => ft sd fun b => match b with
    | true => f sd k
    | false => g sd k) := by
  intro so M H σ sd s k hk Q q
  refine ht so M H σ sd s _ hk _ fun b H1 k1 q1 => ?_
  cases b with
  | true => exact ha so M H1 σ sd (s.q q1) _ k1 Q fun v r H2 k2 q2 e2 => q v r H2 k2 (q1.trans q2) (e2.back q1)
  | false => exact hb so M H1 σ sd (s.q q1) _ k1 Q fun v r H2 k2 q2 e2 => q v r H2 k2 (q1.trans q2) (e2.back q1)
/-! chains -/
theorem okE_chain (o p : BK) (ha : OkE K ta f) (hb : OkE K tb g) (hc : OkE K tc h) :
    OkE K (tChain (opV K o) (opV K p) ta tb tc) (fun sd k => f sd fun x => g sd fun y => ob (dOf sd x) fun d => ob (dOf sd y) fun e => ob (binF o d e) fun r => ob (bOf r) fun b => match b with
      | true => h sd fun z => ob (dOf sd z) fun e2 => ob (binF p e e2) k
      | false => k (.dat (.bool false))) := by
  intro so M H σ sd s k hk Q q
  refine ha so M H σ sd s _ hk _ fun v1 r1 H1 k1 q1 e1 => ?_
  have s1 := s.q q1
  refine hb so M H1 σ sd s1 _ k1 _ fun v2 r2 H2 k2 q2 e2 => ?_
  obtain ⟨d1, hd1, k2⟩ := ob_some k2
  obtain ⟨d2, hd2, k2⟩ := ob_some k2
  obtain ⟨r, hr, k2⟩ := ob_some k2
  obtain ⟨b, hb, k2⟩ := ob_some k2
  have s2 := s1.q q2
  have q12 := q1.trans q2
  refine op_ok o s2.tr ((e1.q s1 q2).vw s2 hd1) (e2.vw s2 hd2) hr fun v H3 z hv => ?_
  have : r = .dat (.bool b) := by
    unfold bOf at hb
    split at hb
    · cases hb; rfl
    · cases hb
  subst this
  have hv : Da K (mn M H3) v (.bool b) := hv
  have q3 := s2.sr.same z
  have s3 := s2.q q3
  refine ⟨b, hv.blV, ?_⟩
  cases b with
  | false => exact q _ _ H3 k2 (q12.trans q3) (.bl _)
  | true =>
    refine hc so M H3 σ sd s3 _ k2 _ fun v4 r4 H4 k4 q4 e4 => ?_
    obtain ⟨d4, hd4, k4⟩ := ob_some k4
    obtain ⟨r5, hr5, k4⟩ := ob_some k4
    have s4 := s3.q q4
    refine op_ok p s4.tr (((e2.q s2 q3).q s3 q4).vw s4 hd2) (e4.vw s4 hd4) hr5 fun v5 H5 z5 h5 => ?_
    have q5 := ((q12.trans q3).trans q4)
    exact q v5 r5 H5 k4 (q5.trans (s4.sr.same z5)) (h5.re q5)
end
end Mp

/-! argument lists, displays, built-ins, slices, what is walked -/
namespace Mp
open PySem PySem.Spec PyProof.Rows L2 Gd Dq
abbrev Rs (K : PySem.W.Frag) (so : Wr) (M : List Addr) (H0 H : Hp) (σ : S) (sd : SD) : List V → List ER → Prop := Paired fun v r => Re K so M H0 H σ sd v r
def OkA (K : KT) (ta : TA) (f : SD → (List ER → Bool) → Bool) : Prop := ∀ (so : Wr) (M : List Addr) (H : Hp) (σ : S) (sd : SD), St K so M H σ sd → ∀ k : List ER → Bool, f sd k = true →
  ∀ Q : List V → Hp → Prop, (∀ vs rs H', k rs = true → Kq so H H' → Rs K so M H H' σ sd vs rs → Q vs H') → ta σ H Q
def sOfs : List ER → Option (List PyData)
  | [] => some []
  | r :: rs => match sOf r, sOfs rs with
    | some d, some ds => some (d :: ds)
    | _, _ => none
def dOfs (sd : SD) : List ER → Option (List PyData)
  | [] => some []
  | r :: rs => match dOf sd r, dOfs sd rs with
    | some d, some ds => some (d :: ds)
    | _, _ => none
section
variable {K : KT} {te ta tb tc : TE} {as bs : TA} {tt tu : TT} {f g h : SD → (ER → Bool) → Bool} {fa ga : SD → (List ER → Bool) → Bool} {so : Wr} {M : List Addr} {H H0 H' : Hp} {σ : S} {sd : SD}
theorem Rs.q {vs : List V} {rs : List ER} (h : Rs K so M H0 H σ sd vs rs) (s : St K so M H σ sd) (k : Kq so H H') : Rs K so M H0 H' σ sd vs rs := Paired.mapP h fun _ _ z => z.q s k
theorem Rs.back {vs : List V} {rs : List ER} (h : Rs K so M H' H σ sd vs rs) (k : Kq so H0 H') : Rs K so M H0 H σ sd vs rs := Paired.mapP h fun _ _ z => z.back k
theorem Rs.dms : ∀ {vs : List V} {rs : List ER} {ds : List PyData}, Rs K so M H0 H σ sd vs rs → sOfs rs = some ds → Dms K M H vs ds
  | _, [], ds, .nil, e => by cases e; exact .nil
  | _, r :: rs, ds, .cons a b, e => by
    unfold sOfs at e
    split at e
    · rename_i d ds' h1 h2
      cases e
      exact .cons (a.dm h1) (Rs.dms b h2)
    · cases e
theorem Rs.vws : ∀ {vs : List V} {rs : List ER} {ds : List PyData}, St K so M H σ sd → Rs K so M H0 H σ sd vs rs → dOfs sd rs = some ds → Paired (Vw K M H) vs ds
  | _, [], ds, s, .nil, e => by cases e; exact .nil
  | _, r :: rs, ds, s, .cons a b, e => by
    unfold dOfs at e
    split at e
    · rename_i d ds' h1 h2
      cases e
      exact .cons (a.vw s h1) (Rs.vws s b h2)
    · cases e
theorem okA_nil : OkA K tNil (fun _ k => k []) := by
  intro so M H σ sd s k hk Q q
  exact q [] [] H hk s.sr.refl .nil
theorem okA_cons (ha : OkE K ta f) (hb : OkA K as fa) : OkA K (tCons ta as) (fun sd k => f sd fun x => fa sd fun xs => k (x :: xs)) := by
  intro so M H σ sd s k hk Q q
  refine ha so M H σ sd s _ hk _ fun v1 r1 H1 k1 q1 e1 => ?_
  have s1 := s.q q1
  refine hb so M H1 σ sd s1 _ k1 _ fun vs rs H2 k2 q2 e2 => ?_
  exact q _ _ H2 k2 (q1.trans q2) (.cons (e1.q s1 q2) (e2.back q1))
def seqOf : PyData → Option (List PyData)
  | .list ds => some ds
  | .tuple ds => some ds
  | _ => none
theorem vw_seq {v : V} {d : PyData} {ds : List PyData} (h : Vw K M H v d) (e : seqOf d = some ds) : ∃ a vs, v = .ref a ∧ (SqT K H a vs ∨ SqL K H a vs) ∧ Dms K M H vs ds := by
  cases d with
  | list xs =>
    cases e
    obtain ⟨a, vs, rfl, h1, h2⟩ := vw_list h
    exact ⟨a, vs, rfl, .inr (SqL.of h1), h2⟩
  | tuple xs =>
    cases e
    obtain ⟨a, vs, rfl, h1, h2⟩ := vw_tuple h
    exact ⟨a, vs, rfl, .inl h1, h2⟩
  | none => cases e
  | bool b => cases e
  | int b => cases e
  | str b => cases e
  | dict b => cases e
theorem rs_dat : ∀ {vs : List V} {ds : List PyData}, Dms K M H vs ds → Rs K so M H0 H σ sd vs (ds.map ER.dat)
  | [], [], .nil => .nil
  | _ :: _, _ :: _, .cons a b => .cons a (rs_dat b)
theorem Paired.app {α β : Type} {R : α → β → Prop} : ∀ {xs zs : List α} {ys ws : List β}, Paired R xs ys → Paired R zs ws → Paired R (xs ++ zs) (ys ++ ws)
  | _, _, _, _, .nil, h => h
  | _, _, _, _, .cons a b, h => .cons a (Paired.app b h)
theorem okA_star (ha : OkE K ta f) (hb : OkA K as fa) : OkA K (StX.tStar K ta as) (fun sd k => f sd fun x => ob (dOf sd x) fun d => ob (seqOf d) fun ds => fa sd fun xs => k (ds.map .dat ++ xs)) := by
  intro so M H σ sd s k hk Q q
  refine ha so M H σ sd s _ hk _ fun v1 r1 H1 k1 q1 e1 => ?_
  have s1 := s.q q1
  obtain ⟨d, hd, k1⟩ := ob_some k1
  obtain ⟨ds, hds, k1⟩ := ob_some k1
  obtain ⟨a, vs, rfl, hv, hx⟩ := vw_seq (e1.vw s1 hd) hds
  refine ⟨a, vs, rfl, hv, ?_⟩
  refine hb so M H1 σ sd s1 _ k1 _ fun ws rs H2 k2 q2 e2 => ?_
  exact q _ _ H2 k2 (q1.trans q2) (Paired.app (rs_dat (dms_go hx (s1.go q2))) (e2.back q1))
theorem okE_tup (ha : OkA K as fa) : OkE K (tTup as) (fun sd k => fa sd fun rs => ob (sOfs rs) fun ds => match small ds.length with
    | true => k (.dat (.tuple ds))
    | false => false) := by
  intro so M H σ sd s k hk Q q
  refine ha so M H σ sd s _ hk _ fun vs rs H1 k1 q1 e1 => ?_
  obtain ⟨ds, hd, k1⟩ := ob_some k1
  have hv := e1.dms hd
  split at k1
  · rename_i hz
    refine ⟨by rw [hv.length]; exact small_le hz, fun p hp => ?_⟩
    have s1 := s.q q1
    exact q _ _ _ k1 (q1.trans (s1.sr.same (same_new hp))) (dm_newT s1.tr hp hv)
  · cases k1
theorem okE_lst (ha : OkA K as fa) : OkE K (tLst as) (fun sd k => fa sd fun rs => ob (sOfs rs) fun ds => match small ds.length with
    | true => k (.nw ds)
    | false => false) := by
  intro so M H σ sd s k hk Q q
  refine ha so M H σ sd s _ hk _ fun vs rs H1 k1 q1 e1 => ?_
  obtain ⟨ds, hd, k1⟩ := ob_some k1
  have hv := e1.dms hd
  split at k1
  · rename_i hz
    refine ⟨by rw [hv.length]; exact small_le hz, fun p hp => ?_⟩
    have s1 := s.q q1
    exact q _ _ _ k1 (q1.trans (s1.sr.same (same_new hp))) ((rn_newL s1.tr hp hv : RN K M _ _ _ (.nw ds)).re q1)
  · cases k1
/-! built-ins -/
def rB (K : PySem.W.Frag) : BI → List V → Hp → VK → Prop
  | .len => fun xs H Q => ∃ p ys, xs = [V.ref p] ∧ (SqL K H p ys ∨ SqT K H p ys) ∧ Q (.int ys.length) H
  | .int => fun xs H Q => (∃ i, xs = [V.int i] ∧ Q (.int i) H) ∨ ∃ k, xs = [V.bl k] ∧ Q (.int (if k then 1 else 0)) H
  | .abs => fun xs H Q => ∃ i, xs = [V.int i] ∧ Q (.int (if i < 0 then -i else i)) H
  | .max2 => fun xs H Q => ∃ i j, xs = [.int i, .int j] ∧ Q (.int (if j > i then j else i)) H
  | .min2 => fun xs H Q => ∃ i j, xs = [.int i, .int j] ∧ Q (.int (if j < i then j else i)) H
  | .tup => fun xs H Q => ∃ p ys, xs = [V.ref p] ∧ ((SqL K H p ys ∧ ∀ l, H l = none → Q (.ref l) (upd H l (.tup ys))) ∨ (SqT K H p ys ∧ Q (.ref p) H))
  | .lst => fun xs H Q => ∃ p ys, xs = [V.ref p] ∧ (SqL K H p ys ∨ SqT K H p ys) ∧ ∀ l, H l = none → Q (.ref l) (upd H l (.lst ys))
  | _ => fun _ _ _ => False
theorem one_of {α : Type} {ds : List α} {P : α → Prop} (h : ∃ a, ds = [a] ∧ P a) : True := trivial
theorem bi_ok (b : BI) {vs : List V} {ds : List PyData} {r : ER} {Q : VK} (t : Tr M H) (hv : Paired (Vw K M H) vs ds) (hb : biF b ds = some r) (q : ∀ v H', Same H H' → RN K M H H' v r → Q v H') : rB K b vs H Q := by
  cases b with
  | len =>
    match ds, hv, hb with
    | [.list xs], .cons h .nil, hb =>
      cases hb
      obtain ⟨a, ws, rfl, ha, hw⟩ := vw_list h
      exact ⟨a, ws, rfl, .inl (SqL.of ha), by rw [hw.length]; exact q _ _ (Same.refl _) (.int _)⟩
    | [.tuple xs], .cons h .nil, hb =>
      cases hb
      obtain ⟨a, ws, rfl, ha, hw⟩ := vw_tuple h
      exact ⟨a, ws, rfl, .inr ha, by rw [hw.length]; exact q _ _ (Same.refl _) (.int _)⟩
  | int =>
    match ds, hv, hb with
    | [.int i], .cons h .nil, hb =>
      cases hb
      exact .inl ⟨i, by rw [vw_int h], q _ _ (Same.refl _) (.int _)⟩
    | [.bool k], .cons h .nil, hb =>
      cases hb
      refine .inr ⟨k, by rw [vw_bool h], q _ _ (Same.refl _) ?_⟩
      cases k <;> exact .int _
  | abs =>
    match ds, hv, hb with
    | [.int i], .cons h .nil, hb =>
      cases hb
      exact ⟨i, by rw [vw_int h], q _ _ (Same.refl _) (.int _)⟩
  | max2 =>
    match ds, hv, hb with
    | [.int i, .int j], .cons h (.cons h2 .nil), hb =>
      cases hb
      exact ⟨i, j, by rw [vw_int h, vw_int h2], q _ _ (Same.refl _) (.int _)⟩
  | min2 =>
    match ds, hv, hb with
    | [.int i, .int j], .cons h (.cons h2 .nil), hb =>
      cases hb
      exact ⟨i, j, by rw [vw_int h, vw_int h2], q _ _ (Same.refl _) (.int _)⟩
  | tup =>
    match ds, hv, hb with
    | [.list xs], .cons h .nil, hb =>
      cases hb
      obtain ⟨a, ws, rfl, ha, hw⟩ := vw_list h
      exact ⟨a, ws, rfl, .inl ⟨SqL.of ha, fun l hl => q _ _ (same_new hl) (dm_newT t hl hw)⟩⟩
    | [.tuple xs], .cons h .nil, hb =>
      cases hb
      obtain ⟨a, ws, rfl, ha, hw⟩ := vw_tuple h
      exact ⟨a, ws, rfl, .inr ⟨ha, q _ _ (Same.refl _) h⟩⟩
  | lst =>
    match ds, hv, hb with
    | [.list xs], .cons h .nil, hb =>
      cases hb
      obtain ⟨a, ws, rfl, ha, hw⟩ := vw_list h
      exact ⟨a, ws, rfl, .inl (SqL.of ha), fun l hl => q _ _ (same_new hl) (rn_newL t hl hw)⟩
    | [.tuple xs], .cons h .nil, hb =>
      cases hb
      obtain ⟨a, ws, rfl, ha, hw⟩ := vw_tuple h
      exact ⟨a, ws, rfl, .inr ha, fun l hl => q _ _ (same_new hl) (rn_newL t hl hw)⟩
  | _ => cases hb
theorem okE_bi (b : BI) (ha : OkA K as fa) : OkE K (tCB (rB K b) as) (fun sd k => fa sd fun rs => ob (dOfs sd rs) fun ds => ob (biF b ds) k) := by
  intro so M H σ sd s k hk Q q
  refine ha so M H σ sd s _ hk _ fun vs rs H1 k1 q1 e1 => ?_
  obtain ⟨ds, hd, k1⟩ := ob_some k1
  obtain ⟨r, hr, k1⟩ := ob_some k1
  have s1 := s.q q1
  exact bi_ok b s1.tr (Rs.vws s1 e1 hd) hr fun v H2 z hv => q v r H2 k1 (q1.trans (s1.sr.same z)) (hv.re q1)
/-! slices -/
def OkO (to : TO) (f : SD → (Option Int → Bool) → Bool) (K : KT) : Prop := ∀ (so : Wr) (M : List Addr) (H : Hp) (σ : S) (sd : SD), St K so M H σ sd → ∀ k : Option Int → Bool, f sd k = true →
  ∀ Q : Option Int → Hp → Prop, (∀ o H', k o = true → Kq so H H' → Q o H') → to σ H Q
theorem okO_none : OkO tNoPart (fun _ k => k none) K := by
  intro so M H σ sd s k hk Q q
  exact q none H hk s.sr.refl
def iOf : ER → Option Int
  | .dat (.int i) => some i
  | _ => none
theorem okO_some (ha : OkE K ta f) : OkO (tPart ta) (fun sd k => f sd fun x => ob (iOf x) fun i => k (some i)) K := by
  intro so M H σ sd s k hk Q q
  refine ha so M H σ sd s _ hk _ fun v1 r1 H1 k1 q1 e1 => ?_
  obtain ⟨i, hi, k1⟩ := ob_some k1
  have : r1 = .dat (.int i) := by
    unfold iOf at hi
    split at hi
    · cases hi; rfl
    · cases hi
  subst this
  have e1 : Da K (mn M H1) v1 (.int i) := e1
  exact ⟨i, e1.intV, q _ H1 k1 q1⟩
def slF (lo hi : Option Int) : PyData → Option ER
  | .list ds => some (.nw (cutPd ds lo hi))
  | .tuple ds => some (.dat (.tuple (cutPd ds lo hi)))
  | _ => none
theorem okE_sl {tl th : TO} {fl fh : SD → (Option Int → Bool) → Bool} (ha : OkE K ta f) (hl : OkO tl fl K) (hh : OkO th fh K) :
    OkE K (tSl (rSlV K) ta tl th) (fun sd k => f sd fun x => fl sd fun lo => fh sd fun hi => ob (dOf sd x) fun d => ob (slF lo hi d) k) := by
  intro so M H σ sd s k hk Q q
  refine ha so M H σ sd s _ hk _ fun v1 r1 H1 k1 q1 e1 => ?_
  have s1 := s.q q1
  refine hl so M H1 σ sd s1 _ k1 _ fun lo H2 k2 q2 => ?_
  have s2 := s1.q q2
  refine hh so M H2 σ sd s2 _ k2 _ fun hi H3 k3 q3 => ?_
  have s3 := s2.q q3
  have q123 := (q1.trans q2).trans q3
  obtain ⟨d, hd, k3⟩ := ob_some k3
  obtain ⟨r, hr, k3⟩ := ob_some k3
  have hv := ((e1.q s1 q2).q s2 q3).vw s3 hd
  cases d with
  | list ds =>
    cases hr
    obtain ⟨a, ws, rfl, ha, hw⟩ := vw_list hv
    exact .inl ⟨a, ws, rfl, SqL.of ha, fun p hp => q _ _ _ k3 (q123.trans (s3.sr.same (same_new hp))) ((rn_newL s3.tr hp (hw.cut lo hi) : RN K M _ _ _ (.nw _)).re q123)⟩
  | tuple ds =>
    cases hr
    obtain ⟨a, ws, rfl, ha, hw⟩ := vw_tuple hv
    refine .inr ⟨a, ws, rfl, ha, fun w => ?_, fun w p hp => q _ _ _ k3 (q123.trans (s3.sr.same (same_new hp))) (dm_newT s3.tr hp (hw.cut lo hi))⟩
    have hz : cutPd ds lo hi = ds := by
      rw [hw.length] at w
      unfold cutPd
      rw [w.1, w.2]
      simp
    rw [hz] at k3
    exact q _ _ H3 k3 q123 hv
  | _ => cases hr
def revF : PyData → Option ER
  | .list ds => some (.nw ds.reverse)
  | .tuple ds => some (.dat (.tuple ds.reverse))
  | _ => none
theorem okE_rev (ha : OkE K ta f) : OkE K (tRev K ta) (fun sd k => f sd fun x => ob (dOf sd x) fun d => ob (revF d) k) := by
  intro so M H σ sd s k hk Q q
  refine ha so M H σ sd s _ hk _ fun v1 r1 H1 k1 q1 e1 => ?_
  have s1 := s.q q1
  obtain ⟨d, hd, k1⟩ := ob_some k1
  obtain ⟨r, hr, k1⟩ := ob_some k1
  have hv := e1.vw s1 hd
  cases d with
  | list ds =>
    cases hr
    obtain ⟨a, ws, rfl, ha, hw⟩ := vw_list hv
    exact ⟨a, ws, rfl, .inl ⟨SqL.of ha, fun p hp => q _ _ _ k1 (q1.trans (s1.sr.same (same_new hp))) ((rn_newL s1.tr hp hw.reverse : RN K M _ _ _ (.nw _)).re q1)⟩⟩
  | tuple ds =>
    cases hr
    obtain ⟨a, ws, rfl, ha, hw⟩ := vw_tuple hv
    exact ⟨a, ws, rfl, .inr ⟨ha, fun p hp => q _ _ _ k1 (q1.trans (s1.sr.same (same_new hp))) (dm_newT s1.tr hp hw.reverse)⟩⟩
  | _ => cases hr
end
end Mp

/-! targets, what is walked, comprehensions -/
namespace Mp
open PySem PySem.Spec PyProof.Rows L2 Gd Dq
/-! targets -/
inductive GT where
  | nm (i : Nat) | tp (g : GT) | nil | cons (a r : GT)
def GT.len : GT → Nat
  | .cons _ r => r.len + 1
  | _ => 0
def GT.slots : GT → List Nat
  | .nm i => [i]
  | .tp g => g.slots
  | .nil => []
  | .cons a r => a.slots ++ r.slots
/-- a tuple's or a list's items -/
def gAny (K : PySem.W.Frag) (n : Nat) (t : TGs) : TG := fun v σ H Q => gTup K n t v σ H Q ∨ gUnl K n t v σ H Q
theorem pg_any {X : Cx} {K : PySem.W.Frag} {es : List Expr} {k : Nat} {pos : Pos} {t : TGs} {n : Nat} (hK : X.K = K) (hc : X.calm = true) (h : PGs X es t)
    (hn : (assignEach es X.env).length = n := by rfl) (hst : (assignEach es X.env).findIdx? (·.1) = none := by rfl) : PG X (.Tuple es k pos) (gAny K n t) := by
  subst hK
  exact ⟨fun pins s σ H v u Q I r hw => hw.elim (fun z => (pg_tup hc h hn hst).run pins s σ H v u Q I r z) fun z => (pg_unl hc h hn hst).run pins s σ H v u Q I r z⟩
mutual
def tG (K : PySem.W.Frag) : GT → TG
  | .nm i => gName i
  | .tp g => gAny K g.len (tGs K g)
  | .nil => fun _ _ _ _ => False
  | .cons _ _ => fun _ _ _ _ => False
def tGs (K : PySem.W.Frag) : GT → TGs
  | .nil => gNil
  | .cons a r => gCons (tG K a) (tGs K r)
  | .nm _ => fun _ _ _ _ => False
  | .tp _ => fun _ _ _ _ => False
end
mutual
def setG : GT → PyData → SD → Option SD
  | .nm i, d, sd => some (sd.set i (.dat d))
  | .tp g, .tuple ds, sd => setGs g ds sd
  | .tp g, .list ds, sd => setGs g ds sd
  | _, _, _ => none
def setGs : GT → List PyData → SD → Option SD
  | .nil, [], sd => some sd
  | .cons a r, d :: ds, sd => match setG a d sd with
    | some sd2 => setGs r ds sd2
    | none => none
  | _, _, _ => none
end
section
variable {K : KT} {so : Wr} {M : List Addr} {H H0 H' : Hp} {σ : S} {sd : SD}
theorem gs_set_ne {i j : Nat} {x : SV} (h : j ≠ i) : gs (sd.set i x) j = gs sd j := by
  unfold gs
  rw [List.getD_eq_getElem?_getD, List.getD_eq_getElem?_getD, List.getElem?_set_ne (Ne.symm h)]
theorem gs_set {i : Nat} {x : SV} (h : i < sd.length) : gs (sd.set i x) i = x := by
  unfold gs
  rw [List.getD_eq_getElem?_getD, List.getElem?_set_self h]
  rfl
theorem set_out {α : Type} {l : List α} {i : Nat} {x : α} (h : ¬ i < l.length) : l.set i x = l := List.set_eq_of_length_le (by omega)
theorem St.set {v : V} {d : PyData} {i : Nat} (s : St K so M H σ sd) (h : Dm K M H v d) : St K so M H (σ.set i (some v)) (sd.set i (.dat d)) := by
  by_cases hi : i < sd.length
  · have hi2 : i < σ.length := by rw [← s.len]; exact hi
    refine ⟨fun j => ?_, fun j l a hjl h1 h2 e1 e2 => ?_, s.sr, s.tr, by rw [List.length_set, List.length_set, s.len], s.tbs⟩
    · by_cases hj : j = i
      · subst hj
        rw [gs_set hi, List.getElem?_set_self hi2]
        exact ⟨v, rfl, h⟩
      · rw [gs_set_ne hj, List.getElem?_set_ne (Ne.symm hj)]
        exact s.sl j
    · have hj : j ≠ i := fun z => by subst z; rw [gs_set hi] at h1; cases h1
      have hl : l ≠ i := fun z => by subst z; rw [gs_set hi] at h2; cases h2
      rw [gs_set_ne hj] at h1
      rw [gs_set_ne hl] at h2
      rw [List.getElem?_set_ne (Ne.symm hj)] at e1
      rw [List.getElem?_set_ne (Ne.symm hl)] at e2
      exact s.sep j l a hjl h1 h2 e1 e2
  · rw [set_out hi, set_out (by rw [← s.len]; exact hi)]
    exact s
theorem St.unset {i : Nat} {x : Option V} (s : St K so M H σ sd) : St K so M H (σ.set i x) (sd.set i .un) := by
  by_cases hi : i < sd.length
  · refine ⟨fun j => ?_, fun j l a hjl h1 h2 e1 e2 => ?_, s.sr, s.tr, by rw [List.length_set, List.length_set, s.len], s.tbs⟩
    · by_cases hj : j = i
      · subst hj
        rw [gs_set hi]
        exact True.intro
      · rw [gs_set_ne hj, List.getElem?_set_ne (Ne.symm hj)]
        exact s.sl j
    · have hj : j ≠ i := fun z => by subst z; rw [gs_set hi] at h1; cases h1
      have hl : l ≠ i := fun z => by subst z; rw [gs_set hi] at h2; cases h2
      rw [gs_set_ne hj] at h1
      rw [gs_set_ne hl] at h2
      rw [List.getElem?_set_ne (Ne.symm hj)] at e1
      rw [List.getElem?_set_ne (Ne.symm hl)] at e2
      exact s.sep j l a hjl h1 h2 e1 e2
  · rw [set_out hi, set_out (by rw [← s.len]; exact hi)]
    exact s
def wipeD (sd : SD) : List Nat → SD
  | [] => sd
  | v :: vs => (wipeD sd vs).set v .un
theorem St.wipe (s : St K so M H σ sd) : ∀ vs : List Nat, St K so M H (wipe σ vs) (wipeD sd vs)
  | [] => s
  | v :: vs => (St.wipe s vs).unset
theorem wipe_eq {σ2 : S} : ∀ {vs : List Nat}, σ2.length = σ.length → (∀ j, j ∉ vs → σ2[j]? = σ[j]?) → L2.wipe σ2 vs = L2.wipe σ vs := by
  intro vs hl h
  refine List.ext_getElem? fun j => ?_
  have key : ∀ (τ : S) (ws : List Nat), (L2.wipe τ ws)[j]? = if j ∈ ws ∧ j < τ.length then some none else τ[j]? := by
    intro τ ws
    induction ws with
    | nil => simp [L2.wipe]
    | cons w ws ih =>
      unfold L2.wipe
      by_cases hj : w = j
      · subst hj
        by_cases hw : w < τ.length
        · rw [List.getElem?_set_self (by rw [wipe_length]; exact hw), if_pos ⟨List.mem_cons_self .., hw⟩]
        · rw [List.getElem?_eq_none (by rw [List.length_set, wipe_length]; omega), if_neg (fun z => hw z.2), List.getElem?_eq_none (by omega)]
      · rw [List.getElem?_set_ne hj, ih]
        by_cases hm : j ∈ ws ∧ j < τ.length
        · rw [if_pos hm, if_pos ⟨List.mem_cons_of_mem _ hm.1, hm.2⟩]
        · rw [if_neg hm, if_neg fun z => hm ⟨(List.mem_cons.mp z.1).resolve_left (Ne.symm hj), z.2⟩]
  rw [key, key, hl]
  by_cases hj : j ∈ vs ∧ j < σ.length
  · rw [if_pos hj, if_pos hj]
  · rw [if_neg hj, if_neg hj]
    by_cases h2 : j < σ.length
    · exact h j fun z => hj ⟨z, h2⟩
    · rw [List.getElem?_eq_none (by omega), List.getElem?_eq_none (by omega)]
/-- what is owned in the one is so in the other -/
def Sb (σ : S) (sd : SD) (σ2 : S) (sd2 : SD) : Prop := ∀ i, owns (gs sd2 i) = true → owns (gs sd i) = true ∧ σ2[i]? = σ[i]?
theorem Sb.refl (σ : S) (sd : SD) : Sb σ sd σ sd := fun _ h => ⟨h, rfl⟩
theorem Sb.trans {σ2 σ3 : S} {sd2 sd3 : SD} (a : Sb σ sd σ2 sd2) (b : Sb σ2 sd2 σ3 sd3) : Sb σ sd σ3 sd3 := fun i h => ⟨(a i (b i h).1).1, (b i h).2.trans (a i (b i h).1).2⟩
theorem sb_set {i : Nat} {x : Option V} {y : SV} (hl : sd.length = σ.length) (hy : owns y = false) : Sb σ sd (σ.set i x) (sd.set i y) := fun j h => by
  by_cases hi : i < sd.length
  · have hj : j ≠ i := fun z => by subst z; rw [gs_set hi, hy] at h; cases h
    rw [gs_set_ne hj] at h
    exact ⟨h, List.getElem?_set_ne (Ne.symm hj)⟩
  · rw [set_out hi] at h
    rw [set_out (by rw [← hl]; exact hi)]
    exact ⟨h, rfl⟩
theorem wipeD_len : ∀ vs : List Nat, (wipeD sd vs).length = sd.length
  | [] => rfl
  | v :: vs => by unfold wipeD; rw [List.length_set, wipeD_len vs]
theorem sb_wipe (hl : sd.length = σ.length) : ∀ vs : List Nat, Sb σ sd (L2.wipe σ vs) (wipeD sd vs)
  | [] => Sb.refl _ _
  | v :: vs => (sb_wipe hl vs).trans (sb_set (by rw [wipeD_len, wipe_length, hl]) rfl)
/-- a target, set -/
def OkG (K : KT) (g : TG) (vs : List Nat) (F : PyData → SD → Option SD) : Prop := ∀ (so : Wr) (M : List Addr) (H : Hp) (σ : S) (sd sd2 : SD) (v : V) (d : PyData), St K so M H σ sd → Dm K M H v d → F d sd = some sd2 →
  ∀ Q : S → Hp → Prop, (∀ σ2, St K so M H σ2 sd2 → Sb σ sd σ2 sd2 → σ2.length = σ.length → (∀ j, j ∉ vs → σ2[j]? = σ[j]?) → Q σ2 H) → g v σ H Q
def OkGs (K : KT) (g : TGs) (n : Nat) (vs : List Nat) (F : List PyData → SD → Option SD) : Prop := ∀ (so : Wr) (M : List Addr) (H : Hp) (σ : S) (sd sd2 : SD) (xs : List V) (ds : List PyData), St K so M H σ sd → Dms K M H xs ds → F ds sd = some sd2 →
  ∀ Q : S → Hp → Prop, (∀ σ2, St K so M H σ2 sd2 → Sb σ sd σ2 sd2 → σ2.length = σ.length → (∀ j, j ∉ vs → σ2[j]? = σ[j]?) → Q σ2 H) → xs.length = n ∧ g xs σ H Q
mutual
theorem okG (K : KT) : ∀ g : GT, OkG K (tG K g) g.slots (setG g)
  | .nm i => by
    intro so M H σ sd sd2 v d s hd hf Q q
    have hf : some (sd.set i (.dat d)) = some sd2 := by
      unfold setG at hf
      exact hf
    cases hf
    unfold tG
    refine q _ (s.set hd) (sb_set s.len rfl) (List.length_set ..) fun j hj => List.getElem?_set_ne (fun z => hj (by rw [GT.slots, z]; exact List.mem_cons_self ..))
  | .tp g => by
    intro so M H σ sd sd2 v d s hd hf Q q
    cases d with
    | tuple ds =>
      have hf : setGs g ds sd = some sd2 := by
        unfold setG at hf
        exact hf
      cases hd with
      | @tup a xs _ ha hx =>
        have h := okGs K g so M H σ sd sd2 xs ds s hx hf Q q
        unfold tG
        exact .inl ⟨a, xs, rfl, same_sqt mn_same ha, h.1, h.2⟩
    | list ds =>
      have hf : setGs g ds sd = some sd2 := by
        unfold setG at hf
        exact hf
      cases hd with
      | @lst a xs _ ha hx =>
        have h := okGs K g so M H σ sd sd2 xs ds s hx hf Q q
        unfold tG
        exact .inr ⟨a, xs, rfl, SqL.of (mn_same _ _ ha), h.1, h.2⟩
    | _ => unfold setG at hf; cases hf
  | .nil => by
    intro so M H σ sd sd2 v d s hd hf Q q
    unfold setG at hf
    cases hf
  | .cons a r => by
    intro so M H σ sd sd2 v d s hd hf Q q
    unfold setG at hf
    cases hf
theorem okGs (K : KT) : ∀ g : GT, OkGs K (tGs K g) g.len g.slots (setGs g)
  | .nil => by
    intro so M H σ sd sd2 xs ds s hd hf Q q
    cases ds with
    | nil =>
      have hf : some sd = some sd2 := by
        unfold setGs at hf
        exact hf
      cases hf
      cases hd
      unfold tGs
      exact ⟨rfl, rfl, q _ s (Sb.refl _ _) rfl fun _ _ => rfl⟩
    | cons d ds => unfold setGs at hf; cases hf
  | .cons a r => by
    intro so M H σ sd sd2 xs ds s hd hf Q q
    cases ds with
    | nil => unfold setGs at hf; cases hf
    | cons d ds =>
      have hf : (match setG a d sd with
        | some sd2 => setGs r ds sd2
        | none => none) = some sd2 := by
        unfold setGs at hf
        exact hf
      split at hf
      · rename_i sd1 h1
        cases hd with
        | @cons v vs _ _ hv hvs =>
          have hlen : vs.length = r.len := by
            exact (lenGs r ds sd1 sd2 hf).symm ▸ hvs.length
          unfold tGs
          refine ⟨by rw [List.length_cons, hlen]; rfl, v, vs, rfl, ?_⟩
          refine okG K a so M H σ sd sd1 v d s hv h1 _ fun σ2 s2 b2 l2 o2 => ?_
          refine (okGs K r so M H σ2 sd1 sd2 vs ds s2 hvs hf Q fun σ3 s3 b3 l3 o3 => ?_).2
          refine q σ3 s3 (b2.trans b3) (l3.trans l2) fun j hj => ?_
          rw [GT.slots, List.mem_append, not_or] at hj
          rw [o3 j hj.2, o2 j hj.1]
      · cases hf
  | .nm _ => by
    intro so M H σ sd sd2 xs ds s hd hf Q q
    unfold setGs at hf
    cases hf
  | .tp _ => by
    intro so M H σ sd sd2 xs ds s hd hf Q q
    unfold setGs at hf
    cases hf
theorem lenGs : ∀ (g : GT) (ds : List PyData) (sd sd2 : SD), setGs g ds sd = some sd2 → g.len = ds.length
  | .nil, [], _, _, _ => rfl
  | .cons a r, d :: ds, sd, sd2, h => by
    have hf : (match setG a d sd with
      | some sd2 => setGs r ds sd2
      | none => none) = some sd2 := by
      unfold setGs at h
      exact h
    split at hf
    · rename_i sd1 h1
      rw [GT.len, List.length_cons, lenGs r ds sd1 sd2 hf]
    · cases hf
  | .nil, _ :: _, _, _, h => by unfold setGs at h; cases h
  | .cons _ _, [], _, _, h => by unfold setGs at h; cases h
  | .nm _, _, _, _, h => by unfold setGs at h; cases h
  | .tp _, _, _, _, h => by unfold setGs at h; cases h
end
end
end Mp

/-! what is walked -/
namespace Mp
open PySem PySem.Spec PyProof.Rows L2 Gd Dq RZ
/-- at b stands what a slot owns -/
def Ow (σ : S) (sd : SD) (b : Addr) : Prop := ∃ i, owns (gs sd i) = true ∧ σ[i]? = some (some (.ref b))
/-- ds is walked: it stands while what may not change doesn't, nor, if it is a list of one's own, what is owned -/
structure Wkd (K : PySem.W.Frag) (so : Wr) (M : List Addr) (H2 : Hp) (σ : S) (sd : SD) (own : Bool) (ds : List PyData) (J : It) (G : Hp → Prop) (Y : Nat → Hp → V → Hp → Prop) : Prop where
  wk : Walk J ds.length G Y
  g0 : ∀ H3, (∀ b o, H2 b = some o → NS so b → (b ∉ M ∨ (own = true ∧ Ow σ sd b)) → H3 b = some o) → G H3
  yl : ∀ i H3 x H4, i < ds.length → G H3 → Y i H3 x H4 → Same H3 H4 ∧ ∀ M3, Same (mn M H2) (mn M3 H3) → Tr M3 H3 → Dm K M3 H4 x (at0 ds i)
def OkI (K : KT) (wi : TI) (f : SD → (Bool → List PyData → Bool) → Bool) : Prop := ∀ (so : Wr) (M : List Addr) (H : Hp) (σ : S) (sd : SD), St K so M H σ sd → ∀ k : Bool → List PyData → Bool, f sd k = true →
  ∀ R : It → Hp → Prop, (∀ J H2 G Y own ds, k own ds = true → Kq so H H2 → Wkd K so M H2 σ sd own ds J G Y → R J H2) → wi σ H R
section
variable {K : KT} {te ta tb tc : TE} {as bs : TA} {f g h : SD → (ER → Bool) → Bool} {fa ga : SD → (List ER → Bool) → Bool} {so : Wr} {M : List Addr} {H H0 H' : Hp} {σ : S} {sd : SD}
theorem Wkd.g1 {J : It} {G : Hp → Prop} {Y : Nat → Hp → V → Hp → Prop} {own : Bool} {ds : List PyData} (w : Wkd K so M H σ sd own ds J G Y) (H3 : Hp) (k : Kq so H H3) : G H3 := w.g0 H3 fun b o e n _ => k.kp b o n e
theorem Wkd.g2 {J : It} {G : Hp → Prop} {Y : Nat → Hp → V → Hp → Prop} {ds : List PyData} (w : Wkd K so M H σ sd false ds J G Y) (H3 : Hp) (k : Same (mn M H) H3) : G H3 := w.g0 H3 fun b o e n h => by
  rcases h with h | h
  · exact k b o (by rw [mn_out h]; exact e)
  · cases h.1
theorem mn_kq (hS : SrcO so M H) (k : Kq so H H') : Same (mn M H) H' := fun b o e => by
  obtain ⟨h1, h2⟩ := mn_some e
  exact k.kp b o (ns_out' hS h1) h2
theorem ns_of (hS : SrcO so M H) {b : Addr} (h : b ∉ M) : NS so b := ns_out' hS h
theorem mn_g0 (hS : SrcO so M H) {P : Addr → Prop} (z : ∀ b o, H b = some o → NS so b → (b ∉ M ∨ P b) → H' b = some o) : Same (mn M H) H' := fun b o e => by
  obtain ⟨h1, h2⟩ := mn_some e
  exact z b o h2 (ns_of hS h1) (.inl h1)
/-- a sequence, as it is walked -/
inductive Sq (K : PySem.W.Frag) (so : Wr) (M : List Addr) (H : Hp) (σ : S) (sd : SD) : V → Bool → List PyData → Prop
  | lst {a : Addr} {vs : List V} {ds : List PyData} : mn M H a = some (.lst vs) → Dms K M H vs ds → Sq K so M H σ sd (.ref a) false ds
  | tup {a : Addr} {vs : List V} {ds : List PyData} : SqT K (mn M H) a vs → Dms K M H vs ds → Sq K so M H σ sd (.ref a) false ds
  | own {a : Addr} {vs : List V} {ds : List PyData} : NS so a ∧ Ow σ sd a → H a = some (.lst vs) → Dms K M H vs ds → Sq K so M H σ sd (.ref a) true ds
def sqR (sd : SD) : ER → Option (Bool × List PyData)
  | .dat (.list ds) => some (false, ds)
  | .dat (.tuple ds) => some (false, ds)
  | .nw ds => some (false, ds)
  | .lc i => match gs sd i with
    | .ol ds => some (true, ds)
    | _ => none
  | _ => none
theorem Re.sq {v : V} {r : ER} {own : Bool} {ds : List PyData} (h : Re K so M H0 H σ sd v r) (s : St K so M H σ sd) (e : sqR sd r = some (own, ds)) : Sq K so M H σ sd v own ds := by
  cases r with
  | dat d =>
    have h : Da K (mn M H) v d := h
    cases d with
    | list xs =>
      cases e
      cases h with
      | lst h1 h2 => exact .lst h1 h2
    | tuple xs =>
      cases e
      cases h with
      | tup h1 h2 => exact .tup h1 h2
    | _ => cases e
  | nw xs =>
    cases e
    obtain ⟨a, vs, rfl, _, h3⟩ := h
    have h : Da K (mn M H) (.ref a) (.list ds) := h3.dm
    cases h with
    | lst h1 h2 => exact .lst h1 h2
  | nd xs => cases e
  | src => cases e
  | lc i =>
    have hs := s.sl i
    unfold sqR at e
    simp only at e
    split at e
    · rename_i xs hg
      cases e
      rw [hg] at hs
      obtain ⟨a, vs, h1, h2, h3, h4, h5⟩ := hs
      rw [h.1] at h1
      cases h1
      exact .own ⟨h3, i, by rw [hg]; rfl, h.1⟩ h4 h5
    · cases e
/-- what stays of its members -/
theorem dms_at {vs : List V} {ds : List PyData} (h : Dms K M H vs ds) {i : Nat} {x : V} (e : vs[i]? = some x) (hi : i < ds.length) {M3 : List Addr} {H3 : Hp} (z : Same (mn M H) (mn M3 H3)) : Dm K M3 H3 x (at0 ds i) := by
  obtain ⟨d, e5, e6⟩ := Das.getV h e
  rw [at0_get hi] at e5
  cases e5
  exact Da.same z _ _ e6
theorem Sq.walk {v : V} {own : Bool} {ds : List PyData} (h : Sq K so M H σ sd v own ds) (hS : SrcO so M H) {R : It → Hp → Prop} (q : ∀ J G Y, Wkd K so M H σ sd own ds J G Y → R J H) :
    ∃ a, v = .ref a ∧ (((∃ xs, SqL K H a xs) ∧ R (Itl K a) H) ∨ ((∃ xs, SqT K H a xs) ∧ R (Itt K a) H)) := by
  cases h with
  | @lst a vs _ h1 h2 =>
    refine ⟨a, rfl, .inl ⟨⟨vs, SqL.of (mn_some h1).2⟩, q _ _ _ ⟨by rw [← h2.length]; exact walk_list, fun H3 z => SqL.of (z _ _ (mn_some h1).2 (ns_of hS (mn_some h1).1) (.inl (mn_some h1).1)), ?_⟩⟩⟩
    rintro i H3 x H4 hi _ ⟨rfl, e⟩
    exact ⟨Same.refl _, fun M3 z _ => dms_at h2 e hi z⟩
  | @tup a vs _ h1 h2 =>
    refine ⟨a, rfl, .inr ⟨⟨vs, same_sqt mn_same h1⟩, q _ _ _ ⟨by rw [← h2.length]; exact walk_tup, fun H3 z => same_sqt (mn_g0 hS z) h1, ?_⟩⟩⟩
    rintro i H3 x H4 hi _ ⟨rfl, e⟩
    exact ⟨Same.refl _, fun M3 z _ => dms_at h2 e hi z⟩
  | @own a vs _ h0 h1 h2 =>
    refine ⟨a, rfl, .inl ⟨⟨vs, SqL.of h1⟩, q _ _ _ ⟨by rw [← h2.length]; exact walk_list, fun H3 z => SqL.of (z _ _ h1 h0.1 (.inr ⟨rfl, h0.2⟩)), ?_⟩⟩⟩
    rintro i H3 x H4 hi _ ⟨rfl, e⟩
    exact ⟨Same.refl _, fun M3 z _ => dms_at h2 e hi z⟩
theorem okI_any (ha : OkE K ta f) : OkI K (iAny K ta) (fun sd k => f sd fun x => ob (sqR sd x) fun p => k p.1 p.2) := by
  intro so M H σ sd s k hk R q
  refine ha so M H σ sd s _ hk _ fun v1 r1 H1 k1 q1 e1 => ?_
  have s1 := s.q q1
  obtain ⟨⟨own, ds⟩, hp, k1⟩ := ob_some k1
  exact (e1.sq s1 hp).walk s1.sr fun J G Y w => q J H1 G Y own ds k1 q1 w
/-! ranges -/
def rgL (a : Int) (n : Nat) : List PyData := (List.range n).map fun (i : Nat) => PyData.int (a + (i : Int))
theorem rgL_len (a : Int) (n : Nat) : (rgL a n).length = n := by unfold rgL; rw [List.length_map, List.length_range]
theorem rgL_at {a : Int} {n i : Nat} (h : i < n) : at0 (rgL a n) i = .int (a + (i : Int)) := by
  unfold at0 rgL
  rw [List.getD_eq_getElem?_getD, List.getElem?_map, List.getElem?_range h]
  rfl
def rgOk (n : Int) : Bool := decide (-1000000 ≤ n) && decide (n ≤ 1000000)
theorem rg_walk {a : Int} {n : Nat} : Wkd K so M H σ sd false (rgL a n) (Itr a n) (fun _ => True) (YFn fun i => .int (a + i)) := by
  refine ⟨by rw [rgL_len]; exact walk_range, fun _ _ => trivial, ?_⟩
  rintro i H3 x H4 hi _ ⟨rfl, rfl⟩
  rw [rgL_len] at hi
  refine ⟨Same.refl _, fun M3 z _ => ?_⟩
  rw [rgL_at hi]
  exact .int _
def rng1F (fa : SD → (List ER → Bool) → Bool) : SD → (Bool → List PyData → Bool) → Bool := fun sd k => fa sd fun rs => match rs with
  | [.dat (.int n)] => match rgOk n with
    | true => k false (rgL 0 n.toNat)
    | false => false
  | _ => false
theorem okI_rng1 (ha : OkA K as fa) : OkI K (iRng1 as) (rng1F fa) := by
  intro so M H σ sd s k hk R q
  refine ha so M H σ sd s _ hk _ fun vs rs H1 k1 q1 e1 => ?_
  split at k1
  · rename_i n
    cases e1 with
    | cons h1 h2 =>
      cases h2
      have h1 : Da K (mn M H1) _ (.int n) := h1
      split at k1
      · rename_i hz
        unfold rgOk at hz
        rw [Bool.and_eq_true, decide_eq_true_iff, decide_eq_true_iff] at hz
        refine ⟨n, by rw [h1.intV], by omega, by omega, q _ H1 _ _ false _ k1 q1 rg_walk⟩
      · cases k1
  · cases k1
def rng2F (fa : SD → (List ER → Bool) → Bool) : SD → (Bool → List PyData → Bool) → Bool := fun sd k => fa sd fun rs => match rs with
  | [.dat (.int m), .dat (.int n)] => match rgOk m && rgOk n with
    | true => k false (rgL m (n - m).toNat)
    | false => false
  | _ => false
theorem okI_rng2 (ha : OkA K as fa) : OkI K (iRng2 as) (rng2F fa) := by
  intro so M H σ sd s k hk R q
  refine ha so M H σ sd s _ hk _ fun vs rs H1 k1 q1 e1 => ?_
  split at k1
  · rename_i m n
    cases e1 with
    | cons h1 h2 =>
      cases h2 with
      | cons h2 h3 =>
        cases h3
        have h1 : Da K (mn M H1) _ (.int m) := h1
        have h2 : Da K (mn M H1) _ (.int n) := h2
        split at k1
        · rename_i hz
          unfold rgOk at hz
          rw [Bool.and_eq_true, Bool.and_eq_true, Bool.and_eq_true, decide_eq_true_iff, decide_eq_true_iff, decide_eq_true_iff, decide_eq_true_iff] at hz
          refine ⟨m, n, by rw [h1.intV, h2.intV], ⟨by omega, by omega, by omega, by omega⟩, q _ H1 _ _ false _ k1 q1 rg_walk⟩
        · cases k1
  · cases k1
/-! enumerate, zip -/
def enL : Nat → List PyData → List PyData
  | _, [] => []
  | n, d :: ds => .tuple [.int (n : Int), d] :: enL (n + 1) ds
theorem enL_len : ∀ (ds : List PyData) (n : Nat), (enL n ds).length = ds.length
  | [], _ => rfl
  | _ :: ds, n => by rw [enL, List.length_cons, List.length_cons, enL_len ds]
theorem enL_at : ∀ (ds : List PyData) (n i : Nat), i < ds.length → at0 (enL n ds) i = .tuple [.int ((n + i : Nat) : Int), at0 ds i]
  | [], _, _, h => absurd h (Nat.not_lt_zero _)
  | d :: ds, n, 0, _ => rfl
  | d :: ds, n, i + 1, h => by
    have := enL_at ds (n + 1) i (by simpa using h)
    show at0 (enL (n + 1) ds) i = _
    rw [this]
    have e : n + 1 + i = n + (i + 1) := by omega
    rw [e]
    rfl
theorem pair_ok {vs : List V} {ds : List PyData} (x y : V) (d e : PyData) {T : Addr} {M3 : List Addr} {H3 : Hp} (hT : H3 T = none) (t : Tr M3 H3) (h1 : Dm K M3 H3 x d) (h2 : Dm K M3 H3 y e) : Dm K M3 (upd H3 T (.tup [x, y])) (.ref T) (.tuple [d, e]) := dm_newT t hT (.cons h1 (.cons h2 .nil))
def iEnA (K : PySem.W.Frag) (ta : TA) : TI := fun σ H R => ta σ H fun vs H1 => ∃ a xs, vs = [.ref a] ∧ ((SqL K H1 a xs ∧ R (Ite K a) H1) ∨ (SqT K H1 a xs ∧ R (ItEt K a) H1))
theorem pi_enA {K : PySem.W.Frag} {X : Cx} {e : Expr} {ta : TA} {p pos tpos : Pos} {elts : List Expr} {kk : Nat} (hK : X.K = K) (hg : Gl X "enumerate") (hm : X.mg "enumerate" = none) (ha : PA X [e] ta)
    (hs : starEach [e] X.env = [(false, eval e X.env)] := by rfl) : PI X (.Tuple elts kk tpos) (.Call (.Name "enumerate" p) [e] [] pos) (iEnA K ta) := by
  subst hK
  constructor
  intro pins s σ H R I h
  refine Call_ (ld_blt I hg hm boot_enumerate (PyProof.Rows.callWith_type1 (thn (ha.run pos pins s σ H _ I h) ?_) hs rfl))
  rintro us s1 ⟨vs, H1, I1, r1, a, xs, rfl, hq⟩
  cases r1 with
  | cons r rr =>
    cases rr
    cases r
    have hle : ∀ b, b ∈ [s1.heap.objs.size + 1, s1.heap.objs.size] → FpOk X pins H1 b := fun b hb => by
      have hle : s1.heap.objs.size ≤ b := by
        rcases List.mem_cons.mp hb with z | z
        · rw [z]; exact Nat.le_add_right _ _
        · rw [List.mem_singleton.mp z]; exact Nat.le_refl _
      exact I1.fpOk hle (I1.hok.fresh hle)
    rcases hq with ⟨hq, q⟩ | ⟨hq, q⟩
    · obtain ⟨its, rv, p', hz⟩ := I1.list hq
      refine call_enumerate_list p'.isList fun h' he hit hsz hk => wpAny_pyIter_enum he ?_
      have I2 : Inv X pins σ H1 { s1 with heap := h' } := I1.kept (t' := s1.toks) hk
      exact ⟨s1.heap.objs.size + 1, [s1.heap.objs.size + 1, s1.heap.objs.size], _, _, H1, rfl, I2, turn_enum a (s1.heap.objs.size + 1) s1.heap.objs.size, ⟨⟨.none, he⟩, hit, Nat.succ_ne_self _⟩, hle, q⟩
    · obtain ⟨its, rv, p2, hz⟩ := I1.tuple hq
      refine call_enum_tup (show s1.heap.IsTuple a its.toArray from p2) fun h' he hit hsz hk => wpAny_pyIter_enum he ?_
      have I2 : Inv X pins σ H1 { s1 with heap := h' } := I1.kept (t' := s1.toks) hk
      exact ⟨s1.heap.objs.size + 1, [s1.heap.objs.size + 1, s1.heap.objs.size], _, _, H1, rfl, I2, turn_enumT a _ s1.heap.objs.size, ⟨⟨.none, he⟩, hit, Nat.succ_ne_self _⟩, hle, q⟩
theorem Sq.enum {v : V} {own : Bool} {ds : List PyData} (h : Sq K so M H σ sd v own ds) (hS : SrcO so M H) {R : It → Hp → Prop} (q : ∀ J G Y, Wkd K so M H σ sd own (enL 0 ds) J G Y → R J H) :
    ∃ a xs, v = .ref a ∧ ((SqL K H a xs ∧ R (Ite K a) H) ∨ (SqT K H a xs ∧ R (ItEt K a) H)) := by
  have yl : ∀ {vs : List V}, Dms K M H vs ds → ∀ i H3 x H4, i < (enL 0 ds).length → YPair (fun i => some (.int (i : Nat))) (fun i => vs[i]?) i H3 x H4 → Same H3 H4 ∧ ∀ M3, Same (mn M H) (mn M3 H3) → Tr M3 H3 → Dm K M3 H4 x (at0 (enL 0 ds) i) := by
    rintro vs h2 i H3 x H4 hi ⟨T, u, w, rfl, hT, rfl, e1, e2⟩
    rw [enL_len] at hi
    cases e1
    refine ⟨same_new hT, fun M3 z t => ?_⟩
    rw [enL_at ds 0 i hi, Nat.zero_add]
    exact pair_ok (vs := vs) (ds := ds) _ _ _ _ hT t (.int _) (dms_at h2 e2 hi z)
  cases h with
  | @lst a vs _ h1 h2 =>
    exact ⟨a, vs, rfl, .inl ⟨SqL.of (mn_some h1).2, q _ _ _ ⟨by rw [enL_len, ← h2.length]; exact walk_enum, fun H3 z => SqL.of (z _ _ (mn_some h1).2 (ns_of hS (mn_some h1).1) (.inl (mn_some h1).1)), fun i H3 x H4 hi _ y => yl h2 i H3 x H4 hi y⟩⟩⟩
  | @tup a vs _ h1 h2 =>
    exact ⟨a, vs, rfl, .inr ⟨same_sqt mn_same h1, q _ _ _ ⟨by rw [enL_len, ← h2.length]; exact walk_enumT, fun H3 z => same_sqt (mn_g0 hS z) h1, fun i H3 x H4 hi _ y => yl h2 i H3 x H4 hi y⟩⟩⟩
  | @own a vs _ h0 h1 h2 =>
    exact ⟨a, vs, rfl, .inl ⟨SqL.of h1, q _ _ _ ⟨by rw [enL_len, ← h2.length]; exact walk_enum, fun H3 z => SqL.of (z _ _ h1 h0.1 (.inr ⟨rfl, h0.2⟩)), fun i H3 x H4 hi _ y => yl h2 i H3 x H4 hi y⟩⟩⟩
def enF (fa : SD → (List ER → Bool) → Bool) : SD → (Bool → List PyData → Bool) → Bool := fun sd k => fa sd fun rs => match rs with
  | [r] => ob (sqR sd r) fun p => k p.1 (enL 0 p.2)
  | _ => false
theorem okI_en (ha : OkA K as fa) : OkI K (iEnA K as) (enF fa) := by
  intro so M H σ sd s k hk R q
  refine ha so M H σ sd s _ hk _ fun vs rs H1 k1 q1 e1 => ?_
  have s1 := s.q q1
  split at k1
  · rename_i r
    cases e1 with
    | cons h1 h2 =>
      cases h2
      obtain ⟨⟨own, ds⟩, hp, k1⟩ := ob_some k1
      obtain ⟨a, xs, rfl, h⟩ := (h1.sq s1 hp).enum s1.sr fun J G Y w => q J H1 G Y own _ k1 q1 w
      exact ⟨a, xs, rfl, h⟩
  · cases k1
def zpL : List PyData → List PyData → List PyData
  | d :: ds, e :: es => .tuple [d, e] :: zpL ds es
  | _, _ => []
theorem zpL_len : ∀ ds es : List PyData, (zpL ds es).length = min ds.length es.length
  | [], _ => by simp [zpL]
  | _ :: _, [] => by simp [zpL]
  | _ :: ds, _ :: es => by rw [zpL, List.length_cons, List.length_cons, List.length_cons, zpL_len ds es]; omega
theorem zpL_at : ∀ (ds es : List PyData) (i : Nat), i < ds.length → i < es.length → at0 (zpL ds es) i = .tuple [at0 ds i, at0 es i]
  | [], _, _, h, _ => absurd h (Nat.not_lt_zero _)
  | _ :: _, [], _, _, h => absurd h (Nat.not_lt_zero _)
  | d :: ds, e :: es, 0, _, _ => rfl
  | d :: ds, e :: es, i + 1, h, h2 => zpL_at ds es i (by simpa using h) (by simpa using h2)
theorem walk_zipT {a b : Addr} {xs ys : List V} {n : Nat} (hn : n = min xs.length ys.length) : Walk (ItzT K a b) n (fun H => SqT K H a xs ∧ SqT K H b ys) (YPair (fun i => xs[i]?) (fun i => ys[i]?)) := by
  subst hn
  refine ⟨fun i _ hi q => ?_, fun _ q => ⟨xs, ys, q.1, q.2, by omega⟩, fun i H v H' _ q y => ?_⟩
  · have h1 : i < xs.length := by omega
    have h2 : i < ys.length := by omega
    exact ⟨xs, ys, xs[i], ys[i], q.1, q.2, by simp [h1], by simp [h2]⟩
  · obtain ⟨T, x, z, h1, h2, h3, h4, h5⟩ := y
    exact ⟨T, x, z, h1, h2, h3, h4 xs q.1, h5 ys q.2⟩
/-- lists, looked at -/
def lsR (sd : SD) : ER → Option (Bool × List PyData)
  | .dat (.list ds) => some (false, ds)
  | .nw ds => some (false, ds)
  | .lc i => match gs sd i with
    | .ol ds => some (true, ds)
    | _ => none
  | _ => none
def tpR : ER → Option (List PyData)
  | .dat (.tuple ds) => some ds
  | _ => none
inductive Ls (K : PySem.W.Frag) (so : Wr) (M : List Addr) (H : Hp) (σ : S) (sd : SD) : V → Bool → List PyData → Prop
  | mk {a : Addr} {vs : List V} {own : Bool} {ds : List PyData} : H a = some (.lst vs) → Dms K M H vs ds → NS so a ∧ (a ∉ M ∨ (own = true ∧ Ow σ sd a)) → Ls K so M H σ sd (.ref a) own ds
theorem Re.ls {v : V} {r : ER} {own : Bool} {ds : List PyData} (h : Re K so M H0 H σ sd v r) (s : St K so M H σ sd) (e : lsR sd r = some (own, ds)) : Ls K so M H σ sd v own ds := by
  have hd : Da K (mn M H) v (.list ds) → own = false → Ls K so M H σ sd v own ds := fun h ho => by
    subst ho
    cases h with
    | lst h1 h2 => exact ⟨(mn_some h1).2, h2, ns_of s.sr (mn_some h1).1, .inl (mn_some h1).1⟩
  cases r with
  | dat d =>
    cases d with
    | list xs => cases e; exact hd h rfl
    | _ => cases e
  | nw xs => cases e; obtain ⟨a, vs, rfl, _, h3⟩ := h; exact hd h3.dm rfl
  | nd xs => cases e
  | src => cases e
  | lc i =>
    have hs := s.sl i
    unfold lsR at e
    simp only at e
    split at e
    · rename_i xs hg
      cases e
      rw [hg] at hs
      obtain ⟨a, vs, h1, h2, h3, h4, h5⟩ := hs
      rw [h.1] at h1
      cases h1
      exact ⟨h4, h5, h3, .inr ⟨rfl, i, by rw [hg]; rfl, h.1⟩⟩
    · cases e
def zpF (fa : SD → (List ER → Bool) → Bool) : SD → (Bool → List PyData → Bool) → Bool := fun sd k => fa sd fun rs => match rs with
  | [r, r2] => match lsR sd r, lsR sd r2 with
    | some p, some p2 => k (p.1 || p2.1) (zpL p.2 p2.2)
    | _, _ => match tpR r, tpR r2 with
      | some ds, some es => k false (zpL ds es)
      | _, _ => false
  | _ => false
theorem okI_zp (ha : OkA K as fa) : OkI K (iZipA K as) (zpF fa) := by
  intro so M H σ sd s k hk R q
  refine ha so M H σ sd s _ hk _ fun vs rs H1 k1 q1 e1 => ?_
  have s1 := s.q q1
  have yl : ∀ {vs ws : List V} {ds es : List PyData}, Dms K M H1 vs ds → Dms K M H1 ws es → ∀ i H3 x H4, i < (zpL ds es).length → YPair (fun i => vs[i]?) (fun i => ws[i]?) i H3 x H4 → Same H3 H4 ∧ ∀ M3, Same (mn M H1) (mn M3 H3) → Tr M3 H3 → Dm K M3 H4 x (at0 (zpL ds es) i) := by
    rintro vs ws ds es h2 h3 i H3 x H4 hi ⟨T, u, w, rfl, hT, rfl, e1, e2⟩
    rw [zpL_len] at hi
    refine ⟨same_new hT, fun M3 z t => ?_⟩
    rw [zpL_at ds es i (by omega) (by omega)]
    exact pair_ok (vs := vs) (ds := ds) _ _ _ _ hT t (dms_at h2 e1 (by omega) z) (dms_at h3 e2 (by omega) z)
  split at k1
  · rename_i r r2
    cases e1 with
    | cons h1 h2 =>
      cases h2 with
      | cons h2 h3 =>
        cases h3
        split at k1
        · rename_i p p2 hp hp2
          obtain ⟨o1, ds⟩ := p
          obtain ⟨o2, es⟩ := p2
          have l1 := h1.ls s1 hp
          have l2 := h2.ls s1 hp2
          cases l1 with
          | @mk a vs _ _ a1 a2 a3 =>
            cases l2 with
            | @mk b ws _ _ b1 b2 b3 =>
              refine ⟨a, b, vs, ws, rfl, .inl ⟨SqL.of a1, SqL.of b1, q _ H1 _ _ (o1 || o2) _ k1 q1 ⟨walk_zip (by rw [zpL_len, a2.length, b2.length]), fun H3 z => ⟨SqL.of (z _ _ a1 a3.1 (a3.2.imp id fun q => ⟨by rw [q.1]; rfl, q.2⟩)), SqL.of (z _ _ b1 b3.1 (b3.2.imp id fun q => ⟨by rw [q.1, Bool.or_true], q.2⟩))⟩, fun i H3 x H4 hi _ y => yl a2 b2 i H3 x H4 hi y⟩⟩⟩
        · split at k1
          · rename_i ds es hp hp2
            cases r with
            | dat d =>
              cases d with
              | tuple xs =>
                cases hp
                cases r2 with
                | dat d2 =>
                  cases d2 with
                  | tuple ys =>
                    cases hp2
                    have h1 : Da K (mn M H1) _ (.tuple ds) := h1
                    have h2 : Da K (mn M H1) _ (.tuple es) := h2
                    cases h1 with
                    | @tup a vs _ a1 a2 =>
                      cases h2 with
                      | @tup b ws _ b1 b2 =>
                        exact ⟨a, b, vs, ws, rfl, .inr ⟨same_sqt mn_same a1, same_sqt mn_same b1, q _ H1 _ _ false _ k1 q1 ⟨walk_zipT (by rw [zpL_len, a2.length, b2.length]), fun H3 z => ⟨same_sqt (mn_g0 s1.sr z) a1, same_sqt (mn_g0 s1.sr z) b1⟩, fun i H3 x H4 hi _ y => yl a2 b2 i H3 x H4 hi y⟩⟩⟩
                  | _ => cases hp2
                | _ => cases hp2
              | _ => cases hp
            | _ => cases hp
          · cases k1
  · cases k1
end
end Mp

/-! comprehensions -/
namespace Mp
open PySem PySem.Spec PyProof.Rows L2 Gd Dq
/-- nothing changed but the source and the list at D -/
structure KqD (so : Wr) (D : Addr) (H H' : Hp) : Prop where
  kp : ∀ b o, b ≠ D → NS so b → H b = some o → H' b = some o
  sr : SrH so H'
  dd : H' D ≠ none
def Ap (σ : S) (sd : SD) (D : Addr) : Prop := ∀ i, owns (gs sd i) = true → σ[i]? ≠ some (some (.ref D))
section
variable {K : KT} {so : Wr} {M : List Addr} {H H0 H1 H' : Hp} {σ σ2 : S} {sd sd2 : SD} {D : Addr}
theorem Ap.sub (a : Ap σ sd D) (h : Sb σ sd σ2 sd2) : Ap σ2 sd2 D := fun i o z => a i (h i o).1 (by rw [← (h i o).2]; exact z)
theorem KqD.trans (a : KqD so D H H') (b : KqD so D H' H1) : KqD so D H H1 := ⟨fun p o n n2 e => b.kp p o n n2 (a.kp p o n n2 e), b.sr, b.dd⟩
theorem Kq.d (k : Kq so H H') (n : NS so D) (h : H D ≠ none) : KqD so D H H' := ⟨fun b o _ n2 e => k.kp b o n2 e, k.sr, fun z => by
  cases q : H D with
  | none => exact h q
  | some o => rw [k.kp D o n q] at z; cases z⟩
theorem go_d (hS : SrcO so M H) (t : Tr M H) (hD : D ∈ M) (k : KqD so D H H') : Go M H M H' where
  sub := fun _ h => h
  new := fun _ h => .inl h
  le := fun b o hb e => k.kp b o (fun z => hb (z ▸ hD)) (ns_out' hS hb) e
  tr := fun b hb => by
    by_cases h : b ∈ wrM so
    · exact k.sr.nn h
    · by_cases hbd : b = D
      · rw [hbd]; exact k.dd
      · cases q : H b with
        | none => exact absurd q (t b hb)
        | some o => rw [k.kp b o hbd h q]; intro z; cases z
theorem St.d (s : St K so M H σ sd) (hD : D ∈ M) (a : Ap σ sd D) (k : KqD so D H H') : St K so M H' σ sd := by
  have g := go_d s.sr s.tr hD k
  refine ⟨fun i => ?_, s.sep, ⟨k.sr, s.sr.mem⟩, g.tr, s.len, s.tbs⟩
  have h := s.sl i
  have ai := a i
  cases hg : gs sd i with
  | un => trivial
  | dat d =>
    rw [hg] at h
    obtain ⟨v, e, hd⟩ := h
    exact ⟨v, e, dm_go hd g⟩
  | ol ds =>
    rw [hg] at h ai
    obtain ⟨p, vs, e, h1, h2, h3, h4⟩ := h
    exact ⟨p, vs, e, h1, h2, k.kp p _ (fun z => ai rfl (z ▸ e)) h2 h3, dms_go h4 g⟩
  | od ds =>
    rw [hg] at h ai
    obtain ⟨p, vs, e, h1, h2, h3, h4⟩ := h
    exact ⟨p, vs, e, h1, h2, k.kp p _ (fun z => ai rfl (z ▸ e)) h2 h3, kvs_go h4 g⟩
  | src =>
    rw [hg] at h
    exact h
/-- a new list to be changed -/
theorem St.addD (s : St K so M H σ sd) (hD : H D = none) {o : HO} : St K so (D :: M) (upd H D o) σ sd ∧ Ap σ sd D ∧ NS so D := by
  have g := go_mut (o := o) s.tr hD
  have nD : ∀ b ∈ M, b ≠ D := fun b hb z => s.tr b hb (z ▸ hD)
  refine ⟨⟨fun i => (s.sl i).go g fun b o hb _ e => by rw [upd_ne (nD b hb)]; exact e, s.sep, s.sr.cons (s.sr.hd.same (same_new hD)), g.tr, s.len, s.tbs⟩, fun i ho z => ?_, fun z => nD _ (s.sr.mem _ z) rfl⟩
  · have h := s.sl i
    cases hg : gs sd i with
    | un => rw [hg] at ho; cases ho
    | dat d => rw [hg] at ho; cases ho
    | src => rw [hg] at ho; cases ho
    | ol ds =>
      rw [hg] at h
      obtain ⟨p, vs, e, h1, _⟩ := h
      rw [z] at e
      cases e
      exact nD _ h1 rfl
    | od ds =>
      rw [hg] at h
      obtain ⟨p, vs, e, h1, _⟩ := h
      rw [z] at e
      cases e
      exact nD _ h1 rfl
/-- what a clause puts into the list at D -/
def OkN (K : KT) (T : Addr → S → Hp → (Hp → Prop) → Prop) (F : SD → (List PyData → Bool) → Bool) (B : Nat) : Prop :=
  ∀ (so : Wr) (M : List Addr) (H : Hp) (σ : S) (sd : SD) (D : Addr) (acc : List V), St K so (D :: M) H σ sd → NS so D → Ap σ sd D → H D = some (.lst acc) → acc.length + B ≤ sizeLine → ∀ k : List PyData → Bool, F sd k = true →
    ∀ Nx : Hp → Prop, (∀ es vs H', k es = true → KqD so D H H' → H' D = some (.lst (acc ++ vs)) → Dms K (D :: M) H' vs es → es.length ≤ B → Nx H') → T D σ H Nx
theorem okN_put {te : TE} {f : SD → (ER → Bool) → Bool} (ha : OkE K te f) : OkN K (tPut te) (fun sd k => f sd fun r => ob (sOf r) fun d => k [d]) 1 := by
  intro so M H σ sd D acc s nD ap hD hz k hk Nx q
  refine ha so (D :: M) H σ sd s _ hk _ fun v r H1 k1 q1 e1 => ?_
  obtain ⟨d, hd, k1⟩ := ob_some k1
  have s1 := s.q q1
  have hD1 : H1 D = some (.lst acc) := q1.kp _ _ nD hD
  refine ⟨acc, hD1, by omega, ?_⟩
  have g := go_set (o := .lst (acc ++ [v])) s1.tr (List.mem_cons_self (a := D) (l := M))
  have kd : KqD so D H (upd H1 D (.lst (acc ++ [v]))) := ⟨fun b o hb n e => by rw [upd_ne hb]; exact q1.kp b o n e, q1.sr.set nD, by rw [upd_same]; intro z; cases z⟩
  exact q [d] [v] _ k1 kd upd_same (.cons (dm_go (e1.dm hd) g) .nil) (Nat.le_refl _)
/-- the turns of a clause -/
def nestL (sdw : SD) (set : PyData → SD → Option SD) (c : SD → (Bool → Bool) → Bool) (F : SD → (List PyData → Bool) → Bool) : List PyData → (List PyData → Bool) → Bool
  | [], k => k []
  | x :: xs, k => ob (set x sdw) fun sd2 => c sd2 fun b => match b with
    | true => F sd2 fun es => nestL sdw set c F xs fun fs => k (es ++ fs)
    | false => nestL sdw set c F xs k
theorem at0_drop {ds : List PyData} {j : Nat} (h : j < ds.length) : ds.drop j = at0 ds j :: ds.drop (j + 1) := by
  have h2 := at0_get h
  rw [List.drop_eq_getElem_cons h]
  rw [List.getElem?_eq_getElem h] at h2
  rw [Option.some.inj h2]
section
variable {wi : TI} {tt : TT} {T : Addr → S → Hp → (Hp → Prop) → Prop} {fi : SD → (Bool → List PyData → Bool) → Bool} {ft : SD → (Bool → Bool) → Bool} {F : SD → (List PyData → Bool) → Bool} {B : Nat} {g : TG} {gv vs : List Nat} {set : PyData → SD → Option SD}
/-- the walk of a clause over ds, from (H1, acc) on -/
theorem nest_walk {J : It} {G : Hp → Prop} {Y : Nat → Hp → V → Hp → Prop} {own : Bool} {ds : List PyData} {Hw Hs : Hp} {M0 : List Addr} {acc : List V} {k : List PyData → Bool} {Qe : Hp → Prop}
    (hg : OkG K g gv set) (hv : ∀ i ∈ gv, i ∈ vs) (ht : OkT K tt ft) (hT : OkN K T F B)
    (w : Wkd K so M0 Hw σ sd own ds J G Y) (nD : NS so D) (hb : ∀ b o, NS so b → Hw b = some o → b ≠ D → Hs b = some o) (hwD : Hw D = none ∨ M0 = D :: M) (hM0 : M0 = M ∨ M0 = D :: M) (hM : SrcO so M0 Hw)
    (hGD : ∀ H3, KqD so D Hs H3 → G H3) (hSm : ∀ H3, KqD so D Hs H3 → Same (mn M0 Hw) (mn (D :: M) H3))
    (s : St K so (D :: M) Hs σ sd) (ap : Ap σ sd D) (hD : Hs D = some (.lst acc)) (hz : acc.length + ds.length * B ≤ sizeLine)
    (hk : nestL (wipeD sd vs) set ft F ds k = true)
    (q : ∀ es ws H', k es = true → KqD so D Hs H' → H' D = some (.lst (acc ++ ws)) → Dms K (D :: M) H' ws es → es.length ≤ ds.length * B → Qe H') :
    ∃ W : Nat → Nat → Hp → Prop, (∃ m, W 0 m Hs) ∧ ∀ j m H, W j m H →
      (J.stop j H ∧ Qe H) ∨ (J.go j H ∧ ∃ Ny : Hp → Prop, (∀ H', Ny H' → ∃ m', m' < m ∧ W (j + 1) m' H') ∧ ∀ x H', J.yld j H x H' → g x (L2.wipe σ vs) H' fun σ2 H2 => L2.wipe σ2 vs = L2.wipe σ vs ∧ tt σ2 H2 fun b H3 => if b = true then T D σ2 H3 Ny else Ny H3) := by
  have kd0 : KqD so D Hs Hs := ⟨fun _ _ _ _ e => e, s.sr.hd, by rw [hD]; intro z; cases z⟩
  refine ⟨fun j m H => m = ds.length - j ∧ j ≤ ds.length ∧ ∃ es ws, KqD so D Hs H ∧ H D = some (.lst (acc ++ ws)) ∧ Dms K (D :: M) H ws es ∧ es.length ≤ j * B ∧ nestL (wipeD sd vs) set ft F (ds.drop j) (fun fs => k (es ++ fs)) = true,
    ⟨ds.length, rfl, Nat.zero_le _, [], [], kd0, by rw [List.append_nil]; exact hD, .nil, Nat.zero_le _, hk⟩, ?_⟩
  rintro j m H ⟨rfl, hj, es, ws, kd, hDH, hws, hle, hn⟩
  have hG := hGD H kd
  by_cases hlt : j < ds.length
  · refine .inr ⟨w.wk.goes j H hlt hG, fun H' => ∃ es ws, KqD so D Hs H' ∧ H' D = some (.lst (acc ++ ws)) ∧ Dms K (D :: M) H' ws es ∧ es.length ≤ (j + 1) * B ∧ nestL (wipeD sd vs) set ft F (ds.drop (j + 1)) (fun fs => k (es ++ fs)) = true,
      fun H' ⟨es', ws', a1, a2, a3, a4, a5⟩ => ⟨ds.length - (j + 1), by omega, rfl, hlt, es', ws', a1, a2, a3, a4, a5⟩, fun x H4 y => ?_⟩
    have sH := s.d (List.mem_cons_self ..) ap kd
    obtain ⟨e4, d4⟩ := w.yl j H x H4 hlt hG (w.wk.yields j H x H4 hlt hG y)
    have dx := d4 (D :: M) (hSm H kd) sH.tr
    have q4 := sH.sr.same e4
    have s4 := sH.q q4
    have n0 : H D ≠ none := by rw [hDH]; intro z; cases z
    have kd4 := kd.trans (q4.d nD n0)
    have hD4 : H4 D = some (.lst (acc ++ ws)) := e4 _ _ hDH
    have ws4 := dms_go hws (sH.go q4)
    rw [at0_drop hlt] at hn
    unfold nestL at hn
    obtain ⟨sd2, hset, hn⟩ := ob_some hn
    refine hg so (D :: M) H4 (L2.wipe σ vs) (wipeD sd vs) sd2 x _ (s4.wipe vs) dx hset _ fun σ2 s2 b2 l2 o2 => ?_
    have hwp : L2.wipe σ2 vs = L2.wipe σ vs := by
      have h1 := wipe_eq (σ := L2.wipe σ vs) (vs := vs) l2 fun i hi => o2 i fun z => hi (hv i z)
      have h2 : L2.wipe (L2.wipe σ vs) vs = L2.wipe σ vs := by
        refine wipe_eq (wipe_length _ _) fun i hi => ?_
        exact wipe_out hi
      rw [h1, h2]
    refine ⟨hwp, ?_⟩
    have ap2 : Ap σ2 sd2 D := (ap.sub (sb_wipe s.len vs)).sub b2
    refine ht so (D :: M) H4 σ2 sd2 s2 _ hn _ fun b H5 k5 q5 => ?_
    have s5 := s2.q q5
    have n4 : H4 D ≠ none := by rw [hD4]; intro z; cases z
    have kd5 := kd4.trans (q5.d nD n4)
    have hD5 : H5 D = some (.lst (acc ++ ws)) := q5.kp _ _ nD hD4
    have ws5 := dms_go ws4 (s4.go q5)
    have hwl := ws5.length
    cases b with
    | false =>
      exact ⟨es, ws, kd5, hD5, ws5, by rw [Nat.add_mul]; omega, k5⟩
    | true =>
      have hjB : j * B + B ≤ ds.length * B := by
        rw [← Nat.succ_mul]
        exact Nat.mul_le_mul_right B hlt
      refine hT so M H5 σ2 sd2 D (acc ++ ws) s5 nD ap2 hD5 (by rw [List.length_append]; omega) _ k5 _ fun fs us H6 k6 kd6 hD6 us6 hl6 => ?_
      have g6 := go_d s5.sr s5.tr (List.mem_cons_self ..) kd6
      refine ⟨es ++ fs, ws ++ us, kd5.trans kd6, by rw [hD6, List.append_assoc], (dms_go ws5 g6).append us6, by rw [List.length_append, Nat.add_mul]; omega, ?_⟩
      simp only [List.append_assoc]
      exact k6
  · have e : j = ds.length := by omega
    subst e
    refine .inl ⟨w.wk.stops H hG, q es ws H ?_ kd hDH hws hle⟩
    rw [List.drop_length] at hn
    unfold nestL at hn
    have hn : k (es ++ []) = true := hn
    rw [List.append_nil] at hn
    exact hn
def nestF (vs : List Nat) (set : PyData → SD → Option SD) (fi : SD → (Bool → List PyData → Bool) → Bool) (ft : SD → (Bool → Bool) → Bool) (F : SD → (List PyData → Bool) → Bool) : SD → (List PyData → Bool) → Bool := fun sd k =>
  fi sd fun _ ds => match Nat.ble ds.length 400 with
    | true => nestL (wipeD sd vs) set ft F ds k
    | false => false
theorem okN_nest (hi : OkI K wi fi) (hg : OkG K g gv set) (hv : ∀ i ∈ gv, i ∈ vs) (ht : OkT K tt ft) (hT : OkN K T F B) :
    OkN K (fun D => tNest wi g tt vs (T D)) (nestF vs set fi ft F) (400 * B) := by
  intro so M H σ sd D acc s nD ap hD hz k hk Nx q
  refine hi so (D :: M) H σ sd s _ hk _ fun J H1 G Y own ds k1 q1 w => ?_
  split at k1
  · rename_i hle
    have hle := Nat.le_of_ble_eq_true hle
    have s1 := s.q q1
    have hD1 : H1 D = some (.lst acc) := q1.kp _ _ nD hD
    have n0 : H D ≠ none := by rw [hD]; intro z; cases z
    have hm := Nat.mul_le_mul_right B hle
    exact nest_walk hg hv ht hT w nD (fun b o n e _ => e) (.inr rfl) (.inr rfl) s1.sr (fun H3 kd => w.g0 H3 fun b o e n hb => kd.kp b o (fun z => by
      rcases hb with hb | hb
      · exact hb (z ▸ List.mem_cons_self ..)
      · obtain ⟨i, ho, e2⟩ := hb.2
        exact ap i ho (z ▸ e2)) n e) (fun H3 kd => (go_d s1.sr s1.tr (List.mem_cons_self ..) kd).mn) s1 ap hD1 (by omega) k1 fun es ws H' k2 kd h2 h3 h4 =>
      q es ws H' k2 ((q1.d nD n0).trans kd) h2 h3 (by omega)
  · cases k1
end
end
end Mp

/-! comprehensions as values; calls of defs -/
namespace Mp
open PySem PySem.Spec PyProof.Rows L2 Gd Dq
section
variable {K : KT} {so : Wr} {M : List Addr} {H H0 H1 H' : Hp} {σ σ2 : S} {sd sd2 : SD} {D : Addr}
section
variable {wi : TI} {tt : TT} {T : Addr → S → Hp → (Hp → Prop) → Prop} {fi : SD → (Bool → List PyData → Bool) → Bool} {ft : SD → (Bool → Bool) → Bool} {F : SD → (List PyData → Bool) → Bool} {B : Nat} {g : TG} {gv vs : List Nat} {set : PyData → SD → Option SD}
def lcF (B : Nat) (vs : List Nat) (set : PyData → SD → Option SD) (fi : SD → (Bool → List PyData → Bool) → Bool) (ft : SD → (Bool → Bool) → Bool) (F : SD → (List PyData → Bool) → Bool) : SD → (ER → Bool) → Bool := fun sd k =>
  fi sd fun _ ds => match Nat.ble (ds.length * B) 16000000 with
    | true => nestL (wipeD sd vs) set ft F ds fun es => k (.nw es)
    | false => false
theorem okE_lcT (hi : OkI K wi fi) (hg : OkG K g gv set) (hv : ∀ i ∈ gv, i ∈ vs) (ht : OkT K tt ft) (hT : OkN K T F B) :
    OkE K (tLcT wi g tt vs T) (lcF B vs set fi ft F) := by
  intro so M H σ sd s k hk Q q
  refine hi so M H σ sd s _ hk _ fun J H1 G Y own ds k1 q1 w => ?_
  split at k1
  · rename_i hle
    have hle := Nat.le_of_ble_eq_true hle
    intro D hD
    have s1 := s.q q1
    obtain ⟨s2, ap, nD⟩ := s1.addD (o := .lst []) hD
    have g2 := go_mut (o := .lst []) s1.tr hD
    exact nest_walk (M0 := M) (Hw := H1) hg hv ht hT w nD (fun b o n e z => by rw [upd_ne z]; exact e) (.inl hD) (.inl rfl) s1.sr
      (fun H3 kd => w.g0 H3 fun b o e n hb => by
        have hbD := ne_of_none e hD
        exact kd.kp b o hbD n (by rw [upd_ne hbD]; exact e))
      (fun H3 kd => (g2.trans (go_d s2.sr s2.tr (List.mem_cons_self ..) kd)).mn) s2 ap upd_same (by rw [sizeLine_eq]; show 0 + _ ≤ _; omega) k1 fun es ws H' k2 kd h2 h3 h4 => by
        have DM : D ∉ M := fun z => s1.tr D z hD
        refine q _ _ H' k2 (q1.trans ⟨fun b o n e => ?_, kd.sr⟩) ⟨D, ws, rfl, q1.free hD, by rw [List.nil_append] at h2; exact h2, DM, h3⟩
        have hbD := ne_of_none e hD
        exact kd.kp b o hbD n (by rw [upd_ne hbD]; exact e)
  · cases k1
end
/-! calls -/
mutual
def noL : PyData → Bool
  | .list _ => false
  | .dict _ => false
  | .tuple ds => noLs ds
  | .none => true
  | .bool _ => true
  | .int _ => true
  | .str _ => true
def noLs : List PyData → Bool
  | [] => true
  | d :: ds => noL d && noLs ds
end
def noLR : ER → Bool
  | .dat d => noL d
  | .nw ds => noLs ds
  | .nd kvs => kvs.all fun p => noL p.2
  | _ => false
def AR (K : PySem.W.Frag) (so : Wr) (M : List Addr) (H : Hp) (v : V) : SV → Prop
  | .dat d => Dm K M H v d
  | .src => ∃ s c, so.src = some (s, c) ∧ v = .ref s
  | _ => False
/-- what a def is worth: c its evaluation, n how many it takes -/
def spE (K : KT) (c : List SV → (ER → Bool) → Bool) (n : Nat) : Sp := fun vs H Q _ =>
  ∃ (so : Wr) (M : List Addr) (xs : List SV) (k : ER → Bool), (∀ P ∈ K.tb, P ∈ so.tb) ∧ Paired (AR K so M H) vs xs ∧ xs.length = n ∧ SrcO so M H ∧ Tr M H ∧ c xs k = true ∧
    ∀ v r H', k r = true → Kq so H H' → Re K so M H H' [] [] v r → Q v H'
theorem Paired.len {α β : Type} {R : α → β → Prop} : ∀ {xs : List α} {ys : List β}, Paired R xs ys → xs.length = ys.length
  | _, _, .nil => rfl
  | _, _, .cons _ t => by rw [List.length_cons, List.length_cons, Paired.len t]
theorem spE_len {c : List SV → (ER → Bool) → Bool} {n : Nat} : ∀ vs H Q E, spE K c n vs H Q E → vs.length = n := by
  rintro vs H Q E ⟨so, M, xs, k, _, h, hn, _⟩
  rw [Paired.len h, hn]
/-- an argument; whether it is owned here -/
def avR (sd : SD) : ER → Option (SV × Bool)
  | .dat d => some (.dat d, false)
  | .nw ds => some (.dat (.list ds), false)
  | .src => some (.src, false)
  | .lc i => match gs sd i with
    | .ol ds => some (.dat (.list ds), true)
    | _ => none
  | _ => none
def avs (sd : SD) : List ER → Option (List SV × Bool)
  | [] => some ([], false)
  | r :: rs => match avR sd r, avs sd rs with
    | some (x, o), some (xs, p) => some (x :: xs, o || p)
    | _, _ => none
theorem dm_sub {M2 : List Addr} {v : V} {d : PyData} (h : Dm K M H v d) (s : ∀ b ∈ M2, b ∈ M) : Dm K M2 H v d := Da.same (fun b o e => by
  obtain ⟨h1, h2⟩ := mn_some e
  rw [mn_out (fun z => h1 (s b z))]
  exact h2) _ _ h
theorem dms_sub {M2 : List Addr} {v : List V} {d : List PyData} (h : Dms K M H v d) (s : ∀ b ∈ M2, b ∈ M) : Dms K M2 H v d := Das.same (fun b o e => by
  obtain ⟨h1, h2⟩ := mn_some e
  rw [mn_out (fun z => h1 (s b z))]
  exact h2) _ _ h
/-- the arguments, where what is owned is let out of what may change -/
theorem args_ok (s : St K so M H σ sd) : ∀ {vs : List V} {rs : List ER} {xs : List SV} {o : Bool}, Rs K so M H0 H σ sd vs rs → avs sd rs = some (xs, o) →
    ∃ L : List Addr, (∀ a ∈ L, NS so a ∧ ∃ us, H a = some (.lst us)) ∧ (o = false → L = []) ∧ ∀ M2 : List Addr, (∀ b ∈ M2, b ∈ M ∧ b ∉ L) → Paired (AR K so M2 H) vs xs
  | _, [], xs, o, .nil, e => by
    cases e
    exact ⟨[], fun a h => absurd h (List.not_mem_nil), fun _ => rfl, fun _ _ => .nil⟩
  | v :: vs, r :: rs, xs, o, .cons h t, e => by
    unfold avs at e
    split at e
    · rename_i x o1 ys o2 h1 h2
      cases e
      obtain ⟨L, l1, l2, l3⟩ := args_ok s t h2
      have plain : ∀ {x : SV}, (∀ M2 : List Addr, (∀ b ∈ M2, b ∈ M) → AR K so M2 H v x) → ∃ L : List Addr, (∀ a ∈ L, NS so a ∧ ∃ us, H a = some (.lst us)) ∧ ((false || o2) = false → L = []) ∧ ∀ M2 : List Addr, (∀ b ∈ M2, b ∈ M ∧ b ∉ L) → Paired (AR K so M2 H) (v :: vs) (x :: ys) := fun hx =>
        ⟨L, l1, fun z => l2 (by simpa using z), fun M2 hM => .cons (hx M2 fun b hb => (hM b hb).1) (l3 M2 hM)⟩
      cases r with
      | dat d => cases h1; exact plain (x := .dat d) fun M2 hM => dm_sub (show Dm K M H v d from h) hM
      | nw ds => cases h1; exact plain (x := .dat (.list ds)) fun M2 hM => let ⟨a, us, e1, _, h3⟩ := h; dm_sub (e1 ▸ h3.dm) hM
      | nd kvs => cases h1
      | src => cases h1; exact plain (x := .src) fun M2 hM => h
      | lc i =>
        have hs := s.sl i
        unfold avR at h1
        simp only at h1
        split at h1
        · rename_i ds hg
          cases h1
          rw [hg] at hs
          obtain ⟨a, us, e1, e2, e3, e4, e5⟩ := hs
          rw [h.1] at e1
          cases e1
          refine ⟨a :: L, fun b hb => ?_, (fun z => by simp at z), fun M2 hM => .cons ?_ (l3 M2 fun b hb => ⟨(hM b hb).1, fun z => (hM b hb).2 (List.mem_cons_of_mem _ z)⟩)⟩
          · rcases List.mem_cons.mp hb with rfl | hb
            · exact ⟨e3, us, e4⟩
            · exact l1 b hb
          · show Dm K M2 H (.ref a) (.list ds)
            refine .lst (xs := us) ?_ (dms_sub e5 fun b hb => (hM b hb).1)
            rw [mn_out (fun z => (hM a z).2 (List.mem_cons_self ..))]
            exact e4
        · cases h1
    · cases e
/-- what has no list in it is none of these -/
theorem sqt_up {M2 : List Addr} {L : List Addr} {b : Addr} {xs : List V} (hL : ∀ a ∈ L, ∃ us, H a = some (.lst us)) (hM : ∀ b ∈ M, b ∈ L ∨ b ∈ M2) (h : SqT K (mn M2 H) b xs) : SqT K (mn M H) b xs := by
  have key : ∀ o, mn M2 H b = some o → (∀ us, o ≠ .lst us) → mn M H b = some o := fun o e n => by
    obtain ⟨h1, h2⟩ := mn_some e
    rw [mn_out (fun z => by
      rcases hM b z with q | q
      · obtain ⟨us, hu⟩ := hL b q
        rw [h2] at hu
        cases hu
        exact n us rfl
      · exact h1 q)]
    exact h2
  rcases h with (h | ⟨o, h⟩) | h
  · exact .inl (.inl (key _ h fun us z => by cases z))
  · exact .inl (.inr ⟨o, key _ h fun us z => by cases z⟩)
  · exact .inr h
mutual
theorem noL_up {M2 : List Addr} {L : List Addr} (hL : ∀ a ∈ L, ∃ us, H a = some (.lst us)) (hM : ∀ b ∈ M, b ∈ L ∨ b ∈ M2) : ∀ (d : PyData) (v : V), noL d = true → Dm K M2 H v d → Dm K M H v d
  | .none, _, _, h => by cases h; exact .non
  | .bool b, _, _, h => by cases h; exact .bl b
  | .int i, _, _, h => by cases h; exact .int i
  | .str x, _, _, h => by cases h; exact .str x
  | .list ds, _, e, _ => by unfold noL at e; cases e
  | .dict ds, _, e, _ => by unfold noL at e; cases e
  | .tuple ds, _, e, h => by
    unfold noL at e
    cases h with
    | tup h1 h2 => exact .tup (sqt_up hL hM h1) (noLs_up hL hM ds _ e h2)
theorem noLs_up {M2 : List Addr} {L : List Addr} (hL : ∀ a ∈ L, ∃ us, H a = some (.lst us)) (hM : ∀ b ∈ M, b ∈ L ∨ b ∈ M2) : ∀ (ds : List PyData) (vs : List V), noLs ds = true → Dms K M2 H vs ds → Dms K M H vs ds
  | [], _, _, h => by cases h; exact .nil
  | d :: ds, _, e, h => by
    unfold noLs at e
    rw [Bool.and_eq_true] at e
    cases h with
    | cons h1 h2 => exact .cons (noL_up hL hM d _ e.1 h1) (noLs_up hL hM ds _ e.2 h2)
end
theorem kvs_up {M2 : List Addr} {L : List Addr} (hL : ∀ a ∈ L, ∃ us, H a = some (.lst us)) (hM : ∀ b ∈ M, b ∈ L ∨ b ∈ M2) : ∀ {us : List (Key × V)} {kvs : List (Key × PyData)}, (kvs.all fun p => noL p.2) = true → Kvs K M2 H us kvs → Kvs K M H us kvs
  | _, _, _, .nil => .nil
  | _, _, e, .cons a b => by
    rw [List.all_cons, Bool.and_eq_true] at e
    exact .cons ⟨a.1, noL_up hL hM _ _ e.1 a.2⟩ (kvs_up hL hM e.2 b)
theorem Re.any {v : V} {r : ER} (h : Re K so M H0 H [] [] v r) : Re K so M H0 H σ sd v r := by
  cases r with
  | dat d => exact h
  | nw ds => exact h
  | nd kvs => exact h
  | src => exact h
  | lc i => exact absurd h.2 (by unfold gs; simp [owns])
def callF (c : List SV → (ER → Bool) → Bool) (n : Nat) (fa : SD → (List ER → Bool) → Bool) : SD → (ER → Bool) → Bool := fun sd k => fa sd fun rs => ob (avs sd rs) fun p => match Nat.beq p.1.length n with
  | true => match p.2 with
    | false => c p.1 k
    | true => c p.1 fun r => match noLR r with
      | true => k r
      | false => false
  | false => false
theorem okE_call {as : TA} {fa : SD → (List ER → Bool) → Bool} {c : List SV → (ER → Bool) → Bool} {n : Nat} {E : XK} (ha : OkA K as fa) : OkE K (tCall (spE K c n) [] E as) (callF c n fa) := by
  intro so M H σ sd s k hk Q q
  refine ha so M H σ sd s _ hk _ fun vs rs H1 k1 q1 e1 => ?_
  have s1 := s.q q1
  obtain ⟨⟨xs, o⟩, hp, k1⟩ := ob_some k1
  obtain ⟨L, l1, l2, l3⟩ := args_ok s1 e1 hp
  show spE K c n (vs ++ []) H1 Q E
  rw [List.append_nil]
  split at k1
  · rename_i hn0
    have hn : xs.length = n := Nat.eq_of_beq_eq_true hn0
    cases o with
    | false =>
      have hL := l2 rfl
      subst hL
      refine ⟨so, M, xs, k, s1.tbs, l3 M fun b hb => ⟨hb, List.not_mem_nil⟩, hn, s1.sr, s1.tr, k1, fun v r H2 k2 q2 e2 => ?_⟩
      exact q v r H2 k2 (q1.trans q2) ((e2.any).back q1)
    | true =>
      let M2 := M.filter fun b => !decide (b ∈ L)
      have hM2 : ∀ b ∈ M2, b ∈ M ∧ b ∉ L := fun b hb => by
        obtain ⟨h1, h2⟩ := List.mem_filter.mp hb
        exact ⟨h1, by simpa using h2⟩
      have hMs : ∀ b ∈ M, b ∈ L ∨ b ∈ M2 := fun b hb => by
        by_cases hl : b ∈ L
        · exact .inl hl
        · exact .inr (List.mem_filter.mpr ⟨hb, by simpa using hl⟩)
      have sr2 : SrcO so M2 H1 := ⟨s1.sr.hd, fun b hb => List.mem_filter.mpr ⟨s1.sr.mem b hb, by
        simp only [Bool.not_eq_true', decide_eq_false_iff_not]
        exact fun hl => (l1 _ hl).1 hb⟩⟩
      refine ⟨so, M2, xs, _, s1.tbs, l3 M2 hM2, hn, sr2, fun b hb => s1.tr b (hM2 b hb).1, k1, fun v r H2 k2 q2 e2 => ?_⟩
      split at k2
      · rename_i hnl
        have hL2 : ∀ a ∈ L, ∃ us, H2 a = some (.lst us) := fun a ha => by
          obtain ⟨n1, us, hu⟩ := l1 a ha
          exact ⟨us, q2.kp a _ n1 hu⟩
        refine q v r H2 k2 (q1.trans q2) ?_
        cases r with
        | dat d => exact noL_up hL2 hMs d v hnl e2
        | nw ds =>
          obtain ⟨a, us, rfl, h1, h3⟩ := e2
          have hnM : a ∉ M := fun z => s1.tr a z h1
          refine ⟨a, us, rfl, q1.free h1, h3.at_, hnM, noLs_up (M2 := a :: M2) hL2 (fun b hb => ?_) ds us hnl h3.el⟩
          rcases List.mem_cons.mp hb with rfl | hb
          · exact .inr (List.mem_cons_self ..)
          · exact (hMs b hb).imp id fun z => List.mem_cons_of_mem _ z
        | nd kvs =>
          obtain ⟨a, us, rfl, h1, h2, h4, h5⟩ := e2
          refine ⟨a, us, rfl, q1.free h1, fun z => s1.tr a z h1, h4, kvs_up (M2 := a :: M2) hL2 (fun b hb => ?_) hnl h5⟩
          rcases List.mem_cons.mp hb with rfl | hb
          · exact .inr (List.mem_cons_self ..)
          · exact (hMs b hb).imp id fun z => List.mem_cons_of_mem _ z
        | lc i => exact absurd hnl (by simp [noLR])
        | src => exact absurd hnl (by simp [noLR])
      · cases k2
  · cases k1
end
end Mp

/-! statements -/
namespace Mp
open PySem PySem.Spec PyProof.Rows L2 Gd Dq
/-- within a def that began with the heap H0, B being what may change around it -/
structure Fr (K : KT) (so : Wr) (H0 : Hp) (B M : List Addr) (H : Hp) (σ : S) (sd : SD) : Prop where
  st : St K so M H σ sd
  sub : ∀ b ∈ B, b ∈ M
  tb : Tr B H0
  kq : Kq so H0 H
  own : ∀ i a, owns (gs sd i) = true → σ[i]? = some (some (.ref a)) → H0 a = none
structure EK where
  nx : SD → Bool
  rt : ER → Bool
  bk : SD → Bool
  ct : SD → Bool
def OkS (K : KT) (ts : TS) (f : SD → EK → Bool) : Prop := ∀ (so : Wr) (H0 : Hp) (B M : List Addr) (H : Hp) (σ : S) (sd : SD), Fr K so H0 B M H σ sd → ∀ E : EK, f sd E = true → ∀ D : Ends,
  (∀ M' H' σ' sd', E.nx sd' = true → Fr K so H0 B M' H' σ' sd' → Same (mn M H) (mn M' H') → D.nx σ' H') →
  (∀ v r H', E.rt r = true → Kq so H0 H' → Re K so B H0 H' [] [] v r → D.rt v H') →
  (∀ M' H' σ' sd', E.bk sd' = true → Fr K so H0 B M' H' σ' sd' → Same (mn M H) (mn M' H') → D.bk σ' H') →
  (∀ M' H' σ' sd', E.ct sd' = true → Fr K so H0 B M' H' σ' sd' → Same (mn M H) (mn M' H') → D.ct σ' H') → ts D σ H
section
variable {K : KT} {so : Wr} {B M : List Addr} {H H0 H1 H' : Hp} {σ σ2 : S} {sd sd2 : SD} {te : TE} {ta : TA} {tt : TT} {f g : SD → (ER → Bool) → Bool} {fa : SD → (List ER → Bool) → Bool} {ft : SD → (Bool → Bool) → Bool}
theorem Fr.q (F : Fr K so H0 B M H σ sd) (k : Kq so H H') : Fr K so H0 B M H' σ sd := ⟨F.st.q k, F.sub, F.tb, F.kq.trans k, F.own⟩
/-- what a slot holds of a result -/
def svOf : ER → Option SV
  | .dat d => some (.dat d)
  | .nw ds => some (.ol ds)
  | .nd kvs => some (.od kvs)
  | .src => some .src
  | .lc _ => none
theorem set_slot {i : Nat} {v : V} {x : SV} (s : St K so M H σ sd) (hx : Sl K so M H (some (some v)) x) (hs : owns x = true → ∀ j a, j ≠ i → owns (gs sd j) = true → σ[j]? = some (some (.ref a)) → v ≠ .ref a) : St K so M H (σ.set i (some v)) (sd.set i x) := by
  by_cases hi : i < sd.length
  · have hi2 : i < σ.length := by rw [← s.len]; exact hi
    refine ⟨fun j => ?_, fun j l a hjl h1 h2 e1 e2 => ?_, s.sr, s.tr, by rw [List.length_set, List.length_set, s.len], s.tbs⟩
    · by_cases hj : j = i
      · subst hj
        rw [gs_set hi, List.getElem?_set_self hi2]
        exact hx
      · rw [gs_set_ne hj, List.getElem?_set_ne (Ne.symm hj)]
        exact s.sl j
    · by_cases hj : j = i
      · subst hj
        have hl : l ≠ j := Ne.symm hjl
        rw [gs_set hi] at h1
        rw [gs_set_ne hl] at h2
        rw [List.getElem?_set_self hi2] at e1
        rw [List.getElem?_set_ne hjl] at e2
        cases e1
        exact hs h1 l a hl h2 e2 rfl
      · by_cases hl : l = i
        · subst hl
          rw [gs_set hi] at h2
          rw [gs_set_ne hj] at h1
          rw [List.getElem?_set_self hi2] at e2
          rw [List.getElem?_set_ne (Ne.symm hj)] at e1
          cases e2
          exact hs h2 j a hj h1 e1 rfl
        · rw [gs_set_ne hj] at h1
          rw [gs_set_ne hl] at h2
          rw [List.getElem?_set_ne (Ne.symm hj)] at e1
          rw [List.getElem?_set_ne (Ne.symm hl)] at e2
          exact s.sep j l a hjl h1 h2 e1 e2
  · rw [set_out hi, set_out (by rw [← s.len]; exact hi)]
    exact s
/-- a result given to a slot -/
theorem Fr.store {i : Nat} {v : V} {r : ER} {x : SV} (F : Fr K so H0 B M H σ sd) (k : Kq so H H') (e : Re K so M H H' σ sd v r) (hx : svOf r = some x) :
    ∃ M', Fr K so H0 B M' H' (σ.set i (some v)) (sd.set i x) ∧ Same (mn M H) (mn M' H') := by
  have F' := F.q k
  have sm0 := (F.st.go k).mn
  have keepOwn : ∀ {x : SV} {a : Addr}, (v = .ref a → H0 a = none) → ∀ j b, owns (gs (sd.set i x) j) = true → (σ.set i (some v))[j]? = some (some (.ref b)) → (∀ b, v = .ref b → b = a) → H0 b = none := fun {x a} hv j b ho hb hva => by
    by_cases hi : i < sd.length
    · by_cases hj : j = i
      · subst hj
        rw [List.getElem?_set_self (by rw [← F.st.len]; exact hi)] at hb
        cases hb
        have := hva b rfl
        subst this
        exact hv rfl
      · rw [gs_set_ne hj] at ho
        rw [List.getElem?_set_ne (Ne.symm hj)] at hb
        exact F.own j b ho hb
    · rw [set_out hi] at ho
      rw [set_out (by rw [← F.st.len]; exact hi)] at hb
      exact F.own j b ho hb
  cases r with
  | dat d =>
    cases hx
    refine ⟨M, ⟨F'.st.set e, F.sub, F.tb, F'.kq, fun j b ho hb => ?_⟩, sm0⟩
    obtain ⟨h1, h2⟩ := sb_set (i := i) (x := some v) F.st.len (rfl : owns (.dat d) = false) j ho
    rw [h2] at hb
    exact F.own j b h1 hb
  | src =>
    cases hx
    obtain ⟨s, c, hso, rfl⟩ := e
    refine ⟨M, ⟨set_slot F'.st ⟨s, c, hso, rfl⟩ (fun z => by cases z), F.sub, F.tb, F'.kq, fun j b ho hb => ?_⟩, sm0⟩
    obtain ⟨h1, h2⟩ := sb_set (i := i) (x := some (.ref s)) F.st.len (rfl : owns .src = false) j ho
    rw [h2] at hb
    exact F.own j b h1 hb
  | nw ds =>
    cases hx
    obtain ⟨a, vs, rfl, hn, hw⟩ := e
    have aM : a ∉ M := hw.out
    have hH0 : H0 a = none := F.kq.free hn
    have gg : Go M H (a :: M) H' := ⟨fun b hb => List.mem_cons_of_mem _ hb, fun b hb => by
      rcases List.mem_cons.mp hb with rfl | hb
      · exact .inr hn
      · exact .inl hb, fun b o hb eb => (F.st.go k).le b o (fun z => hb (List.mem_cons_of_mem _ z)) eb, fun b hb => by
      rcases List.mem_cons.mp hb with rfl | hb
      · rw [hw.at_]; intro z; cases z
      · exact F'.st.tr b hb⟩
    have s2 : St K so (a :: M) H' σ sd := ⟨fun j => (F.st.sl j).go gg fun b o hb n eb => k.kp b o n eb, F.st.sep, F'.st.sr.cons F'.st.sr.hd, gg.tr, F.st.len, F.st.tbs⟩
    refine ⟨a :: M, ⟨set_slot s2 ⟨a, vs, rfl, List.mem_cons_self .., ns_out F.st.sr aM, hw.at_, hw.el⟩ (fun _ j b hj ho hb z => ?_), fun b hb => List.mem_cons_of_mem _ (F.sub b hb), F.tb, F'.kq, fun j b ho hb => keepOwn (a := a) (fun _ => hH0) j b ho hb fun b z => by cases z; rfl⟩, gg.mn⟩
    cases z
    have h := F.st.sl j
    cases hg : gs sd j with
    | un => rw [hg] at ho; cases ho
    | dat d => rw [hg] at ho; cases ho
    | src => rw [hg] at ho; cases ho
    | ol ds =>
      rw [hg] at h
      obtain ⟨p, us, e1, h1, _⟩ := h
      rw [hb] at e1
      cases e1
      exact aM h1
    | od ds =>
      rw [hg] at h
      obtain ⟨p, us, e1, h1, _⟩ := h
      rw [hb] at e1
      cases e1
      exact aM h1
  | nd kvs =>
    cases hx
    obtain ⟨a, vs, rfl, hn, aM, h4, h5⟩ := e
    have hH0 : H0 a = none := F.kq.free hn
    have gg : Go M H (a :: M) H' := ⟨fun b hb => List.mem_cons_of_mem _ hb, fun b hb => by
      rcases List.mem_cons.mp hb with rfl | hb
      · exact .inr hn
      · exact .inl hb, fun b o hb eb => (F.st.go k).le b o (fun z => hb (List.mem_cons_of_mem _ z)) eb, fun b hb => by
      rcases List.mem_cons.mp hb with rfl | hb
      · rw [h4]; intro z; cases z
      · exact F'.st.tr b hb⟩
    have s2 : St K so (a :: M) H' σ sd := ⟨fun j => (F.st.sl j).go gg fun b o hb n eb => k.kp b o n eb, F.st.sep, F'.st.sr.cons F'.st.sr.hd, gg.tr, F.st.len, F.st.tbs⟩
    refine ⟨a :: M, ⟨set_slot s2 ⟨a, vs, rfl, List.mem_cons_self .., ns_out F.st.sr aM, h4, h5⟩ (fun _ j b hj ho hb z => ?_), fun b hb => List.mem_cons_of_mem _ (F.sub b hb), F.tb, F'.kq, fun j b ho hb => keepOwn (a := a) (fun _ => hH0) j b ho hb fun b z => by cases z; rfl⟩, gg.mn⟩
    cases z
    have h := F.st.sl j
    cases hg : gs sd j with
    | un => rw [hg] at ho; cases ho
    | dat d => rw [hg] at ho; cases ho
    | src => rw [hg] at ho; cases ho
    | ol ds =>
      rw [hg] at h
      obtain ⟨p, us, e1, h1, _⟩ := h
      rw [hb] at e1
      cases e1
      exact aM h1
    | od ds =>
      rw [hg] at h
      obtain ⟨p, us, e1, h1, _⟩ := h
      rw [hb] at e1
      cases e1
      exact aM h1
  | lc j => cases hx
/-! what was owned is data from now on -/
def frz1 (sd : SD) (i : Nat) : SD := match gs sd i with
  | .ol ds => sd.set i (.dat (.list ds))
  | .od _ => sd.set i .un
  | _ => sd
def frz (sd : SD) : List Nat → SD
  | [] => sd
  | i :: is => frz (frz1 sd i) is
theorem Fr.drop {i : Nat} {x : SV} (F : Fr K so H0 B M H σ sd) (ho : owns (gs sd i) = true) (hx : ∀ a, σ[i]? = some (some (.ref a)) → ∀ M', (∀ b ∈ M', b ∈ M) → a ∉ M' → Sl K so M' H (some (some (.ref a))) x) (hn : owns x = false) : ∃ M', Fr K so H0 B M' H σ (sd.set i x) ∧ Same (mn M H) (mn M' H) := by
  have h := F.st.sl i
  have key : ∃ a, σ[i]? = some (some (.ref a)) ∧ NS so a := by
    cases hg : gs sd i with
    | un => rw [hg] at ho; cases ho
    | dat d => rw [hg] at ho; cases ho
    | src => rw [hg] at ho; cases ho
    | ol ds =>
      rw [hg] at h
      obtain ⟨p, us, e1, h1, h2, _⟩ := h
      exact ⟨p, e1, h2⟩
    | od ds =>
      rw [hg] at h
      obtain ⟨p, us, e1, h1, h2, _⟩ := h
      exact ⟨p, e1, h2⟩
  obtain ⟨a, ea, na⟩ := key
  have hi2 : i < σ.length := (List.getElem?_eq_some_iff.mp ea).1
  have hi : i < sd.length := by rw [F.st.len]; exact hi2
  let M' := M.filter fun b => !decide (b = a)
  have m1 : ∀ b ∈ M', b ∈ M := fun b hb => (List.mem_filter.mp hb).1
  have m2 : a ∉ M' := fun hb => by
    have := (List.mem_filter.mp hb).2
    simp at this
  have m3 : ∀ b ∈ M, b ≠ a → b ∈ M' := fun b hb hne => List.mem_filter.mpr ⟨hb, by simpa using hne⟩
  have smM : Same (mn M H) (mn M' H) := fun b o e => by
    obtain ⟨h1, h2⟩ := mn_some e
    rw [mn_out (fun z => h1 (m1 b z))]
    exact h2
  refine ⟨M', ⟨⟨fun j => ?_, fun j l b hjl h1 h2 e1 e2 => ?_, ⟨F.st.sr.hd, fun b hb => m3 b (F.st.sr.mem b hb) fun z => na (z ▸ hb)⟩, fun b hb => F.st.tr b (m1 b hb), by rw [List.length_set]; exact F.st.len, F.st.tbs⟩, fun b hb => m3 b (F.sub b hb) fun z => ?_, F.tb, F.kq, fun j b h1 e1 => ?_⟩, smM⟩
  · by_cases hj : j = i
    · subst hj
      rw [gs_set hi, ea]
      exact hx a ea M' m1 m2
    · rw [gs_set_ne hj]
      have hs := F.st.sl j
      cases hg : gs sd j with
      | un => trivial
      | dat d =>
        rw [hg] at hs
        obtain ⟨v, e, hd⟩ := hs
        exact ⟨v, e, dm_sub hd m1⟩
      | ol ds =>
        rw [hg] at hs
        obtain ⟨p, us, e, q1, q2, q3, q4⟩ := hs
        refine ⟨p, us, e, m3 p q1 fun z => ?_, q2, q3, dms_sub q4 m1⟩
        exact F.st.sep j i p hj (by rw [hg]; rfl) ho e (z ▸ ea)
      | od ds =>
        rw [hg] at hs
        obtain ⟨p, us, e, q1, q2, q3, q4⟩ := hs
        refine ⟨p, us, e, m3 p q1 fun z => ?_, q2, q3, Paired.mapP q4 fun _ _ z => ⟨z.1, dm_sub z.2 m1⟩⟩
        exact F.st.sep j i p hj (by rw [hg]; rfl) ho e (z ▸ ea)
      | src =>
        rw [hg] at hs
        exact hs
  · have hj : j ≠ i := fun z => by subst z; rw [gs_set hi, hn] at h1; cases h1
    have hl : l ≠ i := fun z => by subst z; rw [gs_set hi, hn] at h2; cases h2
    rw [gs_set_ne hj] at h1
    rw [gs_set_ne hl] at h2
    exact F.st.sep j l b hjl h1 h2 e1 e2
  · exact F.tb b hb (z ▸ F.own i a ho ea)
  · have hj : j ≠ i := fun z => by subst z; rw [gs_set hi, hn] at h1; cases h1
    rw [gs_set_ne hj] at h1
    exact F.own j b h1 e1
theorem Fr.frz1 (F : Fr K so H0 B M H σ sd) (i : Nat) : ∃ M', Fr K so H0 B M' H σ (frz1 sd i) ∧ Same (mn M H) (mn M' H) := by
  unfold Mp.frz1
  split
  · rename_i ds hg
    refine F.drop (by rw [hg]; rfl) (fun a ea M' m1 m2 => ?_) rfl
    have h := F.st.sl i
    rw [hg] at h
    obtain ⟨p, us, e1, q1, q2, q3, q4⟩ := h
    rw [ea] at e1
    cases e1
    refine ⟨_, rfl, .lst (xs := us) ?_ (dms_sub q4 m1)⟩
    rw [mn_out m2]
    exact q3
  · rename_i ds hg
    exact F.drop (by rw [hg]; rfl) (fun a ea M' m1 m2 => trivial) rfl
  · exact ⟨M, F, Same.refl _⟩
theorem Fr.frz : ∀ (is : List Nat) {M : List Addr} {sd : SD}, Fr K so H0 B M H σ sd → ∃ M', Fr K so H0 B M' H σ (frz sd is) ∧ Same (mn M H) (mn M' H)
  | [], M, sd, F => ⟨M, F, Same.refl _⟩
  | i :: is, M, sd, F => by
    obtain ⟨M1, F1, e1⟩ := F.frz1 i
    obtain ⟨M2, F2, e2⟩ := Fr.frz is F1
    exact ⟨M2, F2, e1.trans e2⟩
/-! the statements -/
theorem okS_next : OkS K tNext (fun sd E => E.nx sd) := by
  intro so H0 B M H σ sd F E hk D n r b c
  exact n M H σ sd hk F (Same.refl _)
theorem okS_break : OkS K tBreak (fun sd E => E.bk sd) := by
  intro so H0 B M H σ sd F E hk D n r b c
  exact b M H σ sd hk F (Same.refl _)
theorem okS_cont : OkS K tCont (fun sd E => E.ct sd) := by
  intro so H0 B M H σ sd F E hk D n r b c
  exact c M H σ sd hk F (Same.refl _)
theorem okS_seq {t u : TS} {p q : SD → EK → Bool} (ht : OkS K t p) (hu : OkS K u q) : OkS K (tSeq t u) (fun sd E => p sd { E with nx := fun sd2 => q sd2 E }) := by
  intro so H0 B M H σ sd F E hk D n r b c
  refine ht so H0 B M H σ sd F _ hk _ (fun M' H' σ' sd' k' F' e => ?_) r b c
  exact hu so H0 B M' H' σ' sd' F' E k' D (fun M2 H2 σ2 sd2 k2 F2 e2 => n M2 H2 σ2 sd2 k2 F2 (e.trans e2)) r (fun M2 H2 σ2 sd2 k2 F2 e2 => b M2 H2 σ2 sd2 k2 F2 (e.trans e2)) (fun M2 H2 σ2 sd2 k2 F2 e2 => c M2 H2 σ2 sd2 k2 F2 (e.trans e2))
/-- ahead of a statement: what is kept elsewhere is data from now on -/
theorem okS_frz {t : TS} {p : SD → EK → Bool} (is : List Nat) (ht : OkS K t p) : OkS K t (fun sd E => p (frz sd is) E) := by
  intro so H0 B M H σ sd F E hk D n r b c
  obtain ⟨M', F', e⟩ := F.frz is
  exact ht so H0 B M' H σ _ F' E hk D (fun M2 H2 σ2 sd2 k2 F2 e2 => n M2 H2 σ2 sd2 k2 F2 (e.trans e2)) r (fun M2 H2 σ2 sd2 k2 F2 e2 => b M2 H2 σ2 sd2 k2 F2 (e.trans e2)) (fun M2 H2 σ2 sd2 k2 F2 e2 => c M2 H2 σ2 sd2 k2 F2 (e.trans e2))
theorem okS_asg (i : Nat) (he : OkE K te f) : OkS K (tAsg te (gName i)) (fun sd E => f sd fun r => ob (svOf r) fun x => E.nx (sd.set i x)) := by
  intro so H0 B M H σ sd F E hk D n r b c
  refine he so M H σ sd F.st _ hk _ fun v r1 H1 k1 q1 e1 => ?_
  obtain ⟨x, hx, k1⟩ := ob_some k1
  obtain ⟨M', F', e⟩ := F.store (i := i) q1 e1 hx
  exact n M' H1 _ _ k1 F' e
theorem okS_unp (g : GT) (he : OkE K te f) : OkS K (tAsg te (tG K g)) (fun sd E => f sd fun r => ob (sOf r) fun d => ob (setG g d sd) E.nx) := by
  intro so H0 B M H σ sd F E hk D n r b c
  refine he so M H σ sd F.st _ hk _ fun v r1 H1 k1 q1 e1 => ?_
  obtain ⟨d, hd, k1⟩ := ob_some k1
  obtain ⟨sd2, hs, k1⟩ := ob_some k1
  have F1 := F.q q1
  refine okG K g so M H1 σ sd sd2 v d F1.st (e1.dm hd) hs _ fun σ2 s2 b2 l2 o2 => ?_
  exact n M H1 σ2 sd2 k1 ⟨s2, F1.sub, F1.tb, F1.kq, fun j a ho ha => F1.own j a (b2 j ho).1 (by rw [← (b2 j ho).2]; exact ha)⟩ (F.st.go q1).mn
theorem okS_par (i j : Nat) (ha : OkA K ta fa) : OkS K (tPar i j ta) (fun sd E => fa sd fun rs => match rs with
    | [r1, r2] => ob (sOf r1) fun d1 => ob (sOf r2) fun d2 => E.nx ((sd.set i (.dat d1)).set j (.dat d2))
    | _ => false) := by
  intro so H0 B M H σ sd F E hk D n r b c
  refine ha so M H σ sd F.st _ hk _ fun vs rs H1 k1 q1 e1 => ?_
  split at k1
  · rename_i r1 r2
    cases e1 with
    | @cons v1 _ _ _ h1 h2 =>
      cases h2 with
      | @cons v2 _ _ _ h2 h3 =>
        cases h3
        obtain ⟨d1, hd1, k1⟩ := ob_some k1
        obtain ⟨d2, hd2, k1⟩ := ob_some k1
        have F1 := F.q q1
        have s2 := (F1.st.set (i := i) (h1.dm hd1)).set (i := j) (h2.dm hd2)
        have sb := (sb_set (σ := σ) (i := i) (x := some v1) F.st.len (rfl : owns (.dat d1) = false)).trans (sb_set (i := j) (x := some v2) (by rw [List.length_set, List.length_set, F.st.len]) (rfl : owns (.dat d2) = false))
        exact ⟨v1, v2, rfl, n M H1 _ _ k1 ⟨s2, F1.sub, F1.tb, F1.kq, fun l a ho ha => F1.own l a (sb l ho).1 (by rw [← (sb l ho).2]; exact ha)⟩ (F.st.go q1).mn⟩
  · cases k1
theorem okS_par3 (i j l : Nat) (ha : OkA K ta fa) : OkS K (tPar3 i j l ta) (fun sd E => fa sd fun rs => match rs with
    | [r1, r2, r3] => ob (sOf r1) fun d1 => ob (sOf r2) fun d2 => ob (sOf r3) fun d3 => E.nx (((sd.set i (.dat d1)).set j (.dat d2)).set l (.dat d3))
    | _ => false) := by
  intro so H0 B M H σ sd F E hk D n r b c
  refine par3_0 (u := fun D σ H => D.nx σ H) ?_
  refine ha so M H σ sd F.st _ hk _ fun vs rs H1 k1 q1 e1 => ?_
  split at k1
  · rename_i r1 r2 r3
    cases e1 with
    | @cons v1 _ _ _ h1 h2 =>
      cases h2 with
      | @cons v2 _ _ _ h2 h3 =>
        cases h3 with
        | @cons v3 _ _ _ h3 h4 =>
          cases h4
          obtain ⟨d1, hd1, k1⟩ := ob_some k1
          obtain ⟨d2, hd2, k1⟩ := ob_some k1
          obtain ⟨d3, hd3, k1⟩ := ob_some k1
          have F1 := F.q q1
          have s2 := ((F1.st.set (i := i) (h1.dm hd1)).set (i := j) (h2.dm hd2)).set (i := l) (h3.dm hd3)
          have sb := ((sb_set (σ := σ) (i := i) (x := some v1) F.st.len (rfl : owns (.dat d1) = false)).trans (sb_set (i := j) (x := some v2) (by rw [List.length_set, List.length_set, F.st.len]) (rfl : owns (.dat d2) = false))).trans (sb_set (i := l) (x := some v3) (by simp only [List.length_set, F.st.len]) (rfl : owns (.dat d3) = false))
          exact ⟨v1, v2, v3, rfl, n M H1 _ _ k1 ⟨s2, F1.sub, F1.tb, F1.kq, fun l a ho ha => F1.own l a (sb l ho).1 (by rw [← (sb l ho).2]; exact ha)⟩ (F.st.go q1).mn⟩
  · cases k1
theorem okS_drop (he : OkE K te f) : OkS K (tDrop te) (fun sd E => f sd fun _ => E.nx sd) := by
  intro so H0 B M H σ sd F E hk D n r b c
  exact he so M H σ sd F.st _ hk _ fun v r1 H1 k1 q1 e1 => n M H1 σ sd k1 (F.q q1) (F.st.go q1).mn
/-- what a def gives back -/
def rtOf (sd : SD) : ER → Option ER
  | .lc i => match gs sd i with
    | .ol ds => some (.nw ds)
    | .od kvs => some (.nd kvs)
    | _ => none
  | .src => none
  | r => some r
theorem re_out {v : V} {r x : ER} (F : Fr K so H0 B M H σ sd) (k : Kq so H H1) (e : Re K so M H H1 σ sd v r) (hx : rtOf sd r = some x) : Kq so H0 H1 ∧ Re K so B H0 H1 [] [] v x := by
  have F1 := F.q k
  refine ⟨F1.kq, ?_⟩
  cases r with
  | dat d => cases hx; exact dm_sub e F.sub
  | nw ds =>
    cases hx
    obtain ⟨a, vs, rfl, hn, hw⟩ := e
    exact ⟨a, vs, rfl, F.kq.free hn, hw.at_, fun z => hw.out (F.sub a z), dms_sub hw.el fun b hb => by
      rcases List.mem_cons.mp hb with rfl | hb
      · exact List.mem_cons_self ..
      · exact List.mem_cons_of_mem _ (F.sub b hb)⟩
  | nd kvs =>
    cases hx
    obtain ⟨a, vs, rfl, hn, aM, h4, h5⟩ := e
    exact ⟨a, vs, rfl, F.kq.free hn, fun z => aM (F.sub a z), h4, Paired.mapP h5 fun _ _ z => ⟨z.1, dm_sub z.2 fun b hb => by
      rcases List.mem_cons.mp hb with rfl | hb
      · exact List.mem_cons_self ..
      · exact List.mem_cons_of_mem _ (F.sub b hb)⟩⟩
  | src => cases hx
  | lc i =>
    have h := F1.st.sl i
    have hw := F.own i
    unfold rtOf at hx
    simp only at hx
    have wid : ∀ {a : Addr}, a ∈ M → ∀ b ∈ a :: B, b ∈ M := fun {a} ha b hb => by
      rcases List.mem_cons.mp hb with rfl | hb
      · exact ha
      · exact F.sub b hb
    split at hx
    · rename_i ds hg
      cases hx
      rw [hg] at h hw
      obtain ⟨a, us, e1, q1, q2, q3, q4⟩ := h
      have ha := hw a rfl e1
      rw [e.1] at e1
      cases e1
      exact ⟨a, us, rfl, ha, q3, fun z => F.tb a z ha, dms_sub q4 (wid q1)⟩
    · rename_i ds hg
      cases hx
      rw [hg] at h hw
      obtain ⟨a, us, e1, q1, q2, q3, q4⟩ := h
      have ha := hw a rfl e1
      rw [e.1] at e1
      cases e1
      exact ⟨a, us, rfl, ha, fun z => F.tb a z ha, q3, Paired.mapP q4 fun _ _ z => ⟨z.1, dm_sub z.2 (wid q1)⟩⟩
    · cases hx
theorem okS_ret (he : OkE K te f) : OkS K (tRet te) (fun sd E => f sd fun r => ob (rtOf sd r) E.rt) := by
  intro so H0 B M H σ sd F E hk D n r b c
  refine he so M H σ sd F.st _ hk _ fun v r1 H1 k1 q1 e1 => ?_
  obtain ⟨x, hx, k1⟩ := ob_some k1
  obtain ⟨h1, h2⟩ := re_out F q1 e1 hx
  exact r v x H1 k1 h1 h2
theorem okS_retN : OkS K tRetN (fun sd E => E.rt (.dat .none)) := by
  intro so H0 B M H σ sd F E hk D n r b c
  exact r .non (.dat .none) H hk F.kq .non
theorem okS_if {t u : TS} {p q : SD → EK → Bool} (ht : OkT K tt ft) (h1 : OkS K t p) (h2 : OkS K u q) : OkS K (tIfS tt t u) (fun sd E => ft sd fun b => match b with
    | true => p sd E
    | false => q sd E) := by
  intro so H0 B M H σ sd F E hk D n r b c
  refine ht so M H σ sd F.st _ hk _ fun x H1 k1 q1 => ?_
  cases x with
  | true => exact h1 so H0 B M H1 σ sd (F.q q1) E k1 D (fun M2 H2 σ2 sd2 k2 F2 e2 => n M2 H2 σ2 sd2 k2 F2 ((F.st.go q1).mn.trans e2)) r (fun M2 H2 σ2 sd2 k2 F2 e2 => b M2 H2 σ2 sd2 k2 F2 ((F.st.go q1).mn.trans e2)) (fun M2 H2 σ2 sd2 k2 F2 e2 => c M2 H2 σ2 sd2 k2 F2 ((F.st.go q1).mn.trans e2))
  | false => exact h2 so H0 B M H1 σ sd (F.q q1) E k1 D (fun M2 H2 σ2 sd2 k2 F2 e2 => n M2 H2 σ2 sd2 k2 F2 ((F.st.go q1).mn.trans e2)) r (fun M2 H2 σ2 sd2 k2 F2 e2 => b M2 H2 σ2 sd2 k2 F2 ((F.st.go q1).mn.trans e2)) (fun M2 H2 σ2 sd2 k2 F2 e2 => c M2 H2 σ2 sd2 k2 F2 ((F.st.go q1).mn.trans e2))
end
end Mp

/-! loops; what is changed in its place -/
namespace Mp
open PySem PySem.Spec PyProof.Rows L2 Gd Dq
section
variable {K : KT} {so : Wr} {B M : List Addr} {H H0 H1 H' : Hp} {σ σ2 : S} {sd sd2 : SD} {te ta' : TE} {ta : TA} {tt : TT} {f g : SD → (ER → Bool) → Bool} {fa : SD → (List ER → Bool) → Bool} {ft : SD → (Bool → Bool) → Bool} {wi : TI} {fi : SD → (Bool → List PyData → Bool) → Bool}
def forL (set : PyData → SD → Option SD) (body : SD → EK → Bool) (rt : ER → Bool) (nx : SD → Bool) : List PyData → SD → Bool
  | [], sd => nx sd
  | x :: xs, sd => ob (set x sd) fun sd2 => body sd2 { nx := forL set body rt nx xs, rt := rt, bk := nx, ct := forL set body rt nx xs }
theorem okS_for (gt : GT) {tb : TS} {pb : SD → EK → Bool} (hi : OkI K wi fi) (hb : OkS K tb pb) : OkS K (tFor wi (tG K gt) tb) (fun sd E => fi sd fun own ds => match own with
    | true => false
    | false => forL (setG gt) pb E.rt E.nx ds sd) := by
  intro so H0 B M H σ sd F E hk D n r b c
  refine hi so M H σ sd F.st _ hk _ fun J H1 G Y own ds k1 q1 w => ?_
  cases own with
  | true => cases k1
  | false =>
    have F1 := F.q q1
    have m1 := (F.st.go q1).mn
    refine ⟨fun j m σ' H' => m = ds.length - j ∧ j ≤ ds.length ∧ ∃ M' sd', Fr K so H0 B M' H' σ' sd' ∧ Same (mn M H1) (mn M' H') ∧ forL (setG gt) pb E.rt E.nx (ds.drop j) sd' = true,
      ⟨ds.length, rfl, Nat.zero_le _, M, sd, F1, Same.refl _, k1⟩, ?_⟩
    rintro j m σ' H' ⟨rfl, hj, M', sd', F', sm, hn⟩
    have hG : G H' := w.g2 H' fun b o e => mn_same b o (sm b o e)
    by_cases hlt : j < ds.length
    · refine .inr ⟨w.wk.goes j H' hlt hG, fun σ2 H2 => ∃ M2 sd2, Fr K so H0 B M2 H2 σ2 sd2 ∧ Same (mn M H1) (mn M2 H2) ∧ forL (setG gt) pb E.rt E.nx (ds.drop (j + 1)) sd2 = true, fun σ2 H2 h => ⟨ds.length - (j + 1), by omega, rfl, hlt, h⟩, fun x H4 y => ?_⟩
      obtain ⟨e4, d4⟩ := w.yl j H' x H4 hlt hG (w.wk.yields j H' x H4 hlt hG y)
      have dx := d4 M' sm F'.st.tr
      have q4 := F'.st.sr.same e4
      have F4 := F'.q q4
      have m4 := (F'.st.go q4).mn
      rw [at0_drop hlt] at hn
      unfold forL at hn
      obtain ⟨sd2, hset, hn⟩ := ob_some hn
      refine okG K gt so M' H4 σ' sd' sd2 x _ F4.st dx hset _ fun σ2 s2 b2 l2 o2 => ?_
      have F5 : Fr K so H0 B M' H4 σ2 sd2 := ⟨s2, F4.sub, F4.tb, F4.kq, fun l a ho ha => F4.own l a (b2 l ho).1 (by rw [← (b2 l ho).2]; exact ha)⟩
      exact hb so H0 B M' H4 σ2 sd2 F5 _ hn _ (fun M6 H6 σ6 sd6 k6 F6 e6 => ⟨M6, sd6, F6, (sm.trans m4).trans e6, k6⟩) r
        (fun M6 H6 σ6 sd6 k6 F6 e6 => n M6 H6 σ6 sd6 k6 F6 (((m1.trans sm).trans m4).trans e6))
        (fun M6 H6 σ6 sd6 k6 F6 e6 => ⟨M6, sd6, F6, (sm.trans m4).trans e6, k6⟩)
    · have e : j = ds.length := by omega
      subst e
      rw [List.drop_length] at hn
      unfold forL at hn
      exact .inl ⟨w.wk.stops H' hG, n M' H' σ' sd' hn F' (m1.trans sm)⟩
def whlL (t : SD → (Bool → Bool) → Bool) (body : SD → EK → Bool) (rt : ER → Bool) (nx : SD → Bool) : Nat → SD → Bool
  | 0, _ => false
  | n + 1, sd => t sd fun b => match b with
    | true => body sd { nx := whlL t body rt nx n, rt := rt, bk := nx, ct := whlL t body rt nx n }
    | false => nx sd
theorem okS_whl (N : Nat) {tb : TS} {pb : SD → EK → Bool} (ht : OkT K tt ft) (hb : OkS K tb pb) : OkS K (tWhile tt tb) (fun sd E => whlL ft pb E.rt E.nx N sd) := by
  intro so H0 B M H σ sd F E hk D n r b c
  refine ⟨fun m σ' H' => ∃ M' sd', Fr K so H0 B M' H' σ' sd' ∧ Same (mn M H) (mn M' H') ∧ whlL ft pb E.rt E.nx m sd' = true, ⟨N, M, sd, F, Same.refl _, hk⟩, ?_⟩
  rintro m σ' H' ⟨M', sd', F', sm, hn⟩
  cases m with
  | zero => unfold whlL at hn; cases hn
  | succ m =>
    unfold whlL at hn
    refine ht so M' H' σ' sd' F'.st _ hn _ fun x H1 k1 q1 => ?_
    have F1 := F'.q q1
    have sm1 := sm.trans (F'.st.go q1).mn
    cases x with
    | true =>
      refine ⟨fun σ2 H2 => ∃ M2 sd2, Fr K so H0 B M2 H2 σ2 sd2 ∧ Same (mn M H) (mn M2 H2) ∧ whlL ft pb E.rt E.nx m sd2 = true, fun σ2 H2 h => ⟨m, Nat.lt_succ_self m, h⟩, ?_⟩
      exact hb so H0 B M' H1 σ' sd' F1 _ k1 _ (fun M6 H6 σ6 sd6 k6 F6 e6 => ⟨M6, sd6, F6, sm1.trans e6, k6⟩) r (fun M6 H6 σ6 sd6 k6 F6 e6 => n M6 H6 σ6 sd6 k6 F6 (sm1.trans e6)) (fun M6 H6 σ6 sd6 k6 F6 e6 => ⟨M6, sd6, F6, sm1.trans e6, k6⟩)
    | false => exact n M' H1 σ' sd' k1 F1 sm1
/-- what slot i owns is changed -/
theorem Fr.mut {i : Nat} {a : Addr} {o : HO} {x : SV} (F : Fr K so H0 B M H σ sd) (ho : owns (gs sd i) = true) (ea : σ[i]? = some (some (.ref a))) (aM : a ∈ M) (hx : Sl K so M (upd H a o) (some (some (.ref a))) x) (hox : owns x = true) :
    Fr K so H0 B M (upd H a o) σ (sd.set i x) ∧ Same (mn M H) (mn M (upd H a o)) := by
  have na : NS so a := by
    have h := F.st.sl i
    cases hg : gs sd i with
    | un => rw [hg] at ho; cases ho
    | dat d => rw [hg] at ho; cases ho
    | src => rw [hg] at ho; cases ho
    | ol ds =>
      rw [hg] at h
      obtain ⟨p, us, e1, q1, q2, _⟩ := h
      rw [ea] at e1
      cases e1
      exact q2
    | od ds =>
      rw [hg] at h
      obtain ⟨p, us, e1, q1, q2, _⟩ := h
      rw [ea] at e1
      cases e1
      exact q2
  have hi2 : i < σ.length := (List.getElem?_eq_some_iff.mp ea).1
  have hi : i < sd.length := by rw [F.st.len]; exact hi2
  have g := go_set (o := o) F.st.tr aM
  have h0 := F.own i a ho ea
  have ow : ∀ j b, owns (gs (sd.set i x) j) = true → σ[j]? = some (some (.ref b)) → owns (gs sd j) = true := fun j b h1 h2 => by
    by_cases hj : j = i
    · subst hj; exact ho
    · rw [gs_set_ne hj] at h1; exact h1
  refine ⟨⟨⟨fun j => ?_, fun j l b hjl h1 h2 e1 e2 => F.st.sep j l b hjl (ow j b h1 e1) (ow l b h2 e2) e1 e2, ⟨F.st.sr.hd.set na, F.st.sr.mem⟩, g.tr, by rw [List.length_set]; exact F.st.len, F.st.tbs⟩, F.sub, F.tb, ⟨fun b u n e => ?_, F.st.sr.hd.set na⟩, fun j b h1 e1 => F.own j b (ow j b h1 e1) e1⟩, g.mn⟩
  · by_cases hj : j = i
    · subst hj
      rw [gs_set hi, ea]
      exact hx
    · rw [gs_set_ne hj]
      have hs := F.st.sl j
      cases hg : gs sd j with
      | un => trivial
      | dat d =>
        rw [hg] at hs
        obtain ⟨v, e, hd⟩ := hs
        exact ⟨v, e, dm_go hd g⟩
      | ol ds =>
        rw [hg] at hs
        obtain ⟨p, us, e, q1, q2, q3, q4⟩ := hs
        refine ⟨p, us, e, q1, q2, ?_, dms_go q4 g⟩
        rw [upd_ne (fun (z : p = a) => F.st.sep j i p hj (by rw [hg]; rfl) ho e (z ▸ ea))]
        exact q3
      | od ds =>
        rw [hg] at hs
        obtain ⟨p, us, e, q1, q2, q3, q4⟩ := hs
        refine ⟨p, us, e, q1, q2, ?_, kvs_go q4 g⟩
        rw [upd_ne (fun (z : p = a) => F.st.sep j i p hj (by rw [hg]; rfl) ho e (z ▸ ea))]
        exact q3
      | src =>
        rw [hg] at hs
        exact hs
  · rw [upd_ne (ne_of_none e h0)]
    exact F.kq.kp b u n e
theorem okS_app (i : Nat) (he : OkE K te f) : OkS K (tDrop (tBM K "list" rAppend (tVar i) (tCons te tNil))) (fun sd E => match gs sd i with
    | .ol ds => f sd fun r => ob (sOf r) fun d => match small ds.length with
      | true => E.nx (sd.set i (.ol (ds ++ [d])))
      | false => false
    | _ => false) := by
  intro so H0 B M H σ sd F E hk D n r b c
  dsimp only at hk
  split at hk
  · rename_i ds hg
    have hs := F.st.sl i
    rw [hg] at hs
    obtain ⟨a, us, ea, q1, q2, q3, q4⟩ := hs
    refine ⟨.ref a, ea, .inl ⟨rfl, _, SqL.of q3⟩, ?_⟩
    refine he so M H σ sd F.st _ hk _ fun v r1 H1 k1 z1 e1 => ?_
    obtain ⟨d, hd, k1⟩ := ob_some k1
    split at k1
    · rename_i hz
      have F1 := F.q z1
      have g1 := F.st.go z1
      have hv := e1.dm hd
      have q31 := z1.kp a _ q2 q3
      have q41 := dms_go q4 g1
      have g2 := go_set (o := .lst (us ++ [v])) F1.st.tr q1
      refine ⟨a, us, v, rfl, rfl, q31, ?_, ?_⟩
      · have := small_le' hz
        rw [q4.length, sizeLine_eq]
        omega
      · obtain ⟨F2, m2⟩ := F1.mut (i := i) (x := .ol (ds ++ [d])) (by rw [hg]; rfl) ea q1 ⟨a, us ++ [v], rfl, q1, q2, upd_same, (dms_go q41 g2).append (.cons (dm_go hv g2) .nil)⟩ rfl
        exact n M _ σ _ k1 F2 (g1.mn.trans m2)
    · cases k1
  · cases hk
theorem okS_ext (i : Nat) (he : OkE K te f) : OkS K (tDrop (tBM K "list" rExtend (tVar i) (tCons te tNil))) (fun sd E => match gs sd i with
    | .ol ds => f sd fun r => ob (lsR sd r) fun p => match small (ds.length + p.2.length) with
      | true => E.nx (sd.set i (.ol (ds ++ p.2)))
      | false => false
    | _ => false) := by
  intro so H0 B M H σ sd F E hk D n r b c
  dsimp only at hk
  split at hk
  · rename_i ds hg
    have hs := F.st.sl i
    rw [hg] at hs
    obtain ⟨a, us, ea, q1, q2, q3, q4⟩ := hs
    refine ⟨.ref a, ea, .inl ⟨rfl, _, SqL.of q3⟩, ?_⟩
    refine he so M H σ sd F.st _ hk _ fun v r1 H1 k1 z1 e1 => ?_
    obtain ⟨⟨own, es⟩, hp, k1⟩ := ob_some k1
    split at k1
    · rename_i hz
      have F1 := F.q z1
      have g1 := F.st.go z1
      have hl := e1.ls F1.st hp
      cases hl with
      | @mk p ws _ _ h1 h2 h3 =>
        have q31 := z1.kp a _ q2 q3
        have q41 := dms_go q4 g1
        have g2 := go_set (o := .lst (us ++ ws)) F1.st.tr q1
        refine ⟨a, p, us, ws, rfl, rfl, q31, h1, ?_, ?_⟩
        · rw [q4.length, h2.length]
          exact small_le hz
        · obtain ⟨F2, m2⟩ := F1.mut (i := i) (x := .ol (ds ++ es)) (by rw [hg]; rfl) ea q1 ⟨a, us ++ ws, rfl, q1, q2, upd_same, (dms_go q41 g2).append (dms_go h2 g2)⟩ rfl
          exact n M _ σ _ k1 F2 (g1.mn.trans m2)
    · cases k1
  · cases hk
/-! name op= e, of ints -/
def augI : BK → Option (Int → Int → Int)
  | .add => some fun i j => i + j
  | .sub => some fun i j => i - j
  | .bor => some Builtin.bitOr
  | .band => some Builtin.bitAnd
  | .bxor => some Builtin.bitXor
  | _ => none
def augV (o : BK) : R2 := match augI o with
  | some f => rI0 fun i j => .int (f i j)
  | none => fun _ _ _ _ => False
theorem okS_aug (i : Nat) (o : BK) (he : OkE K te f) : OkS K (tAug i te (augV o)) (fun sd E => match gs sd i with
    | .dat (.int x) => f sd fun r => ob (iOf r) fun y => ob (augI o) fun h => E.nx (sd.set i (.dat (.int (h x y))))
    | _ => false) := by
  intro so H0 B M H σ sd F E hk D n r b c
  dsimp only at hk
  split at hk
  · rename_i x hg
    have hs := F.st.sl i
    rw [hg] at hs
    obtain ⟨v, ev, hd⟩ := hs
    have hd : Da K (mn M H) v (.int x) := hd
    have := hd.intV
    subst this
    refine ⟨_, ev, ?_⟩
    refine he so M H σ sd F.st _ hk _ fun v r1 H1 k1 z1 e1 => ?_
    obtain ⟨y, hy, k2⟩ := ob_some k1
    obtain ⟨h, hh, k3⟩ := ob_some k2
    have : r1 = .dat (.int y) := by
      unfold iOf at hy
      split at hy
      · cases hy; rfl
      · cases hy
    subst this
    have e1 : Da K (mn M H1) v (.int y) := e1
    have := e1.intV
    subst this
    unfold augV
    rw [hh]
    refine ⟨x, y, rfl, rfl, ?_⟩
    have F1 := F.q z1
    refine n M H1 _ _ k3 ⟨F1.st.set (.int _), F1.sub, F1.tb, F1.kq, fun j a ho ha => ?_⟩ (F.st.go z1).mn
    obtain ⟨h1, h2⟩ := sb_set (σ := σ) (i := i) (x := some (.int (h x y))) F.st.len (rfl : owns (.dat (.int (h x y))) = false) j ho
    rw [h2] at ha
    exact F1.own j a h1 ha
  · cases hk
theorem ip_of {X : Cx} : PIp X .Add (augV .add) ∧ PIp X .Sub (augV .sub) ∧ PIp X .BitOr (augV .bor) ∧ PIp X .BitAnd (augV .band) ∧ PIp X .BitXor (augV .bxor) := ⟨iop_add, iop_sub, iop_or, iop_and, iop_xor⟩
theorem das_set {H2 : Hp} : ∀ {vs : List V} {ds : List PyData} {m : Nat} {v : V} {d : PyData}, Das K H2 vs ds → Da K H2 v d → Das K H2 (vs.set m v) (ds.set m d)
  | _, _, _, _, _, .nil, _ => .nil
  | _, _, 0, _, _, .cons _ b, h => .cons h b
  | _, _, m + 1, _, _, .cons a b, h => .cons a (das_set (m := m) b h)
/-! x[i] = e -/
def keyOf : PyData → Option Key
  | .int i => some (.inl i)
  | .str z => some (.inr z)
  | _ => none
def kvGet (kvs : List (Key × PyData)) (k : Key) : Option PyData := (kvs.find? fun kv => decide (kv.1 = k)).map (·.2)
def kvPut (kvs : List (Key × PyData)) (k : Key) (v : PyData) : List (Key × PyData) :=
  if (kvs.any fun kv => decide (kv.1 = k)) = true then kvs.map (fun kv => if kv.1 = k then (kv.1, v) else kv) else kvs ++ [(k, v)]
def rSetA : TSet := fun o i v H Q => rSetL o i v H Q ∨ rSetD o i v H Q
theorem set_any {X : Cx} (hu : X.A.units + 65 < cLine) : PSet X rSetA := by
  intro pins s σ H o i v ov iv u Q I ro ri rv h
  rcases h with h | h
  · exact set_list pins s σ H o i v ov iv u Q I ro ri rv h
  · exact set_dict (by omega) pins s σ H o i v ov iv u Q I ro ri rv h
theorem kv_any {k : Key} : ∀ {vs : List (Key × V)} {kvs : List (Key × PyData)}, Kvs K M H vs kvs → (vs.any fun kv => decide (kv.1 = k)) = (kvs.any fun kv => decide (kv.1 = k))
  | _, _, .nil => rfl
  | _, _, .cons a b => by rw [List.any_cons, List.any_cons, a.1, kv_any b]
theorem kv_map {k : Key} {v : V} {d : PyData} (hd : Dm K M H v d) : ∀ {vs : List (Key × V)} {kvs : List (Key × PyData)}, Kvs K M H vs kvs → Kvs K M H (vs.map fun kv => if kv.1 = k then (kv.1, v) else kv) (kvs.map fun kv => if kv.1 = k then (kv.1, d) else kv)
  | _, _, .nil => .nil
  | p :: _, q :: _, .cons a b => by
    rw [List.map_cons, List.map_cons]
    refine .cons ?_ (kv_map hd b)
    by_cases h : p.1 = k
    · rw [if_pos h, if_pos (a.1 ▸ h)]
      exact ⟨a.1, hd⟩
    · rw [if_neg h, if_neg (a.1 ▸ h)]
      exact a
theorem kv_put {vs : List (Key × V)} {kvs : List (Key × PyData)} {k : Key} {v : V} {d : PyData} (h : Kvs K M H vs kvs) (hd : Dm K M H v d) : Kvs K M H (putK vs k v) (kvPut kvs k d) := by
  unfold putK kvPut
  rw [kv_any h]
  split
  · exact kv_map hd h
  · exact Paired.app h (.cons ⟨rfl, hd⟩ .nil)
theorem kv_get {k : Key} : ∀ {vs : List (Key × V)} {kvs : List (Key × PyData)}, Kvs K M H vs kvs → (valV vs k = none ∧ kvGet kvs k = none) ∨ ∃ v d, valV vs k = some v ∧ kvGet kvs k = some d ∧ Dm K M H v d
  | _, _, .nil => .inl ⟨rfl, rfl⟩
  | p :: vs, q :: kvs, .cons a b => by
    by_cases h : p.1 = k
    · refine .inr ⟨p.2, q.2, valV_pos h, ?_, a.2⟩
      unfold kvGet
      rw [List.find?_cons, decide_eq_true (a.1 ▸ h)]
      rfl
    · have e : kvGet (q :: kvs) k = kvGet kvs k := by
        unfold kvGet
        rw [List.find?_cons, decide_eq_false (fun z => h (a.1.trans z))]
      rw [valV_neg h, e]
      exact kv_get b
theorem key_v {H2 : Hp} {v : V} {d : PyData} {k : Key} (h : Da K H2 v d) (e : keyOf d = some k) : v = kV k := by
  cases d with
  | int i => cases e; exact h.intV
  | str z => cases e; exact h.strV
  | _ => cases e
def setI' (x : SV) (k d : PyData) : Option SV := match x, k with
  | .ol ds, .int i => match ixN ds.length i with
    | some j => some (.ol (ds.set j d))
    | none => none
  | .od kvs, k => match keyOf k, small kvs.length with
    | some q, true => some (.od (kvPut kvs q d))
    | _, _ => none
  | _, _ => none
theorem okS_set (i : Nat) (he : OkE K te f) (hi : OkE K ta' g) : OkS K (tAsg te (gSub (tVar i) ta' rSetA)) (fun sd E => match owns (gs sd i) with
    | true => f sd fun r => ob (sOf r) fun d => g sd fun q => ob (sOf q) fun e => ob (setI' (gs sd i) e d) fun x => E.nx (sd.set i x)
    | false => false) := by
  intro so H0 B M H σ sd F E hk D n r b c
  dsimp only at hk
  cases how : owns (gs sd i) with
  | false => rw [how] at hk; cases hk
  | true =>
  rw [how] at hk
  refine he so M H σ sd F.st _ hk _ fun v r1 H1 k1 z1 e1 => ?_
  obtain ⟨d, hd, k1⟩ := ob_some k1
  have F1 := F.q z1
  have g1 := F.st.go z1
  have hs := F.st.sl i
  cases hg : gs sd i with
  | ol ds =>
    rw [hg] at hs
    obtain ⟨a, us, ea, q1, q2, q3, q4⟩ := hs
    refine ⟨.ref a, ea, ?_⟩
    refine hi so M H1 σ sd F1.st _ k1 _ fun w r2 H2 k2 z2 e2 => ?_
    obtain ⟨e, he2, k2⟩ := ob_some k2
    obtain ⟨x, hx, k2⟩ := ob_some k2
    rw [hg] at hx
    unfold setI' at hx
    cases e with
    | int j =>
      simp only at hx
      split at hx
      · rename_i m hm
        cases hx
        have F2 := F1.q z2
        have g2 := F1.st.go z2
        have hw : Da K (mn M H2) w (.int j) := e2.dm he2
        have := hw.intV
        subst this
        have q32 := z2.kp a _ q2 (z1.kp a _ q2 q3)
        have q42 := dms_go (dms_go q4 g1) g2
        have hv := dm_go (e1.dm hd) g2
        have g3 := go_set (o := .lst (us.set m v)) F2.st.tr q1
        have hset : Dms K M (upd H2 a (.lst (us.set m v))) (us.set m v) (ds.set m d) := das_set (dms_go q42 g3) (dm_go hv g3)
        refine .inl ⟨a, us, j, m, rfl, rfl, q32, by rw [q4.length]; exact hm, ?_⟩
        obtain ⟨F3, m3⟩ := F2.mut (i := i) (x := .ol (ds.set m d)) (by rw [hg]; rfl) ea q1 ⟨a, _, rfl, q1, q2, upd_same, hset⟩ rfl
        exact n M _ σ _ k2 F3 ((g1.mn.trans g2.mn).trans m3)
      · cases hx
    | _ => simp at hx
  | od kvs =>
    rw [hg] at hs
    obtain ⟨a, us, ea, q1, q2, q3, q4⟩ := hs
    refine ⟨.ref a, ea, ?_⟩
    refine hi so M H1 σ sd F1.st _ k1 _ fun w r2 H2 k2 z2 e2 => ?_
    obtain ⟨e, he2, k2⟩ := ob_some k2
    obtain ⟨x, hx, k2⟩ := ob_some k2
    rw [hg] at hx
    unfold setI' at hx
    simp only at hx
    split at hx
    · rename_i q hq hz
      cases hx
      have F2 := F1.q z2
      have g2 := F1.st.go z2
      have hw := key_v (e2.dm he2) hq
      subst hw
      have q32 := z2.kp a _ q2 (z1.kp a _ q2 q3)
      have q42 := kvs_go (kvs_go q4 g1) g2
      have hv := dm_go (e1.dm hd) g2
      have g3 := go_set (o := .dK (putK us q v)) F2.st.tr q1
      have hlen : us.length < sizeLine := by
        have := small_le' hz
        rw [Paired.len q4, sizeLine_eq]
        omega
      refine .inr ⟨a, _, rfl, DPut.k q32 hlen, ?_⟩
      obtain ⟨F3, m3⟩ := F2.mut (i := i) (x := .od (kvPut kvs q d)) (by rw [hg]; rfl) ea q1 ⟨a, _, rfl, q1, q2, upd_same, kv_put (kvs_go q42 g3) (dm_go hv g3)⟩ rfl
      exact n M _ σ _ k2 F3 ((g1.mn.trans g2.mn).trans m3)
    · cases hx
  | un => rw [hg] at how; cases how
  | dat x => rw [hg] at how; cases how
  | src => rw [hg] at how; cases how
end
end Mp

/-! all, any of a generator expression whose tests and elements are any expressions -/
namespace Gx
open PySem PySem.Spec PyProof.Rows L2
/-- the around of its code, when it is asked from within a builtin -/
abbrev arG (A : Around) (cenv : Env) : Around := ⟨A.handled, A.depth + 1, A.frames.map (cenv :: ·), A.guards, A.units + 5⟩
abbrev envG (X : Cx) (scope : Scope) (C : Addr) (code : Value) : Env := genEnv scope (cloFrom X.env.cells scope.names []) C code builtinsNs X.env
/-- the context of its code: s, H as they stand when its frame is made -/
abbrev gcx (X : Cx) (scope : Scope) (C : Addr) (code : Value) (s : Shared) (H : Hp) (fp : List Addr) (pn : List (Addr × Obj)) : Cx :=
  { X with A := arG X.A (envG X scope C code), s_0 := s, H_0 := H, env := envG X scope C code, outer := X.stack, stack := envG X scope C code :: X.stack, ex := fp, fn := fun _ => false, pn := pn, xe := fun _ _ => False }
theorem over_g {A : Around} {elt : Expr} {gs : List Comprehension} {scope : Scope} {pos : Pos} {it acc : Value} {env : Env} : A.in1.in1.over (.compLoop (.GeneratorExp elt gs scope pos) 0 it acc env) [] = arG A env := by
  obtain ⟨h, d, f, g, u⟩ := A
  rfl
theorem over_g0 {A : Around} {elt : Expr} {gs : List Comprehension} {scope : Scope} {pos : Pos} {it acc : Value} {env : Env} : A.in1.in1.over (.compStart (.GeneratorExp elt gs scope pos) 0 it acc env) [] = arG A env := by
  obtain ⟨h, d, f, g, u⟩ := A
  rfl
theorem roomG {k : Nat} {A : Around} {env : Env} (r : Room (k + 1) A) : Room k (arG A env) :=
  ⟨r.hd, by have := r.dp; show A.depth + 1 + 3 * k + 5 < _; omega, by have := r.un; show A.units + 5 + 16 * k + 200 < _; omega⟩
section
variable {X : Cx} {pins : List (Addr × Obj)} {σ : L2.St} {H : Hp} {s : Shared}
theorem Inv.gens (I : Inv X pins σ H s) {G : Array GenState} (h : AllBare G) : Inv X pins σ H { s with gens := G } :=
  ⟨I.ok, I.os, h, I.base, I.loc, I.cell, I.free, I.freeC, I.pin, I.hok, I.len⟩
/-- its entry -/
theorem gen_start {scope : Scope} {own : List (Str × Nat)} {fp : List Addr} {code it : Value} {h' : Heap} {go : Obj} {G : Array GenState} {tk : Nat} (I : Inv X pins σ H s) (ok : BlkOk X.N X.env.scope scope own) (hN : X.N.Nodup) (hcell : ∀ y ∈ scope.names, y.2 ≠ .cell)
    (hc : X.calm = true) (hfp : ∀ b ∈ fp, FpOk X pins H b ∧ b < s.heap.objs.size) (hns : h'.Ns s.heap.objs.size (fun y => if y = ".0" then some it else none)) (hsb : Heap.SameBut s.heap.objs.size (s.heap.push { cls := .type "frame", data := .dict #[] }) h')
    (hgo : ∀ v, go.data ≠ .cell v) (hgf : go.isFreed = false) (hG : AllBare G) :
    Inv (gcx X scope s.heap.objs.size code s H fp [(h'.objs.size, go)]) [] (wipe σ (own.map (·.2))) H { s with gens := G, toks := tk, heap := h'.push go } := by
  have hfree : ∀ y ∈ scope.names, y.2 = .free → ∃ c, X.env.cells.lookup y.1 = some c := fun y hy e => by
    rcases ok.free y hy e with k | k
    · exact I.ok.has _ (.inl k)
    · exact I.ok.has _ (.inr k)
  have sub : ∀ {y c}, (cloFrom X.env.cells scope.names []).lookup y = some c → X.env.cells.lookup y = some c := fun {y c} e => NdefX.clo_cm hfree e
  have hsz : h'.objs.size = s.heap.objs.size + 1 := by rw [hsb.1, Heap.size_push]
  have kp1 : ∀ b o, s.heap.get? b = some o → h'.get? b = some o := fun b o e => hsb.extBut b o (Nat.ne_of_lt (Heap.lt_size e)) (Heap.get?_push_of_some _ e)
  have kp : ∀ b o, s.heap.get? b = some o → (h'.push go).get? b = some o := fun b o e => Heap.get?_push_of_some _ (kp1 b o e)
  have cellK : ∀ {c : Addr} {v : Option Value}, s.heap.IsCell c v → (h'.push go).IsCell c v := fun {c v} ⟨o, ho, hd⟩ => ⟨o, kp _ _ ho, hd⟩
  have okG : (gcx X scope s.heap.objs.size code s H fp [(h'.objs.size, go)]).Ok := by
    refine ⟨I.ok.mod, ok.kind, I.ok.glob, rfl, Nat.le_refl _, fun x y c e1 e2 => I.ok.inj x y c (sub e1) (sub e2), fun y hy => ?_, fun y c z _ => ?_, fun _ => I.ok.hd hc, ?_, .inr ⟨rfl, rfl⟩, fun b hb => ⟨Nat.ne_of_lt (hfp b hb).2, fun y c e z => ?_⟩, I.bs, Nat.le_trans I.ok.bsz I.sz, fun b o e hb => ?_, fun b hb z => ?_, I.stack, I.stkFree⟩
    · have hy : scope.names.lookup y = some .cell ∨ scope.names.lookup y = some .free := hy
      rcases hy with hy | hy
      · exact absurd rfl (hcell _ (PySem.mem_of_lookup hy))
      · have hm : (y, NameKind.free) ∈ scope.names := PySem.mem_of_lookup hy
        obtain ⟨c, hcc⟩ := hfree _ hm rfl
        exact ⟨c, NdefX.clo_has hfree hm hcc⟩
    · have z : false = true := z
      cases z
    · show (X.A.frames.map (envG X scope s.heap.objs.size code :: ·)) = some _
      rw [I.ok.frames]
      rfl
    · have e : (cloFrom X.env.cells scope.names []).lookup y = some c := e
      exact (hfp b hb).1.2.2.2.2.1 y c (sub e) z
    · rcases (hfp b hb).1.2.2.2.1 with z | z
      · exact I.ok.noex b o e z
      · exact absurd (Nat.lt_of_lt_of_le (Heap.lt_size e) (Nat.le_trans I.ok.bsz z)) (Nat.lt_irrefl _)
    · rcases List.mem_cons.mp (I.stkSub b z) with z | z
      · exact (hfp b hb).1.2.1 z
      · exact (hfp b hb).1.2.2.1 z
  refine ⟨okG, rfl, hG, Un.kept kp, ⟨_, hns.push _, fun i y av e1 e2 e3 => ?_⟩, fun y c e => ?_, I.hok.fresh (Nat.le_refl _), fun y c e => I.freeC y c (sub e), fun p hp => ?_, I.hok.kept kp, by rw [wipe_length]; exact I.len⟩
  · obtain ⟨e2, hne⟩ := wipe_some e2
    have e3 : scope.names.lookup y = some .local ∨ scope.names.lookup y = some .cell ∨ scope.names.lookup y = some .free := e3
    have no : ∀ k, scope.names.lookup y = some k → ¬ (k = .local ∨ k = .cell) := fun k e hh => by
      rcases ok.own _ (PySem.mem_of_lookup e) hh with e' | e'
      · obtain ⟨p, hp, hpy⟩ := List.mem_map.mp e'
        have e4 := ok.ix p hp
        have hpy : p.1 = y := hpy
        rw [hpy] at e4
        exact hne (List.mem_map.mpr ⟨p, hp, nodup_ix hN e4 e1⟩)
      · exact e' (List.mem_of_getElem? e1)
    have hfr : scope.names.lookup y = some .free := by
      rcases e3 with e3 | e3 | e3
      · exact absurd (.inl rfl) (no _ e3)
      · exact absurd (.inr rfl) (no _ e3)
      · exact e3
    obtain ⟨m, hn, hl⟩ := I.loc
    have hm : (y, NameKind.free) ∈ scope.names := PySem.mem_of_lookup hfr
    have hvis : Vis X.env.scope y := (ok.free _ hm rfl).elim (fun k => .inr (.inl k)) (fun k => .inr (.inr k))
    obtain ⟨w, r, q⟩ := hl i y av e1 e2 hvis
    refine ⟨w, r, .inr ⟨.inr hfr, ?_⟩⟩
    rcases q with ⟨k, _⟩ | ⟨_, c', e', z⟩
    · have k : X.env.scope.names.lookup y = some .local := k
      rcases ok.free _ hm rfl with k' | k' <;> rw [show X.env.scope.names.lookup y = _ from k'] at k <;> cases k
    · exact ⟨c', NdefX.clo_has hfree hm e', cellK z⟩
  · obtain ⟨v, z⟩ := I.cell y c (sub e)
    exact ⟨v, cellK z⟩
  · have hp : p ∈ [(h'.objs.size, go)] ++ [] := hp
    rw [List.append_nil, List.mem_singleton] at hp
    subst hp
    refine ⟨Heap.get?_push_size _ hgf, I.hok.fresh (by rw [hsz]; exact Nat.le_succ _), ?_, fun z => ?_, hgo⟩
    · show h'.objs.size ≠ s.heap.objs.size
      rw [hsz]
      exact Nat.succ_ne_self _
    · have z : h'.objs.size ∈ frs X.stack := z
      have hlt : ∀ b ∈ frs X.stack, b < s.heap.objs.size := fun b hb => by
        obtain ⟨_, o, ho, _⟩ := I.stack.mem hb
        exact Heap.lt_size ho
      have q : h'.objs.size < s.heap.objs.size := hlt _ z
      rw [hsz] at q
      exact Nat.not_succ_lt_self q
end
end Gx

/-! the turns of a generator expression, and who walks it -/
namespace Gx
open PySem PySem.Spec PyProof.Rows L2
/-- what a turn is to reach; stp: the answer at which the walker stops -/
def GTurn (stp : Bool) (Qb : Bool → Hp → Prop) (J : It) (g : TG) (tt : TT) (te : TE) (vs : List Nat) (σ : L2.St) (W : Nat → Nat → Hp → Prop) : Prop := ∀ i m H, W i m H →
  (J.stop i H ∧ Qb (!stp) H) ∨ (J.go i H ∧ ∀ x H', J.yld i H x H' → g x (wipe σ vs) H' fun σ2 H2 => wipe σ2 vs = wipe σ vs ∧ tt σ2 H2 fun b H3 => match b with
    | true => te σ2 H3 fun y H4 => ∃ c, y = .bl c ∧ ((c = stp ∧ Qb stp H4) ∨ (c ≠ stp ∧ ∃ m', m' < m ∧ W (i + 1) m' H4))
    | false => ∃ m', m' < m ∧ W (i + 1) m' H3)
/-- the place between two turns -/
structure Gp (Y : Cx) (N : Nat) (fp : List Addr) (tn : Nat → Heap → Prop) (σw : L2.St) (j : Nat) (H : Hp) (s : Shared) : Prop where
  inv : Inv Y [] σw H s
  tn : tn j s.heap
  nf : ∀ b ∈ fp, H b = none
  gz : N ≤ s.gens.size
def YP (Y : Cx) (N : Nat) (stp : Bool) (Qb : Bool → Hp → Prop) (fp : List Addr) (tn : Nat → Heap → Prop) (σw : L2.St) (W : Nat → Nat → Hp → Prop) : Protocol := fun n s₀ v s kap =>
  ∃ c H', v = .bool c ∧ N ≤ s.gens.size ∧ ((c = stp ∧ Inv Y [] σw H' s ∧ Qb stp H') ∨ (c ≠ stp ∧ ∃ j m, m < n ∧ W j m H' ∧ Gp Y N fp tn σw j H' s ∧ ∀ s'', Gp Y N fp tn σw j H' s'' → kap (.send .none) s''))
def RP (Y : Cx) (stp : Bool) (Qb : Bool → Hp → Prop) (σw : L2.St) : GenEnd := fun n s₀ r s₁ => r = .ok .next ∧ ∃ H', Inv Y [] σw H' s₁ ∧ Qb (!stp) H'
section
variable {X : Cx} {scope : Scope} {s4 : Shared} {H4 : Hp} {C : Addr} {code : Value} {fp : List Addr} {pn : List (Addr × Obj)} {stp : Bool} {Qb : Bool → Hp → Prop} {tn : Nat → Heap → Prop} {σ : L2.St} {vs : List Nat} {W : Nat → Nat → Hp → Prop} {J : It} {it : Addr}
  {N : Nat} {elt tg iter : Expr} {ifs : List Expr} {pos : Pos} {g : TG} {tt : TT} {te : TE}
theorem gen_seg (hc : X.calm = true) (hpn : ∀ p ∈ pn, p.1 ∉ fp) (hco : scope.isCoroutine = false) (T : Turn X.prog X.w X.K tg J fp it tn) (pg : PG (gcx X scope C code s4 H4 fp pn) tg g) (pt : PTs (gcx X scope C code s4 H4 fp pn) ifs tt) (pe : PE (gcx X scope C code s4 H4 fp pn) elt te)
    (turn : GTurn stp Qb J g tt te vs σ W) : ∀ (m n j : Nat) (s₀ s : Shared) (H : Hp), W j m H → m < n → Gp (gcx X scope C code s4 H4 fp pn) N fp tn (wipe σ vs) j H s →
      Seg (model X.prog X.w) X.A.in1.in1 (RP (gcx X scope C code s4 H4 fp pn) stp Qb (wipe σ vs)) (YP (gcx X scope C code s4 H4 fp pn) N stp Qb fp tn (wipe σ vs) W) n s₀
        (.compLoop (.GeneratorExp elt [⟨tg, iter, ifs, 0⟩] scope pos) 0 (.ref it) .none (envG X scope C code))
        ((model X.prog X.w).den (.compLoop (.GeneratorExp elt [⟨tg, iter, ifs, 0⟩] scope pos) 0 (.ref it) .none (envG X scope C code))) [] s := by
  have stat : ∀ {σ' : L2.St} {H' : Hp} {s' : Shared}, Inv (gcx X scope C code s4 H4 fp pn) [] σ' H' s' → (∀ b ∈ fp, H' b = none) → ∀ b ∈ fp, FpOk (gcx X scope C code s4 H4 fp pn) [] H' b := fun {σ' H' s'} I' hn b hb =>
    ⟨hn b hb, (I'.ok.exf b hb).1, I'.ok.exfs b hb, .inl hb, fun x c e => (I'.ok.exf b hb).2 x c e, fun p hp z => by
      have hp : p ∈ pn ++ [] := hp
      rw [List.append_nil] at hp
      exact hpn p hp (z ▸ hb)⟩
  intro m
  induction m using Nat.strongRecOn with
  | ind m ih =>
    intro n j s₀ s H w hmn G
    obtain ⟨I, st, nf, gz⟩ := G
    show Seg _ _ _ _ n s₀ _ ((compTurn (.GeneratorExp elt [⟨tg, iter, ifs, 0⟩] scope pos) 0 (.ref it) .none (envG X scope C code)).onRaise (leaving (envG X scope C code))) [] s
    rw [compTurn_gen, Sem.onRaise_eq_wrap]
    refine seg_bind_wrap (wpAny_standAt ?_)
    refine seg_bind_wrap (GenW.wpAny_gsz gz ?_)
    rw [over_g]
    rcases turn j m H w with ⟨stop, qq⟩ | ⟨go, step⟩
    · refine thnF (T.done (gcx X scope C code s4 H4 fp pn) rfl rfl rfl hc j [] s _ H (fun _ _ => False) I (stat I nf) st stop) fun r s6 ⟨hr, I6⟩ => ?_
      subst hr
      intro gz6
      exact seg_end (.ok .next) ⟨rfl, H, I6, qq⟩
    · refine thnF (T.item (gcx X scope C code s4 H4 fp pn) rfl rfl rfl hc j [] s _ H (fun _ _ => False) I (stat I nf) st go) fun r s6 ⟨u, hr, h6⟩ => ?_
      subst hr
      intro gz6
      refine seg_bind_wrap (GenW.wpAny_gsz gz6 ?_)
      rw [over_g]
      refine thnF h6 fun _ s7 ⟨x, H7, I7, r7, y7, st7, n7⟩ => ?_
      intro gz7
      have I7' := I7.pinned (stat I7 n7) (T.obj _ _ st7)
      refine seg_bind_wrap (GenW.wpAny_gsz gz7 ?_)
      rw [over_g]
      refine thnF (pg.run _ s7 _ H7 x u _ I7' r7 (step x H7 y7)) fun _ s8 ⟨σ8, H8, I8, hw8, q8⟩ => ?_
      intro gz8
      refine seg_bind_wrap (GenW.wpAny_gsz gz8 ?_)
      rw [over_g]
      refine thnF (pt.run _ s8 σ8 H8 _ I8 q8) fun b s9 ⟨H9, I9, q9⟩ => ?_
      intro gz9
      have fin : ∀ {s' : Shared} {H' : Hp}, Inv (gcx X scope C code s4 H4 fp pn) ([] ++ pinsAt fp s7.heap) σ8 H' s' → N ≤ s'.gens.size → Gp (gcx X scope C code s4 H4 fp pn) N fp tn (wipe σ vs) (j + 1) H' s' := fun {s' H'} I' gz' => by
        have pin' : ∀ b ∈ fp, ∀ o, s7.heap.get? b = some o → s'.heap.get? b = some o ∧ H' b = none := fun b hb o e =>
          let z := I'.pin (b, o) (List.mem_append_right _ (List.mem_append_right _ (mem_pinsAt hb e)))
          ⟨z.1, z.2.1⟩
        have hl : (wipe σ vs).length = σ8.length := by rw [← hw8, wipe_length]
        refine ⟨(I'.unpinned (pins := [])).weak hl (fun i v e => ?_), T.keep _ _ _ st7 fun b hb o e => (pin' b hb o e).1, fun b hb => ?_, gz'⟩
        · rw [← hw8] at e
          exact (wipe_some e).1
        · obtain ⟨o, e, _⟩ := T.obj _ _ st7 b hb
          exact (pin' b hb o e).2
      cases b with
      | false =>
        obtain ⟨m', hm, w'⟩ := q9
        simp only [Bool.false_eq_true, if_false]
        exact seg_again rfl (ih m' hm n (j + 1) s₀ s9 H9 w' (by omega) (fin I9 gz9))
      | true =>
        simp only [if_true]
        have hy : ∀ v, yieldOut (envG X scope C code) v = yieldValue v := fun v => by
          unfold yieldOut
          show (if scope.isCoroutine = true then _ else _) = _
          rw [hco]
          rfl
        simp only [hy]
        rw [Sem.bind_eq_wrap', Sem.bind_eq_wrap', Sem.wrap_wrap, Sem.wrap_wrap]
        refine seg_wrap (GenW.wpAny_gsz gz9 ?_)
        rw [over_g]
        refine thnF (pe.run _ s9 σ8 H9 _ I9 q9) fun z s10 ⟨yv, H10, I10, r10, c, ec, q10⟩ => ?_
        intro gz10
        subst ec
        obtain rfl : z = Value.bool c := r10
        obtain ⟨k, rfl⟩ : ∃ k, n = k + 1 := ⟨n - 1, by omega⟩
        refine seg_at (seg_yield rfl rfl rfl ⟨c, H10, rfl, gz10, ?_⟩)
        have Gf := fin I10 gz10
        rcases q10 with ⟨e, q⟩ | ⟨e, m', hm, w'⟩
        · exact .inl ⟨e, Gf.inv, q⟩
        · refine .inr ⟨e, j + 1, m', by omega, w', Gf, fun s'' G'' => ?_⟩
          exact seg_again rfl (ih m' hm k (j + 1) s'' s'' H10 w' (by omega) G'')
theorem gen_seg0 {m n : Nat} {s₀ s : Shared} {H : Hp} (hc : X.calm = true) (hpn : ∀ p ∈ pn, p.1 ∉ fp) (hco : scope.isCoroutine = false) (T : Turn X.prog X.w X.K tg J fp it tn) (pg : PG (gcx X scope C code s4 H4 fp pn) tg g) (pt : PTs (gcx X scope C code s4 H4 fp pn) ifs tt) (pe : PE (gcx X scope C code s4 H4 fp pn) elt te)
    (turn : GTurn stp Qb J g tt te vs σ W) (w : W 0 m H) (hmn : m < n) (G : Gp (gcx X scope C code s4 H4 fp pn) N fp tn (wipe σ vs) 0 H s) :
      Seg (model X.prog X.w) X.A.in1.in1 (RP (gcx X scope C code s4 H4 fp pn) stp Qb (wipe σ vs)) (YP (gcx X scope C code s4 H4 fp pn) N stp Qb fp tn (wipe σ vs) W) n s₀
        (.compStart (.GeneratorExp elt [⟨tg, iter, ifs, 0⟩] scope pos) 0 (.ref it) .none (envG X scope C code))
        ((model X.prog X.w).den (.compStart (.GeneratorExp elt [⟨tg, iter, ifs, 0⟩] scope pos) 0 (.ref it) .none (envG X scope C code))) [] s := by
  have loop := gen_seg (iter := iter) (pos := pos) hc hpn hco T pg pt pe turn m n 0 s₀ s H w hmn G
  show Seg _ _ _ _ n s₀ _ ((compStart (.GeneratorExp elt [⟨tg, iter, ifs, 0⟩] scope pos) 0 (.ref it) .none (envG X scope C code)).onRaise (leaving (envG X scope C code))) [] s
  unfold compStart
  rw [Sem.onRaise_eq_wrap]
  show Seg _ _ _ _ n s₀ _ ((ask >>= _).wrap _ _ _ _) [] s
  refine seg_bind_wrap (wpAny_askSetting ?_)
  split
  · exact seg_again rfl loop
  · first
      | exact seg_bind_wrap (wpAny_rule (seg_bind_wrap (wpAny_standAt (seg_bind_wrap (T.self _ 0 s _ _ G.tn (seg_again rfl loop))))))
      | (refine seg_bind_wrap (wpAny_rule ?_); show Seg _ _ _ _ n s₀ _ ((standAt iter.pos >>= _).wrap _ _ _ _) [] s; exact seg_bind_wrap (wpAny_standAt (seg_bind_wrap (T.self _ 0 s _ _ G.tn (seg_again rfl loop)))))
end
end Gx

/-! all, any walk a generator -/
namespace Gx
open PySem PySem.Spec PyProof.Rows L2
section
variable {X Y : Cx} {Qb : Bool → Hp → Prop} {fp : List Addr} {tn : Nat → Heap → Prop} {σw : L2.St} {W : Nat → Nat → Hp → Prop} {a : Addr} {stp : Bool} {N : Nat}
theorem Gp.gens {j : Nat} {H : Hp} {s : Shared} (G : Gp Y N fp tn σw j H s) {A : Array GenState} (h : AllBare A) (hz : N ≤ A.size) : Gp Y N fp tn σw j H { s with gens := A } := ⟨Inv.gens G.inv h, G.tn, G.nf, hz⟩
theorem bare_set {s : Shared} {g : Nat} {x : GenState} (h : AllBare s.gens) (hx : x.bare = true) : AllBare (s.setGen g x).gens := by
  intro y hy
  unfold Shared.setGen at hy
  rcases Array.mem_or_eq_of_mem_setIfInBounds hy with h1 | h1
  · exact h y h1
  · rw [h1]; exact hx
/-- the next item, or the end -/
theorem next_g {E : Value → Shared → Prop} {Q : Option Value → Shared → Prop} {n g : Nat} {s : Shared} {j m : Nat} {H : Hp} {gs : GenState} {go : Obj} (hh : X.A.handled = none) (hroom : X.A.depth < recursionLimit)
    (hgN : g < N) (hpn : (a, go) ∈ Y.pn) (hgo : ∀ h : Heap, h.get? a = some go → h.IsGen a g) (hmn : m < n) (w : W j m H) (G : Gp Y N fp tn σw j H s) (hgs : s.gens[g]? = some gs)
    (hgoes : ∀ s'', Gp Y N fp tn σw j H s'' → gs.Goes (model X.prog X.w) X.A.in1.in1 (RP Y stp Qb σw) (YP Y N stp Qb fp tn σw W) n (.send .none) s'')
    (hE : ∀ s' H', Inv Y [] σw H' s' → Qb (!stp) H' → Q none s')
    (hS : ∀ s' H', Inv Y [] σw H' s' → Qb stp H' → Q (some (.bool stp)) s')
    (hN : ∀ s' c j' m' H' gs', c ≠ stp → m' < n - 1 → W j' m' H' → Gp Y N fp tn σw j' H' s' → s'.gens[g]? = some gs' → (∀ s'', Gp Y N fp tn σw j' H' s'' → gs'.Goes (model X.prog X.w) X.A.in1.in1 (RP Y stp Qb σw) (YP Y N stp Qb fp tn σw W) (n - 1) (.send .none) s'') → Q (some (.bool c)) s') :
    wpAny (model X.prog X.w) X.A.in1 (pyNext (.ref a)) Q E s := by
  have IG : s.heap.IsGen a g := hgo _ (G.inv.pin (a, go) (List.mem_append_left _ hpn)).1
  have hlt : g < s.gens.size := by
    rcases Nat.lt_or_ge g s.gens.size with h' | h'
    · exact h'
    · rw [Array.getElem?_eq_none h'] at hgs; cases hgs
  have G2 : Gp Y N fp tn σw j H (s.setGen g .running) := G.gens (bare_set G.inv.bare rfl) (by rw [Array.size_setIfInBounds]; exact G.gz)
  refine wpAny_pyNext_genexpQ (A := X.A.in1) (n := n) (P := fun _ _ s₁ => ∃ H', Inv Y [] σw H' s₁ ∧ Qb (!stp) H') hh G.inv.nolimit hroom IG hgs (hgoes _ G2) (fun v s1 gs' hb hv => ?_) (fun s1 hp h' hk => ?_)
  · obtain ⟨c, H', rfl, gz, hv⟩ := hv
    rcases hv with ⟨rfl, I1, q⟩ | ⟨hc, j', m', hm, w', G1, hk⟩
    · exact hS _ H' (Inv.gens I1 (bare_set I1.bare hb)) q
    · have G3 : Gp Y N fp tn σw j' H' (s1.setGen g gs') := G1.gens (bare_set G1.inv.bare hb) (by rw [Array.size_setIfInBounds]; exact G1.gz)
      have hk1 := hk s1 G1
      cases n with
      | zero => exact absurd hmn (Nat.not_lt_zero _)
      | succ k =>
        have hm : m' < k := hm
        refine hN _ c j' m' H' gs' hc hm w' G3 ?_ fun s'' G'' => hk s'' G''
        have hlt1 : g < s1.gens.size := Nat.lt_of_lt_of_le hgN gz
        simp [Shared.setGen, hlt1]
  · obtain ⟨H', I1, q⟩ := hp
    have I2 : Inv Y [] σw H' { s1.setGen g .finished with heap := h' } := by
      have I3 := Inv.gens I1 (bare_set (g := g) (x := .finished) I1.bare rfl)
      exact I3.kept (t' := s1.toks) hk
    exact hE _ H' I2 q
/-- a generator at a, between two items -/
structure GAt (X Y : Cx) (N : Nat) (stp : Bool) (Qb : Bool → Hp → Prop) (fp : List Addr) (tn : Nat → Heap → Prop) (σw : L2.St) (W : Nat → Nat → Hp → Prop) (g n : Nat) (s : Shared) : Prop where
  ex : ∃ j m H gs, m < n ∧ W j m H ∧ Gp Y N fp tn σw j H s ∧ s.gens[g]? = some gs ∧
    ∀ s'', Gp Y N fp tn σw j H s'' → gs.Goes (model X.prog X.w) X.A.in1.in1 (RP Y stp Qb σw) (YP Y N stp Qb fp tn σw W) n (.send .none) s''
theorem all_loop {g : Nat} {go : Obj} {R : Result → Shared → Prop} (hh : X.A.handled = none) (hroom : X.A.depth < recursionLimit) (hgN : g < N) (hpn : (a, go) ∈ Y.pn) (hgo : ∀ h : Heap, h.get? a = some go → h.IsGen a g)
    (hR : ∀ b s' H', Inv Y [] σw H' s' → Qb b H' → R (.ok (.ret (.bool b))) s') : ∀ (n : Nat) (s : Shared), GAt X Y N false Qb fp tn σw W g n s → codeAny (model X.prog X.w) X.A (.builtin "all.loop" ⟨[.ref a], []⟩) R s := by
  intro n
  induction n with
  | zero =>
    rintro s ⟨j, m, H, gs, h1, _⟩
    exact absurd h1 (Nat.not_lt_zero _)
  | succ n ih =>
    rintro s ⟨j, m, H, gs, h1, h2, h3, h4, h5⟩
    refine codeAny_builtin F.entry_all_loop ?_
    rw [Around.under_plainId F.plain_all_loop _]
    show wpAny _ X.A.in1 (pyNext (.ref a) >>= _) _ _ s
    refine wpAny_bind (next_g hh hroom hgN hpn hgo h1 h2 h3 h4 h5 (fun s' H' I q => ?_) (fun s' H' I q => ?_) (fun s' c j' m' H' gs' hc hm w' G' hg' hk => ?_))
    · exact wpAny_bind (wpAny_rule (wpAny_pure (hR _ s' H' I q)))
    · refine wpAny_bind (wpAny_holding (wpAny_truthy_bool ?_))
      refine wpAny_bind (wpAny_letGo ?_)
      simp only [Bool.false_eq_true, if_false]
      exact wpAny_bind (wpAny_rule (wpAny_pure (hR _ s' H' I q)))
    · have ec : c = true := by cases c with
        | true => rfl
        | false => exact absurd rfl hc
      subst ec
      refine wpAny_bind (wpAny_holding (wpAny_truthy_bool ?_))
      refine wpAny_bind (wpAny_letGo ?_)
      simp only [if_true]
      exact wpAny_pure ⟨plainId_quiet F.plain_all_loop _, ih s' ⟨j', m', H', gs', hm, w', G', hg', hk⟩⟩
theorem any_loop {g : Nat} {go : Obj} {R : Result → Shared → Prop} (hh : X.A.handled = none) (hroom : X.A.depth < recursionLimit) (hgN : g < N) (hpn : (a, go) ∈ Y.pn) (hgo : ∀ h : Heap, h.get? a = some go → h.IsGen a g)
    (hR : ∀ b s' H', Inv Y [] σw H' s' → Qb b H' → R (.ok (.ret (.bool b))) s') : ∀ (n : Nat) (s : Shared), GAt X Y N true Qb fp tn σw W g n s → codeAny (model X.prog X.w) X.A (.builtin "any.loop" ⟨[.ref a], []⟩) R s := by
  intro n
  induction n with
  | zero =>
    rintro s ⟨j, m, H, gs, h1, _⟩
    exact absurd h1 (Nat.not_lt_zero _)
  | succ n ih =>
    rintro s ⟨j, m, H, gs, h1, h2, h3, h4, h5⟩
    refine codeAny_builtin F.entry_any_loop ?_
    rw [Around.under_plainId F.plain_any_loop _]
    show wpAny _ X.A.in1 (pyNext (.ref a) >>= _) _ _ s
    refine wpAny_bind (next_g hh hroom hgN hpn hgo h1 h2 h3 h4 h5 (fun s' H' I q => ?_) (fun s' H' I q => ?_) (fun s' c j' m' H' gs' hc hm w' G' hg' hk => ?_))
    · exact wpAny_bind (wpAny_rule (wpAny_pure (hR _ s' H' I q)))
    · refine wpAny_bind (wpAny_holding (wpAny_truthy_bool ?_))
      refine wpAny_bind (wpAny_letGo ?_)
      simp only [if_true]
      exact wpAny_bind (wpAny_rule (wpAny_pure (hR _ s' H' I q)))
    · have ec : c = false := by cases c with
        | false => rfl
        | true => exact absurd rfl hc
      subst ec
      refine wpAny_bind (wpAny_holding (wpAny_truthy_bool ?_))
      refine wpAny_bind (wpAny_letGo ?_)
      simp only [Bool.false_eq_true, if_false]
      exact wpAny_pure ⟨plainId_quiet F.plain_any_loop _, ih s' ⟨j', m', H', gs', hm, w', G', hg', hk⟩⟩
end
end Gx

/-! the expressions all(.. for .. in ..), any(.. for .. in ..) -/
namespace Gx
open PySem PySem.Spec PyProof.Rows L2
/-- P: the table of the def's code object -/
def tGn (stp : Bool) (P : Addr) (wi : TI) (g : TG) (tt : TT) (te : TE) (vs : List Nat) : TE := fun σ H Q => wi σ H fun J H0 => GxR.TabG H0 P ∧ ∀ ps : Array Value, TriplesOk ps.toList →
  ∃ W : Nat → Nat → Hp → Prop, (∃ m, W 0 m (upd H0 P (.tbl ps))) ∧ GTurn stp (fun b H' => Q (.bl b) H') J g tt te vs σ W
/-- the generator expression's own scope -/
structure GScope (N : List Str) (sc scope : Scope) (own : List (Str × Nat)) : Prop where
  blk : BlkOk N sc scope own
  co : scope.isCoroutine = false
  cell : ∀ y ∈ scope.names, y.2 ≠ .cell
  dot : scope.names.lookup (".0" : Str) = some NameKind.local
def gscB (N : List Str) (sc scope : Scope) (own : List (Str × Nat)) : Bool := blkC N sc scope own && !scope.isCoroutine && scope.names.all (fun y => !decide (y.2 = .cell)) && decide (scope.names.lookup (".0" : Str) = some NameKind.local)
theorem gscope_by {N : List Str} {sc scope : Scope} {own : List (Str × Nat)} (h : gscB N sc scope own = true) : GScope N sc scope own := by
  unfold gscB at h
  simp only [Bool.and_eq_true, Bool.not_eq_true', decide_eq_true_eq, List.all_eq_true, decide_eq_false_iff_not] at h
  obtain ⟨⟨⟨h1, h2⟩, h3⟩, h4⟩ := h
  exact ⟨blkOk_by h1, h2, h3, h4⟩
section
variable {X : Cx} {pins : List (Addr × Obj)} {σ : L2.St} {H : Hp} {s : Shared} {c P : Addr} {scope : Scope} {own : List (Str × Nat)} {stp : Bool} {Q : VK}
  {elt tg iter : Expr} {ifs : List Expr} {gpos : Pos} {wi : TI} {g : TG} {tt : TT} {te : TE} {k : Nat} {Q' : Value → Shared → Prop}
/-- a generator that is ready to be walked -/
def Rdy (X : Cx) (pins : List (Addr × Obj)) (σ : L2.St) (stp : Bool) (Q : VK) (a : Addr) (s : Shared) : Prop :=
  ∃ (Y : Cx) (N gn n : Nat) (go : Obj) (fp : List Addr) (tn : Nat → Heap → Prop) (W : Nat → Nat → Hp → Prop) (σw : L2.St), gn < N ∧ (a, go) ∈ Y.pn ∧ (∀ h : Heap, h.get? a = some go → h.IsGen a gn) ∧ s.heap.IsGen a gn ∧
    GAt X Y N stp (fun b H' => Q (.bl b) H') fp tn σw W gn n s ∧ ∀ s' H', Inv Y [] σw H' s' → Inv X pins σ H' s'
theorem gen_eval (hc : X.calm = true) (hr : Room k X.A) (hN : X.N.Nodup) (TB : GxR.TabB X.base X.mg c P) (hcode : X.env.code = .ref c) (S : GScope X.N X.env.scope scope own) (hi : PI X tg iter wi)
    (hg : ∀ (s : Shared) (H : Hp) (C : Addr) (code : Value) (fp : List Addr) (pn : List (Addr × Obj)), PG (gcx X scope C code s H fp pn) tg g) (ht : ∀ (s : Shared) (H : Hp) (C : Addr) (code : Value) (fp : List Addr) (pn : List (Addr × Obj)), PTs (gcx X scope C code s H fp pn) ifs tt)
    (he : ∀ (s : Shared) (H : Hp) (C : Addr) (code : Value) (fp : List Addr) (pn : List (Addr × Obj)), PE (gcx X scope C code s H fp pn) elt te) (hs : ∀ v, genFold iter X.env v = pure v)
    (I : Inv X pins σ H s) (h : tGn stp P wi g tt te (own.map (·.2)) σ H Q) (hQ : ∀ a s5, Rdy X pins σ stp Q a s5 → Q' (.ref a) s5) :
    wpAny (model X.prog X.w) X.A (eval (.GeneratorExp elt [⟨tg, iter, ifs, 0⟩] scope gpos) X.env) Q' X.xe s := by
  have hfree : ∀ y ∈ scope.names, y.2 = .free → ∃ c, X.env.cells.lookup y.1 = some c := fun y hy e => by
    rcases S.blk.free y hy e with k | k
    · exact I.ok.has _ (.inl k)
    · exact I.ok.has _ (.inr k)
  refine wpAny_GeneratorExp_make S.co (closure_ok hfree) S.cell S.dot S.blk.kind (by have := hr.dp; omega) ?_ hs
  refine thn (hi.run pins s σ H _ I h) fun xv s1 hx => thn hx fun itv s2 h2 => ?_
  obtain ⟨it, fp, tn, J, H2, rfl, I2, T, st2, f2, ⟨ps, hP, htr⟩, q⟩ := h2
  refine ⟨I2.nolimit, ?_⟩
  have hPs : s2.heap.get? P = some { cls := .none, data := .fields ps } := I2.hok P _ hP
  have cd : PySem.W.CodeHd s2.heap c P := TB.code.keeps fun b u e => I2.bk b u e
  have cont : ∀ (code : Value) (h3 : Heap) (tk : Nat) (ps' : Array Value), Heap.ExtBut P s2.heap h3 → s2.heap.objs.size ≤ h3.objs.size → h3.get? P = some { cls := .none, data := .fields ps' } → (∃ more, ps' = ps ++ more) → TriplesOk ps'.toList →
      wpAny (model X.prog X.w) X.A (builtinsFor X.env.globals X.env.builtins) (fun bi s₄ => ∀ h', h'.Ns s₄.heap.objs.size (fun y => if y = ".0" then some (Value.ref it) else none) → Heap.SameBut s₄.heap.objs.size (s₄.heap.push { cls := .type "frame", data := .dict #[] }) h' →
          Q' (.ref h'.objs.size) { s₄ with
            gens := s₄.gens.push (.fresh (.compStart (.GeneratorExp elt [⟨tg, iter, ifs, 0⟩] scope gpos) 0 (.ref it) .none (genEnv scope (cloFrom X.env.cells scope.names []) s₄.heap.objs.size code bi X.env))),
            toks := s₄.toks + 1 + 1 + 1,
            heap := h'.push { cls := .type "generator", data := .fields #[.int s₄.gens.size 0, .str "<genexpr>" (s₄.toks + 1), .str (X.env.qual ++ "<genexpr>") (s₄.toks + 1 + 1)] } }) X.xe { s2 with heap := h3, toks := tk } := by
    intro code h3 tk ps' hx hsz hP3 hmore htr3
    obtain ⟨more, em⟩ := hmore
    subst em
    have I3 : Inv X pins σ (upd H2 P (.tbl (ps ++ more))) { s2 with heap := h3, toks := tk } :=
      GxR.inv_tab (more := more) (h' := h3) (g' := s2.gens) (d' := s2.drawn) (t' := tk) I2 hP (fun b u hb e => hx b u hb e) hP3 I2.bare
    obtain ⟨bm, ob, e1, e2, e3, e4, e5, e6, e7, e8⟩ := TB.bm
    refine wpAny_builtinsFor (m := X.mg) (by rw [I3.ok.glob]; exact I3.mod.glob.keeps I3.bk) e1 e2 (I3.bk _ _ e5) e6 e7 e8 ?_
    intro h' hns hsb
    have nP : ∀ b ∈ fp, b ≠ P := fun b hb z => by
      have := (f2 b hb).1
      rw [z, hP] at this
      cases this
    have st3 : tn 0 h3 := T.keep _ _ _ st2 fun b hb o e => hx b o (nP b hb) e
    have f3 : ∀ b ∈ fp, FpOk X pins (upd H2 P (.tbl (ps ++ more))) b ∧ b < h3.objs.size := fun b hb => by
      refine ⟨⟨by rw [upd_ne (nP b hb)]; exact (f2 b hb).1, (f2 b hb).2⟩, ?_⟩
      obtain ⟨o, e, _⟩ := T.obj _ _ st2 b hb
      exact Nat.lt_of_lt_of_le (Heap.lt_size e) hsz
    have hsz' : h'.objs.size = h3.objs.size + 1 := by rw [hsb.1, Heap.size_push]
    obtain ⟨W, ⟨m0, w0⟩, turn⟩ := q _ htr3
    have I4 := gen_start (code := code) (go := { cls := .type "generator", data := .fields #[.int s2.gens.size 0, .str "<genexpr>" (tk + 1), .str (X.env.qual ++ "<genexpr>") (tk + 1 + 1)] })
      (G := s2.gens.push (.fresh (.compStart (.GeneratorExp elt [⟨tg, iter, ifs, 0⟩] scope gpos) 0 (.ref it) .none (envG X scope h3.objs.size code)))) (tk := tk + 1 + 1 + 1) I3 S.blk hN S.cell hc f3 hns hsb (fun v z => nomatch z) rfl (I2.bare.push rfl)
    have keep' : ∀ b o, h3.get? b = some o → h'.get? b = some o := fun b o e => hsb.extBut b o (Nat.ne_of_lt (Heap.lt_size e)) (Heap.get?_push_of_some _ e)
    have hpn : ∀ p ∈ [(h'.objs.size, ({ cls := .type "generator", data := .fields #[.int s2.gens.size 0, .str "<genexpr>" (tk + 1), .str (X.env.qual ++ "<genexpr>") (tk + 1 + 1)] } : Obj))], p.1 ∉ fp := fun p hp z => by
      rw [List.mem_singleton] at hp
      subst hp
      have := (f3 _ z).2
      rw [hsz'] at this
      exact Nat.not_succ_lt_self this
    refine hQ _ _ ⟨gcx X scope h3.objs.size code { s2 with heap := h3, toks := tk } (upd H2 P (.tbl (ps ++ more))) fp [(h'.objs.size, { cls := .type "generator", data := .fields #[.int s2.gens.size 0, .str "<genexpr>" (tk + 1), .str (X.env.qual ++ "<genexpr>") (tk + 1 + 1)] })],
      s2.gens.size + 1, s2.gens.size, m0 + 1, _, fp, tn, W, _, Nat.lt_succ_self _, List.mem_cons_self .., fun h e => ⟨_, _, _, e, rfl, rfl, rfl⟩, ⟨_, _, _, Heap.get?_push_size _ rfl, rfl, rfl, rfl⟩,
      ⟨0, m0, upd H2 P (.tbl (ps ++ more)), _, Nat.lt_succ_self _, w0, ⟨I4, T.keep _ _ _ st3 fun b _ o e => Heap.get?_push_of_some _ (keep' b o e), fun b hb => (f3 b hb).1.1, ?_⟩, Array.getElem?_push_size .., fun s'' G => ⟨rfl, gen_seg0 hc hpn S.co T (hg _ _ _ _ _ _) (ht _ _ _ _ _ _) (he _ _ _ _ _ _) turn w0 (Nat.lt_succ_self _) G⟩⟩, fun s' H' J => ?_⟩
    · show s2.gens.size + 1 ≤ (s2.gens.push _).size
      rw [Array.size_push]
      exact Nat.le_refl _
    · exact I3.call' (ch := fp) J.os J.base J.hok J.bare fun b hb => ⟨(f3 b hb).1.2.2.2.1, (f3 b hb).1.2.1, (f3 b hb).1.2.2.2.2.1, (f3 b hb).1.2.2.2.2.2⟩
  cases hf : codeAmong gpos ps.toList with
  | none =>
    refine wpAny_genexprCodeX hcode (cd.code hPs htr) (cd.tab hPs) hf fun c' h' tk hx hge hlt hco' _ htab' _ => ?_
    obtain ⟨o1, vs, f1, tf, fl, tg, inF, tx, tt, op, _, _, _, _, _, _, _, _, _, htr', _⟩ := hco'
    exact cont _ h' tk _ hx (Nat.le_trans hge (Nat.le_of_lt hlt)) htab'.2 ⟨_, rfl⟩ htr'
  | some cv =>
    refine wpAny_genexprCode_hit hcode (cd.code hPs htr) hf ?_
    exact cont cv s2.heap s2.toks ps (Heap.ExtBut.refl _ _) (Nat.le_refl _) hPs ⟨#[], by simp⟩ htr
end
end Gx

/-! the rules -/
namespace Gx
open PySem PySem.Spec PyProof.Rows L2
section
variable {X : Cx} {c P : Addr} {scope : Scope} {own : List (Str × Nat)} {elt tg iter : Expr} {ifs : List Expr} {p pos gpos : Pos} {wi : TI} {g : TG} {tt : TT} {te : TE} {k : Nat}
theorem pe_all (hc : X.calm = true) (hr : Room k X.A) (hN : X.N.Nodup) (hg : Gl X "all") (hm : X.mg "all" = none) (TB : GxR.TabB X.base X.mg c P) (hcode : X.env.code = .ref c) (S : GScope X.N X.env.scope scope own) (hi : PI X tg iter wi)
    (pg : ∀ (s : Shared) (H : Hp) (C : Addr) (code : Value) (fp : List Addr) (pn : List (Addr × Obj)), PG (gcx X scope C code s H fp pn) tg g) (pt : ∀ (s : Shared) (H : Hp) (C : Addr) (code : Value) (fp : List Addr) (pn : List (Addr × Obj)), PTs (gcx X scope C code s H fp pn) ifs tt)
    (pe : ∀ (s : Shared) (H : Hp) (C : Addr) (code : Value) (fp : List Addr) (pn : List (Addr × Obj)), PE (gcx X scope C code s H fp pn) elt te) (hs : ∀ v, genFold iter X.env v = pure v := by intro _; rfl)
    (he : starEach [.GeneratorExp elt [⟨tg, iter, ifs, 0⟩] scope gpos] X.env = (false, eval (.GeneratorExp elt [⟨tg, iter, ifs, 0⟩] scope gpos) X.env) :: starEach [] X.env := by rfl) :
    PE X (.Call (.Name "all" p) [.GeneratorExp elt [⟨tg, iter, ifs, 0⟩] scope gpos] [] pos) (tGn false P wi g tt te (own.map (·.2))) := by
  refine ⟨fun pins s σ H Q I h => ?_⟩
  refine wpAny_Call_Name_kw (ld_blt I hg hm PyProof.Rows.boot_all ?_)
  refine PyProof.Rows.callWith_builtin1 ?_ he (by rfl)
  rw [he]
  show wpAny _ _ (spliced ((false, eval (.GeneratorExp elt [⟨tg, iter, ifs, 0⟩] scope gpos) X.env) :: backTo pos (starEach [] X.env))) _ _ s
  refine Calls.spliced_cons (gen_eval hc hr hN TB hcode S hi pg pt pe hs I h fun a s5 hR => ?_)
  refine Calls.spliced_nil ?_
  obtain ⟨Y, N, gn, n, go, fp, tn, W, σw, h1, h2, h3, h4, h5, h6⟩ := hR
  refine call_function_tree F.kind_all F.plain_all F.entry_all (F.args_all1 _) ?_
  unfold Builtin.«all»
  refine wpAny_bind (m := oneArg "all" _) (wpAny_pure ?_)
  refine wpAny_bind (wpAny_pyIter_gen h4 ?_)
  exact wpAny_pure ⟨plainId_quiet F.plain_all_loop _, all_loop hr.hd (by have := hr.dp; omega) h1 h2 h3 (fun b s' H' J q => ⟨.bl b, H', h6 s' H' J, rfl, q⟩) n s5 h5⟩
theorem pe_any (hc : X.calm = true) (hr : Room k X.A) (hN : X.N.Nodup) (hg : Gl X "any") (hm : X.mg "any" = none) (TB : GxR.TabB X.base X.mg c P) (hcode : X.env.code = .ref c) (S : GScope X.N X.env.scope scope own) (hi : PI X tg iter wi)
    (pg : ∀ (s : Shared) (H : Hp) (C : Addr) (code : Value) (fp : List Addr) (pn : List (Addr × Obj)), PG (gcx X scope C code s H fp pn) tg g) (pt : ∀ (s : Shared) (H : Hp) (C : Addr) (code : Value) (fp : List Addr) (pn : List (Addr × Obj)), PTs (gcx X scope C code s H fp pn) ifs tt)
    (pe : ∀ (s : Shared) (H : Hp) (C : Addr) (code : Value) (fp : List Addr) (pn : List (Addr × Obj)), PE (gcx X scope C code s H fp pn) elt te) (hs : ∀ v, genFold iter X.env v = pure v := by intro _; rfl)
    (he : starEach [.GeneratorExp elt [⟨tg, iter, ifs, 0⟩] scope gpos] X.env = (false, eval (.GeneratorExp elt [⟨tg, iter, ifs, 0⟩] scope gpos) X.env) :: starEach [] X.env := by rfl) :
    PE X (.Call (.Name "any" p) [.GeneratorExp elt [⟨tg, iter, ifs, 0⟩] scope gpos] [] pos) (tGn true P wi g tt te (own.map (·.2))) := by
  refine ⟨fun pins s σ H Q I h => ?_⟩
  refine wpAny_Call_Name_kw (ld_blt I hg hm PyProof.Rows.boot_any ?_)
  refine PyProof.Rows.callWith_builtin1 ?_ he (by rfl)
  rw [he]
  show wpAny _ _ (spliced ((false, eval (.GeneratorExp elt [⟨tg, iter, ifs, 0⟩] scope gpos) X.env) :: backTo pos (starEach [] X.env))) _ _ s
  refine Calls.spliced_cons (gen_eval hc hr hN TB hcode S hi pg pt pe hs I h fun a s5 hR => ?_)
  refine Calls.spliced_nil ?_
  obtain ⟨Y, N, gn, n, go, fp, tn, W, σw, h1, h2, h3, h4, h5, h6⟩ := hR
  refine call_function_tree F.kind_any F.plain_any F.entry_any (F.args_any1 _) ?_
  unfold Builtin.«any»
  refine wpAny_bind (m := oneArg "any" _) (wpAny_pure ?_)
  refine wpAny_bind (wpAny_pyIter_gen h4 ?_)
  exact wpAny_pure ⟨plainId_quiet F.plain_any_loop _, any_loop hr.hd (by have := hr.dp; omega) h1 h2 h3 (fun b s' H' J q => ⟨.bl b, H', h6 s' H' J, rfl, q⟩) n s5 h5⟩
end
end Gx

/-! all, any in the language -/
namespace Mp
open PySem PySem.Spec PyProof.Rows L2 Gd Dq
/-- the turns; stp: the answer at which they stop -/
def allL (stp : Bool) (sdw : SD) (set : PyData → SD → Option SD) (c : SD → (Bool → Bool) → Bool) (F : SD → (ER → Bool) → Bool) : List PyData → (Bool → Bool) → Bool
  | [], k => k (!stp)
  | x :: xs, k => ob (set x sdw) fun sd2 => c sd2 fun b => match b with
    | true => F sd2 fun r => ob (bOf r) fun b2 => match stp == b2 with
      | true => k stp
      | false => allL stp sdw set c F xs k
    | false => allL stp sdw set c F xs k
def genF (stp : Bool) (vs : List Nat) (set : PyData → SD → Option SD) (fi : SD → (Bool → List PyData → Bool) → Bool) (ft : SD → (Bool → Bool) → Bool) (F : SD → (ER → Bool) → Bool) : SD → (ER → Bool) → Bool := fun sd k =>
  fi sd fun _ ds => allL stp (wipeD sd vs) set ft F ds fun b => k (.dat (.bool b))
theorem SrH.tab {so : Wr} {H : Hp} {P : Addr} {ps : Array Value} (h : SrH so H) (hP : P ∈ so.tb) (t : TriplesOk ps.toList) : SrH so (upd H P (.tbl ps)) := by
  obtain ⟨qs, e, _⟩ := h.tb P hP
  refine ⟨fun s c z => ?_, fun R hR => ?_⟩
  · obtain ⟨h0, cells, l, m, tt, h1, h2, h3⟩ := h.sr s c z
    have n1 : s ≠ P := fun q => by rw [q, e] at h1; cases h1
    have n2 : c ≠ P := fun q => by rw [q, e] at h2; cases h2
    exact ⟨h0, cells, l, m, tt, by rw [upd_ne n1]; exact h1, by rw [upd_ne n2]; exact h2, h3⟩
  · by_cases q : R = P
    · subst q
      exact ⟨ps, upd_same, t⟩
    · obtain ⟨ws, e1, t1⟩ := h.tb R hR
      exact ⟨ws, by rw [upd_ne q]; exact e1, t1⟩
section
variable {K : KT} {wi : TI} {tt : TT} {te : TE} {fi : SD → (Bool → List PyData → Bool) → Bool} {ft : SD → (Bool → Bool) → Bool} {F : SD → (ER → Bool) → Bool} {g : TG} {gv vs : List Nat} {set : PyData → SD → Option SD} {stp : Bool} {P : Addr}
theorem okE_gn (hP : P ∈ K.tb) (hi : OkI K wi fi) (hg : OkG K g gv set) (hv : ∀ i ∈ gv, i ∈ vs) (ht : OkT K tt ft) (he : OkE K te F) : OkE K (Gx.tGn stp P wi g tt te vs) (genF stp vs set fi ft F) := by
  intro so M H σ sd s k hk Q q
  refine hi so M H σ sd s _ hk _ fun J H1 G Y own ds k1 q1 w => ?_
  have s1 := s.q q1
  have hPs := s1.tbs P hP
  refine ⟨s1.sr.hd.tb P hPs, fun ps htr => ?_⟩
  have qs : Kq so H1 (upd H1 P (.tbl ps)) := ⟨fun b o n e => by rw [upd_ne (fun (z : b = P) => n (z ▸ wr_tb hPs))]; exact e, s1.sr.hd.tab hPs htr⟩
  have ss := s1.q qs
  refine ⟨fun j m H => m = ds.length - j ∧ j ≤ ds.length ∧ Kq so (upd H1 P (.tbl ps)) H ∧ allL stp (wipeD sd vs) set ft F (ds.drop j) (fun b => k (.dat (.bool b))) = true, ⟨ds.length, rfl, Nat.zero_le _, ss.sr.refl, k1⟩, ?_⟩
  rintro j m H2 ⟨rfl, hj, kq, hn⟩
  have kqt := qs.trans kq
  have hG := w.g1 H2 kqt
  have sH := ss.q kq
  by_cases hlt : j < ds.length
  · refine .inr ⟨w.wk.goes j H2 hlt hG, fun x H4 y => ?_⟩
    obtain ⟨e4, d4⟩ := w.yl j H2 x H4 hlt hG (w.wk.yields j H2 x H4 hlt hG y)
    have dx := d4 M (s1.go kqt).mn sH.tr
    have q4 := sH.sr.same e4
    have s4 := sH.q q4
    rw [at0_drop hlt] at hn
    unfold allL at hn
    obtain ⟨sd2, hset, hn⟩ := ob_some hn
    refine hg so M H4 (L2.wipe σ vs) (wipeD sd vs) sd2 x _ (s4.wipe vs) dx hset _ fun σ2 s2 b2 l2 o2 => ?_
    have hwp : L2.wipe σ2 vs = L2.wipe σ vs := by
      have h1 := wipe_eq (σ := L2.wipe σ vs) (vs := vs) l2 fun i hi => o2 i fun z => hi (hv i z)
      have h2 : L2.wipe (L2.wipe σ vs) vs = L2.wipe σ vs := by
        refine wipe_eq (wipe_length _ _) fun i hi => ?_
        exact wipe_out hi
      rw [h1, h2]
    refine ⟨hwp, ?_⟩
    refine ht so M H4 σ2 sd2 s2 _ hn _ fun b H5 k5 q5 => ?_
    have s5 := s2.q q5
    have kq5 := (kq.trans q4).trans q5
    cases b with
    | false => exact ⟨_, by omega, rfl, hlt, kq5, k5⟩
    | true =>
      refine he so M H5 σ2 sd2 s5 _ k5 _ fun v r H6 k6 q6 e6 => ?_
      obtain ⟨b2, hb2, k6⟩ := ob_some k6
      have hv : v = .bl b2 := by
        cases r with
        | dat d =>
          cases d with
          | bool bb =>
            cases hb2
            exact Da.blV (show Dm K M H6 v (.bool b2) from e6)
          | _ => cases hb2
        | _ => cases hb2
      refine ⟨b2, hv, ?_⟩
      split at k6
      · rename_i eb
        have eb : stp = b2 := by simpa using eb
        exact .inl ⟨eb.symm, q _ (.dat (.bool stp)) H6 k6 ((q1.trans qs).trans (kq5.trans q6)) (.bl stp)⟩
      · rename_i eb
        have eb : stp ≠ b2 := by simpa using eb
        exact .inr ⟨fun z => eb z.symm, _, by omega, rfl, hlt, kq5.trans q6, k6⟩
  · have e : j = ds.length := by omega
    subst e
    rw [List.drop_length] at hn
    unfold allL at hn
    exact .inl ⟨w.wk.stops H2 hG, q _ (.dat (.bool (!stp))) H2 hn (q1.trans kqt) (.bl _)⟩
end
end Mp

/-! sorted, of alike data -/
namespace Mp
open PySem PySem.Spec PyProof.Rows L2 Gd Dq
mutual
theorem toks_inj : ∀ (x y : PyData) (l m : List (Int ⊕ List Nat)), PySem.W.alike x y = true → PySem.W.keyToks x ++ l = PySem.W.keyToks y ++ m → x = y ∧ l = m
  | .none, y, l, m, h, e => by
    cases y with
    | none => exact ⟨rfl, by simpa [PySem.W.keyToks] using e⟩
    | _ => exact absurd h (by simp [PySem.W.alike])
  | .bool a, y, l, m, h, e => by
    cases y with
    | bool b =>
      simp only [PySem.W.keyToks, List.cons_append, List.nil_append, List.cons.injEq, Sum.inl.injEq] at e
      refine ⟨?_, e.2⟩
      have := e.1
      cases a <;> cases b <;> first | rfl | (exact absurd this (by decide))
    | _ => exact absurd h (by simp [PySem.W.alike])
  | .int a, y, l, m, h, e => by
    cases y with
    | int b =>
      simp only [PySem.W.keyToks, List.cons_append, List.nil_append, List.cons.injEq, Sum.inl.injEq] at e
      exact ⟨by rw [e.1], e.2⟩
    | _ => exact absurd h (by simp [PySem.W.alike])
  | .str a, y, l, m, h, e => by
    cases y with
    | str b =>
      simp only [PySem.W.keyToks, List.cons_append, List.nil_append, List.cons.injEq, Sum.inr.injEq] at e
      exact ⟨by rw [PySem.W.str_of_cps e.1], e.2⟩
    | _ => exact absurd h (by simp [PySem.W.alike])
  | .list xs, y, l, m, h, e => by
    cases y with
    | list ys =>
      simp only [PySem.W.keyToks] at e
      unfold PySem.W.alike at h
      obtain ⟨h1, h2⟩ := toksAll_inj xs ys l m h e
      exact ⟨by rw [h1], h2⟩
    | _ => exact absurd h (by simp [PySem.W.alike])
  | .tuple xs, y, l, m, h, e => by
    cases y with
    | tuple ys =>
      simp only [PySem.W.keyToks] at e
      unfold PySem.W.alike at h
      obtain ⟨h1, h2⟩ := toksAll_inj xs ys l m h e
      exact ⟨by rw [h1], h2⟩
    | _ => exact absurd h (by simp [PySem.W.alike])
  | .dict kvs, y, l, m, h, e => by
    cases y <;> exact absurd h (by simp [PySem.W.alike])
theorem toksAll_inj : ∀ (xs ys : List PyData) (l m : List (Int ⊕ List Nat)), PySem.W.alikeAll xs ys = true → PySem.W.keyToksAll xs ++ l = PySem.W.keyToksAll ys ++ m → xs = ys ∧ l = m
  | [], [], l, m, _, e => ⟨rfl, by simpa [PySem.W.keyToksAll] using e⟩
  | [], y :: ys, l, m, _, e => by simp [PySem.W.keyToksAll] at e
  | x :: xs, [], l, m, _, e => by simp [PySem.W.keyToksAll] at e
  | x :: xs, y :: ys, l, m, h, e => by
    unfold PySem.W.alikeAll at h
    rw [Bool.and_eq_true] at h
    simp only [PySem.W.keyToksAll, List.cons_append, List.cons.injEq, true_and, List.append_assoc] at e
    obtain ⟨h1, h2⟩ := toks_inj x y _ _ h.1 e
    obtain ⟨h3, h4⟩ := toksAll_inj xs ys l m h.2 h2
    exact ⟨by rw [h1, h3], h4⟩
end
theorem data_anti {x y : PyData} (h : PySem.W.alike x y = true) (h1 : PySem.W.dataLt x y = false) (h2 : PySem.W.dataLt y x = false) : x = y := by
  have e : PySem.W.keyToks x = PySem.W.keyToks y := PyProof.Rows.lex_total (O := PyProof.Rows.itemOrd) _ _ h1 h2
  exact (toks_inj x y [] [] h (by rw [e])).1
theorem le_total : PySem.W.TotalLe (PySem.W.dataLe false (id : PyData → PyData)) := PySem.W.sortLe_total _ _ _
/-- a < b, quickly -/
def ltQ : PyData → PyData → Bool
  | .int i, .int j => decide (i < j)
  | a, b => PySem.W.dataLt a b
theorem ltQ_eq (a b : PyData) : ltQ a b = PySem.W.dataLt a b := by
  unfold ltQ
  split
  · rw [PySem.W.dataLt_int]
  · rfl
def mrgQ : Nat → List PyData → List PyData → List PyData
  | 0, a, b => a ++ b
  | _ + 1, [], b => b
  | _ + 1, a, [] => a
  | n + 1, x :: a, y :: b => match ltQ y x with
    | true => y :: mrgQ n (x :: a) b
    | false => x :: mrgQ n a (y :: b)
theorem mrgQ_perm : ∀ (n : Nat) (a b : List PyData), (mrgQ n a b).Perm (a ++ b)
  | 0, a, b => List.Perm.refl _
  | _ + 1, [], b => List.Perm.refl _
  | _ + 1, x :: a, [] => by
    unfold mrgQ
    rw [List.append_nil]
  | n + 1, x :: a, y :: b => by
    unfold mrgQ
    split
    · have h := mrgQ_perm n (x :: a) b
      refine (h.cons y).trans ?_
      exact (List.perm_middle (a := y) (l₁ := x :: a) (l₂ := b)).symm
    · exact (mrgQ_perm n a (y :: b)).cons x
def halfQ : List PyData → List PyData × List PyData
  | [] => ([], [])
  | x :: xs => match halfQ xs with
    | (a, b) => (x :: b, a)
theorem halfQ_perm : ∀ l : List PyData, ((halfQ l).1 ++ (halfQ l).2).Perm l
  | [] => List.Perm.refl _
  | x :: xs => by
    have h := halfQ_perm xs
    unfold halfQ
    exact (List.Perm.cons x (List.perm_append_comm.trans h))
def srtQ : Nat → List PyData → List PyData
  | 0, l => l
  | _ + 1, [] => []
  | _ + 1, [x] => [x]
  | n + 1, x :: y :: l => match halfQ (x :: y :: l) with
    | (a, b) => mrgQ (l.length + 2) (srtQ n a) (srtQ n b)
theorem srtQ_perm : ∀ (n : Nat) (l : List PyData), (srtQ n l).Perm l
  | 0, l => List.Perm.refl _
  | _ + 1, [] => List.Perm.refl _
  | _ + 1, [x] => List.Perm.refl _
  | n + 1, x :: y :: l => by
    unfold srtQ
    have h := halfQ_perm (x :: y :: l)
    cases e : halfQ (x :: y :: l) with
    | mk a b =>
      rw [e] at h
      exact ((mrgQ_perm _ _ _).trans ((srtQ_perm n a).append (srtQ_perm n b))).trans h
def srtD (ds : List PyData) : List PyData := srtQ (ds.length.log2 + 1) ds
def chainQ : List PyData → Bool
  | x :: y :: l => !ltQ y x && chainQ (y :: l)
  | _ => true
theorem chainQ_pw : ∀ {l : List PyData}, chainQ l = true → l.Pairwise fun a b => PySem.W.dataLe false (id : PyData → PyData) a b = true
  | [], _ => .nil
  | [x], _ => List.pairwise_singleton _ _
  | x :: y :: l, h => by
    unfold chainQ at h
    rw [Bool.and_eq_true] at h
    have ih := chainQ_pw h.2
    have hxy : PySem.W.dataLe false (id : PyData → PyData) x y = true := by
      show (!PySem.W.dataLt y x) = true
      rw [← ltQ_eq]
      exact h.1
    refine .cons (fun z hz => ?_) ih
    rcases List.mem_cons.mp hz with rfl | hz
    · exact hxy
    · exact le_total.trans _ _ _ hxy ((List.pairwise_cons.mp ih).1 z hz)
theorem sorted_one {le : PyData → PyData → Bool} : ∀ {c m : List PyData}, c.Perm m → c.Pairwise (fun a b => le a b = true) → m.Pairwise (fun a b => le a b = true) → (∀ a ∈ c, ∀ b ∈ c, le a b = true → le b a = true → a = b) → c = m
  | [], m, hp, _, _, _ => (List.Perm.nil_eq hp)
  | x :: c, [], hp, _, _, _ => absurd hp.length_eq (by simp)
  | x :: c, y :: m, hp, h1, h2, ha => by
    have e : x = y := by
      have hx : x ∈ y :: m := hp.mem_iff.mp (List.mem_cons_self ..)
      have hy : y ∈ x :: c := hp.mem_iff.mpr (List.mem_cons_self ..)
      rcases List.mem_cons.mp hx with e | hx
      · exact e
      · rcases List.mem_cons.mp hy with e | hy'
        · exact e.symm
        · exact ha x (List.mem_cons_self ..) y hy ((List.pairwise_cons.mp h1).1 y hy') ((List.pairwise_cons.mp h2).1 x hx)
    subst e
    rw [sorted_one (List.Perm.cons_inv hp) (List.pairwise_cons.mp h1).2 (List.pairwise_cons.mp h2).2 fun a ha' b hb => ha a (List.mem_cons_of_mem _ ha') b (List.mem_cons_of_mem _ hb)]
def isI : PyData → Bool
  | .int _ => true
  | _ => false
def isIs : PyData → Bool
  | .tuple (.int _ :: ds) => ds.all isI
  | _ => false
def isS : PyData → Bool
  | .str _ => true
  | _ => false
def noTN : PyData → Bool
  | .none => false
  | .tuple _ => false
  | _ => true
def isT1 : PyData → Bool
  | .tuple (_ :: _) => true
  | _ => false
def alkB (ds : List PyData) : Bool := ds.all isI || ds.all isIs || ds.all isS || (ds.all (fun d => ds.all fun e => PySem.W.alike d e) && (ds.all isT1 || ds.all noTN))
theorem isI_ints : ∀ {ds : List PyData}, ds.all isI = true → ∃ is : List Int, ds = is.map PyData.int
  | [], _ => ⟨[], rfl⟩
  | d :: ds, h => by
    rw [List.all_cons, Bool.and_eq_true] at h
    obtain ⟨is, e⟩ := isI_ints h.2
    cases d with
    | int i => exact ⟨i :: is, by rw [e]; rfl⟩
    | _ => exact absurd h.1 (by simp [isI])
theorem alkB_ok {ds : List PyData} (h : alkB ds = true) : PySem.W.AllAlike ds ∧ PySem.W.Sortable ds := by
  unfold alkB at h
  simp only [Bool.or_eq_true] at h
  rcases h with ((h | h) | h) | h
  · obtain ⟨is, rfl⟩ := isI_ints h
    refine ⟨fun d hd e he => ?_, .inr fun d hd => ?_⟩
    · obtain ⟨i, _, rfl⟩ := List.mem_map.mp hd
      obtain ⟨j, _, rfl⟩ := List.mem_map.mp he
      simp [PySem.W.alike]
    · obtain ⟨i, _, rfl⟩ := List.mem_map.mp hd
      exact ⟨(fun z => by cases z), fun xs z => by cases z⟩
  · have key : ∀ d ∈ ds, ∃ i is, d = .tuple (.int i :: (List.map PyData.int is)) := fun d hd => by
      have q := List.all_eq_true.mp h d hd
      unfold isIs at q
      split at q
      · rename_i i es
        obtain ⟨is, rfl⟩ := isI_ints q
        exact ⟨i, is, rfl⟩
      · cases q
    refine ⟨fun d hd e he => ?_, .inl fun d hd => ?_⟩
    · obtain ⟨i, is, rfl⟩ := key d hd
      obtain ⟨j, js, rfl⟩ := key e he
      unfold PySem.W.alike
      exact PySem.W.alike_ints (i :: is) (j :: js)
    · obtain ⟨i, is, rfl⟩ := key d hd
      exact ⟨_, _, rfl⟩
  · have key : ∀ d ∈ ds, ∃ z, d = .str z := fun d hd => by
      have q := List.all_eq_true.mp h d hd
      cases d with
      | str z => exact ⟨z, rfl⟩
      | _ => exact absurd q (by simp [isS])
    refine ⟨fun d hd e he => ?_, .inr fun d hd => ?_⟩
    · obtain ⟨i, rfl⟩ := key d hd
      obtain ⟨j, rfl⟩ := key e he
      simp [PySem.W.alike]
    · obtain ⟨i, rfl⟩ := key d hd
      exact ⟨(fun z => by cases z), fun xs z => by cases z⟩
  · rw [Bool.and_eq_true] at h
    refine ⟨fun d hd e he => List.all_eq_true.mp (List.all_eq_true.mp h.1 d hd) e he, ?_⟩
    rcases Bool.or_eq_true_iff.mp h.2 with z | z
    · refine .inl fun d hd => ?_
      have q := List.all_eq_true.mp z d hd
      unfold isT1 at q
      split at q
      · exact ⟨_, _, rfl⟩
      · cases q
    · refine .inr fun d hd => ?_
      have q := List.all_eq_true.mp z d hd
      exact ⟨(fun z => by rw [z] at q; cases q), fun xs z => by rw [z] at q; cases q⟩
def sortF (ds : List PyData) : Option (List PyData) := gd (alkB ds && (ds.all fun d => Nat.ble d.depth 60) && small ds.length && chainQ (srtD ds)) (srtD ds)
theorem sortF_some {ds es : List PyData} (h : sortF ds = some es) : PySem.W.AllAlike ds ∧ PySem.W.Sortable ds ∧ (∀ d ∈ ds, d.depth ≤ 60) ∧ ds.length ≤ sizeLine ∧ es = ds.mergeSort (PySem.W.dataLe false id) := by
  unfold sortF at h
  obtain ⟨hh, rfl⟩ := gd_some h
  clear h
  have h := hh
  rw [Bool.and_eq_true, Bool.and_eq_true, Bool.and_eq_true] at h
  obtain ⟨⟨⟨h1, h2⟩, h3⟩, h4⟩ := h
  obtain ⟨a1, a2⟩ := alkB_ok h1
  refine ⟨a1, a2, fun d hd => Nat.le_of_ble_eq_true (List.all_eq_true.mp h2 d hd), small_le h3, ?_⟩
  have hp : (srtD ds).Perm ds := srtQ_perm _ _
  refine sorted_one (le := PySem.W.dataLe false id) (hp.trans (List.mergeSort_perm _ _).symm) (chainQ_pw h4) (PySem.W.sort_pairwise le_total ds) fun a ha b hb l1 l2 => ?_
  have l1 : (!PySem.W.dataLt b a) = true := l1
  have l2 : (!PySem.W.dataLt a b) = true := l2
  exact data_anti (a1 a (hp.mem_iff.mp ha) b (hp.mem_iff.mp hb)) (by simpa using l2) (by simpa using l1)
/-- the rule -/
def rSortedD (K : PySem.W.Frag) : List V → Hp → VK → Prop := fun vs H Q => ∃ (a : Addr) (xs : List V) (ds : List PyData), vs = [V.ref a] ∧ SqL K H a xs ∧ Paired (Da K H) xs ds ∧ PySem.W.AllAlike ds ∧ PySem.W.Sortable ds ∧ (∀ d ∈ ds, d.depth ≤ 60) ∧
  ∀ ys p, Paired (fun x d => ∃ i : Nat, xs[i]? = some x ∧ ds[i]? = some d) ys (ds.mergeSort (PySem.W.dataLe false id)) → H p = none → Q (.ref p) (upd H p (.lst ys))
theorem each_ix {α β γ : Type} {R : α → β → Prop} {S : γ → β → Prop} {T : γ → α → Prop} : ∀ {us : List α} {xs : List γ} {ds : List β}, Paired T xs us → Paired S xs ds → (∀ x u d (i : Nat), xs[i]? = some x → us[i]? = some u → ds[i]? = some d → T x u → S x d → R u d) → PySem.W.EachIs R us ds
  | _, _, _, .nil, .nil, _ => .nil
  | _, _, _, .cons a as, .cons b bs, h => .cons (h _ _ _ 0 rfl rfl rfl a b) (each_ix as bs fun x u d i e1 e2 e3 => h x u d (i + 1) e1 e2 e3)
theorem each_out {xs : List V} {ds : List PyData} : ∀ {out : List Value} {es : List PyData}, PySem.W.EachIs (fun v d => ∃ x, RelV x v ∧ ∃ i : Nat, xs[i]? = some x ∧ ds[i]? = some d) out es → ∃ ys, Vals ys out ∧ Paired (fun x d => ∃ i : Nat, xs[i]? = some x ∧ ds[i]? = some d) ys es
  | _, _, .nil => ⟨[], .nil, .nil⟩
  | _, _, .cons ⟨x, r, h⟩ t => let ⟨ys, a, b⟩ := each_out t; ⟨x :: ys, .cons r a, .cons h b⟩
theorem cr_sortedD {X : Cx} {K : PySem.W.Frag} (hK : X.K = K) (hu : X.A.units + 65 < cLine) : CallR X (.builtin "sorted") (rSortedD K) := by
  subst hK
  intro pins s σ H vs us Q I r h
  obtain ⟨a, xs, ds, rfl, hs, hx, hal, hso, hdp, q⟩ := h
  obtain ⟨its, rv, hl, hz⟩ := I.list hs
  obtain ⟨u, rfl, ru⟩ := vals1 r
  cases ru
  have l1 : xs.length = ds.length := Paired.len hx
  refine PySem.W.sorted_data (R := fun v d => ∃ x, RelV x v ∧ ∃ i : Nat, xs[i]? = some x ∧ ds[i]? = some d) (bs := ds) (enc := id) hl.isList (each_ix rv hx fun x u d i e1 e2 e3 rx dx => ⟨x, rx, i, e1, e3⟩) (each_ix rv hx fun x u d i e1 e2 e3 rx dx => ?_) ?_ ?_ (by rw [← l1]; exact hz) (fun b hb => ?_) fun out ho eo => ?_
  · obtain ⟨as, hr⟩ := Dp.reads I _ _ _ (Da.dp _ _ dx) rx
    exact ⟨as, hr⟩
  · rw [List.map_id]; exact hal
  · rw [List.map_id]; exact hso
  · show X.A.units + 2 + b.depth < cLine
    have := hdp b hb
    omega
  · obtain ⟨ys, hv, hy⟩ := each_out eo
    have hyl : ys.length ≤ sizeLine := by
      rw [Paired.len hy, (List.mergeSort_perm _ _).length_eq, ← l1]
      exact hz
    obtain ⟨n, hn⟩ := sortedAll_at s.heap its out.toArray
    refine ⟨.ref _, upd H (s.heap.objs.size + 1) (.lst ys), I.laid (t' := s.toks) (fun _ _ => sortedAll_old) (Nat.le_succ _) ⟨hyl, out, n, hv, hn⟩, rfl, q ys _ hy (I.hok.fresh (Nat.le_succ _))⟩
end Mp

/-! more built-ins -/
namespace Mp
open PySem PySem.Spec PyProof.Rows L2 Gd Dq
/-- max, min of ints, one at least -/
def rMx (K : PySem.W.Frag) (f : Int → Int → Int) : List V → Hp → VK → Prop := fun vs H Q => ∃ (a : Addr) (n : Int) (ns : List Int), vs = [V.ref a] ∧ (SqL K H a ((n :: ns).map V.int) ∨ SqT K H a ((n :: ns).map V.int)) ∧ Q (.int (ns.foldl f n)) H
theorem reads_ints {h : Heap} : ∀ {ns : List Int} {its : List Value}, Vals (ns.map V.int) its → ReadsAll h its (ns.map PyData.int) []
  | [], _, .nil => .nil
  | n :: ns, _, .cons r t => by
    obtain ⟨tk, rfl⟩ := r
    exact .cons (.int n tk) (reads_ints t)
theorem alike_ns (ns : List Int) : PySem.W.AlikeAll (ns.map PyData.int) := by
  refine ⟨fun x hx y hy => ?_, fun x hx => ?_⟩
  · obtain ⟨i, _, rfl⟩ := List.mem_map.mp hx
    obtain ⟨j, _, rfl⟩ := List.mem_map.mp hy
    simp [PySem.W.alike]
  · obtain ⟨i, _, rfl⟩ := List.mem_map.mp hx
    exact PyData.noConfusion
theorem cr_max1 {X : Cx} {K : PySem.W.Frag} (hc : X.calm = true) (hK : X.K = K) (hu : X.A.units + 65 < cLine) : CallR X (.builtin "max") (rMx K max) := by
  subst hK
  intro pins s σ H vs us Q I r h
  obtain ⟨a, n, ns, rfl, hs, q⟩ := h
  have hd : X.A.units + 1 + PyData.depthAll ((n :: ns).map PyData.int) < cLine := by rw [PySem.W.depth_ints]; omega
  rcases hs with hs | hs
  · obtain ⟨its, rv, hl, _⟩ := I.list hs
    rw [Vals.ref1 r]
    refine PySem.W.max_list_data (xs := ns.map PyData.int) (I.ok.hd hc) hl.isList (reads_ints rv) (alike_ns (n :: ns)) hd fun m v h' tk bs _ rd kp => ?_
    rw [PySem.W.maxD_ints] at rd
    cases rd
    exact ⟨.int _, H, I.kept kp, ⟨_, rfl⟩, q⟩
  · obtain ⟨its, rv, ht, _⟩ := I.tuple hs
    rw [Vals.ref1 r]
    refine PySem.W.max_tuple_data (xs := ns.map PyData.int) (I.ok.hd hc) ht (reads_ints rv) (alike_ns (n :: ns)) hd fun m v h' tk bs _ rd kp => ?_
    rw [PySem.W.maxD_ints] at rd
    cases rd
    exact ⟨.int _, H, I.kept kp, ⟨_, rfl⟩, q⟩
theorem cr_min1 {X : Cx} {K : PySem.W.Frag} (hc : X.calm = true) (hK : X.K = K) (hu : X.A.units + 65 < cLine) : CallR X (.builtin "min") (rMx K min) := by
  subst hK
  intro pins s σ H vs us Q I r h
  obtain ⟨a, n, ns, rfl, hs, q⟩ := h
  have hd : X.A.units + 1 + PyData.depthAll ((n :: ns).map PyData.int) < cLine := by rw [PySem.W.depth_ints]; omega
  rcases hs with hs | hs
  · obtain ⟨its, rv, hl, _⟩ := I.list hs
    rw [Vals.ref1 r]
    refine PySem.W.min_list_data (xs := ns.map PyData.int) (I.ok.hd hc) hl.isList (reads_ints rv) (alike_ns (n :: ns)) hd fun m v h' tk bs _ rd kp => ?_
    rw [PySem.W.minD_ints] at rd
    cases rd
    exact ⟨.int _, H, I.kept kp, ⟨_, rfl⟩, q⟩
  · obtain ⟨its, rv, ht, _⟩ := I.tuple hs
    rw [Vals.ref1 r]
    refine PySem.W.min_tuple_data (xs := ns.map PyData.int) (I.ok.hd hc) ht (reads_ints rv) (alike_ns (n :: ns)) hd fun m v h' tk bs _ rd kp => ?_
    rw [PySem.W.minD_ints] at rd
    cases rd
    exact ⟨.int _, H, I.kept kp, ⟨_, rfl⟩, q⟩
def rSortedA (K : PySem.W.Frag) : List V → Hp → VK → Prop := fun vs H Q => rSortedD K vs H Q ∨ rSortedTI K vs H Q
theorem cr_sortedA {X : Cx} {K : PySem.W.Frag} (hK : X.K = K) (hu : X.A.units + 65 < cLine) : CallR X (.builtin "sorted") (rSortedA K) := CallR.or (cr_sortedD hK hu) (cr_sortedTI hK)
theorem cr_sum_k {X : Cx} {K : PySem.W.Frag} (hc : X.calm = true) (hK : X.K = K) : CallR X (.builtin "sum") (rSum K) := hK ▸ cr_sum hc
inductive BJ where
  | srt | rep | max1 | min1 | sum
def rJ (K : PySem.W.Frag) : BJ → List V → Hp → VK → Prop
  | .srt => rSortedA K
  | .rep => rReprZ K
  | .max1 => rMx K max
  | .min1 => rMx K min
  | .sum => rSum K
def allI : List PyData → Option (List Int)
  | [] => some []
  | .int i :: ds => match allI ds with
    | some is => some (i :: is)
    | none => none
  | _ :: _ => none
theorem allI_some : ∀ {ds : List PyData} {is : List Int}, allI ds = some is → ds = is.map PyData.int
  | [], is, h => by cases h; rfl
  | d :: ds, is, h => by
    cases d with
    | int i =>
      unfold allI at h
      split at h
      · rename_i js e
        cases h
        rw [allI_some e]
        rfl
      · cases h
    | _ => cases h
def mxF (f : Int → Int → Int) (ds : List PyData) : Option ER := match allI ds with
  | some (n :: ns) => some (.dat (.int (ns.foldl f n)))
  | _ => none
def repOk : PyData → Bool
  | .list ds => (PyData.list ds).leavesShort 60 && (PyData.list ds).showable && !(PyData.list ds).hasDict && (PyData.list ds).canLay0 && Nat.ble (PyData.list ds).depth 60 && Nat.ble (PyData.list ds).weight 270000
  | .tuple ds => (PyData.tuple ds).leavesShort 60 && (PyData.tuple ds).showable && !(PyData.tuple ds).hasDict && (PyData.tuple ds).canLay0 && Nat.ble (PyData.tuple ds).depth 60 && Nat.ble (PyData.tuple ds).weight 270000
  | .bool _ => true
  | .none => true
  | .int i => Nat.blt i.natAbs.log2 1920
  | _ => false
def jF : BJ → List PyData → Option ER
  | .srt, [.list ds] => (sortF ds).map .nw
  | .srt, [.tuple ds] => match allI ds with
    | some is => some (.nw ((srtI is).map PyData.int))
    | none => none
  | .rep, [d] => gd (repOk d) (.dat (.str d.shown))
  | .max1, [.list ds] => mxF max ds
  | .max1, [.tuple ds] => mxF max ds
  | .min1, [.list ds] => mxF min ds
  | .min1, [.tuple ds] => mxF min ds
  | .sum, [.list ds] => match allI ds with
    | some is => some (.dat (.int is.sum))
    | none => none
  | _, _ => none
section
variable {K : PySem.W.Frag} {M : List Addr} {H : Hp}
theorem mx_ok {f : Int → Int → Int} {vs : List V} {ds : List PyData} {r : ER} {Q : VK} {a : Addr} (hs : SqL K H a vs ∨ SqT K H a vs) (hw : Dms K M H vs ds) (hb : mxF f ds = some r) (q : ∀ v H', Same H H' → RN K M H H' v r → Q v H') : rMx K f [.ref a] H Q := by
  unfold mxF at hb
  split at hb
  · rename_i n ns e
    cases hb
    have e := allI_some e
    subst e
    have hv : vs = (n :: ns).map V.int := das_ints (dms_h hw)
    subst hv
    exact ⟨a, n, ns, rfl, hs, q _ _ (Same.refl _) (.int _)⟩
  · cases hb
theorem rep_ok {v : V} {d : PyData} (hv : Vw K M H v d) (h : repOk d = true) {Q : VK} (q : Q (.str d.shown) H) : rReprZ K [v] H Q := by
  have big : ∀ d : PyData, (d.leavesShort 60 && d.showable && !d.hasDict && d.canLay0 && Nat.ble d.depth 60 && Nat.ble d.weight 270000) = true → Fit 60 270000 d := fun d h => by
    simp only [Bool.and_eq_true, Bool.not_eq_true'] at h
    obtain ⟨⟨⟨⟨⟨h1, h2⟩, h3⟩, h4⟩, h5⟩, h6⟩ := h
    exact ⟨h1, h2, h3, h4, Nat.le_of_ble_eq_true h5, Nat.le_of_ble_eq_true h6⟩
  cases d with
  | list ds =>
    have F := big (.list ds) h
    have hd := vw_dp hv
    obtain ⟨a, ws, rfl, ha, hw⟩ := vw_list hv
    exact .inl (.inl ⟨a, .list ds, rfl, hd, F.shw, F.nod, F.dep, F.size (Nat.le_refl _), q⟩)
  | tuple ds =>
    have F := big (.tuple ds) h
    have hd := vw_dp hv
    obtain ⟨a, ws, rfl, ha, hw⟩ := vw_tuple hv
    exact .inl (.inl ⟨a, .tuple ds, rfl, hd, F.shw, F.nod, F.dep, F.size (Nat.le_refl _), q⟩)
  | bool b => exact .inl (.inr ⟨b, by rw [vw_bool hv], q⟩)
  | none => exact .inr (.inl ⟨by rw [vw_none hv], q⟩)
  | int i =>
    have h : Nat.blt i.natAbs.log2 1920 = true := h
    exact .inr (.inr ⟨i, by rw [vw_int hv], by simpa using h, q⟩)
  | _ => cases h
theorem pget {α β : Type} {R : α → β → Prop} : ∀ {xs : List α} {ys : List β} {i : Nat}, Paired R xs ys → i < xs.length → ∃ x y, xs[i]? = some x ∧ ys[i]? = some y ∧ R x y
  | _, _, _, .nil, h => absurd h (Nat.not_lt_zero _)
  | _, _, 0, .cons a _, _ => ⟨_, _, rfl, rfl, a⟩
  | _, _, i + 1, .cons _ b, h => pget (i := i) b (by simpa using h)
theorem das_paired : ∀ {xs : List V} {ds : List PyData}, Dms K M H xs ds → Paired (Dm K M H) xs ds
  | _, _, .nil => .nil
  | _, _, .cons a b => .cons a (das_paired b)
theorem paired_das : ∀ {xs : List V} {ds : List PyData}, Paired (Dm K M H) xs ds → Dms K M H xs ds
  | _, _, .nil => .nil
  | _, _, .cons a b => .cons a (paired_das b)
theorem j_ok (b : BJ) {vs : List V} {ds : List PyData} {r : ER} {Q : VK} (t : Tr M H) (hv : Paired (Vw K M H) vs ds) (hb : jF b ds = some r) (q : ∀ v H', Same H H' → RN K M H H' v r → Q v H') : rJ K b vs H Q := by
  cases b with
  | srt =>
    match ds, hv, hb with
    | [.list xs], .cons h .nil, hb =>
      have hb : (sortF xs).map ER.nw = some r := hb
      cases e : sortF xs with
      | none => rw [e] at hb; cases hb
      | some es =>
        rw [e] at hb
        cases hb
        obtain ⟨h1, h2, h3, h4, rfl⟩ := sortF_some e
        obtain ⟨a, ws, rfl, ha, hw⟩ := vw_list h
        have hp := das_paired hw
        refine .inl ⟨a, ws, xs, rfl, SqL.of ha, Paired.mapP hp fun _ _ z => dm_h z, h1, h2, h3, fun ys p hy hn => ?_⟩
        refine q _ _ (same_new hn) (rn_newL t hn (paired_das (Paired.mapP hy fun x d ⟨i, e1, e2⟩ => ?_)))
        have hi : i < ws.length := (List.getElem?_eq_some_iff.mp e1).1
        obtain ⟨x', d', f1, f2, f3⟩ := pget hp hi
        rw [e1] at f1
        rw [e2] at f2
        cases f1
        cases f2
        exact f3
    | [.tuple xs], .cons h .nil, hb =>
      have hb : (match allI xs with | some is => some (ER.nw ((srtI is).map PyData.int)) | none => none) = some r := hb
      split at hb
      · rename_i is e
        cases hb
        have e := allI_some e
        subst e
        obtain ⟨a, ws, rfl, ha, hw⟩ := vw_tuple h
        have hv : ws = is.map V.int := das_ints (dms_h hw)
        subst hv
        refine .inr ⟨a, is, rfl, ha, fun ms p h1 h2 hn => ?_⟩
        have em : ms = srtI is := pwI_eq h2 (srtI_pw is) (h1.trans (srtI_perm is).symm)
        subst em
        exact q _ _ (same_new hn) (rn_newL t hn (Das.ints _))
      · cases hb
  | rep =>
    match ds, hv, hb with
    | [d], .cons h .nil, hb =>
      have hb : gd (repOk d) (ER.dat (.str d.shown)) = some r := by
        cases d <;> exact hb
      obtain ⟨h1, rfl⟩ := gd_some hb
      exact rep_ok h h1 (q _ _ (Same.refl _) (.str _))
  | max1 =>
    match ds, hv, hb with
    | [.list xs], .cons h .nil, hb =>
      obtain ⟨a, ws, rfl, ha, hw⟩ := vw_list h
      exact mx_ok (.inl (SqL.of ha)) hw hb q
    | [.tuple xs], .cons h .nil, hb =>
      obtain ⟨a, ws, rfl, ha, hw⟩ := vw_tuple h
      exact mx_ok (.inr ha) hw hb q
  | min1 =>
    match ds, hv, hb with
    | [.list xs], .cons h .nil, hb =>
      obtain ⟨a, ws, rfl, ha, hw⟩ := vw_list h
      exact mx_ok (.inl (SqL.of ha)) hw hb q
    | [.tuple xs], .cons h .nil, hb =>
      obtain ⟨a, ws, rfl, ha, hw⟩ := vw_tuple h
      exact mx_ok (.inr ha) hw hb q
  | sum =>
    match ds, hv, hb with
    | [.list xs], .cons h .nil, hb =>
      have hb : (match allI xs with | some is => some (ER.dat (.int is.sum)) | none => none) = some r := hb
      split at hb
      · rename_i is e
        cases hb
        have e := allI_some e
        subst e
        obtain ⟨a, ws, rfl, ha, hw⟩ := vw_list h
        have hv : ws = is.map V.int := das_ints (dms_h hw)
        subst hv
        exact ⟨a, is, rfl, SqL.of ha, q _ _ (Same.refl _) (.int _)⟩
      · cases hb
end
section
variable {K : KT} {as : TA} {fa : SD → (List ER → Bool) → Bool}
theorem okE_j (b : BJ) (ha : OkA K as fa) : OkE K (tCB (rJ K b) as) (fun sd k => fa sd fun rs => ob (dOfs sd rs) fun ds => ob (jF b ds) k) := by
  intro so M H σ sd s k hk Q q
  refine ha so M H σ sd s _ hk _ fun vs rs H1 k1 q1 e1 => ?_
  obtain ⟨ds, hd, k1⟩ := ob_some k1
  obtain ⟨r, hr, k1⟩ := ob_some k1
  have s1 := s.q q1
  exact j_ok b s1.tr (Rs.vws s1 e1 hd) hr fun v H2 z hv => q v r H2 k1 (q1.trans (s1.sr.same z)) (hv.re q1)
end
end Mp

/-! sorted(set(..)), len(set(..)), isinstance, .index -/
namespace Mp
open PySem PySem.Spec PyProof.Rows L2 Gd Dq
def rSetB (K : PySem.W.Frag) (w : World) : List V → Hp → VK → Prop := fun vs H Q => rSetL K w vs H Q ∨ rSetI K w vs H Q
theorem cr_setB {X : Cx} {K : PySem.W.Frag} {w : World} (hc : X.calm = true) (hK : X.K = K) (hw : X.w = w) : CallR X (.type "set") (rSetB K w) := CallR.or (cr_setL hc hK hw) (cr_setI hc hK hw)
def tSset (K : KT) (te : TE) : TE := tCB (rSortedSet K.w) (tCons (tCB (rSetB K K.w) (tCons te tNil)) tNil)
def tLens (K : KT) (te : TE) : TE := tCB (rLenO K.w) (tCons (tCB (rSetB K K.w) (tCons te tNil)) tNil)
def ssF (ds : List PyData) : Option ER := match allI ds with
  | some is => gd (Nat.ble is.length 4000 && Nat.blt (lvl is).length 64) (.nw ((lvl is).map PyData.int))
  | none => none
def lensF (ds : List PyData) : Option ER := match allI ds with
  | some is => gd (Nat.ble is.length 4000) (.dat (.int (lvl is).length))
  | none => none
def tyN : PyData → String
  | .none => "NoneType"
  | .bool _ => "bool"
  | .int _ => "int"
  | .str _ => "str"
  | .list _ => "list"
  | .tuple _ => "tuple"
  | .dict _ => "dict"
def isiF (c : String) (d : PyData) : Option ER := match d with
  | .dict _ => none
  | d => (kitB (tyN d) c).map fun b => .dat (.bool b)
def tIsi (K : PySem.W.Frag) (c : String) (te : TE) : TE := tCB (rIsi K) (tCons te (tCons (tC (.ty c)) tNil))
def findF (d : PyData) : List PyData → Nat → Option Nat
  | [], _ => none
  | e :: es, j => match PyData.eqv e d with
    | true => some j
    | false => findF d es (j + 1)
theorem findF_some {d : PyData} : ∀ {es : List PyData} {j k : Nat}, findF d es j = some k → ∃ m, k = j + m ∧ ∃ z, es[m]? = some z ∧ PyData.eqv z d = true ∧ ∀ (i : Nat) (z' : PyData), i < m → es[i]? = some z' → PyData.eqv z' d = false
  | [], j, k, h => by cases h
  | e :: es, j, k, h => by
    unfold findF at h
    split at h
    · rename_i he
      cases h
      exact ⟨0, rfl, e, rfl, he, fun i z' hi => absurd hi (Nat.not_lt_zero _)⟩
    · rename_i he
      obtain ⟨m, e1, z, e2, e3, e4⟩ := findF_some h
      refine ⟨m + 1, by omega, z, by rw [List.getElem?_cons_succ]; exact e2, e3, fun i z' hi hz => ?_⟩
      cases i with
      | zero =>
        cases hz
        exact he
      | succ i => exact e4 i z' (by omega) (by rw [List.getElem?_cons_succ] at hz; exact hz)
def idxF (ds : List PyData) (l d : PyData) : Option ER := match SeqAt.shaped l && SeqAt.shaped d with
  | true => (findF d ds 0).map fun j => .dat (.int (j : Nat))
  | false => none
section
variable {K : KT} {te ta tb : TE} {f g : SD → (ER → Bool) → Bool}
theorem okE_sset (ha : OkE K te f) : OkE K (tSset K te) (fun sd k => f sd fun x => ob (dOf sd x) fun d => match d with
    | .list ds => ob (ssF ds) k
    | .tuple ds => match Nat.ble ds.length 60 with
      | true => ob (ssF ds) k
      | false => false
    | _ => false) := by
  intro so M H σ sd s k hk Q q
  refine ha so M H σ sd s _ hk _ fun v x H1 k1 q1 e1 => ?_
  obtain ⟨d, hd, k1⟩ := ob_some k1
  have s1 := s.q q1
  have hv := e1.vw s1 hd
  have fin : ∀ (ds : List PyData) (is : List Int) (r : ER), allI ds = some is → ob (ssF ds) k = true → (lvl is).length < 64 ∧ ∀ (s0 : Addr) (c : Nat), H1 s0 = none → ∀ (ns : List Int) (p : Addr), ns.Pairwise (· < ·) → (∀ j, j ∈ ns ↔ decide (j ∈ is) = true) → (upd H1 s0 (SetO K.w s0 (fun j => decide (j ∈ is)) c)) p = none →
      Q (.ref p) (upd (upd H1 s0 (SetO K.w s0 (fun j => decide (j ∈ is)) c)) p (.lst (ns.map V.int))) := fun ds is _ hi hk2 => by
    obtain ⟨r, hr, k2⟩ := ob_some hk2
    unfold ssF at hr
    rw [hi] at hr
    obtain ⟨hb, rfl⟩ := gd_some hr
    rw [Bool.and_eq_true] at hb
    refine ⟨by simpa using hb.2, fun s0 c hs0 ns p hp hm hp0 => ?_⟩
    have hn : ns = lvl is := pw_eq hp (pw_lvl is) fun j => by
      rw [hm, mem_lvl]
      exact decide_eq_true_iff
    subst hn
    have e3 : Same H1 (upd H1 s0 (SetO K.w s0 (fun j => decide (j ∈ is)) c)) := same_new hs0
    have t3 := Tr.same s1.tr e3
    have q3 := q1.trans (s1.sr.same e3)
    have s3 := s.q q3
    exact q _ (.nw ((lvl is).map PyData.int)) _ k2 (q3.trans (s3.sr.same (same_new hp0))) ((rn_newL t3 hp0 (Das.ints _) : RN K M _ _ _ (.nw _)).re q3)
  cases d with
  | list ds =>
    obtain ⟨r, hr, _⟩ := ob_some k1
    obtain ⟨a, ws, rfl, hw, hx⟩ := vw_list hv
    have hr0 := hr
    unfold ssF at hr
    split at hr
    · rename_i is hi
      have e := allI_some hi
      subst e
      have hv2 : ws = is.map V.int := das_ints (dms_h hx)
      subst hv2
      obtain ⟨hb, _⟩ := gd_some hr
      rw [Bool.and_eq_true] at hb
      obtain ⟨h64, F⟩ := fin _ is r hi k1
      exact .inl ⟨a, is, rfl, SqL.of hw, Nat.le_of_ble_eq_true hb.1, fun s0 hs0 => ⟨s0, _, _, rfl, upd_same, h64, fun ns p hp hm _ hp0 => F s0 _ hs0 ns p hp hm hp0⟩⟩
    · cases hr
  | tuple ds =>
    have k1 : (match Nat.ble ds.length 60 with | true => ob (ssF ds) k | false => false) = true := k1
    split at k1
    · rename_i h60
      obtain ⟨r, hr, _⟩ := ob_some k1
      obtain ⟨a, ws, rfl, hw, hx⟩ := vw_tuple hv
      unfold ssF at hr
      split at hr
      · rename_i is hi
        have e := allI_some hi
        subst e
        have hv2 : ws = is.map V.int := das_ints (dms_h hx)
        subst hv2
        obtain ⟨h64, F⟩ := fin _ is r hi k1
        have hl : is.length ≤ 60 := by
          have := Nat.le_of_ble_eq_true h60
          rw [List.length_map] at this
          exact this
        exact .inr ⟨a, is, rfl, hw, hl, fun s0 c hs0 hc => ⟨s0, _, _, rfl, upd_same, by omega, fun ns p hp hm _ hp0 => F s0 c hs0 ns p hp hm hp0⟩⟩
      · cases hr
    · cases k1
  | _ => cases k1
theorem okE_lens (ha : OkE K te f) : OkE K (tLens K te) (fun sd k => f sd fun x => ob (dOf sd x) fun d => match d with
    | .list ds => ob (lensF ds) k
    | .tuple ds => match Nat.ble ds.length 60 with
      | true => ob (lensF ds) k
      | false => false
    | _ => false) := by
  intro so M H σ sd s k hk Q q
  refine ha so M H σ sd s _ hk _ fun v x H1 k1 q1 e1 => ?_
  obtain ⟨d, hd, k1⟩ := ob_some k1
  have s1 := s.q q1
  have hv := e1.vw s1 hd
  have fin : ∀ (ds : List PyData) (is : List Int), allI ds = some is → ob (lensF ds) k = true → ∀ (s0 : Addr) (c : Nat), H1 s0 = none → (∀ ns : List Int, ns.Nodup → (∀ j, j ∈ ns ↔ decide (j ∈ is) = true) → ns.length = (lvl is).length) ∧ Q (.int ((lvl is).length : Nat)) (upd H1 s0 (SetO K.w s0 (fun j => decide (j ∈ is)) c)) := fun ds is hi hk2 s0 c hs0 => by
    obtain ⟨r, hr, k2⟩ := ob_some hk2
    unfold lensF at hr
    rw [hi] at hr
    obtain ⟨hb, rfl⟩ := gd_some hr
    have e3 : Same H1 (upd H1 s0 (SetO K.w s0 (fun j => decide (j ∈ is)) c)) := same_new hs0
    refine ⟨fun ns hn hm => nd_len hn ((pw_lvl is).imp fun h => Int.ne_of_lt h) fun j => by rw [hm, mem_lvl, decide_eq_true_iff], ?_⟩
    exact q _ (.dat (.int ((lvl is).length : Nat))) _ k2 (q1.trans (s1.sr.same e3)) (.int _)
  cases d with
  | list ds =>
    obtain ⟨r, hr, _⟩ := ob_some k1
    obtain ⟨a, ws, rfl, hw, hx⟩ := vw_list hv
    unfold lensF at hr
    split at hr
    · rename_i is hi
      have e := allI_some hi
      subst e
      have hv2 : ws = is.map V.int := das_ints (dms_h hx)
      subst hv2
      obtain ⟨hb, _⟩ := gd_some hr
      exact .inl ⟨a, is, rfl, SqL.of hw, Nat.le_of_ble_eq_true hb, fun s0 hs0 => ⟨s0, _, _, _, rfl, upd_same, (fin _ is hi k1 s0 (lvl is).length hs0).1, (fin _ is hi k1 s0 (lvl is).length hs0).2⟩⟩
    · cases hr
  | tuple ds =>
    have k1 : (match Nat.ble ds.length 60 with | true => ob (lensF ds) k | false => false) = true := k1
    split at k1
    · rename_i h60
      obtain ⟨r, hr, _⟩ := ob_some k1
      obtain ⟨a, ws, rfl, hw, hx⟩ := vw_tuple hv
      unfold lensF at hr
      split at hr
      · rename_i is hi
        have e := allI_some hi
        subst e
        have hv2 : ws = is.map V.int := das_ints (dms_h hx)
        subst hv2
        have hl : is.length ≤ 60 := by
          have := Nat.le_of_ble_eq_true h60
          rw [List.length_map] at this
          exact this
        exact .inr ⟨a, is, rfl, hw, hl, fun s0 c hs0 hc => ⟨s0, _, _, _, rfl, upd_same, (fin _ is hi k1 s0 c hs0).1, (fin _ is hi k1 s0 c hs0).2⟩⟩
      · cases hr
    · cases k1
  | _ => cases k1
theorem vw_tyx {M : List Addr} {H : Hp} {v : V} {d : PyData} (h : Vw K M H v d) (hd : ∀ kvs, d ≠ .dict kvs) : TyX K H v (.type (tyN d)) := by
  cases d with
  | none => exact tyx_non (vw_da h)
  | bool b => exact tyx_bl (vw_da h)
  | int b => exact tyx_int (vw_da h)
  | str b => exact tyx_str (vw_da h)
  | list ds =>
    obtain ⟨a, ws, rfl, ha, hw⟩ := vw_list h
    exact .base (.lst ha)
  | tuple ds => exact tyx_tup (dm_h (show Dm K M H v (.tuple ds) from h))
  | dict kvs => exact absurd rfl (hd kvs)
theorem okE_isi (c : String) (ha : OkE K te f) : OkE K (tIsi K c te) (fun sd k => f sd fun x => ob (dOf sd x) fun d => ob (isiF c d) k) := by
  intro so M H σ sd s k hk Q q
  refine ha so M H σ sd s _ hk _ fun v x H1 k1 q1 e1 => ?_
  obtain ⟨d, hd, k1⟩ := ob_some k1
  obtain ⟨r, hr, k1⟩ := ob_some k1
  have s1 := s.q q1
  have hv := e1.vw s1 hd
  have key : (∀ kvs, d ≠ .dict kvs) ∧ ∃ b, kitB (tyN d) c = some b ∧ r = .dat (.bool b) := by
    cases d with
    | dict kvs => cases hr
    | _ =>
      refine ⟨(fun kvs z => by cases z), ?_⟩
      unfold isiF at hr
      simp only [Option.map_eq_some_iff] at hr
      obtain ⟨b, h1, h2⟩ := hr
      exact ⟨b, h1, h2.symm⟩
  obtain ⟨nd, b, hb, rfl⟩ := key
  exact ⟨v, .ty c, .type (tyN d), .type c, b, rfl, .ty c, vw_tyx hv nd, kit_ty hb, q _ (.dat (.bool b)) H1 k1 q1 (.bl b)⟩
/-- l.index(x), l a list -/
def tIdxL (K : PySem.W.Frag) (ta tb : TE) : TE := tBM K "list" (rIndexD K) ta (tCons tb tNil)
theorem okE_idxL (ha : OkE K ta f) (hb : OkE K tb g) : OkE K (tIdxL K ta tb) (fun sd k => f sd fun x => ob (dOf sd x) fun l => match l with
    | .list ds => g sd fun y => ob (dOf sd y) fun d => ob (idxF ds (.list ds) d) k
    | _ => false) := by
  intro so M H σ sd s k hk Q q
  refine ha so M H σ sd s _ hk _ fun v x H1 k1 q1 e1 => ?_
  have s1 := s.q q1
  obtain ⟨l, hl, k1⟩ := ob_some k1
  cases l with
  | list ds =>
    obtain ⟨a, xs, rfl, hs, _⟩ := vw_list (e1.vw s1 hl)
    refine ⟨.inl ⟨rfl, xs, SqL.of hs⟩, ?_⟩
    refine hb so M H1 σ sd s1 _ k1 _ fun v2 y H2 k2 q2 e2 => ?_
    have s2 := s1.q q2
    obtain ⟨d, hd, k2⟩ := ob_some k2
    obtain ⟨r, hr, k2⟩ := ob_some k2
    have hv1 := (e1.q s1 q2).vw s2 hl
    have hv2 := e2.vw s2 hd
    unfold idxF at hr
    split at hr
    · rename_i hsh
      rw [Bool.and_eq_true] at hsh
      obtain ⟨j, hj, rfl⟩ := Option.map_eq_some_iff.mp hr
      obtain ⟨m, em, z, h1, h2, h3⟩ := findF_some hj
      have em : j = m := by omega
      subst em
      exact ⟨a, v2, d, ds, j, z, rfl, rfl, vw_dp hv1, vw_dp hv2, hsh.1, hsh.2, h1, h2, h3, q _ (.dat (.int (j : Nat))) H2 k2 (q1.trans q2) (.int _)⟩
    · cases hr
  | _ => cases k1
/-- c.index(x), c a tuple of the module -/
def tIdxC (K : PySem.W.Frag) (ca : Addr) (tb : TE) : TE := tBM K "tuple" (rIndexT K) (tC (.ref ca)) (tCons tb tNil)
def idxCF (cd : PyData) (g : SD → (ER → Bool) → Bool) : SD → (ER → Bool) → Bool := fun sd k => match cd with
    | .tuple ds => g sd fun y => ob (dOf sd y) fun d => ob (idxF ds (.tuple ds) d) k
    | _ => false
theorem okE_idxC {ca : Addr} {cd : PyData} (hc : (∃ kvs, cd = .dict kvs) ∨ ∃ n, readV K n (.ref ca) = some cd) (hb : OkE K tb g) : OkE K (tIdxC K ca tb) (idxCF cd g) := by
  intro so M H σ sd s k hk Q q
  cases cd with
  | tuple ds =>
    obtain ⟨n, hc⟩ : ∃ n, readV K n (.ref ca) = some (.tuple ds) := hc.elim (fun ⟨_, z⟩ => by cases z) id
    refine ⟨.inr (.inl ⟨rfl, readV_ty hc⟩), ?_⟩
    refine hb so M H σ sd s _ hk _ fun v2 y H2 k2 q2 e2 => ?_
    have s2 := s.q q2
    obtain ⟨d, hd, k2⟩ := ob_some k2
    obtain ⟨r, hr, k2⟩ := ob_some k2
    have hv2 := e2.vw s2 hd
    unfold idxF at hr
    split at hr
    · rename_i hsh
      rw [Bool.and_eq_true] at hsh
      obtain ⟨j, hj, rfl⟩ := Option.map_eq_some_iff.mp hr
      obtain ⟨m, em, z, h1, h2, h3⟩ := findF_some hj
      have em : j = m := by omega
      subst em
      exact ⟨ca, v2, d, ds, j, z, rfl, rfl, Da.dp _ _ (readV_da n _ _ hc).2, vw_dp hv2, hsh.1, hsh.2, h1, h2, h3, q _ (.dat (.int (j : Nat))) H2 k2 q2 (.int _)⟩
    · cases hr
  | _ => cases hk
end
end Mp

/-! dict comprehensions; d[k] -/
namespace Mp
open PySem PySem.Spec PyProof.Rows L2 Gd Dq
def dcL (sdw : SD) (set : PyData → SD → Option SD) (c : SD → (Bool → Bool) → Bool) (fk fv : SD → (ER → Bool) → Bool) : List PyData → List (Key × PyData) → (List (Key × PyData) → Bool) → Bool
  | [], acc, k => k acc
  | x :: xs, acc, k => ob (set x sdw) fun sd2 => c sd2 fun b => match b with
    | true => fk sd2 fun r => ob (dOf sd2 r) fun kd => ob (keyOf kd) fun q => fv sd2 fun r2 => ob (sOf r2) fun d => match small acc.length with
      | true => dcL sdw set c fk fv xs (kvPut acc q d) k
      | false => false
    | false => dcL sdw set c fk fv xs acc k
def dcF (vs : List Nat) (set : PyData → SD → Option SD) (fi : SD → (Bool → List PyData → Bool) → Bool) (ft : SD → (Bool → Bool) → Bool) (fk fv : SD → (ER → Bool) → Bool) : SD → (ER → Bool) → Bool := fun sd k =>
  fi sd fun _ ds => dcL (wipeD sd vs) set ft fk fv ds [] fun kvs => k (.nd kvs)
section
variable {K : KT} {wi : TI} {tt : TT} {tk tv : TE} {fi : SD → (Bool → List PyData → Bool) → Bool} {ft : SD → (Bool → Bool) → Bool} {fk fv : SD → (ER → Bool) → Bool} {g : TG} {gv vs : List Nat} {set : PyData → SD → Option SD}
theorem okE_dc (hi : OkI K wi fi) (hg : OkG K g gv set) (hv : ∀ i ∈ gv, i ∈ vs) (ht : OkT K tt ft) (hk' : OkE K tk fk) (hv' : OkE K tv fv) : OkE K (tDc wi g tt tk tv vs) (dcF vs set fi ft fk fv) := by
  intro so M H σ sd s k hk Q q
  refine hi so M H σ sd s _ hk _ fun J H1 G Y own ds k1 q1 w => ?_
  intro D hD
  have s1 := s.q q1
  obtain ⟨s2, ap, nD⟩ := s1.addD (o := .dK []) hD
  have g2 := go_mut (o := .dK []) s1.tr hD
  have hSm : ∀ H3, KqD so D (upd H1 D (.dK [])) H3 → Same (mn M H1) (mn (D :: M) H3) := fun H3 kd => (g2.trans (go_d s2.sr s2.tr (List.mem_cons_self ..) kd)).mn
  have hGD : ∀ H3, KqD so D (upd H1 D (.dK [])) H3 → G H3 := fun H3 kd => w.g0 H3 fun b o e n hb => by
    have hbD := ne_of_none e hD
    exact kd.kp b o hbD n (by rw [upd_ne hbD]; exact e)
  have kd0 : KqD so D (upd H1 D (.dK [])) (upd H1 D (.dK [])) := ⟨fun _ _ _ _ e => e, s2.sr.hd, by rw [upd_same]; intro z; cases z⟩
  refine ⟨fun j m H => m = ds.length - j ∧ j ≤ ds.length ∧ ∃ us kvs, KqD so D (upd H1 D (.dK [])) H ∧ H D = some (.dK us) ∧ Kvs K (D :: M) H us kvs ∧ dcL (wipeD sd vs) set ft fk fv (ds.drop j) kvs (fun kvs => k (.nd kvs)) = true,
    ⟨ds.length, rfl, Nat.zero_le _, [], [], kd0, upd_same, .nil, k1⟩, ?_⟩
  rintro j m H2 ⟨rfl, hj, us, kvs, kd, hDH, hus, hn⟩
  have hG := hGD H2 kd
  by_cases hlt : j < ds.length
  · refine .inr ⟨w.wk.goes j H2 hlt hG, fun H' => ∃ us kvs, KqD so D (upd H1 D (.dK [])) H' ∧ H' D = some (.dK us) ∧ Kvs K (D :: M) H' us kvs ∧ dcL (wipeD sd vs) set ft fk fv (ds.drop (j + 1)) kvs (fun kvs => k (.nd kvs)) = true,
      fun H' ⟨us', kvs', a1, a2, a3, a4⟩ => ⟨ds.length - (j + 1), by omega, rfl, hlt, us', kvs', a1, a2, a3, a4⟩, fun x H4 y => ?_⟩
    have sH := s2.d (List.mem_cons_self ..) ap kd
    obtain ⟨e4, d4⟩ := w.yl j H2 x H4 hlt hG (w.wk.yields j H2 x H4 hlt hG y)
    have dx := d4 (D :: M) (hSm H2 kd) sH.tr
    have q4 := sH.sr.same e4
    have s4 := sH.q q4
    have n0 : H2 D ≠ none := by rw [hDH]; intro z; cases z
    have kd4 := kd.trans (q4.d nD n0)
    have hD4 : H4 D = some (.dK us) := e4 _ _ hDH
    have us4 := kvs_go hus (sH.go q4)
    rw [at0_drop hlt] at hn
    unfold dcL at hn
    obtain ⟨sd2, hset, hn⟩ := ob_some hn
    refine hg so (D :: M) H4 (L2.wipe σ vs) (wipeD sd vs) sd2 x _ (s4.wipe vs) dx hset _ fun σ2 s5 b2 l2 o2 => ?_
    have hwp : L2.wipe σ2 vs = L2.wipe σ vs := by
      have h1 := wipe_eq (σ := L2.wipe σ vs) (vs := vs) l2 fun i hi => o2 i fun z => hi (hv i z)
      have h2 : L2.wipe (L2.wipe σ vs) vs = L2.wipe σ vs := by
        refine wipe_eq (wipe_length _ _) fun i hi => ?_
        exact wipe_out hi
      rw [h1, h2]
    refine ⟨hwp, ?_⟩
    refine ht so (D :: M) H4 σ2 sd2 s5 _ hn _ fun b H5 k5 q5 => ?_
    have s6 := s5.q q5
    have n4 : H4 D ≠ none := by rw [hD4]; intro z; cases z
    have kd5 := kd4.trans (q5.d nD n4)
    have hD5 : H5 D = some (.dK us) := q5.kp _ _ nD hD4
    have us5 := kvs_go us4 (s4.go q5)
    cases b with
    | false => exact ⟨us, kvs, kd5, hD5, us5, k5⟩
    | true =>
      refine hk' so (D :: M) H5 σ2 sd2 s6 _ k5 _ fun v1 r1 H6 k6 q6 e6 => ?_
      have s7 := s6.q q6
      obtain ⟨kd', hkd, k6⟩ := ob_some k6
      obtain ⟨ky, hky, k6⟩ := ob_some k6
      refine hv' so (D :: M) H6 σ2 sd2 s7 _ k6 _ fun v2 r2 H7 k7 q7 e7 => ?_
      obtain ⟨d, hd, k7⟩ := ob_some k7
      have s8 := s7.q q7
      split at k7
      · rename_i hsm
        have q67 := q6.trans q7
        have hD7 : H7 D = some (.dK us) := q67.kp _ _ nD hD5
        have us7 := kvs_go us5 (s6.go q67)
        have n5 : H5 D ≠ none := by rw [hD5]; intro z; cases z
        have kd7 := kd5.trans (q67.d nD n5)
        have hl : us.length = kvs.length := Paired.len us7
        have g8 := go_set (o := .dK (putK us ky v2)) s8.tr (List.mem_cons_self (a := D) (l := M))
        refine ⟨us, ky, ?_, hD7, ?_, putK us ky v2, kvPut kvs ky d, kd7.trans ⟨fun b o hb n e => by rw [upd_ne hb]; exact e, s8.sr.hd.set nD, by rw [upd_same]; intro z; cases z⟩, upd_same, kvs_go (kv_put us7 (e7.dm hd)) g8, k7⟩
        · have hvw := e6.vw s7 hkd
          exact key_v (vw_da hvw) hky
        · have := small_le' hsm
          rw [hl, sizeLine_eq]
          omega
      · cases k7
  · have e : j = ds.length := by omega
    subst e
    refine .inl ⟨w.wk.stops H2 hG, ?_⟩
    rw [List.drop_length] at hn
    unfold dcL at hn
    have DM : D ∉ M := fun z => s1.tr D z hD
    refine q _ (.nd kvs) H2 hn (q1.trans ⟨fun b o n e => ?_, kd.sr⟩) ⟨D, us, rfl, q1.free hD, DM, hDH, hus⟩
    have hbD := ne_of_none e hD
    exact kd.kp b o hbD n (by rw [upd_ne hbD]; exact e)
end
/-- one of two readings -/
def tOrE (t u : TE) : TE := fun σ H Q => t σ H Q ∨ u σ H Q
theorem pe_or2 {X : Cx} {e : Expr} {t u : TE} (h1 : PE X e t) (h2 : PE X e u) : PE X e (tOrE t u) := ⟨fun pins s σ H Q I h => h.elim (fun z => h1.run pins s σ H Q I z) fun z => h2.run pins s σ H Q I z⟩
section
variable {K : KT} {tb : TE} {g : SD → (ER → Bool) → Bool}
def tSub (K : PySem.W.Frag) (i : Nat) (tb : TE) : TE := tOrE (tOp (opV K .ix) (tVar i) tb) (tDGet (tVar i) tb)
theorem okE_sub (i : Nat) (hb : OkE K tb g) : OkE K (tSub K i tb) (fun sd k => match gs sd i with
    | .od kvs => g sd fun y => ob (dOf sd y) fun d => ob (keyOf d) fun q => ob (kvGet kvs q) fun e => k (.dat e)
    | _ => varF i sd fun r1 => g sd fun r2 => ob (dOf sd r1) fun d1 => ob (dOf sd r2) fun d2 => ob (binF .ix d1 d2) k) := by
  intro so M H σ sd s k hk Q q
  have old : (varF i sd fun r1 => g sd fun r2 => ob (dOf sd r1) fun d1 => ob (dOf sd r2) fun d2 => ob (binF .ix d1 d2) k) = true → tSub K i tb σ H Q := fun h => .inl (okE_bin .ix (okE_var i) hb so M H σ sd s k h Q q)
  dsimp only at hk
  split at hk
  · rename_i kvs hg
    refine .inr ?_
    have hs := s.sl i
    rw [hg] at hs
    obtain ⟨a, us, ea, h1, h2, h3, h4⟩ := hs
    refine ⟨.ref a, ea, ?_⟩
    refine hb so M H σ sd s _ hk _ fun v y H2 k2 q2 e2 => ?_
    obtain ⟨d, hd, k2⟩ := ob_some k2
    obtain ⟨ky, hky, k2⟩ := ob_some k2
    obtain ⟨e, he, k2⟩ := ob_some k2
    have s2 := s.q q2
    have hv := key_v (vw_da (e2.vw s2 hd)) hky
    subst hv
    have h3' : H2 a = some (.dK us) := q2.kp _ _ h2 h3
    have h4' := kvs_go h4 (s.go q2)
    rcases kv_get (k := ky) h4' with ⟨_, z⟩ | ⟨v2, d2, z1, z2, z3⟩
    · rw [z] at he; cases he
    · rw [z2] at he
      cases he
      exact ⟨a, v2, rfl, by rw [← z1]; exact DGet.k h3', q v2 (.dat _) H2 k2 q2 z3⟩
  · exact old hk
end
end Mp

/-! repr(a) == repr(b), repr(a) != repr(b) -/
namespace Mp
open PySem PySem.Spec PyProof.Rows L2 Gd Dq
mutual
def deq : PyData → PyData → Bool
  | .none, .none => true
  | .bool a, .bool b => a == b
  | .int a, .int b => decide (a = b)
  | .str a, .str b => decide (a = b)
  | .list a, .list b => deqs a b
  | .tuple a, .tuple b => deqs a b
  | _, _ => false
def deqs : List PyData → List PyData → Bool
  | [], [] => true
  | x :: xs, y :: ys => match deq x y with
    | true => deqs xs ys
    | false => false
  | _, _ => false
end
mutual
theorem deq_eq : ∀ (a b : PyData), deq a b = true → a = b
  | .none, b, h => by cases b <;> first | rfl | (exact absurd h (by simp [deq]))
  | .bool a, b, h => by
    cases b with
    | bool b => unfold deq at h; rw [beq_iff_eq] at h; rw [h]
    | _ => exact absurd h (by simp [deq])
  | .int a, b, h => by
    cases b with
    | int b => unfold deq at h; rw [of_decide_eq_true h]
    | _ => exact absurd h (by simp [deq])
  | .str a, b, h => by
    cases b with
    | str b => unfold deq at h; rw [of_decide_eq_true h]
    | _ => exact absurd h (by simp [deq])
  | .list a, b, h => by
    cases b with
    | list b => unfold deq at h; rw [deqs_eq a b h]
    | _ => exact absurd h (by simp [deq])
  | .tuple a, b, h => by
    cases b with
    | tuple b => unfold deq at h; rw [deqs_eq a b h]
    | _ => exact absurd h (by simp [deq])
  | .dict a, b, h => by cases b <;> exact absurd h (by simp [deq])
theorem deqs_eq : ∀ (a b : List PyData), deqs a b = true → a = b
  | [], [], _ => rfl
  | [], _ :: _, h => absurd h (by simp [deqs])
  | _ :: _, [], h => absurd h (by simp [deqs])
  | x :: xs, y :: ys, h => by
    unfold deqs at h
    split at h
    · rename_i h1
      rw [deq_eq x y h1, deqs_eq xs ys h]
    · cases h
end
/-- list(range(n)), tuple(range(n)) -/
def tLrg (te : TE) : TE := tLstRg (tRg1 te)
section
variable {K : KT} {ta : TE} {f : SD → (ER → Bool) → Bool}
theorem das_rg {M : List Addr} {H : Hp} {n : Int} : Dms K M H (rgV 0 n) (rgL 0 n.toNat) := by
  unfold rgV rgL
  have e : (n - 0).toNat = n.toNat := by omega
  rw [e]
  have key : ∀ l : List Nat, Dms K M H (l.map fun i => V.int (0 + (i : Nat))) (l.map fun (i : Nat) => PyData.int (0 + (i : Int))) := fun l => by
    induction l with
    | nil => exact .nil
    | cons i l ih => exact .cons (.int _) ih
  exact key _
theorem okE_lrg (ha : OkE K ta f) : OkE K (tLrg ta) (fun sd k => f sd fun x => ob (iOf x) fun n => match rgOk n with
    | true => k (.nw (rgL 0 n.toNat))
    | false => false) := by
  intro so M H σ sd s k hk Q q
  refine ha so M H σ sd s _ hk _ fun v x H1 k1 q1 e1 => ?_
  obtain ⟨n, hn, k1⟩ := ob_some k1
  have s1 := s.q q1
  have hv : v = .int n := by
    cases x with
    | dat d =>
      cases d with
      | int i => cases hn; exact Da.intV (show Dm K M H1 v (.int n) from e1)
      | _ => cases hn
    | _ => cases hn
  split at k1
  · rename_i hz
    unfold rgOk at hz
    rw [Bool.and_eq_true, decide_eq_true_iff, decide_eq_true_iff] at hz
    refine ⟨n, hv, ⟨by omega, by omega, by omega, by omega, by omega⟩, fun p hp => ?_⟩
    exact q _ _ _ k1 (q1.trans (s1.sr.same (same_new hp))) ((rn_newL s1.tr hp das_rg : RN K M _ _ _ (.nw _)).re q1)
  · cases k1
end
def tRcmp (K : PySem.W.Frag) (ne : Bool) (ta tb : TE) : TE := tOp (match ne with | true => rNe | false => rEq) (tCB (rJ K .rep) (tCons ta tNil)) (tCB (rJ K .rep) (tCons tb tNil))
def shEq (d e : PyData) : Bool := match deq d e with
  | true => true
  | false => decide (d.shown = e.shown)
theorem shEq_eq (d e : PyData) : shEq d e = decide (d.shown = e.shown) := by
  unfold shEq
  split
  · rename_i h
    rw [deq_eq d e h, decide_eq_true rfl]
  · rfl
section
variable {K : KT} {ta tb : TE} {f g : SD → (ER → Bool) → Bool}
theorem okE_rcmp (ne : Bool) (ha : OkE K ta f) (hb : OkE K tb g) : OkE K (tRcmp K ne ta tb) (fun sd k => f sd fun x => ob (dOf sd x) fun d => match repOk d with
    | true => g sd fun y => ob (dOf sd y) fun e => match repOk e with
      | true => k (.dat (.bool (ne != shEq d e)))
      | false => false
    | false => false) := by
  intro so M H σ sd s k hk Q q
  refine ha so M H σ sd s _ hk _ fun v x H1 k1 q1 e1 => ?_
  obtain ⟨d, hd, k1⟩ := ob_some k1
  have s1 := s.q q1
  split at k1
  · rename_i hr1
    refine rep_ok (e1.vw s1 hd) hr1 ?_
    refine hb so M H1 σ sd s1 _ k1 _ fun v2 y H2 k2 q2 e2 => ?_
    obtain ⟨e, he, k2⟩ := ob_some k2
    have s2 := s1.q q2
    split at k2
    · rename_i hr2
      refine rep_ok (e2.vw s2 he) hr2 ?_
      have q12 := q1.trans q2
      have ee : decide (V.str d.shown = V.str e.shown) = shEq d e := by
        rw [shEq_eq]
        by_cases h : d.shown = e.shown
        · rw [h]; simp
        · rw [decide_eq_false h, decide_eq_false (fun z => h (V.str.inj z))]
      cases ne with
      | true =>
        refine ⟨rfl, ?_⟩
        rw [ee]
        have ex : (true != shEq d e) = !shEq d e := by cases shEq d e <;> rfl
        have := q (.bl (true != shEq d e)) (.dat (.bool (true != shEq d e))) H2 k2 q12 (.bl _)
        rw [ex] at this
        exact this
      | false =>
        refine ⟨rfl, ?_⟩
        rw [ee]
        have ex : (false != shEq d e) = shEq d e := by cases shEq d e <;> rfl
        have := q (.bl (false != shEq d e)) (.dat (.bool (false != shEq d e))) H2 k2 q12 (.bl _)
        rw [ex] at this
        exact this
    · cases k2
  · cases k1
end
end Mp

/-! max(t, default=-1) -/
namespace Mp
open PySem PySem.Spec PyProof.Rows L2 Gd Dq RZ
def mxdV (ds : List PyData) : ER → Option Int
  | .dat (.int c) => match decide (c = -1), allI ds with
    | true, some ns => gd (ns.all fun n => decide (-1 ≤ n)) (topI ns)
    | _, _ => none
  | _ => none
def tupOf : PyData → Option (List PyData)
  | .tuple ds => some ds
  | _ => none
def mxdF (fa fb : SD → (ER → Bool) → Bool) : SD → (ER → Bool) → Bool := fun sd k => fa sd fun x => ob (dOf sd x) fun d => ob (tupOf d) fun ds => fb sd fun y => ob (mxdV ds y) fun n => k (.dat (.int n))
section
variable {K : KT} {ta tb : TE} {f g : SD → (ER → Bool) → Bool}
theorem okE_mxd (ha : OkE K ta f) (hb : OkE K tb g) : OkE K (tCKw (rMaxDT K) (tCons ta tNil) (tCons tb tNil)) (mxdF f g) := by
  intro so M H σ sd s k hk Q q
  refine ha so M H σ sd s _ hk _ fun v1 r1 H1 k1 q1 e1 => ?_
  obtain ⟨d, hd, k1⟩ := ob_some k1
  obtain ⟨ds, hds, k1⟩ := ob_some k1
  have s1 := s.q q1
  refine hb so M H1 σ sd s1 _ k1 _ fun v2 r2 H2 k2 q2 e2 => ?_
  obtain ⟨n, hn, k3⟩ := ob_some k2
  have s2 := s1.q q2
  have ed : d = .tuple ds := by
    cases d with
    | tuple xs => cases hds; rfl
    | _ => cases hds
  subst ed
  obtain ⟨a, vs, rfl, hq, hv⟩ := vw_tuple ((e1.q s1 q2).vw s2 hd)
  cases r2 with
  | dat x =>
    cases x with
    | int c =>
      unfold mxdV at hn
      simp only at hn
      split at hn
      · rename_i ns hc hi
        obtain ⟨h1, rfl⟩ := gd_some hn
        have hc := of_decide_eq_true hc
        subst hc
        have e2 : Da K (mn M H2) v2 (.int (-1)) := e2
        have e := allI_some hi
        subst e
        have hvs : vs = ns.map V.int := das_ints (dms_h hv)
        subst hvs
        refine ⟨a, ns, rfl, by rw [e2.intV], hq, fun m hm => of_decide_eq_true (List.all_eq_true.mp h1 m hm), ?_⟩
        exact q _ (.dat (.int (topI ns))) H2 k3 (q1.trans q2) (show Da K (mn M H2) (.int (topI ns)) (.int (topI ns)) from .int _)
      · cases hn
    | _ => cases hn
  | _ => cases hn
end
end Mp

/-! the language, what its terms read, what they are worth; that the two agree -/
namespace Mp
open PySem PySem.Spec PyProof.Rows L2 Gd Dq RZ
inductive ME where
  | var (i : Nat) | int (z : Int) | bl (b : Bool) | non | str (z : Str) | cst (j : Nat)
  | nil | cons (a r : ME) | star (a r : ME)
  | tup (r : ME) | lst (r : ME)
  | bin (o : BK) (a b : ME) | un (o : UK) (a : ME)
  | isN (a : ME) | ntN (a : ME) | and (a b : ME) | or (a b : ME) | not (a : ME)
  | chn (o p : BK) (a b c : ME) | ife (t a b : ME)
  | slc (a lo hi : ME) | noP | someP (a : ME) | rev (a : ME)
  | bi (b : BI) (r : ME) | call (f : Nat) (r : ME)
  | lc (g : GT) (it c elt : ME) (vs : List Nat)
  | lc2 (g : GT) (it c : ME) (vs : List Nat) (g1 : GT) (it1 c1 : ME) (vs1 : List Nat) (elt : ME)
  | lc3 (g : GT) (it c : ME) (vs : List Nat) (g1 : GT) (it1 c1 : ME) (vs1 : List Nat) (g2 : GT) (it2 c2 : ME) (vs2 : List Nat) (elt : ME)
  | tru (a : ME) | tbl (a : ME) | tand (a b : ME) | tor (a b : ME) | tnot (a : ME) | yes
  | it (a : ME) | rng1 (r : ME) | rng2 (r : ME) | enu (r : ME) | zip (r : ME)
  | bj (b : BJ) (r : ME) | sset (a : ME) | lens (a : ME) | isi (c : String) (a : ME) | idxL (a b : ME) | idxC (j : Nat) (b : ME)
  | sub (i : Nat) (b : ME) | rcmp (ne : Bool) (a b : ME) | lrg (a : ME) | dc (g : GT) (it c kx vx : ME) (vs : List Nat) | gn (stp : Bool) (t : Nat) (g : GT) (it c elt : ME) (vs : List Nat) | mxd (a b : ME)
/-- what is told of a program: its constants, how many each def takes -/
structure GE where
  cd : Nat → PyData
  ar : Nat → Nat
/-- a constant of the module -/
def cstF (d : PyData) : SD → (ER → Bool) → Bool := match d with
  | .dict _ => fun _ _ => false
  | d => conF d
theorem okE_cst' {K : KT} {ca : Addr} {d : PyData} (hc : (∃ kvs, d = .dict kvs) ∨ ∃ n, readV K n (.ref ca) = some d) : OkE K (tC (.ref ca)) (cstF d) := by
  rcases hc with ⟨kvs, rfl⟩ | ⟨n, h⟩
  · exact fun _ _ _ _ _ _ _ hk => by cases hk
  · cases d with
    | dict kvs => exact fun _ _ _ _ _ _ _ hk => by cases hk
    | _ => exact okE_cst h
abbrev CE' := Nat → List SV → (ER → Bool) → Bool
section
variable (K : KT) (ca : Nat → Addr) (G : GE) (C : CE')
mutual
def tE : ME → TE
  | .var i => tVar i
  | .int z => tC (.int z)
  | .bl b => tC (.bl b)
  | .non => tC .non
  | .str z => tC (.str z)
  | .cst j => tC (.ref (ca j))
  | .tup r => tTup (tA r)
  | .lst r => tLst (tA r)
  | .bin o a b => tOp (opV K o) (tE a) (tE b)
  | .un o a => tUn (unV o) (tE a)
  | .isN a => tIsN (tE a)
  | .ntN a => tNotN (tE a)
  | .and a b => tAndT K (tE a) (tE b)
  | .or a b => tOrT K (tE a) (tE b)
  | .not a => tNotT K (tE a)
  | .chn o p a b c => tChain (opV K o) (opV K p) (tE a) (tE b) (tE c)
  | .ife t a b => tIf (tT t) (tE a) (tE b)
  | .slc a lo hi => tSl (rSlV K) (tE a) (tO lo) (tO hi)
  | .rev a => tRev K (tE a)
  | .bi b r => tCB (rB K b) (tA r)
  | .call f r => tCall (spE K (C f) (G.ar f)) [] E0 (tA r)
  | .lc g it c elt vs => tLcT (tI it) (tG K g) (tT c) vs (tPut (tE elt))
  | .lc2 g it c vs g1 it1 c1 vs1 elt => tLcT (tI it) (tG K g) (tT c) vs fun D => tNest (tI it1) (tG K g1) (tT c1) vs1 (tPut (tE elt) D)
  | .lc3 g it c vs g1 it1 c1 vs1 g2 it2 c2 vs2 elt => tLcT (tI it) (tG K g) (tT c) vs fun D => tNest (tI it1) (tG K g1) (tT c1) vs1 (tNest (tI it2) (tG K g2) (tT c2) vs2 (tPut (tE elt) D))
  | .bj b r => tCB (rJ K b) (tA r)
  | .sset a => tSset K (tE a)
  | .lens a => tLens K (tE a)
  | .isi c a => tIsi K c (tE a)
  | .idxL a b => tIdxL K (tE a) (tE b)
  | .idxC j b => tIdxC K (ca j) (tE b)
  | .sub i b => tSub K i (tE b)
  | .rcmp ne a b => tRcmp K ne (tE a) (tE b)
  | .lrg a => tLrg (tE a)
  | .dc g it c kx vx vs => tDc (tI it) (tG K g) (tT c) (tE kx) (tE vx) vs
  | .gn stp t g it c elt vs => Gx.tGn stp (K.ta t) (tI it) (tG K g) (tT c) (tE elt) vs
  | .mxd a b => tCKw (rMaxDT K) (tCons (tE a) tNil) (tCons (tE b) tNil)
  | _ => fun _ _ _ => False
def tA : ME → TA
  | .nil => tNil
  | .cons a r => tCons (tE a) (tA r)
  | .star a r => StX.tStar K (tE a) (tA r)
  | _ => fun _ _ _ => False
def tT : ME → TT
  | .tru a => tTru K (tE a)
  | .tbl a => tTest (tE a)
  | .tand a b => tAnd (tT a) (tT b)
  | .tor a b => tOr (tT a) (tT b)
  | .tnot a => tNot (tT a)
  | .yes => tYes
  | _ => fun _ _ _ => False
def tI : ME → TI
  | .it a => iAny K (tE a)
  | .rng1 r => iRng1 (tA r)
  | .rng2 r => iRng2 (tA r)
  | .enu r => iEnA K (tA r)
  | .zip r => iZipA K (tA r)
  | _ => fun _ _ _ => False
def tO : ME → TO
  | .noP => tNoPart
  | .someP a => tPart (tE a)
  | _ => fun _ _ _ => False
end
mutual
def ev : ME → SD → (ER → Bool) → Bool
  | .var i => varF i
  | .int z => conF (.int z)
  | .bl b => conF (.bool b)
  | .non => conF .none
  | .str z => conF (.str z)
  | .cst j => cstF (G.cd j)
  | .tup r => fun sd k => evA r sd fun rs => ob (sOfs rs) fun ds => match small ds.length with
    | true => k (.dat (.tuple ds))
    | false => false
  | .lst r => fun sd k => evA r sd fun rs => ob (sOfs rs) fun ds => match small ds.length with
    | true => k (.nw ds)
    | false => false
  | .bin o a b => fun sd k => ev a sd fun r1 => ev b sd fun r2 => ob (dOf sd r1) fun d1 => ob (dOf sd r2) fun d2 => ob (binF o d1 d2) k
  | .un o a => fun sd k => ev a sd fun x => ob (dOf sd x) fun d => ob (unF o d) k
  | .isN a => fun sd k => ev a sd fun x => k (.dat (.bool (isNon x)))
  | .ntN a => fun sd k => ev a sd fun x => k (.dat (.bool (!isNon x)))
  | .and a b => fun sd k => ev a sd fun x => ob (truR sd x) fun c => match c with
    | true => ev b sd k
    | false => k x
  | .or a b => fun sd k => ev a sd fun x => ob (truR sd x) fun c => match c with
    | true => k x
    | false => ev b sd k
  | .not a => fun sd k => ev a sd fun x => ob (truR sd x) fun b => k (.dat (.bool (!b)))
  | .chn o p a b c => fun sd k => ev a sd fun x => ev b sd fun y => ob (dOf sd x) fun d => ob (dOf sd y) fun e => ob (binF o d e) fun r => ob (bOf r) fun b => match b with
    | true => ev c sd fun z => ob (dOf sd z) fun e2 => ob (binF p e e2) k
    | false => k (.dat (.bool false))
  | .ife t a b => fun sd k => evT t sd fun c => match c with
    | true => ev a sd k
    | false => ev b sd k
  | .slc a lo hi => fun sd k => ev a sd fun x => evO lo sd fun l => evO hi sd fun h => ob (dOf sd x) fun d => ob (slF l h d) k
  | .rev a => fun sd k => ev a sd fun x => ob (dOf sd x) fun d => ob (revF d) k
  | .bi b r => fun sd k => evA r sd fun rs => ob (dOfs sd rs) fun ds => ob (biF b ds) k
  | .call f r => callF (C f) (G.ar f) (evA r)
  | .lc g it c elt vs => lcF 1 vs (setG g) (evI it) (evT c) fun sd k => ev elt sd fun r => ob (sOf r) fun d => k [d]
  | .lc2 g it c vs g1 it1 c1 vs1 elt => lcF 400 vs (setG g) (evI it) (evT c) (nestF vs1 (setG g1) (evI it1) (evT c1) fun sd k => ev elt sd fun r => ob (sOf r) fun d => k [d])
  | .lc3 g it c vs g1 it1 c1 vs1 g2 it2 c2 vs2 elt => lcF 160000 vs (setG g) (evI it) (evT c) (nestF vs1 (setG g1) (evI it1) (evT c1) (nestF vs2 (setG g2) (evI it2) (evT c2) fun sd k => ev elt sd fun r => ob (sOf r) fun d => k [d]))
  | .bj b r => fun sd k => evA r sd fun rs => ob (dOfs sd rs) fun ds => ob (jF b ds) k
  | .sset a => fun sd k => ev a sd fun x => ob (dOf sd x) fun d => match d with
    | .list ds => ob (ssF ds) k
    | .tuple ds => match Nat.ble ds.length 60 with
      | true => ob (ssF ds) k
      | false => false
    | _ => false
  | .lens a => fun sd k => ev a sd fun x => ob (dOf sd x) fun d => match d with
    | .list ds => ob (lensF ds) k
    | .tuple ds => match Nat.ble ds.length 60 with
      | true => ob (lensF ds) k
      | false => false
    | _ => false
  | .isi c a => fun sd k => ev a sd fun x => ob (dOf sd x) fun d => ob (isiF c d) k
  | .idxL a b => fun sd k => ev a sd fun x => ob (dOf sd x) fun l => match l with
    | .list ds => ev b sd fun y => ob (dOf sd y) fun d => ob (idxF ds (.list ds) d) k
    | _ => false
  | .idxC j b => idxCF (G.cd j) (ev b)
  | .sub i b => fun sd k => match gs sd i with
    | .od kvs => ev b sd fun y => ob (dOf sd y) fun d => ob (keyOf d) fun q => ob (kvGet kvs q) fun e => k (.dat e)
    | _ => varF i sd fun r1 => ev b sd fun r2 => ob (dOf sd r1) fun d1 => ob (dOf sd r2) fun d2 => ob (binF .ix d1 d2) k
  | .rcmp ne a b => fun sd k => ev a sd fun x => ob (dOf sd x) fun d => match repOk d with
    | true => ev b sd fun y => ob (dOf sd y) fun e => match repOk e with
      | true => k (.dat (.bool (ne != shEq d e)))
      | false => false
    | false => false
  | .lrg a => fun sd k => ev a sd fun x => ob (iOf x) fun n => match rgOk n with
    | true => k (.nw (rgL 0 n.toNat))
    | false => false
  | .dc g it c kx vx vs => dcF vs (setG g) (evI it) (evT c) (ev kx) (ev vx)
  | .gn stp _ g it c elt vs => genF stp vs (setG g) (evI it) (evT c) (ev elt)
  | .mxd a b => mxdF (ev a) (ev b)
  | _ => fun _ _ => false
def evA : ME → SD → (List ER → Bool) → Bool
  | .nil => fun _ k => k []
  | .cons a r => fun sd k => ev a sd fun x => evA r sd fun xs => k (x :: xs)
  | .star a r => fun sd k => ev a sd fun x => ob (dOf sd x) fun d => ob (seqOf d) fun ds => evA r sd fun xs => k (ds.map .dat ++ xs)
  | _ => fun _ _ => false
def evT : ME → SD → (Bool → Bool) → Bool
  | .tru a => fun sd k => ev a sd fun x => ob (truR sd x) k
  | .tbl a => fun sd k => ev a sd fun x => ob (bOf x) k
  | .tand a b => fun sd k => evT a sd fun c => match c with
    | true => evT b sd k
    | false => k false
  | .tor a b => fun sd k => evT a sd fun c => match c with
    | true => k true
    | false => evT b sd k
  | .tnot a => fun sd k => evT a sd fun b => k (!b)
  | .yes => fun _ k => k true
  | _ => fun _ _ => false
def evI : ME → SD → (Bool → List PyData → Bool) → Bool
  | .it a => fun sd k => ev a sd fun x => ob (sqR sd x) fun p => k p.1 p.2
  | .rng1 r => rng1F (evA r)
  | .rng2 r => rng2F (evA r)
  | .enu r => enF (evA r)
  | .zip r => zpF (evA r)
  | _ => fun _ _ => false
def evO : ME → SD → (Option Int → Bool) → Bool
  | .noP => fun _ k => k none
  | .someP a => fun sd k => ev a sd fun x => ob (iOf x) fun i => k (some i)
  | _ => fun _ _ => false
end
end
/-- which slots a comprehension may set -/
def slotsIn (g : GT) (vs : List Nat) : Bool := g.slots.all fun i => vs.elem i
def wfE : ME → Bool
  | .cons a r => wfE a && wfE r
  | .star a r => wfE a && wfE r
  | .tup r => wfE r
  | .lst r => wfE r
  | .bin _ a b => wfE a && wfE b
  | .un _ a => wfE a
  | .isN a => wfE a
  | .ntN a => wfE a
  | .and a b => wfE a && wfE b
  | .or a b => wfE a && wfE b
  | .not a => wfE a
  | .chn _ _ a b c => wfE a && wfE b && wfE c
  | .ife t a b => wfE t && wfE a && wfE b
  | .slc a lo hi => wfE a && wfE lo && wfE hi
  | .someP a => wfE a
  | .rev a => wfE a
  | .bi _ r => wfE r
  | .call _ r => wfE r
  | .lc g it c elt vs => slotsIn g vs && wfE it && wfE c && wfE elt
  | .lc2 g it c vs g1 it1 c1 vs1 elt => slotsIn g vs && wfE it && wfE c && slotsIn g1 vs1 && wfE it1 && wfE c1 && wfE elt
  | .lc3 g it c vs g1 it1 c1 vs1 g2 it2 c2 vs2 elt => slotsIn g vs && wfE it && wfE c && slotsIn g1 vs1 && wfE it1 && wfE c1 && slotsIn g2 vs2 && wfE it2 && wfE c2 && wfE elt
  | .tru a => wfE a
  | .tbl a => wfE a
  | .tand a b => wfE a && wfE b
  | .tor a b => wfE a && wfE b
  | .tnot a => wfE a
  | .it a => wfE a
  | .rng1 r => wfE r
  | .rng2 r => wfE r
  | .enu r => wfE r
  | .zip r => wfE r
  | .bj _ r => wfE r
  | .sset a => wfE a
  | .lens a => wfE a
  | .isi _ a => wfE a
  | .idxL a b => wfE a && wfE b
  | .idxC _ b => wfE b
  | .sub _ b => wfE b
  | .rcmp _ a b => wfE a && wfE b
  | .lrg a => wfE a
  | .dc g it c kx vx vs => slotsIn g vs && wfE it && wfE c && wfE kx && wfE vx
  | .gn _ _ g it c elt vs => slotsIn g vs && wfE it && wfE c && wfE elt
  | .mxd a b => wfE a && wfE b
  | _ => true
theorem slotsIn_of {g : GT} {vs : List Nat} (h : slotsIn g vs = true) : ∀ i ∈ g.slots, i ∈ vs := fun i hi => by
  have := List.all_eq_true.mp h i hi
  exact List.elem_iff.mp this
section
variable {K : KT} {ca : Nat → Addr} {G : GE} {C : CE'}
theorem okE_no {te : TE} : OkE K te (fun _ _ => false) := fun _ _ _ _ _ _ _ hk => by cases hk
theorem okA_no {te : TA} : OkA K te (fun _ _ => false) := fun _ _ _ _ _ _ _ hk => by cases hk
theorem okT_no {te : TT} : OkT K te (fun _ _ => false) := fun _ _ _ _ _ _ _ hk => by cases hk
theorem okI_no {te : TI} : OkI K te (fun _ _ => false) := fun _ _ _ _ _ _ _ hk => by cases hk
theorem okO_no {te : TO} : OkO te (fun _ _ => false) K := fun _ _ _ _ _ _ _ hk => by cases hk
theorem snd_me (hc : ∀ j, (∃ kvs, G.cd j = .dict kvs) ∨ ∃ n, readV K n (.ref (ca j)) = some (G.cd j)) : ∀ m : ME, wfE m = true → OkE K (tE K ca G C m) (ev G C m) ∧ OkA K (tA K ca G C m) (evA G C m) ∧ OkT K (tT K ca G C m) (evT G C m) ∧ OkI K (tI K ca G C m) (evI G C m) ∧ OkO (tO K ca G C m) (evO G C m) K := by
  intro m
  induction m with
  | var i => exact fun _ => ⟨okE_var i, okA_no, okT_no, okI_no, okO_no⟩
  | int i => exact fun _ => ⟨okE_int, okA_no, okT_no, okI_no, okO_no⟩
  | bl i => exact fun _ => ⟨okE_bl, okA_no, okT_no, okI_no, okO_no⟩
  | non => exact fun _ => ⟨okE_non, okA_no, okT_no, okI_no, okO_no⟩
  | str z => exact fun _ => ⟨okE_str, okA_no, okT_no, okI_no, okO_no⟩
  | cst j => exact fun _ => ⟨okE_cst' (hc j), okA_no, okT_no, okI_no, okO_no⟩
  | nil => exact fun _ => ⟨okE_no, okA_nil, okT_no, okI_no, okO_no⟩
  | cons a r iha ihr =>
    intro w
    have w : (wfE a && wfE r) = true := w
    rw [Bool.and_eq_true] at w
    exact ⟨okE_no, okA_cons (iha w.1).1 (ihr w.2).2.1, okT_no, okI_no, okO_no⟩
  | star a r iha ihr =>
    intro w
    have w : (wfE a && wfE r) = true := w
    rw [Bool.and_eq_true] at w
    exact ⟨okE_no, okA_star (iha w.1).1 (ihr w.2).2.1, okT_no, okI_no, okO_no⟩
  | tup r ih => exact fun w => ⟨okE_tup (ih w).2.1, okA_no, okT_no, okI_no, okO_no⟩
  | lst r ih => exact fun w => ⟨okE_lst (ih w).2.1, okA_no, okT_no, okI_no, okO_no⟩
  | bin o a b iha ihb =>
    intro w
    have w : (wfE a && wfE b) = true := w
    rw [Bool.and_eq_true] at w
    exact ⟨okE_bin o (iha w.1).1 (ihb w.2).1, okA_no, okT_no, okI_no, okO_no⟩
  | un o a ih => exact fun w => ⟨okE_un o (ih w).1, okA_no, okT_no, okI_no, okO_no⟩
  | isN a ih => exact fun w => ⟨okE_isN (ih w).1, okA_no, okT_no, okI_no, okO_no⟩
  | ntN a ih => exact fun w => ⟨okE_ntN (ih w).1, okA_no, okT_no, okI_no, okO_no⟩
  | and a b iha ihb =>
    intro w
    have w : (wfE a && wfE b) = true := w
    rw [Bool.and_eq_true] at w
    exact ⟨okE_and (iha w.1).1 (ihb w.2).1, okA_no, okT_no, okI_no, okO_no⟩
  | or a b iha ihb =>
    intro w
    have w : (wfE a && wfE b) = true := w
    rw [Bool.and_eq_true] at w
    exact ⟨okE_or (iha w.1).1 (ihb w.2).1, okA_no, okT_no, okI_no, okO_no⟩
  | not a ih => exact fun w => ⟨okE_not (ih w).1, okA_no, okT_no, okI_no, okO_no⟩
  | chn o p a b c iha ihb ihc =>
    intro w
    have w : (wfE a && wfE b && wfE c) = true := w
    rw [Bool.and_eq_true, Bool.and_eq_true] at w
    exact ⟨okE_chain o p (iha w.1.1).1 (ihb w.1.2).1 (ihc w.2).1, okA_no, okT_no, okI_no, okO_no⟩
  | ife t a b iht iha ihb =>
    intro w
    have w : (wfE t && wfE a && wfE b) = true := w
    rw [Bool.and_eq_true, Bool.and_eq_true] at w
    exact ⟨okE_if (iht w.1.1).2.2.1 (iha w.1.2).1 (ihb w.2).1, okA_no, okT_no, okI_no, okO_no⟩
  | slc a lo hi iha ihl ihh =>
    intro w
    have w : (wfE a && wfE lo && wfE hi) = true := w
    rw [Bool.and_eq_true, Bool.and_eq_true] at w
    exact ⟨okE_sl (iha w.1.1).1 (ihl w.1.2).2.2.2.2 (ihh w.2).2.2.2.2, okA_no, okT_no, okI_no, okO_no⟩
  | noP => exact fun _ => ⟨okE_no, okA_no, okT_no, okI_no, okO_none⟩
  | someP a ih => exact fun w => ⟨okE_no, okA_no, okT_no, okI_no, okO_some (ih w).1⟩
  | rev a ih => exact fun w => ⟨okE_rev (ih w).1, okA_no, okT_no, okI_no, okO_no⟩
  | bi b r ih => exact fun w => ⟨okE_bi b (ih w).2.1, okA_no, okT_no, okI_no, okO_no⟩
  | call f r ih => exact fun w => ⟨okE_call (ih w).2.1, okA_no, okT_no, okI_no, okO_no⟩
  | lc g it c elt vs ih1 ih2 ih3 =>
    intro w
    have w : (slotsIn g vs && wfE it && wfE c && wfE elt) = true := w
    simp only [Bool.and_eq_true] at w
    exact ⟨okE_lcT (B := 1) (ih1 w.1.1.2).2.2.2.1 (okG K g) (slotsIn_of w.1.1.1) (ih2 w.1.2).2.2.1 (okN_put (ih3 w.2).1), okA_no, okT_no, okI_no, okO_no⟩
  | lc2 g it c vs g1 it1 c1 vs1 elt ih1 ih2 ih3 ih4 ih5 =>
    intro w
    have w : (slotsIn g vs && wfE it && wfE c && slotsIn g1 vs1 && wfE it1 && wfE c1 && wfE elt) = true := w
    simp only [Bool.and_eq_true] at w
    exact ⟨okE_lcT (B := 400) (ih1 w.1.1.1.1.1.2).2.2.2.1 (okG K g) (slotsIn_of w.1.1.1.1.1.1) (ih2 w.1.1.1.1.2).2.2.1 (okN_nest (B := 1) (ih3 w.1.1.2).2.2.2.1 (okG K g1) (slotsIn_of w.1.1.1.2) (ih4 w.1.2).2.2.1 (okN_put (ih5 w.2).1)), okA_no, okT_no, okI_no, okO_no⟩
  | lc3 g it c vs g1 it1 c1 vs1 g2 it2 c2 vs2 elt ih1 ih2 ih3 ih4 ih5 ih6 ih7 =>
    intro w
    have w : (slotsIn g vs && wfE it && wfE c && slotsIn g1 vs1 && wfE it1 && wfE c1 && slotsIn g2 vs2 && wfE it2 && wfE c2 && wfE elt) = true := w
    simp only [Bool.and_eq_true] at w
    obtain ⟨⟨⟨⟨⟨⟨⟨⟨⟨a1, a2⟩, a3⟩, a4⟩, a5⟩, a6⟩, a7⟩, a8⟩, a9⟩, a10⟩ := w
    exact ⟨okE_lcT (B := 160000) (ih1 a2).2.2.2.1 (okG K g) (slotsIn_of a1) (ih2 a3).2.2.1 (okN_nest (B := 400) (T := fun D => tNest _ _ _ vs2 (tPut _ D)) (ih3 a5).2.2.2.1 (okG K g1) (slotsIn_of a4) (ih4 a6).2.2.1 (okN_nest (B := 1) (ih5 a8).2.2.2.1 (okG K g2) (slotsIn_of a7) (ih6 a9).2.2.1 (okN_put (ih7 a10).1))), okA_no, okT_no, okI_no, okO_no⟩
  | tru a ih => exact fun w => ⟨okE_no, okA_no, okT_tru (ih w).1, okI_no, okO_no⟩
  | tbl a ih => exact fun w => ⟨okE_no, okA_no, okT_bl (ih w).1, okI_no, okO_no⟩
  | tand a b iha ihb =>
    intro w
    have w : (wfE a && wfE b) = true := w
    rw [Bool.and_eq_true] at w
    exact ⟨okE_no, okA_no, okT_and (iha w.1).2.2.1 (ihb w.2).2.2.1, okI_no, okO_no⟩
  | tor a b iha ihb =>
    intro w
    have w : (wfE a && wfE b) = true := w
    rw [Bool.and_eq_true] at w
    exact ⟨okE_no, okA_no, okT_or (iha w.1).2.2.1 (ihb w.2).2.2.1, okI_no, okO_no⟩
  | tnot a ih => exact fun w => ⟨okE_no, okA_no, okT_not (ih w).2.2.1, okI_no, okO_no⟩
  | yes => exact fun _ => ⟨okE_no, okA_no, okT_yes, okI_no, okO_no⟩
  | it a ih => exact fun w => ⟨okE_no, okA_no, okT_no, okI_any (ih w).1, okO_no⟩
  | rng1 r ih => exact fun w => ⟨okE_no, okA_no, okT_no, okI_rng1 (ih w).2.1, okO_no⟩
  | rng2 r ih => exact fun w => ⟨okE_no, okA_no, okT_no, okI_rng2 (ih w).2.1, okO_no⟩
  | enu r ih => exact fun w => ⟨okE_no, okA_no, okT_no, okI_en (ih w).2.1, okO_no⟩
  | zip r ih => exact fun w => ⟨okE_no, okA_no, okT_no, okI_zp (ih w).2.1, okO_no⟩
  | bj b r ih => exact fun w => ⟨okE_j b (ih w).2.1, okA_no, okT_no, okI_no, okO_no⟩
  | sset a ih => exact fun w => ⟨okE_sset (ih w).1, okA_no, okT_no, okI_no, okO_no⟩
  | lens a ih => exact fun w => ⟨okE_lens (ih w).1, okA_no, okT_no, okI_no, okO_no⟩
  | isi c a ih => exact fun w => ⟨okE_isi c (ih w).1, okA_no, okT_no, okI_no, okO_no⟩
  | idxL a b iha ihb =>
    intro w
    have w : (wfE a && wfE b) = true := w
    rw [Bool.and_eq_true] at w
    exact ⟨okE_idxL (iha w.1).1 (ihb w.2).1, okA_no, okT_no, okI_no, okO_no⟩
  | idxC j b ih => exact fun w => ⟨okE_idxC (hc j) (ih w).1, okA_no, okT_no, okI_no, okO_no⟩
  | sub i b ih => exact fun w => ⟨okE_sub i (ih w).1, okA_no, okT_no, okI_no, okO_no⟩
  | rcmp ne a b iha ihb =>
    intro w
    have w : (wfE a && wfE b) = true := w
    rw [Bool.and_eq_true] at w
    exact ⟨okE_rcmp ne (iha w.1).1 (ihb w.2).1, okA_no, okT_no, okI_no, okO_no⟩
  | lrg a ih => exact fun w => ⟨okE_lrg (ih w).1, okA_no, okT_no, okI_no, okO_no⟩
  | dc g it c kx vx vs ih1 ih2 ih3 ih4 =>
    intro w
    have w : (slotsIn g vs && wfE it && wfE c && wfE kx && wfE vx) = true := w
    simp only [Bool.and_eq_true] at w
    exact ⟨okE_dc (ih1 w.1.1.1.2).2.2.2.1 (okG K g) (slotsIn_of w.1.1.1.1) (ih2 w.1.1.2).2.2.1 (ih3 w.1.2).1 (ih4 w.2).1, okA_no, okT_no, okI_no, okO_no⟩
  | gn stp t g it c elt vs ih1 ih2 ih3 =>
    intro w
    have w : (slotsIn g vs && wfE it && wfE c && wfE elt) = true := w
    simp only [Bool.and_eq_true] at w
    exact ⟨okE_gn (K.ta_mem t) (ih1 w.1.1.2).2.2.2.1 (okG K g) (slotsIn_of w.1.1.1) (ih2 w.1.2).2.2.1 (ih3 w.2).1, okA_no, okT_no, okI_no, okO_no⟩
  | mxd a b iha ihb =>
    intro w
    have w : (wfE a && wfE b) = true := w
    rw [Bool.and_eq_true] at w
    exact ⟨okE_mxd (iha w.1).1 (ihb w.2).1, okA_no, okT_no, okI_no, okO_no⟩
end
end Mp

/-! statements of the language; programs -/
namespace Mp
open PySem PySem.Spec PyProof.Rows L2 Gd Dq RZ
inductive MS where
  | nil | seq (a r : MS) | asg (i : Nat) (e : ME) | unp (g : GT) (e : ME) | par (i j : Nat) (r : ME) | par3 (i j l : Nat) (r : ME)
  | ret (e : ME) | retN | exp (e : ME) | ife (t : ME) (a b : MS) | for (g : GT) (it : ME) (b : MS) | whl (t : ME) (b : MS) | brk | cnt
  | app (i : Nat) (e : ME) | ext (i : Nat) (e : ME) | set (i : Nat) (k e : ME) | aug (i : Nat) (o : BK) (e : ME) | frz (is : List Nat) (s : MS) | nev
def fuel : Nat := 100000
section
variable (K : KT) (ca : Nat → Addr) (G : GE) (C : CE')
def tS : MS → TS
  | .nil => tNext
  | .seq a r => tSeq (tS a) (tS r)
  | .asg i e => tAsg (tE K ca G C e) (gName i)
  | .unp g e => tAsg (tE K ca G C e) (tG K g)
  | .par i j r => tPar i j (tA K ca G C r)
  | .par3 i j l r => tPar3 i j l (tA K ca G C r)
  | .ret e => tRet (tE K ca G C e)
  | .retN => tRetN
  | .exp e => tDrop (tE K ca G C e)
  | .ife t a b => tIfS (tT K ca G C t) (tS a) (tS b)
  | .for g it b => tFor (tI K ca G C it) (tG K g) (tS b)
  | .whl t b => tWhile (tT K ca G C t) (tS b)
  | .brk => tBreak
  | .cnt => tCont
  | .app i e => tDrop (tBM K "list" rAppend (tVar i) (tCons (tE K ca G C e) tNil))
  | .ext i e => tDrop (tBM K "list" rExtend (tVar i) (tCons (tE K ca G C e) tNil))
  | .set i k e => tAsg (tE K ca G C e) (gSub (tVar i) (tE K ca G C k) rSetA)
  | .aug i o e => tAug i (tE K ca G C e) (augV o)
  | .frz _ s => tS s
  | .nev => tNever
def es : MS → SD → EK → Bool
  | .nil => fun sd E => E.nx sd
  | .seq a r => fun sd E => es a sd { E with nx := fun sd2 => es r sd2 E }
  | .asg i e => fun sd E => ev G C e sd fun r => ob (svOf r) fun x => E.nx (sd.set i x)
  | .unp g e => fun sd E => ev G C e sd fun r => ob (sOf r) fun d => ob (setG g d sd) E.nx
  | .par i j r => fun sd E => evA G C r sd fun rs => match rs with
    | [r1, r2] => ob (sOf r1) fun d1 => ob (sOf r2) fun d2 => E.nx ((sd.set i (.dat d1)).set j (.dat d2))
    | _ => false
  | .par3 i j l r => fun sd E => evA G C r sd fun rs => match rs with
    | [r1, r2, r3] => ob (sOf r1) fun d1 => ob (sOf r2) fun d2 => ob (sOf r3) fun d3 => E.nx (((sd.set i (.dat d1)).set j (.dat d2)).set l (.dat d3))
    | _ => false
  | .ret e => fun sd E => ev G C e sd fun r => ob (rtOf sd r) E.rt
  | .retN => fun sd E => E.rt (.dat .none)
  | .exp e => fun sd E => ev G C e sd fun _ => E.nx sd
  | .ife t a b => fun sd E => evT G C t sd fun c => match c with
    | true => es a sd E
    | false => es b sd E
  | .for g it b => fun sd E => evI G C it sd fun own ds => match own with
    | true => false
    | false => forL (setG g) (es b) E.rt E.nx ds sd
  | .whl t b => fun sd E => whlL (evT G C t) (es b) E.rt E.nx fuel sd
  | .brk => fun sd E => E.bk sd
  | .cnt => fun sd E => E.ct sd
  | .app i e => fun sd E => match gs sd i with
    | .ol ds => ev G C e sd fun r => ob (sOf r) fun d => match small ds.length with
      | true => E.nx (sd.set i (.ol (ds ++ [d])))
      | false => false
    | _ => false
  | .ext i e => fun sd E => match gs sd i with
    | .ol ds => ev G C e sd fun r => ob (lsR sd r) fun p => match small (ds.length + p.2.length) with
      | true => E.nx (sd.set i (.ol (ds ++ p.2)))
      | false => false
    | _ => false
  | .set i k e => fun sd E => match owns (gs sd i) with
    | true => ev G C e sd fun r => ob (sOf r) fun d => ev G C k sd fun q => ob (sOf q) fun e => ob (setI' (gs sd i) e d) fun x => E.nx (sd.set i x)
    | false => false
  | .aug i o e => fun sd E => match gs sd i with
    | .dat (.int x) => ev G C e sd fun r => ob (iOf r) fun y => ob (augI o) fun h => E.nx (sd.set i (.dat (.int (h x y))))
    | _ => false
  | .frz is s => fun sd E => es s (Mp.frz sd is) E
  | .nev => fun _ _ => false
end
def wfS : MS → Bool
  | .seq a r => wfS a && wfS r
  | .asg _ e => wfE e
  | .unp _ e => wfE e
  | .par _ _ r => wfE r
  | .par3 _ _ _ r => wfE r
  | .ret e => wfE e
  | .exp e => wfE e
  | .ife t a b => wfE t && wfS a && wfS b
  | .for _ it b => wfE it && wfS b
  | .whl t b => wfE t && wfS b
  | .app _ e => wfE e
  | .ext _ e => wfE e
  | .set _ k e => wfE k && wfE e
  | .aug _ _ e => wfE e
  | .frz _ s => wfS s
  | _ => true
section
variable {K : KT} {ca : Nat → Addr} {G : GE} {C : CE'}
theorem snd_ms (hc : ∀ j, (∃ kvs, G.cd j = .dict kvs) ∨ ∃ n, readV K n (.ref (ca j)) = some (G.cd j)) : ∀ m : MS, wfS m = true → OkS K (tS K ca G C m) (es G C m) := by
  have E : ∀ e, wfE e = true → OkE K (tE K ca G C e) (ev G C e) := fun e h => (snd_me hc e h).1
  have A : ∀ e, wfE e = true → OkA K (tA K ca G C e) (evA G C e) := fun e h => (snd_me hc e h).2.1
  have T : ∀ e, wfE e = true → OkT K (tT K ca G C e) (evT G C e) := fun e h => (snd_me hc e h).2.2.1
  have I : ∀ e, wfE e = true → OkI K (tI K ca G C e) (evI G C e) := fun e h => (snd_me hc e h).2.2.2.1
  intro m
  induction m with
  | nil => exact fun _ => okS_next
  | seq a r iha ihr =>
    intro w
    have w : (wfS a && wfS r) = true := w
    rw [Bool.and_eq_true] at w
    exact okS_seq (p := es G C a) (q := es G C r) (iha w.1) (ihr w.2)
  | asg i e => exact fun w => okS_asg i (E e w)
  | unp g e => exact fun w => okS_unp g (E e w)
  | par i j r => exact fun w => okS_par i j (A r w)
  | par3 i j l r => exact fun w => okS_par3 i j l (A r w)
  | ret e => exact fun w => okS_ret (E e w)
  | retN => exact fun _ => okS_retN
  | exp e => exact fun w => okS_drop (E e w)
  | ife t a b iha ihb =>
    intro w
    have w : (wfE t && wfS a && wfS b) = true := w
    rw [Bool.and_eq_true, Bool.and_eq_true] at w
    exact okS_if (T t w.1.1) (iha w.1.2) (ihb w.2)
  | «for» g it b ih =>
    intro w
    have w : (wfE it && wfS b) = true := w
    rw [Bool.and_eq_true] at w
    exact okS_for g (I it w.1) (ih w.2)
  | whl t b ih =>
    intro w
    have w : (wfE t && wfS b) = true := w
    rw [Bool.and_eq_true] at w
    exact okS_whl fuel (T t w.1) (ih w.2)
  | brk => exact fun _ => okS_break
  | cnt => exact fun _ => okS_cont
  | app i e => exact fun w => okS_app i (E e w)
  | ext i e => exact fun w => okS_ext i (E e w)
  | set i k e =>
    intro w
    have w : (wfE k && wfE e) = true := w
    rw [Bool.and_eq_true] at w
    exact okS_set i (E e w.2) (E k w.1)
  | aug i o e => exact fun w => okS_aug i o (E e w)
  | frz is s ih => exact fun w => okS_frz is (ih w)
  | nev => exact fun _ => fun _ _ _ _ _ _ _ _ _ hk => by cases hk
end
/-! programs -/
inductive MD where
  | fn (n : Nat) (b : MS) | pick | mixed | no
def allN : Nat → (Nat → Bool) → Bool
  | 0, _ => true
  | n + 1, p => match allN n p with
    | true => p n
    | false => false
theorem allN_of {p : Nat → Bool} : ∀ {n : Nat}, allN n p = true → ∀ r, r < n → p r = true
  | 0, _, r, h => absurd h (Nat.not_lt_zero r)
  | n + 1, e, r, h => by
    unfold allN at e
    split at e
    · rename_i h1
      by_cases hr : r = n
      · subst hr; exact e
      · exact allN_of h1 r (by omega)
    · cases e
theorem allN_mk {p : Nat → Bool} : ∀ {n : Nat}, (∀ r, r < n → p r = true) → allN n p = true
  | 0, _ => rfl
  | n + 1, h => by
    unfold allN
    rw [allN_mk fun r hr => h r (by omega)]
    exact h n (Nat.lt_succ_self n)
def pickF : List SV → (ER → Bool) → Bool
  | [.src, .dat (.int m)], k => match decide (m < 1000000000000000000000000000000) with
    | true => allN (max 1 m).toNat fun r => k (.dat (.int (r : Nat)))
    | false => false
  | _, _ => false
def mixL : Nat → List PyData → (List PyData → Bool) → Bool
  | 0, _, k => k []
  | n + 1, ds, k => allN ds.length fun r => mixL n (ds.eraseIdx r) fun es => k (at0 ds r :: es)
def mixF : List SV → (ER → Bool) → Bool
  | [.src, .dat (.list ds)], k => match Nat.ble ds.length 1000 with
    | true => mixL ds.length ds fun es => k (.dat (.list es))
    | false => false
  | _, _ => false
def runD (G : GE) (C : CE') : MD → List SV → (ER → Bool) → Bool
  | .fn n b, xs, k => es G C b (xs ++ List.replicate n .un) { nx := fun _ => k (.dat .none), rt := k, bk := fun _ => false, ct := fun _ => false }
  | .pick, xs, k => pickF xs k
  | .mixed, xs, k => mixF xs k
  | .no, _, _ => false
def runF (G : GE) (D : Nat → MD) : Nat → CE'
  | 0, _, _, _ => false
  | n + 1, f, xs, k => runD G (runF G D n) (D f) xs k
theorem paired_get {α β : Type} {R : α → β → Prop} : ∀ {xs : List α} {ys : List β} {i : Nat}, Paired R xs ys → i < xs.length → ∃ x y, xs[i]? = some x ∧ ys[i]? = some y ∧ R x y
  | _, _, _, .nil, h => absurd h (Nat.not_lt_zero _)
  | _, _, 0, .cons a _, _ => ⟨_, _, rfl, rfl, a⟩
  | _, _, i + 1, .cons _ b, h => paired_get (i := i) b (by simpa using h)
/-- a def's body does as its promise says -/
theorem body_ok {K : KT} {ca : Nat → Addr} {G : GE} {C : CE'} {vs : List V} {N : List Str} {H : Hp} {Q : VK} {E : XK} {n a : Nat} {b : MS} {t : TS} (hc : ∀ j, (∃ kvs, G.cd j = .dict kvs) ∨ ∃ n, readV K n (.ref (ca j)) = some (G.cd j)) (hw : wfS b = true)
    (h : spE K (runD G C (.fn n b)) a vs H Q E) (hN : N.length = a + n) (ht : t = tS K ca G C b) : t { nx := fun _ H' => Q .non H', rt := Q } (L2.start N vs) H := by
  subst ht
  obtain ⟨so, M, xs, k, htb, hp, hl, hS, hT, hk, q⟩ := h
  have hk : es G C b (xs ++ List.replicate n .un) _ = true := hk
  have hvl := Paired.len hp
  have key : ∀ i, Sl K so M H ((L2.start N vs)[i]?) (gs (xs ++ List.replicate n .un) i) ∧ owns (gs (xs ++ List.replicate n .un) i) = false := by
    intro i
    unfold gs L2.start
    rw [List.getD_eq_getElem?_getD]
    by_cases hi : i < xs.length
    · rw [List.getElem?_append_left hi, List.getElem?_append_left (by rw [List.length_map]; omega), List.getElem?_map]
      obtain ⟨v, x, e1, e2, hr⟩ := paired_get hp (i := i) (by omega)
      rw [e1, e2]
      cases x with
      | dat d => exact ⟨⟨v, rfl, hr⟩, rfl⟩
      | src =>
        obtain ⟨s, c, e, rfl⟩ := hr
        exact ⟨⟨s, c, e, rfl⟩, rfl⟩
      | un => exact hr.elim
      | ol ds => exact hr.elim
      | od ds => exact hr.elim
    · have e : (xs ++ List.replicate n SV.un)[i]?.getD SV.un = SV.un := by
        rw [List.getElem?_append_right (by omega), List.getElem?_replicate]
        split <;> rfl
      rw [e]
      exact ⟨trivial, rfl⟩
  have F : Fr K so H M M H (L2.start N vs) (xs ++ List.replicate n .un) := by
    refine ⟨⟨fun i => (key i).1, fun i j p _ h1 => ?_, hS, hT, ?_, htb⟩, fun b hb => hb, hT, hS.refl, fun i p h1 => ?_⟩
    · rw [(key i).2] at h1; cases h1
    · unfold L2.start
      rw [List.length_append, List.length_append, List.length_map, List.length_replicate, List.length_replicate]
      omega
    · rw [(key i).2] at h1; cases h1
  exact snd_ms hc b hw so H M M H _ _ F _ hk _ (fun M' H' σ' sd' k' F' _ => q _ _ H' k' F'.kq .non) (fun v r H' k' z e => q v r H' k' z e) (fun _ _ _ _ k' _ _ => by cases k') (fun _ _ _ _ k' _ _ => by cases k')
end Mp

/-! defs of a program, the draws, the end of a law -/
namespace Mp
open PySem PySem.Spec PyProof.Rows L2 Gd Dq
/-- a def and its code object -/
structure FunC (K : PySem.W.Frag) (x qual : Str) (st : Stmt) (f : Addr) (fd : FuncData) (c : Addr) : Prop where
  ex : ∃ (oc : Value) (od : Option Addr) (kV doc pm : Value) (an : Option Addr) (ct : Value) (osl : Array (Option Value)),
    fd = PySem.W.fnOf x qual (defArgs st) (defBody st) (defScope st) .none kV doc pm an (.ref c) ct ∧ K.lookup f = some ⟨oc, od, .func fd, osl⟩ ∧ PySem.W.codeIn K (.ref c) qual = true
  kp : PySem.W.keepIn K (.ref f) = true
theorem FunC.fun {K : PySem.W.Frag} {x qual : Str} {st : Stmt} {f c : Addr} {fd : FuncData} (F : FunC K x qual st f fd c) : Fun K x qual st f fd := by
  obtain ⟨⟨oc, od, kV, doc, pm, an, ct, osl, h1, h2, h3⟩, kp⟩ := F
  exact ⟨⟨oc, od, kV, doc, pm, an, .ref c, ct, osl, h1, h2, h3⟩, kp⟩
section
variable {P : Program} {w : World} {K : PySem.W.Frag} {mg : Str → Option Value} {base : Heap}
theorem fn_ofC {k : Nat} {f c : Addr} {x qual : Str} {st : Stmt} {fd : FuncData} {N ps : List Str} {sp : Sp}
    (F : FunC K x qual st f fd c) (S : FnScope N ps (defScope st))
    (len : ∀ vs H Q E, sp vs H Q E → vs.length = ps.length)
    (hbody : ∀ (A : Around) (outer : List Env) (s : Shared) (H : Hp) (vs : List V) (Q : VK) (E : XK),
      A.guards = some [] → Room k (A.deeper (envOfC qual (defScope st) s.heap.objs.size f (.ref c))) → sp vs H Q E →
      ∃ t, PSs (cxOf CX0 P w K mg base N qual (defScope st) f (.ref c) A outer s H E).nox (defBody st) t ∧
        t { nx := fun _ H' => Q .non H', rt := Q } (start N vs) H) :
    FnG P w K mg base (k + 1) f fd ps sp := by
  obtain ⟨oc, od, kV, doc, pm, an, ct, osl, rfl, lk, hcd⟩ := F.ex
  refine ⟨len, fun A outer s H args us vs Q E hg hr e0 hb rv hsp => ?_⟩
  have hlen := len vs H Q E hsp
  have kin : K.In s.heap := e0.mod.kin.keeps fun b o e => (e0.bs b o e).1
  have lim : s.heap.NoLimit := e0.mod.nolimit.keeps fun b o e => (e0.bs b o e).1
  have kinds : ∀ y ∈ ps.zip us, (defScope st).names.lookup y.1 = some .local ∨
      ((defScope st).names.lookup y.1 = some .cell ∧
        ((cellsFrom (s.heap.objs.size + 1) (defScope st).names []).lookup y.1).isSome = true) := by
    rintro ⟨n, v⟩ hy
    cases S.par n (List.of_mem_zip hy).1 with
    | inl q => exact Or.inl q
    | inr q => exact Or.inr ⟨q, PySem.W.cellsFrom_some _ _ _ (Or.inl q)⟩
  refine codeAny_call_function hr.depth (kin _ _ lk) rfl S.co S.gen rfl
    (PySem.W.codeRec_of kin hcd) (hb _ _ _ _ ?_)
  refine wpAny_newFunctionEnv_cells S.kind kinds fun env henv s1 icc => ?_
  cases henv
  refine ⟨lim.keeps icc.toInCall.keep, codeAny_func ?_⟩
  obtain ⟨t, ht, hq⟩ := hbody A outer s H vs Q E hg (hr.deeper _) hsp
  have inv0 := inv_start (CX := CX0) (mg := mg) (base := base) (cd := .ref c) (E := E) S hr.hd e0 hlen rv icc
  refine wpAny_mono (ht.nox.run [] s1 (start N vs) H _ inv0 hq) (fun fl s' hs => ?_) (fun e s' hs => hs)
  cases fl with
  | ret u =>
    obtain ⟨v, σ', H', J, r2, q⟩ := hs
    exact ⟨v, H', J.os, J.bare, J.base, J.hok, r2, q⟩
  | next =>
    obtain ⟨σ', H', J, q⟩ := hs
    exact ⟨V.non, H', J.os, J.bare, J.base, J.hok, rfl, q⟩
  | brk =>
    obtain ⟨_, _, _, q⟩ := hs
    cases q
  | cont =>
    obtain ⟨_, _, _, q⟩ := hs
    cases q
theorem fnG_imp {k : Nat} {f : Addr} {fd : FuncData} {ps : List Str} {sp sp' : Sp} (F : FnG P w K mg base k f fd ps sp) (h : ∀ vs H Q E, sp' vs H Q E → sp vs H Q E) : FnG P w K mg base k f fd ps sp' :=
  ⟨fun vs H Q E q => F.len vs H Q E (h _ _ _ _ q), fun A outer s H args us vs Q E hg hr e0 hb rv q => F.run A outer s H args us vs Q E hg hr e0 hb rv (h _ _ _ _ q)⟩
/-- what is false is never asked -/
theorem fnG_no {k : Nat} {f : Addr} {fd : FuncData} {ps : List Str} {KK : KT} {n : Nat} (hn : n = ps.length) : FnG P w K mg base k f fd ps (spE KK (fun _ _ => false) n) :=
  ⟨fun vs H Q E q => by rw [spE_len vs H Q E q, hn], fun A outer s H args us vs Q E hg hr e0 hb rv q => by
    obtain ⟨so, M, xs, k, _, _, _, _, _, h, _⟩ := q
    cases h⟩
/-- the draws -/
theorem kq_of {so : Wr} {s c : Addr} {H H' : Hp} (e : so.src = some (s, c)) (h : SrH so H) (k : Kp s c H H') (S : Src s c H') : Kq so H H' where
  kp := fun b o n eb => k b o (fun z => n (z ▸ (wr_src e).1)) (fun z => n (z ▸ (wr_src e).2)) eb
  sr := ⟨fun s' c' z => by rw [e] at z; cases z; exact S, fun R hR => by
    obtain ⟨ps, q, t⟩ := h.tb R hR
    obtain ⟨h0, cells, l, m, tt, h1, h2, h3⟩ := h.sr s c e
    have n1 : R ≠ s := fun z => by rw [z, h1] at q; cases q
    have n2 : R ≠ c := fun z => by rw [z, h2] at q; cases q
    exact ⟨ps, k R _ n1 n2 q, t⟩⟩
theorem mx_max (m : Int) : (if m > 1 then m else 1) = max 1 m := by
  split <;> omega
theorem pick_of {KK : KT} {post : List PyData → PyData → Prop} {k : Nat} {f : Addr} {fd : FuncData} {a b : Str} (F : FnG P w KK.K mg base k f fd [a, b] (spDraw KK 1 (fun ds => ∃ m : Int, ds = [.int m] ∧ m < 1000000000000000000000000000000) post))
    (hp : ∀ ds d, post ds d → ∃ m r : Int, ds = [.int m] ∧ d = .int r ∧ 0 ≤ r ∧ r < if m > 1 then m else 1) : FnG P w KK.K mg base k f fd [a, b] (spE KK pickF 2) := by
  refine fnG_imp F fun vs H Q E h => ?_
  obtain ⟨so, M, xs, k, htb, hx, hl, hS, hT, hk, q⟩ := h
  unfold pickF at hk
  split at hk
  · rename_i m
    cases hx with
    | cons h1 hx =>
      cases hx with
      | cons h2 hx =>
        cases hx
        obtain ⟨s, c, e, rfl⟩ := h1
        have hm := h2.intV
        subst hm
        split at hk
        · rename_i hb
          have hb := of_decide_eq_true hb
          refine ⟨M, s, c, [.int m], [.int m], rfl, hS.mem _ (wr_src e).1, hS.mem _ (wr_src e).2, hS.hd.sr s c e, hT, .cons (.int m) .nil, rfl, ⟨m, rfl, hb⟩, fun v d H' kp sr dv hd => ?_⟩
          obtain ⟨m', r, e1, rfl, h0, h1⟩ := hp _ _ hd
          cases e1
          rw [mx_max] at h1
          have hr := allN_of hk r.toNat (by omega)
          have er : ((r.toNat : Nat) : Int) = r := by omega
          rw [er] at hr
          exact q v (.dat (.int r)) H' hr (kq_of e hS.hd kp sr) dv
        · cases hk
  · cases hk
theorem mixL_perm : ∀ (n : Nat) (ds fs : List PyData) (k : List PyData → Bool), n = ds.length → fs.Perm ds → mixL n ds k = true → k fs = true
  | 0, ds, fs, k, hn, hp, h => by
    have e : fs = [] := List.eq_nil_of_length_eq_zero (by rw [hp.length_eq, ← hn])
    subst e
    exact h
  | n + 1, ds, [], k, hn, hp, h => by
    have := hp.length_eq
    rw [← hn] at this
    cases this
  | n + 1, ds, f :: fs, k, hn, hp, h => by
    unfold mixL at h
    obtain ⟨r, hr, e⟩ := List.getElem_of_mem (hp.mem_iff.mp (List.mem_cons_self ..))
    have h2 := allN_of h r hr
    have e2 : at0 ds r = f := by
      have := at0_get hr
      rw [List.getElem?_eq_getElem hr] at this
      rw [← Option.some.inj this, e]
    rw [e2] at h2
    have hp2 : fs.Perm (ds.eraseIdx r) := by
      have h3 : ds.Perm (f :: ds.eraseIdx r) := by
        have e3 : ds = ds.take r ++ ds[r] :: ds.drop (r + 1) := by rw [List.getElem_cons_drop, List.take_append_drop]
        have e4 : ds.eraseIdx r = ds.take r ++ ds.drop (r + 1) := List.eraseIdx_eq_take_drop_succ ..
        rw [e4, ← e]
        conv => lhs; rw [e3]
        exact List.perm_middle
      exact List.Perm.cons_inv (hp.trans h3)
    exact mixL_perm n (ds.eraseIdx r) fs (fun es => k (f :: es)) (by rw [List.length_eraseIdx, if_pos hr]; omega) hp2 h2
theorem mixed_of {KK : KT} {post : List PyData → PyData → Prop} {k : Nat} {f : Addr} {fd : FuncData} {a b : Str} (F : FnG P w KK.K mg base k f fd [a, b] (spDraw KK 1 (fun ds => ∃ es : List PyData, ds = [.list es] ∧ es.length ≤ 1000) post))
    (hp : ∀ ds d, post ds d → ∃ es fs, ds = [.list es] ∧ d = .list fs ∧ fs.Perm es) : FnG P w KK.K mg base k f fd [a, b] (spE KK mixF 2) := by
  refine fnG_imp F fun vs H Q E h => ?_
  obtain ⟨so, M, xs, k, htb, hx, hl, hS, hT, hk, q⟩ := h
  unfold mixF at hk
  split at hk
  · rename_i ds
    cases hx with
    | cons h1 hx =>
      cases hx with
      | @cons v2 _ _ _ h2 hx =>
        cases hx
        obtain ⟨s, c, e, rfl⟩ := h1
        split at hk
        · rename_i hb
          have hb := Nat.le_of_ble_eq_true hb
          refine ⟨M, s, c, [v2], [.list ds], rfl, hS.mem _ (wr_src e).1, hS.mem _ (wr_src e).2, hS.hd.sr s c e, hT, .cons h2 .nil, rfl, ⟨ds, rfl, hb⟩, fun v d H' kp sr dv hd => ?_⟩
          obtain ⟨es, fs, e1, rfl, hpm⟩ := hp _ _ hd
          cases e1
          exact q v (.dat (.list fs)) H' (mixL_perm _ _ _ _ rfl hpm hk) (kq_of e hS.hd kp sr) dv
        · cases hk
  · cases hk
end
end Mp

/-! the end of a law whose defs' tables are told -/
namespace Mp
open PySem PySem.Spec PyProof.Rows L2 Gd Dq
/-- an empty table -/
def tab0 : Obj := { cls := .none, data := .fields #[] }
/-- the heap at the law's entry: the script (unless it is written), the tables -/
def H00 (a : Addr) (o : Option Obj) (ns : List Int) (tb : List Addr) : Hp := fun b =>
  if b ∈ tb then some (.tbl #[]) else match o with
    | some o => if b = a then some (.frz o (.lst (ns.map V.int))) else none
    | none => none
theorem h00_tb {a : Addr} {o : Option Obj} {ns : List Int} {tb : List Addr} {P : Addr} (h : P ∈ tb) : H00 a o ns tb P = some (.tbl #[]) := if_pos h
theorem h00_cases {a : Addr} {o : Option Obj} {ns : List Int} {tb : List Addr} {b : Addr} {u : HO} (h : H00 a o ns tb b = some u) : (b ∈ tb ∧ u = .tbl #[]) ∨ (b ∉ tb ∧ b = a ∧ ∃ ob, o = some ob ∧ u = .frz ob (.lst (ns.map V.int))) := by
  unfold H00 at h
  by_cases hb : b ∈ tb
  · rw [if_pos hb] at h
    cases h
    exact .inl ⟨hb, rfl⟩
  · rw [if_neg hb] at h
    cases o with
    | none => cases h
    | some ob =>
      have h : (if b = a then some (HO.frz ob (.lst (ns.map V.int))) else none) = some u := h
      by_cases ha : b = a
      · rw [if_pos ha] at h
        cases h
        exact .inr ⟨hb, ha, ob, rfl, rfl⟩
      · rw [if_neg ha] at h
        cases h
theorem law_callGT {P : Program} {w : World} {K : PySem.W.Frag} {mg mb : Str → Option Value} {k : Nat} {fa a : Addr} {cs : List (Addr × Addr)} {fd : FuncData} {x : Str} {sp : Sp} {s1 : Shared} {vs : List Value} {ns : List Int}
    (KX : K.In s1.heap) (hns : s1.heap.Ns mainGlobals mg) (hb : s1.heap.Ns builtinsNs mb) (hbb : ∀ x : Str, x ≠ "__name__" → mb x = bootBuiltins x) (hlim : s1.heap.NoLimit) (hg : s1.gens = #[])
    (hT : ∀ p ∈ cs, s1.heap.get? p.2 = some tab0) (nT : ∀ p ∈ cs, K.lookup p.2 = none) (C : ∀ p ∈ cs, PySem.W.CodeHd s1.heap p.1 p.2)
    (hbm : ∃ (bm : Addr) (ob : Obj), mg "__builtins__" = some (.ref bm) ∧ bm ≠ builtinsNs ∧ s1.heap.get? bm = some ob ∧ ob.cls = .type "module" ∧ ob.dict = some builtinsNs ∧ ob.data = .plain)
    (ha : s1.heap.get? a = some { cls := .type "list", data := .seq vs.toArray }) (hi : IntsAre vs ns) (hl : ns.length ≤ sizeLine) (hr : Room k callerA)
    (F : ∀ base : Heap, K.In base → base.Ns mainGlobals mg → (∀ p ∈ cs, GxR.TabB base mg p.1 p.2) → FnG P w K mg base k fa fd [x] sp)
    (hbind : ∀ (s : Shared) (u : Value), BindsTo s fd ⟨[u], []⟩ [(x, u)])
    (hsp : ∀ H : Hp, (∀ p ∈ cs, H p.2 = some (.tbl #[])) → SqL K H a (ns.map V.int) → sp [.ref a] H (fun v _ => v = .bl true) E0) :
    codeAny (model P w) callerA (.call (.ref fa) ⟨[.ref a], []⟩) (fun r s' => r = .ok (.ret (.bool true)) ∧ OldK s1.heap s'.heap ∧ s'.os = s1.os ∧ AllBare s'.gens) s1 := by
  have rv := vals_ints hi
  have lenV := hi.length
  have memT : ∀ p ∈ cs, p.2 ∈ cs.map (·.2) := fun p hp => List.mem_map.mpr ⟨p, hp, rfl⟩
  have isT : ∀ b ∈ cs.map (·.2), s1.heap.get? b = some tab0 ∧ K.lookup b = none ∧ ∃ c, PySem.W.CodeHd s1.heap c b := fun b hb => by
    obtain ⟨p, hp, rfl⟩ := List.mem_map.mp hb
    exact ⟨hT p hp, nT p hp, p.1, C p hp⟩
  have aT : a ∉ cs.map (·.2) := fun z => by
    have q := (isT a z).1
    rw [ha] at q
    have q : Data.seq vs.toArray _ = Data.fields #[] := congrArg Obj.data (Option.some.inj q)
    cases q
  obtain ⟨o, hS, hO⟩ : ∃ o : Option Obj, SqL K (H00 a o ns (cs.map (·.2))) a (ns.map V.int) ∧ ∀ ob, o = some ob → ob = { cls := .type "list", data := .seq vs.toArray } ∧ K.lookup a = none := by
    cases hk : K.lookup a with
    | some o =>
      have e := KX a o hk
      rw [ha] at e
      cases e
      exact ⟨none, Or.inr ⟨_, vs.toArray, _, hk, rfl, rfl, rfl, by rw [List.size_toArray, lenV]; exact hl, by simpa using rv⟩, fun ob z => by cases z⟩
    | none =>
      refine ⟨some { cls := .type "list", data := .seq vs.toArray }, Or.inl (Or.inr ⟨{ cls := .type "list", data := .seq vs.toArray }, ?_⟩), fun ob z => by cases z; exact ⟨rfl, rfl⟩⟩
      unfold H00
      rw [if_neg aT]
      exact if_pos rfl
  generalize hH : H00 a o ns (cs.map (·.2)) = H at hS
  have cases_ : ∀ {b : Addr} {u : HO}, H b = some u → (b ∈ cs.map (·.2) ∧ u = .tbl #[]) ∨ (b = a ∧ ∃ ob, o = some ob ∧ u = .frz ob (.lst (ns.map V.int))) := fun {b u} e => by
    rw [← hH] at e
    rcases h00_cases e with h | ⟨_, h2, h3⟩
    · exact .inl h
    · exact .inr ⟨h2, h3⟩
  have hHT : ∀ p ∈ cs, H p.2 = some (.tbl #[]) := fun p hp => by
    rw [← hH]
    exact h00_tb (memT p hp)
  have hok : HOk P w H s1.heap := fun b u e => by
    rcases cases_ e with ⟨h1, rfl⟩ | ⟨rfl, ob, h2, rfl⟩
    · exact (isT b h1).1
    · obtain ⟨rfl, _⟩ := hO ob h2
      exact ⟨ha, by rw [List.length_map]; exact hl, vs, _, rv, ha⟩
  -- what stands in K is not tracked; nor what is no list and no empty table
  have free : ∀ {b : Addr} {ob : Obj}, s1.heap.get? b = some ob → (∀ vs n, ob.data ≠ .seq vs n) → ob.data ≠ .fields #[] → H b = none := fun {b ob} e h1 h2 => by
    cases q : H b with
    | none => rfl
    | some u =>
      rcases cases_ q with ⟨h3, _⟩ | ⟨rfl, _⟩
      · rw [(isT b h3).1] at e
        cases e
        exact (h2 rfl).elim
      · rw [ha] at e
        cases e
        exact (h1 _ _ rfl).elim
  have dictFree : ∀ {b : Addr} {ob : Obj} {es : Array DictEntry} {ep : Nat}, s1.heap.get? b = some ob → ob.data = .dict es ep → H b = none := fun {b ob es ep} e d => free e (fun vs n z => by rw [d] at z; cases z) fun z => by rw [d] at z; cases z
  have nsK : ∀ {b : Addr} {m : Str → Option Value}, s1.heap.Ns b m → (hidT s1.heap H).Ns b m := fun {b m} ⟨ob, es, ep, e, d, r⟩ => ⟨ob, es, ep, hidT_get e (dictFree e d), d, r⟩
  have hKb : K.In (hidT s1.heap H) := fun b ob e => hidT_get (KX b ob e) (by
    cases q : H b with
    | none => rfl
    | some u =>
      rcases cases_ q with ⟨h3, _⟩ | ⟨rfl, ob2, h4, _⟩
      · rw [(isT b h3).2.1] at e
        cases e
      · rw [(hO ob2 h4).2] at e
        cases e)
  have hM : Mod K mg (hidT s1.heap H) := ⟨hKb, nsK hns, ⟨mb, nsK hb, hbb⟩, let ⟨mc, h1, h2⟩ := hlim; ⟨mc, nsK h1, h2⟩⟩
  have TB : ∀ p ∈ cs, GxR.TabB (hidT s1.heap H) mg p.1 p.2 := fun p hp => by
    refine ⟨?_, ?_, fun z => ?_⟩
    · obtain ⟨ob, us, file, tf, flags, tg, inF, text, tt, e1, r1, r2, r3, r4, r5, r6, r7, r8, hne⟩ := C p hp
      refine ⟨ob, us, file, tf, flags, tg, inF, text, tt, hidT_get e1 (free e1 (fun vs n z => ?_) fun z => ?_), r1, r2, r3, r4, r5, r6, r7, r8, hne⟩
      · rw [r2] at z
        cases z
      · rw [r2] at z
        cases z
        simp at r3
    · obtain ⟨bm, ob, b1, b2, b3, b4, b5, b6⟩ := hbm
      refine ⟨bm, ob, b1, b2, fun q => ?_, fun q => ?_, hidT_get b3 (free b3 (fun vs n z => ?_) fun z => ?_), b4, b5, b6⟩
      · obtain ⟨og, es, ep, e, d, _⟩ := hns
        rw [q, e] at b3
        cases b3
        rw [d] at b6
        cases b6
      · rw [q, hT p hp] at b3
        cases b3
        cases b6
      · rw [b6] at z
        cases z
      · rw [b6] at z
        cases z
    · obtain ⟨og, es, ep, e, d, _⟩ := hns
      rw [z, hT p hp] at e
      cases e
      cases d
  have env : Env0 P w K mg (hidT s1.heap H) callerA [] s1 H :=
    ⟨rfl, hM, fun b ob e => of_hidT e, Nat.le_of_eq (hidT_size _ _), trivial, fun b hb => absurd (show b ∈ ([] : List Addr) from hb) (by simp), hok, .of_eq hg⟩
  have ran := (F _ hKb (nsK hns) TB).run callerA [] s1 H ⟨[.ref a], []⟩ [.ref a] [.ref a] _ _ rfl hr env (hbind s1 (.ref a)) (.cons rfl .nil) (hsp H hHT hS)
  refine codeAny_mono ran ?_
  intro r s' h
  match r, h with
  | .error _, h => exact (h : False).elim
  | .ok .next, h => exact False.elim h
  | .ok .brk, h => exact False.elim h
  | .ok .cont, h => exact False.elim h
  | .ok (.ret u), h =>
    obtain ⟨v, H', os, bare, un, hok', r', q⟩ := h
    have q2 : v = .bl true := q
    cases q2
    have eu : u = Value.bool true := r'
    cases eu
    have key : ∀ b ob, b ∉ cs.map (·.2) → s1.heap.get? b = some ob → s'.heap.get? b = some ob := fun b ob nb e => by
      cases qb : H b with
      | none => exact un.keep b ob e qb (fun z => absurd (show b ∈ ([] : List Addr) from z) (by simp)) (by simp)
      | some u =>
        rcases cases_ qb with ⟨h3, _⟩ | ⟨_, ob2, _, rfl⟩
        · exact absurd h3 nb
        · obtain ⟨e1, _⟩ := hok b _ qb
          obtain ⟨e2, _⟩ := hok' b _ (un.frzs b ob2 _ qb)
          rw [e] at e1
          cases e1
          exact e2
    have grown : ∀ p ∈ cs, ∃ more : Array Value, s'.heap.get? p.2 = some { cls := .none, data := .fields more } := fun p hp => by
      obtain ⟨more, z⟩ := un.tbls p.2 #[] (hHT p hp)
      exact ⟨_, hok' p.2 _ z⟩
    refine ⟨rfl, ⟨fun b ob e => ?_, fun b ob e => ?_⟩, os, bare⟩
    · by_cases hb : b ∈ cs.map (·.2)
      · obtain ⟨p, hp, ep⟩ := List.mem_map.mp hb
        obtain ⟨more, hm⟩ := grown p hp
        rw [← ep] at e ⊢
        rw [hT p hp] at e
        cases e
        exact .inr (.inl ⟨((C p hp).tab (hT p hp)).isCodeTable, rfl, #[], more, rfl, by rw [Array.empty_append]; exact hm⟩)
      · exact .inl (key b ob hb e)
    · by_cases hb : b ∈ cs.map (·.2)
      · obtain ⟨p, hp, ep⟩ := List.mem_map.mp hb
        obtain ⟨more, hm⟩ := grown p hp
        rw [← ep]
        exact ⟨_, hm⟩
      · exact ⟨ob, key b ob hb e⟩
end Mp

/-! the end of a law -/
namespace Mp
open PySem PySem.Spec PyProof.Rows L2 Gd Dq
/-- the tables of the module's defs are empty -/
def TabsOk (q : Program) (mg : Str → Option Value) (h : Heap) : Prop := ∀ (x : Str) (fa c P : Addr) (o : Obj) (fd : FuncData) (e : Value) (dd : Option Addr) (vs : Array Value) (sl : Array (Option Value)),
  ((recsOf q).any fun e => e.name == x) = true → mg x = some (.ref fa) → h.get? fa = some o → o.data = .func fd → fd.code = .ref c → h.get? c = some ⟨e, dd, .fields vs, sl⟩ → vs[11]? = some (.ref P) → h.get? P = some tab0
theorem walk_ofGT {l : PySem.W.OpenLaw} {n k : Nat} {q : Program} {loose : List Str} {XP : (Str → Option Value) → Heap → Prop} {YP : World → Heap → Prop} {d : DefRec} {K : Params → PySem.W.Frag} {x : Str}
    (hn : l.most = some n) (hn2 : n ≤ sizeLine) (hdf : d.params.defaults = []) (hr : Room k callerA) (hY : ∀ (w : World) (h : Heap), YP w h → (K w.params).In h)
    (F : ∀ (w : World) (mg : Str → Option Value) (fa : Addr) (h : Heap), (K w.params).In h → h.Ns mainGlobals mg → TabsOk q mg h → mg d.name = some (.ref fa) → ∃ (fd : FuncData) (cs : List (Addr × Addr)) (sp : Sp),
      (∀ p ∈ cs, h.get? p.2 = some tab0) ∧ (∀ p ∈ cs, (K w.params).lookup p.2 = none) ∧ (∀ p ∈ cs, PySem.W.CodeHd h p.1 p.2) ∧ (∀ (s : Shared) (u : Value), BindsTo s fd ⟨[u], []⟩ [(x, u)]) ∧
      (∀ (H : Hp) (a : Addr) (ns : List Int), ns.length ≤ n → (∀ p ∈ cs, H p.2 = some (.tbl #[])) → SqL (K w.params) H a (ns.map V.int) → sp [.ref a] H (fun v _ => v = .bl true) E0) ∧
      ∀ base : Heap, (K w.params).In base → base.Ns mainGlobals mg → (∀ p ∈ cs, GxR.TabB base mg p.1 p.2) → FnG l.prog w (K w.params) mg base k fa fd [x] sp) :
    PySem.W.WalkO q loose XP YP l.row.toRowW d [] (fun f vs => PySem.call f vs) := by
  refine Att.attach_call hn hdf ?_
  intro w s0 s1 mg mb fa o pm cd doc a vs ns G Y ho hd hcd hmg hobj hints hlen hg
  have KX := hY w _ Y
  have own : TabsOk q mg s1.heap := fun x fa c P o1 fd1 e dd vs1 sl hx k1 k2 k3 k4 k5 k6 => by
    obtain ⟨dL, hm, hn1⟩ := List.any_eq_true.mp hx
    have hn2 : dL.name = x := beq_iff_eq.mp hn1
    obtain ⟨a', o', fd', c', P', h1, h2, h3, h4, h5, h6⟩ := G.T.tab dL hm
    rw [hn2, k1] at h1
    cases h1
    rw [k2] at h2
    cases h2
    rw [k3] at h3
    cases h3
    rw [k4] at h4
    cases h4
    obtain ⟨⟨oc, vc, e1, _, e3, e4⟩, hP⟩ := h6
    rw [k5] at e1
    cases e1
    cases e3
    rw [k6] at e4
    cases e4
    exact hP
  obtain ⟨fd, cs, sp, hT, nT, C, hb, hsp, hF⟩ := F w mg fa _ KX G.T.g own hmg
  exact law_callGT KX G.T.g G.T.b G.T.builtins G.T.nolimit hg hT nT C G.T.bmain hobj hints (Nat.le_trans hlen hn2) hr hF hb (fun H hH hS => hsp H a ns hlen hH hS)
/-- the table of the code object at c -/
def tabIn (K : PySem.W.Frag) (c : Addr) : Option Addr := match K.lookup c with
  | some ⟨_, _, .fields vs, _⟩ => match (vs[11]? : Option Value) with
    | some (Value.ref P) => some P
    | _ => none
  | _ => none
theorem tabIn_some {K : PySem.W.Frag} {c P : Addr} (h : tabIn K c = some P) : ∃ e dd vs sl, K.lookup c = some ⟨e, dd, .fields vs, sl⟩ ∧ vs[11]? = some (.ref P) := by
  unfold tabIn at h
  split at h
  · rename_i e dd vs sl hk
    split at h
    · rename_i p hp
      cases h
      exact ⟨e, dd, vs, sl, hk, hp⟩
    · cases h
  · cases h
theorem funC_mk {K : PySem.W.Frag} {x qual : Str} {st : Stmt} {f c : Addr} {oc : Value} {od an : Option Addr} {osl : Array (Option Value)} {kV doc pm ct : Value} (l : K.lookup f = some ⟨oc, od, .func (PySem.W.fnOf x qual (defArgs st) (defBody st) (defScope st) .none kV doc pm an (.ref c) ct), osl⟩)
    (cc : PySem.W.codeIn K (.ref c) qual = true) (k : PySem.W.keepIn K (.ref f) = true) : FunC K x qual st f (PySem.W.fnOf x qual (defArgs st) (defBody st) (defScope st) .none kV doc pm an (.ref c) ct) c := ⟨⟨oc, od, kV, doc, pm, an, ct, osl, rfl, l, cc⟩, k⟩
/-- what is wanted of a table -/
theorem tab_ok {q : Program} {K : PySem.W.Frag} {mg : Str → Option Value} {h : Heap} {x qual : Str} {st : Stmt} {f c P : Addr} {fd : FuncData} (KX : K.In h) (T : TabsOk q mg h) (hx : ((recsOf q).any fun e => e.name == x) = true) (hm : mg x = some (.ref f)) (F : FunC K x qual st f fd c) (t : tabIn K c = some P) :
    h.get? P = some tab0 := by
  obtain ⟨⟨oc, od, kV, doc, pm, an, ct, osl, rfl, lk, _⟩, _⟩ := F
  obtain ⟨e, dd, vs, sl, h1, h2⟩ := tabIn_some t
  exact T x f c P _ _ e dd vs sl hx hm (KX _ _ lk) rfl rfl (KX _ _ h1) h2
theorem tab_ok2 {q : Program} {K : PySem.W.Frag} {mg : Str → Option Value} {h : Heap} {x qual : Str} {st : Stmt} {f c P : Addr} {fd : FuncData} {e : Value} {dd : Option Addr} {vs : Array Value} {sl : Array (Option Value)} (KX : K.In h) (T : TabsOk q mg h) (hx : ((recsOf q).any fun e => e.name == x) = true) (hm : mg x = some (.ref f)) (F : FunC K x qual st f fd c)
    (t : K.lookup c = some ⟨e, dd, .fields vs, sl⟩) (u : vs[11]? = some (.ref P)) : h.get? P = some tab0 := by
  obtain ⟨⟨oc, od, kV, doc, pm, an, ct, osl, rfl, lk, _⟩, _⟩ := F
  exact T x f c P _ _ e dd vs sl hx hm (KX _ _ lk) rfl rfl (KX _ _ t) u
end Mp

/-! the law's own body -/
namespace Mp
open PySem PySem.Spec PyProof.Rows L2 Gd Dq
def spSource (K : PySem.W.Frag) : Sp := fun vs H Q _ => ∃ (a : Addr) (ns : List Int), vs = [.ref a] ∧ SqL K H a (ns.map V.int) ∧ ns.length ≤ 63 ∧
  ∀ s c H', Same H H' → H s = none → H c = none → Src s c H' → Q (.ref s) H'
def spLaw (K : KT) : Sp := fun vs H Q _ => ∃ (a : Addr) (ns : List Int), vs = [.ref a] ∧ SqL K H a (ns.map V.int) ∧ ns.length ≤ 63 ∧ (∀ P ∈ K.tb, GxR.TabG H P) ∧ ∀ H', Q (.bl true) H'
def isTrueR : ER → Bool
  | .dat (.bool b) => b
  | _ => false
theorem pt_k {X : Cx} {K : PySem.W.Frag} {e : Expr} {f : PySem.W.Frag → TT} (h : X.K = K) (p : PT X e (f X.K)) : PT X e (f K) := h ▸ p
theorem TriplesOk_nil : TriplesOk ([] : List Value) := trivial
def lawSd (n j : Nat) : SD := (List.replicate (n + 1) SV.un).set j .src
def lawE : EK := { nx := fun _ => false, rt := isTrueR, bk := fun _ => false, ct := fun _ => false }
theorem law_first {K : KT} {ca : Nat → Addr} {G : GE} {C : CE'} {vs : List V} {N : List Str} {H : Hp} {Q : VK} {E : XK} {n j : Nat} {b : MS} {t : TS} (hc : ∀ j, (∃ kvs, G.cd j = .dict kvs) ∨ ∃ n, readV K n (.ref (ca j)) = some (G.cd j)) (hw : wfS b = true)
    (h : spLaw K vs H Q E) (hN : N.length = n + 1) (hj : j < n + 1) (ok : es G C b (lawSd n j) lawE = true) (ht : t = tSeq (tAsg (tCall (spSource K) [] E0 (tCons (tVar 0) tNil)) (gName j)) (tS K ca G C b)) :
    t { nx := fun _ H' => Q .non H', rt := Q } (L2.start N vs) H := by
  subst ht
  obtain ⟨a, ns, rfl, hS, hl, hT, q⟩ := h
  have hst : L2.start N [V.ref a] = some (.ref a) :: List.replicate n none := by
    unfold L2.start
    rw [List.length_cons, List.length_nil, hN]
    rfl
  rw [hst]
  refine ⟨.ref a, rfl, a, ns, rfl, hS, hl, fun s c H' e1 hs0 hc0 S1 => ?_⟩
  show tS K ca G C b _ ((some (V.ref a) :: List.replicate n none).set j (some (.ref s))) H'
  generalize hσ : (some (V.ref a) :: List.replicate n none).set j (some (.ref s)) = σ
  let so : Wr := ⟨some (s, c), K.tb⟩
  let M : List Addr := [s, c] ++ K.tb
  have hd : SrH so H' := ⟨fun s' c' z => by cases z; exact S1, fun P hP => by
    obtain ⟨ps, e, tr⟩ := hT P hP
    exact ⟨ps, e1 _ _ e, tr⟩⟩
  have hM : SrcO so M H' := ⟨hd, fun b hb => hb⟩
  have hTr : Tr M H' := fun b hb => hd.nn hb
  have hlen : (lawSd n j).length = σ.length := by
    rw [← hσ]
    unfold lawSd
    simp
  have hjl : j < (List.replicate (n + 1) SV.un).length := by rw [List.length_replicate]; exact hj
  have sl : ∀ i, Sl K so M H' (σ[i]?) (gs (lawSd n j) i) ∧ owns (gs (lawSd n j) i) = false := fun i => by
    by_cases hi : i = j
    · subst hi
      have e : gs (lawSd n i) i = .src := by
        unfold lawSd
        exact gs_set hjl
      rw [e]
      refine ⟨⟨s, c, rfl, ?_⟩, rfl⟩
      rw [← hσ]
      exact List.getElem?_set_self (by simp; omega)
    · have e : gs (lawSd n j) i = .un := by
        unfold lawSd
        rw [gs_set_ne hi]
        unfold gs
        rw [List.getD_eq_getElem?_getD, List.getElem?_replicate]
        split <;> rfl
      rw [e]
      exact ⟨trivial, rfl⟩
  have F : Fr K so H' M M H' σ (lawSd n j) := by
    refine ⟨⟨fun i => (sl i).1, fun i l p _ h1 => ?_, hM, hTr, hlen, fun P hP => hP⟩, fun b hb => hb, hTr, hM.refl, fun i p h1 => ?_⟩
    · rw [(sl i).2] at h1; cases h1
    · rw [(sl i).2] at h1; cases h1
  refine snd_ms hc b hw so H' M M H' _ _ F lawE ok _ (fun _ _ _ _ k' _ _ => by cases k') (fun v r H2 k2 _ e => ?_) (fun _ _ _ _ k' _ _ => by cases k') (fun _ _ _ _ k' _ _ => by cases k')
  have k2 : isTrueR r = true := k2
  unfold isTrueR at k2
  split at k2
  · subst k2
    have hv : v = .bl true := Da.blV (show Dm K M H2 v (.bool true) from e)
    subst hv
    exact q H2
  · cases k2
end Mp
namespace Mp
open PySem PySem.Spec PyProof.Rows L2 Gd Dq
/-- source, y = _law_source(script), .. -/
theorem law_first2 {K : KT} {ca : Nat → Addr} {G : GE} {C : CE'} {vs : List V} {N : List Str} {H : Hp} {Q : VK} {E : XK} {n j l : Nat} {e : ME} {b : MS} {t : TS} (hc : ∀ j, (∃ kvs, G.cd j = .dict kvs) ∨ ∃ n, readV K n (.ref (ca j)) = some (G.cd j)) (hw : (wfE e && wfS b) = true)
    (h : spLaw K vs H Q E) (hN : N.length = n + 1) (hj : j < n + 1 ∧ j ≠ l) (ok : (ev G C e (List.replicate (n + 1) SV.un) fun r => ob (sOf r) fun d => es G C b ((lawSd n j).set l (.dat d)) lawE) = true)
    (ht : t = tSeq (tPar j l (tCons (tCall (spSource K) [] E0 (tCons (tVar 0) tNil)) (tCons (tE K ca G C e) tNil))) (tS K ca G C b)) :
    t { nx := fun _ H' => Q .non H', rt := Q } (L2.start N vs) H := by
  subst ht
  rw [Bool.and_eq_true] at hw
  obtain ⟨a, ns, rfl, hS, hl, hT, q⟩ := h
  have hst : L2.start N [V.ref a] = some (.ref a) :: List.replicate n none := by
    unfold L2.start
    rw [List.length_cons, List.length_nil, hN]
    rfl
  rw [hst]
  refine ⟨.ref a, rfl, a, ns, rfl, hS, hl, fun s c H' e1 hs0 hc0 S1 => ?_⟩
  generalize hσ : (some (V.ref a) :: List.replicate n none : S) = σ
  have lσ : σ.length = n + 1 := by rw [← hσ]; simp
  let so : Wr := ⟨some (s, c), K.tb⟩
  let M : List Addr := [s, c] ++ K.tb
  have hd : SrH so H' := ⟨fun s' c' z => by cases z; exact S1, fun P hP => by
    obtain ⟨ps, e, tr⟩ := hT P hP
    exact ⟨ps, e1 _ _ e, tr⟩⟩
  have hM : SrcO so M H' := ⟨hd, fun b hb => hb⟩
  have hTr : Tr M H' := fun b hb => hd.nn hb
  have un0 : ∀ i, gs (List.replicate (n + 1) SV.un) i = .un := fun i => by
    unfold gs
    rw [List.getD_eq_getElem?_getD, List.getElem?_replicate]
    split <;> rfl
  have s0 : St K so M H' σ (List.replicate (n + 1) SV.un) := by
    refine ⟨fun i => by rw [un0]; trivial, fun i l p _ h1 => ?_, hM, hTr, by rw [List.length_replicate, lσ], fun P hP => hP⟩
    rw [un0] at h1
    cases h1
  have he := (snd_me (K := K) (ca := ca) (G := G) (C := C) hc e hw.1).1
  refine he so M H' σ _ s0 _ ok _ fun v r H2 k2 q2 e2 => ?_
  obtain ⟨d, hd2, k2⟩ := ob_some k2
  have s2 := s0.q q2
  have dv := e2.dm hd2
  refine ⟨_, _, rfl, ?_⟩
  show tS K ca G C b _ _ H2
  have hjl : j < (List.replicate (n + 1) SV.un).length := by rw [List.length_replicate]; exact hj.1
  have s3 : St K so M H2 (σ.set j (some (.ref s))) (lawSd n j) := set_slot (i := j) (v := .ref s) (x := .src) s2 ⟨s, c, rfl, rfl⟩ (fun z => by cases z)
  have s4 := s3.set (i := l) dv
  have ow : ∀ i, owns (gs ((lawSd n j).set l (.dat d)) i) = false := fun i => by
    by_cases hi : i = l
    · subst hi
      by_cases hlt : i < (lawSd n j).length
      · rw [gs_set hlt]; rfl
      · unfold gs
        rw [List.getD_eq_getElem?_getD, List.getElem?_eq_none (by rw [List.length_set]; omega)]
        rfl
    · rw [gs_set_ne hi]
      unfold lawSd
      by_cases hij : i = j
      · subst hij
        rw [gs_set hjl]
        rfl
      · rw [gs_set_ne hij, un0]
        rfl
  have F : Fr K so H' M M H2 ((σ.set j (some (.ref s))).set l (some v)) ((lawSd n j).set l (.dat d)) := ⟨s4, fun b hb => hb, hTr, q2, fun i p h1 => by rw [ow] at h1; cases h1⟩
  refine snd_ms hc b hw.2 so H' M M H2 _ _ F lawE k2 _ (fun _ _ _ _ k' _ _ => by cases k') (fun v r H3 k3 _ e => ?_) (fun _ _ _ _ k' _ _ => by cases k') (fun _ _ _ _ k' _ _ => by cases k')
  have k3 : isTrueR r = true := k3
  unfold isTrueR at k3
  split at k3
  · subst k3
    have hv : v = .bl true := Da.blV (show Dm K M H3 v (.bool true) from e)
    subst hv
    exact q H3
  · cases k3
end Mp

/-! calls whose answers are known -/
namespace Mp
open PySem
def datL (xs : List PyData) : List SV := xs.map .dat
def sameX : List SV → List PyData → Bool
  | [], [] => true
  | .dat d :: xs, e :: es => match deq d e with
    | true => sameX xs es
    | false => false
  | _, _ => false
theorem sameX_eq : ∀ {xs : List SV} {es : List PyData}, sameX xs es = true → xs = datL es
  | [], [], _ => rfl
  | [], _ :: _, h => by cases h
  | .dat d :: xs, e :: es, h => by
    unfold sameX at h
    split at h
    · rename_i h1
      rw [deq_eq d e h1, sameX_eq h]
      rfl
    · cases h
  | .dat _ :: _, [], h => by cases h
  | .un :: _, es, h => by cases es <;> cases h
  | .ol _ :: _, es, h => by cases es <;> cases h
  | .od _ :: _, es, h => by cases es <;> cases h
  | .src :: _, es, h => by cases es <;> cases h
abbrev Memo := List (Nat × List PyData × ER)
def findM (f : Nat) (xs : List SV) : Memo → Option ER
  | [] => none
  | (g, es, r) :: m => match Nat.beq f g && sameX xs es with
    | true => some r
    | false => findM f xs m
def memo (m : Memo) (C : CE') : CE' := fun f xs k => match findM f xs m with
  | some r => k r
  | none => C f xs k
inductive MOk (C : CE') : Memo → Prop where
  | nil : MOk C []
  | cons {f : Nat} {es : List PyData} {r : ER} {m : Memo} : (∀ k, C f (datL es) k = k r) → MOk C m → MOk C ((f, es, r) :: m)
theorem memo_eq {C : CE'} {m : Memo} (h : MOk C m) : memo m C = C := by
  funext f xs k
  unfold memo
  split
  · rename_i r e
    induction h with
    | nil => cases e
    | @cons g es r' m hk _ ih =>
      unfold findM at e
      split at e
      · rename_i hb
        rw [Bool.and_eq_true] at hb
        cases e
        have h1 := Nat.eq_of_beq_eq_true hb.1
        rw [h1, sameX_eq hb.2]
        exact (hk k).symm
      · exact ih e
  · rfl
end Mp

/-! what clauses, generator expressions and loops are worth where each turn's answer is known -/
namespace Mp
open PySem
theorem nestL_at {sdw : SD} {set : PyData → SD → Option SD} {c : SD → (Bool → Bool) → Bool} {F : SD → (List PyData → Bool) → Bool} {p : PyData → Bool} {f : PyData → PyData} :
    ∀ {ds : List PyData} {k : List PyData → Bool}, (∀ x ∈ ds, ∃ sd2, set x sdw = some sd2 ∧ (∀ k, c sd2 k = k (p x)) ∧ (p x = true → ∀ k, F sd2 k = k [f x])) → nestL sdw set c F ds k = k ((ds.filter p).map f)
  | [], k, _ => rfl
  | x :: ds, k, h => by
    obtain ⟨sd2, h1, h2, h3⟩ := h x (List.mem_cons_self ..)
    have ih : ∀ k, nestL sdw set c F ds k = k ((ds.filter p).map f) := fun k => nestL_at fun y hy => h y (List.mem_cons_of_mem _ hy)
    unfold nestL
    rw [h1]
    show (c sd2 _) = _
    rw [h2]
    cases hp : p x with
    | true =>
      rw [List.filter_cons_of_pos hp, List.map_cons]
      show F sd2 _ = _
      rw [h3 hp]
      exact ih _
    | false =>
      rw [List.filter_cons_of_neg (by rw [hp]; exact Bool.false_ne_true)]
      exact ih _
theorem allL_at {stp : Bool} {sdw : SD} {set : PyData → SD → Option SD} {c : SD → (Bool → Bool) → Bool} {F : SD → (ER → Bool) → Bool} {p q : PyData → Bool} :
    ∀ {ds : List PyData} {k : Bool → Bool}, (∀ x ∈ ds, ∃ sd2, set x sdw = some sd2 ∧ (∀ k, c sd2 k = k (p x)) ∧ (p x = true → ∀ k, F sd2 k = k (.dat (.bool (q x))))) →
      allL stp sdw set c F ds k = k (match stp with | true => (ds.filter p).any q | false => (ds.filter p).all q)
  | [], k, _ => by cases stp <;> rfl
  | x :: ds, k, h => by
    obtain ⟨sd2, h1, h2, h3⟩ := h x (List.mem_cons_self ..)
    have ih : ∀ k, allL stp sdw set c F ds k = k (match stp with | true => (ds.filter p).any q | false => (ds.filter p).all q) := fun k => allL_at fun y hy => h y (List.mem_cons_of_mem _ hy)
    unfold allL
    rw [h1]
    show (c sd2 _) = _
    rw [h2]
    cases hp : p x with
    | true =>
      rw [List.filter_cons_of_pos hp]
      show F sd2 _ = _
      rw [h3 hp]
      show (match stp == q x with | true => k stp | false => allL stp sdw set c F ds k) = _
      cases stp with
      | true =>
        cases hq : q x with
        | true => rw [List.any_cons, hq]; rfl
        | false => rw [List.any_cons, hq]; exact ih _
      | false =>
        cases hq : q x with
        | true => rw [List.all_cons, hq]; exact ih _
        | false => rw [List.all_cons, hq]; rfl
    | false =>
      rw [List.filter_cons_of_neg (by rw [hp]; exact Bool.false_ne_true)]
      exact ih _
theorem ob_at {α : Type} {o : Option α} {a : α} {k : α → Bool} (h : o = some a) : ob o k = k a := by rw [h]; rfl
end Mp

/-! the evaluator, step by step, as equations -/
namespace Mp
open PySem L2
section
variable {G : GE} {C : CE'} {sd : SD} {k : ER → Bool} {kA : List ER → Bool} {kT : Bool → Bool} {kI : Bool → List PyData → Bool} {kO : Option Int → Bool} {E : EK} {a b c r t : ME} {x : SV} {d e : PyData}
/-- one of two, by a Bool -/
def bk (b x y : Bool) : Bool := match b with
  | true => x
  | false => y
/-- what is not to be looked into -/
inductive Tg {α : Type} (a : α) : Type where
  | mk
def bq (b x y : Bool) (_ : Tg (x, y) := .mk) : Bool := bk b x y
theorem bq_t {x y : Bool} {u : Tg (x, y)} : bq true x y u = x := (rfl)
theorem bq_f {x y : Bool} {u : Tg (x, y)} : bq false x y u = y := (rfl)
def oq {α : Type} (o : Option α) (k : α → Bool) (_ : Tg k := .mk) : Bool := ob o k
theorem oq_some {α : Type} {a : α} {k : α → Bool} {u : Tg k} : oq (some a) k u = k a := (rfl)
theorem oq_gd {α : Type} {a : α} {k : α → Bool} {u : Tg k} : oq (gd true a) k u = k a := (rfl)
def nq (sdw : SD) (set : PyData → SD → Option SD) (c : SD → (Bool → Bool) → Bool) (F : SD → (List PyData → Bool) → Bool) (ds : List PyData) (k : List PyData → Bool) (_ : Tg (c, F, k) := .mk) : Bool := nestL sdw set c F ds k
def aq (stp : Bool) (sdw : SD) (set : PyData → SD → Option SD) (c : SD → (Bool → Bool) → Bool) (F : SD → (ER → Bool) → Bool) (ds : List PyData) (k : Bool → Bool) (_ : Tg (c, F, k) := .mk) : Bool := allL stp sdw set c F ds k
def fq (set : PyData → SD → Option SD) (body : SD → EK → Bool) (rt : ER → Bool) (nx : SD → Bool) (ds : List PyData) (sd : SD) (_ : Tg (body, rt, nx) := .mk) : Bool := forL set body rt nx ds sd
theorem bk_t {x y : Bool} : bk true x y = x := (rfl)
theorem bk_f {x y : Bool} : bk false x y = y := (rfl)
theorem bk_congr {b c x y : Bool} (h : b = c) : bk b x y = bk c x y := by rw [h]
/-- what is read off a slot -/
def vk (i : Nat) (k : ER → Bool) : SV → Bool
  | .un => false
  | .dat d => k (.dat d)
  | .ol _ => k (.lc i)
  | .od _ => k (.lc i)
  | .src => k .src
theorem vk_dat {i : Nat} : vk i k (.dat d) = k (.dat d) := (rfl)
theorem vk_ol {i : Nat} {ds : List PyData} : vk i k (.ol ds) = k (.lc i) := (rfl)
theorem vk_od {i : Nat} {ds : List (Key × PyData)} : vk i k (.od ds) = k (.lc i) := (rfl)
theorem vk_src {i : Nat} : vk i k .src = k .src := (rfl)
theorem gs0 {s : SD} : gs (x :: s) 0 = x := (rfl)
theorem gsS {s : SD} {n : Nat} : gs (x :: s) (n + 1) = gs s n := (rfl)
theorem varF_vk {i : Nat} : varF i sd k = vk i k (gs sd i) := by
  unfold varF
  cases gs sd i <;> rfl
theorem ev_var {i : Nat} : ev G C (.var i) sd k = vk i k (gs sd i) := varF_vk
theorem ev_int {z : Int} : ev G C (.int z) sd k = k (.dat (.int z)) := (rfl)
theorem ev_bl {z : Bool} : ev G C (.bl z) sd k = k (.dat (.bool z)) := (rfl)
theorem ev_non : ev G C .non sd k = k (.dat .none) := (rfl)
theorem ev_str {z : Str} : ev G C (.str z) sd k = k (.dat (.str z)) := (rfl)
theorem ev_cst {j : Nat} : ev G C (.cst j) sd k = cstF (G.cd j) sd k := (rfl)
theorem ev_tup : ev G C (.tup r) sd k = evA G C r sd fun rs => oq (sOfs rs) fun ds => bq (small ds.length) (k (.dat (.tuple ds))) (false) := (rfl)
theorem ev_lst : ev G C (.lst r) sd k = evA G C r sd fun rs => oq (sOfs rs) fun ds => bq (small ds.length) (k (.nw ds)) (false) := (rfl)
theorem ev_bin {o : BK} : ev G C (.bin o a b) sd k = ev G C a sd fun r1 => ev G C b sd fun r2 => oq (dOf sd r1) fun d1 => oq (dOf sd r2) fun d2 => oq (binF o d1 d2) k := (rfl)
theorem ev_un {o : UK} : ev G C (.un o a) sd k = ev G C a sd fun x => oq (dOf sd x) fun d => oq (unF o d) k := (rfl)
theorem ev_isN : ev G C (.isN a) sd k = ev G C a sd fun x => k (.dat (.bool (isNon x))) := (rfl)
theorem ev_ntN : ev G C (.ntN a) sd k = ev G C a sd fun x => k (.dat (.bool (!isNon x))) := (rfl)
theorem ev_and : ev G C (.and a b) sd k = ev G C a sd fun x => oq (truR sd x) fun c => bq (c) (ev G C b sd k) (k x) := (rfl)
theorem ev_or : ev G C (.or a b) sd k = ev G C a sd fun x => oq (truR sd x) fun c => bq (c) (k x) (ev G C b sd k) := (rfl)
theorem ev_not : ev G C (.not a) sd k = ev G C a sd fun x => oq (truR sd x) fun b => k (.dat (.bool (!b))) := (rfl)
theorem ev_ife : ev G C (.ife t a b) sd k = evT G C t sd fun c => bq (c) (ev G C a sd k) (ev G C b sd k) := (rfl)
theorem ev_slc {lo hi : ME} : ev G C (.slc a lo hi) sd k = ev G C a sd fun x => evO G C lo sd fun l => evO G C hi sd fun h => oq (dOf sd x) fun d => oq (slF l h d) k := (rfl)
theorem ev_rev : ev G C (.rev a) sd k = ev G C a sd fun x => oq (dOf sd x) fun d => oq (revF d) k := (rfl)
theorem ev_bi {o : BI} : ev G C (.bi o r) sd k = evA G C r sd fun rs => oq (dOfs sd rs) fun ds => oq (biF o ds) k := (rfl)
theorem ev_bj {o : BJ} : ev G C (.bj o r) sd k = evA G C r sd fun rs => oq (dOfs sd rs) fun ds => oq (jF o ds) k := (rfl)
/-- a call -/
def cl (C : CE') (f : Nat) (xs : List SV) (k : ER → Bool) (_ : Tg k := .mk) : Bool := C f xs k
theorem cl_is {f : Nat} {xs : List SV} {r : ER} {u : Tg k} (h : ∀ k, C f xs k = k r) : cl C f xs k u = k r := h k
theorem cl_t {f : Nat} {xs : List SV} {u : Tg k} (h : C f xs k = true) : cl C f xs k u = true := h
theorem ev_call {f : Nat} : ev G C (.call f r) sd k = evA G C r sd fun rs => oq (avs sd rs) fun p => bq (Nat.beq p.1.length (G.ar f)) (bq p.2 (cl C f p.1 fun r => bq (noLR r) (k r) false) (cl C f p.1 k)) false := by
  show callF (C f) (G.ar f) (evA G C r) sd k = _
  unfold callF
  congr 1; funext rs; congr 1; funext p
  cases Nat.beq p.1.length (G.ar f) <;> cases p.2 <;> (first | rfl | (show (C f p.1 fun r => match noLR r with | true => k r | false => false) = (C f p.1 fun r => bq (noLR r) (k r) false); congr 1; funext r; cases noLR r <;> rfl))
theorem ev_lc {g : GT} {it elt : ME} {vs : List Nat} : ev G C (.lc g it c elt vs) sd k = evI G C it sd fun _ ds => bq (Nat.ble (ds.length * 1) 16000000) (nq (wipeD sd vs) (setG g) (evT G C c) (fun sd k => ev G C elt sd fun r => oq (sOf r) fun d => k [d]) ds fun es => k (.nw es)) (false) := (rfl)
theorem ev_gn {stp : Bool} {tt : Nat} {g : GT} {it elt : ME} {vs : List Nat} : ev G C (.gn stp tt g it c elt vs) sd k = evI G C it sd fun _ ds => aq stp (wipeD sd vs) (setG g) (evT G C c) (ev G C elt) ds fun b => k (.dat (.bool b)) := (rfl)
theorem ev_isi {s : String} : ev G C (.isi s a) sd k = ev G C a sd fun x => oq (dOf sd x) fun d => oq (isiF s d) k := (rfl)
theorem ev_sub {i : Nat} : ev G C (.sub i b) sd k = match gs sd i with
    | .od kvs => ev G C b sd fun y => ob (dOf sd y) fun d => ob (keyOf d) fun q => ob (kvGet kvs q) fun e => k (.dat e)
    | _ => varF i sd fun r1 => ev G C b sd fun r2 => ob (dOf sd r1) fun d1 => ob (dOf sd r2) fun d2 => ob (binF .ix d1 d2) k := (rfl)
def subk (G : GE) (C : CE') (i : Nat) (b : ME) (sd : SD) (k : ER → Bool) : SV → Bool
  | .un => false
  | .dat d => ev G C b sd fun r2 => ob (dOf sd r2) fun d2 => ob (binF .ix d d2) k
  | .ol ds => ev G C b sd fun r2 => ob (dOf sd r2) fun d2 => ob (binF .ix (.list ds) d2) k
  | .od kvs => ev G C b sd fun y => ob (dOf sd y) fun d => ob (keyOf d) fun q => ob (kvGet kvs q) fun e => k (.dat e)
  | .src => ev G C b sd fun r2 => false
theorem subk_dat {i : Nat} : subk G C i b sd k (.dat d) = ev G C b sd fun r2 => oq (dOf sd r2) fun d2 => oq (binF .ix d d2) k := (rfl)
theorem subk_ol {i : Nat} {ds : List PyData} : subk G C i b sd k (.ol ds) = ev G C b sd fun r2 => oq (dOf sd r2) fun d2 => oq (binF .ix (.list ds) d2) k := (rfl)
theorem subk_od {i : Nat} {kvs : List (Key × PyData)} : subk G C i b sd k (.od kvs) = ev G C b sd fun y => oq (dOf sd y) fun d => oq (keyOf d) fun q => oq (kvGet kvs q) fun e => k (.dat e) := (rfl)
theorem ev_sub' {i : Nat} : ev G C (.sub i b) sd k = subk G C i b sd k (gs sd i) := by
  rw [ev_sub]
  unfold subk varF
  cases h : gs sd i <;> first | rfl | skip
  rename_i ds
  show (ev G C b sd fun r2 => oq (dOf sd (.lc i)) fun d1 => _) = _
  have : dOf sd (.lc i) = some (.list ds) := by unfold dOf; simp only; rw [h]
  rw [this]
  rfl
theorem ev_rcmp {ne : Bool} : ev G C (.rcmp ne a b) sd k = ev G C a sd fun x => oq (dOf sd x) fun d => bq (repOk d) (ev G C b sd fun y => oq (dOf sd y) fun e => bq (repOk e) (k (.dat (.bool (ne != shEq d e)))) (false)) (false) := (rfl)
theorem ev_lrg : ev G C (.lrg a) sd k = ev G C a sd fun x => oq (iOf x) fun n => bq (rgOk n) (k (.nw (rgL 0 n.toNat))) (false) := (rfl)
theorem evA_nil : evA G C .nil sd kA = kA [] := (rfl)
theorem evA_cons : evA G C (.cons a r) sd kA = ev G C a sd fun x => evA G C r sd fun xs => kA (x :: xs) := (rfl)
theorem evA_star : evA G C (.star a r) sd kA = ev G C a sd fun x => oq (dOf sd x) fun d => oq (seqOf d) fun ds => evA G C r sd fun xs => kA (ds.map .dat ++ xs) := (rfl)
theorem evT_tru : evT G C (.tru a) sd kT = ev G C a sd fun x => oq (truR sd x) kT := (rfl)
theorem evT_tbl : evT G C (.tbl a) sd kT = ev G C a sd fun x => oq (bOf x) kT := (rfl)
theorem evT_tand : evT G C (.tand a b) sd kT = evT G C a sd fun c => bq (c) (evT G C b sd kT) (kT false) := (rfl)
theorem evT_tor : evT G C (.tor a b) sd kT = evT G C a sd fun c => bq (c) (kT true) (evT G C b sd kT) := (rfl)
theorem evT_tnot : evT G C (.tnot a) sd kT = evT G C a sd fun b => kT (!b) := (rfl)
theorem evT_yes : evT G C .yes sd kT = kT true := (rfl)
theorem evI_it : evI G C (.it a) sd kI = ev G C a sd fun x => oq (sqR sd x) fun p => kI p.1 p.2 := (rfl)
theorem evI_rng1 : evI G C (.rng1 r) sd kI = rng1F (evA G C r) sd kI := (rfl)
theorem evI_rng2 : evI G C (.rng2 r) sd kI = rng2F (evA G C r) sd kI := (rfl)
theorem evI_enu : evI G C (.enu r) sd kI = enF (evA G C r) sd kI := (rfl)
theorem evI_zip : evI G C (.zip r) sd kI = zpF (evA G C r) sd kI := (rfl)
theorem evO_no : evO G C .noP sd kO = kO none := (rfl)
theorem evO_some : evO G C (.someP a) sd kO = ev G C a sd fun x => oq (iOf x) fun i => kO (some i) := (rfl)
section
variable {s1 s2 : MS}
theorem es_nil : es G C .nil sd E = E.nx sd := (rfl)
theorem es_seq : es G C (.seq s1 s2) sd E = es G C s1 sd { E with nx := fun sd2 => es G C s2 sd2 E } := (rfl)
theorem es_asg {i : Nat} : es G C (.asg i a) sd E = ev G C a sd fun r => oq (svOf r) fun x => E.nx (sd.set i x) := (rfl)
theorem es_unp {g : GT} : es G C (.unp g a) sd E = ev G C a sd fun r => oq (sOf r) fun d => oq (setG g d sd) E.nx := (rfl)
theorem es_par {i j : Nat} : es G C (.par i j r) sd E = evA G C r sd fun rs => match rs with
    | [r1, r2] => oq (sOf r1) fun d1 => oq (sOf r2) fun d2 => E.nx ((sd.set i (.dat d1)).set j (.dat d2))
    | _ => false := (rfl)
theorem es_ret : es G C (.ret a) sd E = ev G C a sd fun r => oq (rtOf sd r) E.rt := (rfl)
theorem es_retN : es G C .retN sd E = E.rt (.dat .none) := (rfl)
theorem es_exp : es G C (.exp a) sd E = ev G C a sd fun _ => E.nx sd := (rfl)
theorem es_ife : es G C (.ife t s1 s2) sd E = evT G C t sd fun c => bq (c) (es G C s1 sd E) (es G C s2 sd E) := (rfl)
theorem es_for {g : GT} : es G C (.for g t s1) sd E = evI G C t sd fun own ds => bq (own) (false) (fq (setG g) (es G C s1) E.rt E.nx ds sd) := (rfl)
theorem es_brk : es G C .brk sd E = E.bk sd := (rfl)
theorem es_cnt : es G C .cnt sd E = E.ct sd := (rfl)
theorem es_frz {is : List Nat} : es G C (.frz is s1) sd E = es G C s1 (frz sd is) E := (rfl)
def augk (i : Nat) (sd : SD) (F : Int → Bool) : SV → Bool
  | .dat (.int x) => F x
  | _ => false
theorem augk_int {i : Nat} {F : Int → Bool} {z : Int} : augk i sd F (.dat (.int z)) = F z := (rfl)
theorem augk_congr {i : Nat} {F : Int → Bool} {x y : SV} (h : x = y) : augk i sd F x = augk i sd F y := by rw [h]
theorem es_aug {i : Nat} {o : BK} : es G C (.aug i o a) sd E = augk i sd (fun x => ev G C a sd fun r => oq (iOf r) fun y => oq (augI o) fun h => E.nx (sd.set i (.dat (.int (h x y))))) (gs sd i) := by
  show (match gs sd i with
    | .dat (.int x) => ev G C a sd fun r => oq (iOf r) fun y => oq (augI o) fun h => E.nx (sd.set i (.dat (.int (h x y))))
    | _ => false) = _
  cases gs sd i with
  | dat d => cases d <;> rfl
  | _ => rfl
def appk (F : List PyData → Bool) : SV → Bool
  | .ol ds => F ds
  | _ => false
theorem appk_ol {F : List PyData → Bool} {ds : List PyData} : appk F (.ol ds) = F ds := (rfl)
theorem appk_congr {F : List PyData → Bool} {x y : SV} (h : x = y) : appk F x = appk F y := by rw [h]
theorem es_app {i : Nat} : es G C (.app i a) sd E = appk (fun ds => ev G C a sd fun r => oq (sOf r) fun d => bq (small ds.length) (E.nx (sd.set i (.ol (ds ++ [d])))) false) (gs sd i) := by
  show (match gs sd i with
    | .ol ds => ev G C a sd fun r => oq (sOf r) fun d => match small ds.length with
      | true => E.nx (sd.set i (.ol (ds ++ [d])))
      | false => false
    | _ => false) = _
  cases gs sd i <;> rfl
end
theorem ob_some' {α : Type} {a : α} {k : α → Bool} : ob (some a) k = k a := (rfl)
theorem ob_gd {α : Type} {a : α} {k : α → Bool} : ob (gd true a) k = k a := (rfl)
theorem ob_congr {α : Type} {o p : Option α} {k : α → Bool} (h : o = p) : ob o k = ob p k := by rw [h]
theorem vk_congr {i : Nat} {x y : SV} (h : x = y) : vk i k x = vk i k y := by rw [h]
theorem subk_congr {i : Nat} {x y : SV} (h : x = y) : subk G C i b sd k x = subk G C i b sd k y := by rw [h]
end
end Mp

/-! data looked at, sizes; what is known of them -/
namespace Mp
open PySem L2 Dq Gd PySem.Spec PyProof.Rows
section
variable {sd : SD} {d e : PyData} {ds es' : List PyData} {k : ER → Bool} {x : SV}
theorem dOf_dat' : dOf sd (.dat d) = some d := (rfl)
theorem dOf_nw' : dOf sd (.nw ds) = some (.list ds) := (rfl)
theorem sOf_dat' : sOf (.dat d) = some d := (rfl)
theorem sOf_nw' : sOf (.nw ds) = some (.list ds) := (rfl)
def dk : SV → Option PyData
  | .ol ds => some (.list ds)
  | _ => none
theorem dOf_lc {i : Nat} : dOf sd (.lc i) = dk (gs sd i) := by
  show (match gs sd i with
    | .ol ds => some (PyData.list ds)
    | _ => none) = _
  cases gs sd i <;> rfl
theorem dk_ol : dk (.ol ds) = some (.list ds) := (rfl)
theorem svOf_dat : svOf (.dat d) = some (.dat d) := (rfl)
theorem svOf_nw : svOf (.nw ds) = some (.ol ds) := (rfl)
theorem svOf_nd {kvs : List (Key × PyData)} : svOf (.nd kvs) = some (.od kvs) := (rfl)
theorem svOf_src : svOf .src = some .src := (rfl)
theorem rtOf_dat : rtOf sd (.dat d) = some (.dat d) := (rfl)
theorem rtOf_nw : rtOf sd (.nw ds) = some (.nw ds) := (rfl)
def rk : SV → Option ER
  | .ol ds => some (.nw ds)
  | .od kvs => some (.nd kvs)
  | _ => none
theorem rtOf_lc {i : Nat} : rtOf sd (.lc i) = rk (gs sd i) := by
  show (match gs sd i with
    | .ol ds => some (ER.nw ds)
    | .od kvs => some (ER.nd kvs)
    | _ => none) = _
  cases gs sd i <;> rfl
theorem rk_ol : rk (.ol ds) = some (.nw ds) := (rfl)
theorem sOfs_nil : sOfs [] = some [] := (rfl)
theorem sOfs_cons {r : ER} {rs : List ER} : sOfs (r :: rs) = match sOf r, sOfs rs with
    | some d, some ds => some (d :: ds)
    | _, _ => none := (rfl)
theorem dOfs_nil : dOfs sd [] = some [] := (rfl)
theorem dOfs_cons {r : ER} {rs : List ER} : dOfs sd (r :: rs) = match dOf sd r, dOfs sd rs with
    | some d, some ds => some (d :: ds)
    | _, _ => none := (rfl)
theorem avs_nil : avs sd [] = some ([], false) := (rfl)
theorem avs_cons {r : ER} {rs : List ER} : avs sd (r :: rs) = match avR sd r, avs sd rs with
    | some (x, o), some (xs, p) => some (x :: xs, o || p)
    | _, _ => none := (rfl)
theorem avR_dat : avR sd (.dat d) = some (.dat d, false) := (rfl)
theorem avR_nw : avR sd (.nw ds) = some (.dat (.list ds), false) := (rfl)
theorem avR_src : avR sd .src = some (.src, false) := (rfl)
def ak : SV → Option (SV × Bool)
  | .ol ds => some (.dat (.list ds), true)
  | _ => none
theorem avR_lc {i : Nat} : avR sd (.lc i) = ak (gs sd i) := by
  show (match gs sd i with
    | .ol ds => some (SV.dat (PyData.list ds), true)
    | _ => none) = _
  cases gs sd i <;> rfl
theorem ak_ol : ak (.ol ds) = some (.dat (.list ds), true) := (rfl)
theorem sqR_list : sqR sd (.dat (.list ds)) = some (false, ds) := (rfl)
theorem sqR_tuple : sqR sd (.dat (.tuple ds)) = some (false, ds) := (rfl)
theorem sqR_nw : sqR sd (.nw ds) = some (false, ds) := (rfl)
def qk : SV → Option (Bool × List PyData)
  | .ol ds => some (true, ds)
  | _ => none
theorem sqR_lc {i : Nat} : sqR sd (.lc i) = qk (gs sd i) := by
  show (match gs sd i with
    | .ol ds => some (true, ds)
    | _ => none) = _
  cases gs sd i <;> rfl
theorem qk_ol : qk (.ol ds) = some (true, ds) := (rfl)
theorem seqOf_list : seqOf (.list ds) = some ds := (rfl)
theorem seqOf_tuple : seqOf (.tuple ds) = some ds := (rfl)
theorem iOf_int {i : Int} : iOf (.dat (.int i)) = some i := (rfl)
theorem bOf_bool {b : Bool} : bOf (.dat (.bool b)) = some b := (rfl)
theorem setG_nm {i : Nat} : setG (.nm i) d sd = some (sd.set i (.dat d)) := by unfold setG; rfl
theorem setG_tpt {g : GT} : setG (.tp g) (.tuple ds) sd = setGs g ds sd := by unfold setG; rfl
theorem setG_tpl {g : GT} : setG (.tp g) (.list ds) sd = setGs g ds sd := by unfold setG; rfl
theorem setGs_nil : setGs .nil [] sd = some sd := by unfold setGs; rfl
theorem setGs_cons {a r : GT} : setGs (.cons a r) (d :: ds) sd = (setG a d sd).bind (setGs r ds) := by
  conv => lhs; unfold setGs
  cases setG a d sd <;> rfl
theorem wipeD_nil : wipeD sd [] = sd := (rfl)
theorem wipeD_cons {v : Nat} {vs : List Nat} : wipeD sd (v :: vs) = (wipeD sd vs).set v .un := (rfl)
theorem frz_nil : frz sd [] = sd := (rfl)
def fk (sd : SD) (i : Nat) : SV → SD
  | .ol ds => sd.set i (.dat (.list ds))
  | .od _ => sd.set i .un
  | _ => sd
theorem frz_cons {i : Nat} {is : List Nat} : frz sd (i :: is) = frz (fk sd i (gs sd i)) is := by
  show frz (frz1 sd i) is = _
  unfold frz1 fk
  cases gs sd i <;> rfl
theorem fk_ol {i : Nat} : fk sd i (.ol ds) = sd.set i (.dat (.list ds)) := (rfl)
theorem fk_od {i : Nat} {kvs : List (Key × PyData)} : fk sd i (.od kvs) = sd.set i .un := (rfl)
theorem fk_dat {i : Nat} : fk sd i (.dat d) = sd := (rfl)
theorem fk_un {i : Nat} : fk sd i .un = sd := (rfl)
theorem fk_src {i : Nat} : fk sd i .src = sd := (rfl)
theorem truD_bool {b : Bool} : truR sd (.dat (.bool b)) = some b := (rfl)
theorem truD_int {i : Int} : truR sd (.dat (.int i)) = some (i != 0) := (rfl)
theorem truD_none : truR sd (.dat .none) = some false := (rfl)
theorem truD_list : truR sd (.dat (.list ds)) = some (!ds.isEmpty) := (rfl)
theorem truD_tuple : truR sd (.dat (.tuple ds)) = some (!ds.isEmpty) := (rfl)
theorem truR_nw : truR sd (.nw ds) = some (!ds.isEmpty) := (rfl)
theorem isNon_none : isNon (.dat .none) = true := (rfl)
theorem isNon_int {i : Int} : isNon (.dat (.int i)) = false := (rfl)
theorem isNon_tuple : isNon (.dat (.tuple ds)) = false := (rfl)
theorem isNon_list : isNon (.dat (.list ds)) = false := (rfl)
theorem isNon_bool {b : Bool} : isNon (.dat (.bool b)) = false := (rfl)
/-! operations -/
section
variable {i j : Int}
theorem bin_add : binF .add (.int i) (.int j) = some (.dat (.int (i + j))) := (rfl)
theorem bin_addL : binF .add (.list ds) (.list es') = gd (small (ds.length + es'.length)) (.nw (ds ++ es')) := (rfl)
theorem bin_addT : binF .add (.tuple ds) (.tuple es') = gd (small (ds.length + es'.length)) (.dat (.tuple (ds ++ es'))) := (rfl)
theorem bin_sub : binF .sub (.int i) (.int j) = some (.dat (.int (i - j))) := (rfl)
theorem bin_mul : binF .mul (.int i) (.int j) = gd (mulOk i j) (.dat (.int (i * j))) := (rfl)
theorem bin_mod : binF .mod (.int i) (.int j) = gd (decide (0 < j)) (.dat (.int (i % j))) := (rfl)
theorem bin_fdiv : binF .fdiv (.int i) (.int j) = gd (decide (0 < j) && Nat.blt j.natAbs.log2 9000) (.dat (.int (i / j))) := (rfl)
theorem bin_band : binF .band (.int i) (.int j) = some (.dat (.int (Builtin.bitAnd i j))) := (rfl)
theorem bin_bor : binF .bor (.int i) (.int j) = some (.dat (.int (Builtin.bitOr i j))) := (rfl)
theorem bin_shl : binF .shl (.int i) (.int j) = gd (powOk i j) (.dat (.int (i * 2 ^ j.toNat))) := (rfl)
theorem bin_shr : binF .shr (.int i) (.int j) = gd (decide (0 ≤ j)) (.dat (.int (i / 2 ^ j.toNat))) := (rfl)
theorem bin_lt : binF .lt (.int i) (.int j) = some (.dat (.bool (decide (i < j)))) := (rfl)
theorem bin_le : binF .le (.int i) (.int j) = some (.dat (.bool (decide (i ≤ j)))) := (rfl)
theorem bin_gt : binF .gt (.int i) (.int j) = some (.dat (.bool (decide (j < i)))) := (rfl)
theorem bin_ge : binF .ge (.int i) (.int j) = some (.dat (.bool (decide (j ≤ i)))) := (rfl)
theorem bin_eqI : binF .eq (.int i) (.int j) = some (.dat (.bool (decide (i = j)))) := by
  show gd (SeqAt.shaped (.int i) && SeqAt.shaped (.int j)) (ER.dat (.bool (PyData.eqv (.int i) (.int j)))) = _
  have h : (SeqAt.shaped (.int i) && SeqAt.shaped (.int j)) = true := (rfl)
  rw [h]
  show some _ = _
  by_cases h : i = j <;> simp [PyData.eqv, h]
theorem bin_neI : binF .ne (.int i) (.int j) = some (.dat (.bool (decide (i ≠ j)))) := by
  show gd (SeqAt.shaped (.int i) && SeqAt.shaped (.int j)) (ER.dat (.bool (!PyData.eqv (.int i) (.int j)))) = _
  have h : (SeqAt.shaped (.int i) && SeqAt.shaped (.int j)) = true := (rfl)
  rw [h]
  show some _ = _
  by_cases h : i = j <;> simp [PyData.eqv, h]
theorem bin_eq : binF .eq d e = gd (SeqAt.shaped d && SeqAt.shaped e) (.dat (.bool (PyData.eqv d e))) := (rfl)
theorem bin_ne : binF .ne d e = gd (SeqAt.shaped d && SeqAt.shaped e) (.dat (.bool (!PyData.eqv d e))) := (rfl)
theorem bin_inL : binF .inn d (.list es') = gd (SeqAt.shaped d && SeqAt.shaped (.list es')) (.dat (.bool (es'.any fun z => PyData.eqv z d))) := (rfl)
theorem bin_inT : binF .inn d (.tuple es') = gd (SeqAt.shaped d && SeqAt.shaped (.tuple es')) (.dat (.bool (es'.any fun z => PyData.eqv z d))) := (rfl)
theorem bin_ninL : binF .nin d (.list es') = gd (SeqAt.shaped d && SeqAt.shaped (.list es')) (.dat (.bool (!es'.any fun z => PyData.eqv z d))) := (rfl)
theorem bin_ninT : binF .nin d (.tuple es') = gd (SeqAt.shaped d && SeqAt.shaped (.tuple es')) (.dat (.bool (!es'.any fun z => PyData.eqv z d))) := (rfl)
theorem bin_ixL : binF .ix (.list ds) (.int i) = (L2.atI ds i).map .dat := (rfl)
theorem bin_ixT : binF .ix (.tuple ds) (.int i) = (L2.atI ds i).map .dat := (rfl)
theorem un_neg' : unF .neg (.int i) = some (.dat (.int (-i))) := (rfl)
theorem bi_lenL : biF .len [.list ds] = some (.dat (.int ds.length)) := (rfl)
theorem bi_lenT : biF .len [.tuple ds] = some (.dat (.int ds.length)) := (rfl)
theorem bi_int : biF .int [.int i] = some (.dat (.int i)) := (rfl)
theorem bi_intB {b : Bool} : biF .int [.bool b] = some (.dat (.int (if b then 1 else 0))) := by cases b <;> rfl
theorem bi_tupL : biF .tup [.list ds] = some (.dat (.tuple ds)) := (rfl)
theorem bi_tupT : biF .tup [.tuple ds] = some (.dat (.tuple ds)) := (rfl)
theorem bi_lstL : biF .lst [.list ds] = some (.nw ds) := (rfl)
theorem bi_lstT : biF .lst [.tuple ds] = some (.nw ds) := (rfl)
theorem bi_max2 : biF .max2 [.int i, .int j] = some (.dat (.int (if i < j then j else i))) := (rfl)
theorem bi_min2 : biF .min2 [.int i, .int j] = some (.dat (.int (if j < i then j else i))) := (rfl)
end
def rg1k (kI : Bool → List PyData → Bool) : List ER → Bool
  | [.dat (.int n)] => bk (rgOk n) (kI false (rgL 0 n.toNat)) false
  | _ => false
theorem rg1k_int {kI : Bool → List PyData → Bool} {n : Int} : rg1k kI [.dat (.int n)] = bq (rgOk n) (kI false (rgL 0 n.toNat)) false := (rfl)
theorem rg1k_congr {kI : Bool → List PyData → Bool} {x y : List ER} (h : x = y) : rg1k kI x = rg1k kI y := by rw [h]
theorem rng1_is {G : GE} {C : CE'} {r : ME} {kI : Bool → List PyData → Bool} : rng1F (evA G C r) sd kI = evA G C r sd fun rs => rg1k kI rs := by
  unfold rng1F
  congr 1
theorem runF_S {G : GE} {D : Nat → MD} {n f : Nat} {xs : List SV} : runF G D (n + 1) f xs k = runD G (runF G D n) (D f) xs k := (rfl)
theorem runD_fn {G : GE} {C : CE'} {n : Nat} {b : MS} {xs : List SV} : runD G C (.fn n b) xs k = es G C b (xs ++ List.replicate n .un) { nx := fun _ => k (.dat .none), rt := k, bk := fun _ => false, ct := fun _ => false } := (rfl)
theorem sl_L {lo hi : Option Int} : slF lo hi (.list ds) = some (.nw (cutPd ds lo hi)) := (rfl)
theorem sl_T {lo hi : Option Int} : slF lo hi (.tuple ds) = some (.dat (.tuple (cutPd ds lo hi))) := (rfl)
theorem rev_L : revF (.list ds) = some (.nw ds.reverse) := (rfl)
theorem rev_T : revF (.tuple ds) = some (.dat (.tuple ds.reverse)) := (rfl)
end
end Mp

/-! comprehensions, generator expressions, loops over what is known of each turn -/
namespace Mp
open PySem L2 Dq Gd PySem.Spec PyProof.Rows
section
variable {sdw : SD} {set : PyData → SD → Option SD} {c : SD → (Bool → Bool) → Bool} {F : SD → (List PyData → Bool) → Bool} {α β : Type}
theorem bk_k {γ : Type} {b : Bool} {k : γ → Bool} {x y : γ} : bk b (k x) (k y) = k (cond b x y) := by cases b <;> rfl
theorem nestL_cons {x : PyData} {xs : List PyData} {k : List PyData → Bool} : nestL sdw set c F (x :: xs) k = ob (set x sdw) fun sd2 => c sd2 fun b => bk b (F sd2 fun es => nestL sdw set c F xs fun fs => k (es ++ fs)) (nestL sdw set c F xs k) := by
  show (ob (set x sdw) fun sd2 => c sd2 fun b => match b with
    | true => F sd2 fun es => nestL sdw set c F xs fun fs => k (es ++ fs)
    | false => nestL sdw set c F xs k) = _
  rfl
/-- each turn puts f a -/
theorem nestL_map {enc : α → PyData} {f : α → PyData} : ∀ {xs : List α} {k : List PyData → Bool}, (∀ a ∈ xs, ∃ sd2, set (enc a) sdw = some sd2 ∧ (∀ k, c sd2 k = k true) ∧ ∀ k, F sd2 k = k [f a]) → nestL sdw set c F (xs.map enc) k = k (xs.map f)
  | [], k, _ => rfl
  | a :: xs, k, h => by
    obtain ⟨sd2, h1, h2, h3⟩ := h a (List.mem_cons_self ..)
    rw [List.map_cons, nestL_cons, h1]
    show c sd2 _ = _
    rw [h2]
    show F sd2 _ = _
    rw [h3, nestL_map fun b hb => h b (List.mem_cons_of_mem _ hb)]
    rfl
/-- each turn with p a puts f a -/
theorem nestL_fil {enc : α → PyData} {f : α → PyData} {p : α → Bool} : ∀ {xs : List α} {k : List PyData → Bool}, (∀ a ∈ xs, ∃ sd2, set (enc a) sdw = some sd2 ∧ (∀ k, c sd2 k = k (p a)) ∧ (p a = true → ∀ k, F sd2 k = k [f a])) → nestL sdw set c F (xs.map enc) k = k ((xs.filter p).map f)
  | [], k, _ => rfl
  | a :: xs, k, h => by
    obtain ⟨sd2, h1, h2, h3⟩ := h a (List.mem_cons_self ..)
    rw [List.map_cons, nestL_cons, h1]
    show c sd2 _ = _
    rw [h2]
    have ih : ∀ k, nestL sdw set c F (xs.map enc) k = k ((xs.filter p).map f) := fun k => nestL_fil fun b hb => h b (List.mem_cons_of_mem _ hb)
    cases hp : p a with
    | true =>
      rw [List.filter_cons_of_pos hp]
      show F sd2 _ = _
      rw [h3 hp, ih]
      rfl
    | false =>
      rw [List.filter_cons_of_neg (by rw [hp]; exact Bool.false_ne_true)]
      exact ih k
/-- each turn puts the list g a -/
theorem nestL_flat {enc : α → PyData} {g : α → List PyData} : ∀ {xs : List α} {k : List PyData → Bool}, (∀ a ∈ xs, ∃ sd2, set (enc a) sdw = some sd2 ∧ (∀ k, c sd2 k = k true) ∧ ∀ k, F sd2 k = k (g a)) → nestL sdw set c F (xs.map enc) k = k (xs.flatMap g)
  | [], k, _ => rfl
  | a :: xs, k, h => by
    obtain ⟨sd2, h1, h2, h3⟩ := h a (List.mem_cons_self ..)
    rw [List.map_cons, nestL_cons, h1]
    show c sd2 _ = _
    rw [h2]
    show F sd2 _ = _
    rw [h3, nestL_flat fun b hb => h b (List.mem_cons_of_mem _ hb), List.flatMap_cons]
/-- draws: whatever each turn puts, where K holds of all of them -/
theorem nestL_any {P : α → PyData → Prop} {enc : α → PyData} : ∀ {xs : List α} {k : List PyData → Bool}, (∀ a ∈ xs, ∃ sd2, set (enc a) sdw = some sd2 ∧ ∀ K : List PyData → Bool, (∀ ys, (∃ y, P a y ∧ ys = [y]) ∨ ys = [] → K ys = true) → (c sd2 fun b => bk b (F sd2 K) (K [])) = true) →
    (∀ ys : List PyData, (∀ y ∈ ys, ∃ a ∈ xs, P a y) → ys.length ≤ xs.length → k ys = true) → nestL sdw set c F (xs.map enc) k = true
  | [], k, _, hk => hk [] (fun _ h => nomatch h) (Nat.le_refl _)
  | a :: xs, k, h, hk => by
    obtain ⟨sd2, h1, h2⟩ := h a (List.mem_cons_self ..)
    rw [List.map_cons, nestL_cons, h1]
    show (c sd2 fun b => bk b (F sd2 fun es => nestL sdw set c F (xs.map enc) fun fs => k (es ++ fs)) (nestL sdw set c F (xs.map enc) k)) = true
    have e : (nestL sdw set c F (xs.map enc) k) = (fun es => nestL sdw set c F (xs.map enc) fun fs => k (es ++ fs)) [] := rfl
    rw [e]
    refine h2 (fun es => nestL sdw set c F (xs.map enc) fun fs => k (es ++ fs)) fun ys hy => ?_
    refine nestL_any (fun b hb => h b (List.mem_cons_of_mem _ hb)) fun zs hz hl => hk _ (fun y hy2 => ?_) ?_
    · rcases List.mem_append.mp hy2 with q | q
      · rcases hy with ⟨z, p, rfl⟩ | rfl
        · rw [List.mem_singleton] at q
          subst q
          exact ⟨a, List.mem_cons_self .., p⟩
        · cases q
      · obtain ⟨b, hb, p⟩ := hz y q
        exact ⟨b, List.mem_cons_of_mem _ hb, p⟩
    · rw [List.length_append, List.length_cons]
      rcases hy with ⟨z, p, rfl⟩ | rfl
      · rw [List.length_singleton]; omega
      · rw [List.length_nil]; omega
end
section
variable {stp : Bool} {sdw : SD} {set : PyData → SD → Option SD} {c : SD → (Bool → Bool) → Bool} {F : SD → (ER → Bool) → Bool} {α : Type}
theorem allL_map {enc : α → PyData} {q : α → Bool} : ∀ {xs : List α} {k : Bool → Bool}, (∀ a ∈ xs, ∃ sd2, set (enc a) sdw = some sd2 ∧ (∀ k, c sd2 k = k true) ∧ ∀ k, F sd2 k = k (.dat (.bool (q a)))) →
      allL stp sdw set c F (xs.map enc) k = k (match stp with | true => xs.any q | false => xs.all q)
  | [], k, _ => by cases stp <;> rfl
  | a :: xs, k, h => by
    obtain ⟨sd2, h1, h2, h3⟩ := h a (List.mem_cons_self ..)
    have ih : ∀ k, allL stp sdw set c F (xs.map enc) k = k (match stp with | true => xs.any q | false => xs.all q) := fun k => allL_map fun b hb => h b (List.mem_cons_of_mem _ hb)
    rw [List.map_cons]
    unfold allL
    rw [h1]
    show (c sd2 _) = _
    rw [h2]
    show F sd2 _ = _
    rw [h3]
    show (match stp == q a with | true => k stp | false => allL stp sdw set c F (xs.map enc) k) = _
    cases stp with
    | true =>
      rw [List.any_cons]
      cases q a with
      | true => rfl
      | false => exact ih k
    | false =>
      rw [List.all_cons]
      cases q a with
      | true => exact ih k
      | false => rfl
end
section
variable {set : PyData → SD → Option SD} {body : SD → EK → Bool} {rt : ER → Bool} {nx : SD → Bool} {α β : Type}
theorem forL_nil {sd : SD} : forL set body rt nx [] sd = nx sd := (rfl)
theorem forL_cons {x : PyData} {xs : List PyData} {sd : SD} : forL set body rt nx (x :: xs) sd = ob (set x sd) fun sd2 => body sd2 { nx := forL set body rt nx xs, rt := rt, bk := nx, ct := forL set body rt nx xs } := (rfl)
/-- a loop that changes what it knows -/
theorem forL_fold {enc : α → PyData} {S : β → SD} {f : β → α → β} {P : β → Prop} : ∀ {xs : List α} {b : β}, P b → (∀ a ∈ xs, ∀ b, P b → P (f b a)) →
    (∀ a ∈ xs, ∀ b, P b → ∀ N : SD → Bool, (ob (set (enc a) (S b)) fun sd2 => body sd2 { nx := N, rt := rt, bk := nx, ct := N }) = N (S (f b a))) →
    forL set body rt nx (xs.map enc) (S b) = nx (S (xs.foldl f b))
  | [], b, _, _, _ => rfl
  | a :: xs, b, hb, hp, h => by
    rw [List.map_cons, forL_cons, h a (List.mem_cons_self ..) b hb, List.foldl_cons]
    exact forL_fold (hp a (List.mem_cons_self ..) b hb) (fun c hc => hp c (List.mem_cons_of_mem _ hc)) fun c hc => h c (List.mem_cons_of_mem _ hc)
/-- a loop that shows what it must, whatever is drawn in each turn -/
theorem forL_inv {enc : α → PyData} {I : Nat → SD → Prop} : ∀ {xs : List α} {sd : SD} {j : Nat}, I j sd →
    (∀ i (hi : i < xs.length) sd, I (j + i) sd → ∀ N : SD → Bool, (∀ sd', I (j + i + 1) sd' → N sd' = true) → (ob (set (enc xs[i]) sd) fun sd2 => body sd2 { nx := N, rt := rt, bk := nx, ct := N }) = true) →
    (∀ sd, I (j + xs.length) sd → nx sd = true) → forL set body rt nx (xs.map enc) sd = true
  | [], sd, j, h0, _, hn => hn sd h0
  | a :: xs, sd, j, h0, hb, hn => by
    rw [List.map_cons, forL_cons]
    refine hb 0 (Nat.zero_lt_succ _) sd h0 _ fun sd' h1 => ?_
    refine forL_inv (I := I) (j := j + 1) h1 (fun i hi sd hI N hN => ?_) fun sd hI => hn sd (by rw [List.length_cons]; rw [show j + (xs.length + 1) = j + 1 + xs.length by omega]; exact hI)
    have := hb (i + 1) (by rw [List.length_cons]; omega) sd (by rw [show j + (i + 1) = j + 1 + i by omega]; exact hI) N (fun sd' hI' => hN sd' (by rw [show j + 1 + i + 1 = j + (i + 1) + 1 by omega]; exact hI'))
    exact this
end
/-! ints -/
theorem rgL_nat (n : Nat) : rgL 0 n = (List.range n).map fun i => PyData.int (i : Nat) := by
  unfold rgL
  exact List.map_congr_left fun i _ => by rw [Int.zero_add]
theorem allI_map {α : Type} {f : α → Int} : ∀ {xs : List α}, allI (xs.map fun a => .int (f a)) = some (xs.map f)
  | [] => rfl
  | a :: xs => by
    rw [List.map_cons, List.map_cons]
    unfold allI
    rw [allI_map]
theorem jsum_map {α : Type} {f : α → Int} {xs : List α} : jF .sum [.list (xs.map fun a => .int (f a))] = some (.dat (.int (xs.map f).sum)) := by
  show (match allI (xs.map fun a => PyData.int (f a)) with
    | some is => some (ER.dat (.int is.sum))
    | none => none) = _
  rw [allI_map]
theorem small_1 : small (0 + 1) = true := (rfl)
theorem small_2 : small (0 + 1 + 1) = true := (rfl)
theorem small_3 : small (0 + 1 + 1 + 1) = true := (rfl)
theorem small_4 : small (0 + 1 + 1 + 1 + 1) = true := (rfl)
theorem small_5 : small (0 + 1 + 1 + 1 + 1 + 1) = true := (rfl)
theorem small_6 : small (0 + 1 + 1 + 1 + 1 + 1 + 1) = true := (rfl)
theorem small_0 : small 0 = true := (rfl)
theorem powOk_1 {n : Nat} (h : n ≤ 1000) : powOk 1 (n : Nat) = true := by
  unfold powOk
  simp only [Bool.and_eq_true, decide_eq_true_eq]
  exact ⟨⟨Int.natCast_nonneg n, by omega⟩, by decide⟩
end Mp

/-! data that are spoken of: what size they have, when they are equal -/
namespace Mp
open PySem L2 Dq Gd PySem.Spec PyProof.Rows
/-- laid plainly, at most so deep -/
def Ok (h : Nat) (d : PyData) : Prop := d.canLay0 = true ∧ d.depth ≤ h
theorem ok_int {i : Int} {h : Nat} : Ok h (.int i) := ⟨rfl, Nat.zero_le _⟩
theorem ok_bool {i : Bool} {h : Nat} : Ok h (.bool i) := ⟨rfl, Nat.zero_le _⟩
theorem ok_none {h : Nat} : Ok h .none := ⟨rfl, Nat.zero_le _⟩
theorem ok_all {h : Nat} : ∀ {ds : List PyData}, (∀ d ∈ ds, Ok h d) → PyData.canLayAll0 ds = true ∧ PyData.depthAll ds ≤ h
  | [], _ => ⟨rfl, Nat.zero_le _⟩
  | d :: ds, q => by
    obtain ⟨a, b⟩ := ok_all (ds := ds) fun e he => q e (List.mem_cons_of_mem _ he)
    obtain ⟨c, e⟩ := q d (List.mem_cons_self ..)
    exact ⟨by show (d.canLay0 && PyData.canLayAll0 ds) = true; rw [a, c]; rfl, Nat.max_le.mpr ⟨e, b⟩⟩
theorem ok_tup {h : Nat} {ds : List PyData} (q : ∀ d ∈ ds, Ok h d) : Ok (h + 1) (.tuple ds) := ⟨(ok_all q).1, Nat.succ_le_succ (ok_all q).2⟩
theorem ok_lst {h : Nat} {ds : List PyData} (q : ∀ d ∈ ds, Ok h d) : Ok (h + 1) (.list ds) := ⟨(ok_all q).1, Nat.succ_le_succ (ok_all q).2⟩
theorem Ok.mono {h k : Nat} {d : PyData} (q : Ok h d) (l : h ≤ k) : Ok k d := ⟨q.1, Nat.le_trans q.2 l⟩
theorem Ok.shaped {h : Nat} {d : PyData} (q : Ok h d) (l : h ≤ 64 := by omega) : SeqAt.shaped d = true := by
  unfold SeqAt.shaped
  rw [q.1, decide_eq_true (Nat.le_trans q.2 l)]
  rfl
/-! equality -/
mutual
/-- without bools and dicts -/
def pureD : PyData → Bool
  | .none => true
  | .bool _ => false
  | .int _ => true
  | .str _ => true
  | .list ds => pureDs ds
  | .tuple ds => pureDs ds
  | .dict _ => false
def pureDs : List PyData → Bool
  | [] => true
  | d :: ds => pureD d && pureDs ds
end
theorem pureDs_of : ∀ {ds : List PyData}, (∀ d ∈ ds, pureD d = true) → pureDs ds = true
  | [], _ => rfl
  | d :: ds, h => by
    unfold pureDs
    rw [h d (List.mem_cons_self ..), pureDs_of fun e he => h e (List.mem_cons_of_mem _ he)]
    rfl
mutual
theorem eqv_iff : ∀ (d e : PyData), pureD d = true → pureD e = true → (PyData.eqv d e = true ↔ d = e)
  | .none, e, _, _ => by cases e <;> simp [PyData.eqv]
  | .bool _, _, h, _ => by cases h
  | .int i, e, _, h2 => by
    cases e with
    | bool b => cases h2
    | _ => simp [PyData.eqv]
  | .str x, e, _, _ => by cases e <;> simp [PyData.eqv]
  | .list xs, e, h, h2 => by
    cases e with
    | list ys =>
      have := eqvs_iff xs ys h h2
      simpa [PyData.eqv] using this
    | _ => simp [PyData.eqv]
  | .tuple xs, e, h, h2 => by
    cases e with
    | tuple ys =>
      have := eqvs_iff xs ys h h2
      simpa [PyData.eqv] using this
    | _ => simp [PyData.eqv]
  | .dict _, _, h, _ => by cases h
theorem eqvs_iff : ∀ (ds es : List PyData), pureDs ds = true → pureDs es = true → (PyData.eqvAll ds es = true ↔ ds = es)
  | [], [], _, _ => by simp [PyData.eqvAll]
  | [], _ :: _, _, _ => by simp [PyData.eqvAll]
  | _ :: _, [], _, _ => by simp [PyData.eqvAll]
  | d :: ds, e :: es, h, g => by
    unfold pureDs at h g
    rw [Bool.and_eq_true] at h g
    have h1 := eqv_iff d e h.1 g.1
    have h2 := eqvs_iff ds es h.2 g.2
    simp [PyData.eqvAll, h1, h2]
end
open Classical in
theorem eqv_dec {d e : PyData} {p : Prop} [Decidable p] (h1 : pureD d = true) (h2 : pureD e = true) (h : d = e ↔ p) : PyData.eqv d e = decide p := by
  rw [Bool.eq_iff_iff, decide_eq_true_iff, eqv_iff d e h1 h2, h]
/-! what the laws speak of -/
abbrev Say := List (Nat × Nat) × Option (Nat × Nat)
def eN (n : Nat) : PyData := .int (n : Nat)
def eI (n : Int) : PyData := .int n
def eP (p : Nat × Nat) : PyData := .tuple [eN p.1, eN p.2]
def eH : Option (Nat × Nat) → PyData
  | none => .none
  | some p => eP p
def eTs (ts : List (Nat × Nat)) : PyData := .tuple (ts.map eP)
def eS (s : Say) : PyData := .tuple [eTs s.1, eH s.2]
def ePl (p : List Int) : PyData := .tuple (p.map eI)
def eO (o : List Nat) : PyData := .tuple (o.map eN)
theorem ok_N {n h : Nat} : Ok h (eN n) := ok_int
theorem ok_P {p : Nat × Nat} : Ok 1 (eP p) := ok_tup (h := 0) fun d hd => by
  simp only [List.mem_cons, List.not_mem_nil, or_false] at hd
  rcases hd with rfl | rfl <;> exact ok_N
theorem ok_H {p : Option (Nat × Nat)} : Ok 1 (eH p) := by
  cases p with
  | none => exact ok_none
  | some p => exact ok_P
theorem ok_map {α : Type} {f : α → PyData} {h : Nat} {xs : List α} (q : ∀ a ∈ xs, Ok h (f a)) : ∀ d ∈ xs.map f, Ok h d := fun d hd => by
  obtain ⟨a, ha, rfl⟩ := List.mem_map.mp hd
  exact q a ha
theorem ok_Ts {ts : List (Nat × Nat)} : Ok 2 (eTs ts) := ok_tup (ok_map fun _ _ => ok_P)
theorem ok_S {s : Say} : Ok 3 (eS s) := ok_tup (h := 2) fun d hd => by
  simp only [List.mem_cons, List.not_mem_nil, or_false] at hd
  rcases hd with rfl | rfl
  · exact ok_Ts
  · exact ok_H.mono (by omega)
theorem ok_O {o : List Nat} : Ok 1 (eO o) := ok_tup (ok_map fun _ _ => ok_N)
theorem ok_Pl {o : List Int} : Ok 1 (ePl o) := ok_tup (ok_map fun _ _ => ok_int)
theorem eN_inj {m n : Nat} : eN m = eN n ↔ m = n := by
  unfold eN
  rw [PyData.int.injEq]
  omega
theorem eP_inj {p q : Nat × Nat} : eP p = eP q ↔ p = q := by
  unfold eP
  rw [PyData.tuple.injEq, List.cons.injEq, List.cons.injEq, eN_inj, eN_inj]
  obtain ⟨a, b⟩ := p
  obtain ⟨c, d⟩ := q
  simp
theorem map_inj {α : Type} {f : α → PyData} (h : ∀ a b, f a = f b ↔ a = b) : ∀ {xs ys : List α}, xs.map f = ys.map f ↔ xs = ys
  | [], [] => by simp
  | [], _ :: _ => by simp
  | _ :: _, [] => by simp
  | a :: xs, b :: ys => by
    rw [List.map_cons, List.map_cons, List.cons.injEq, List.cons.injEq, h, map_inj h]
theorem eH_inj {p q : Option (Nat × Nat)} : eH p = eH q ↔ p = q := by
  cases p with
  | none =>
    cases q with
    | none => simp
    | some q => simp [eH, eP]
  | some p =>
    cases q with
    | none => simp [eH, eP]
    | some q => simp [eH, eP_inj]
theorem eTs_inj {p q : List (Nat × Nat)} : eTs p = eTs q ↔ p = q := by
  unfold eTs
  rw [PyData.tuple.injEq]
  exact map_inj fun _ _ => eP_inj
theorem eS_inj {p q : Say} : eS p = eS q ↔ p = q := by
  unfold eS
  rw [PyData.tuple.injEq, List.cons.injEq, List.cons.injEq, eTs_inj, eH_inj]
  obtain ⟨a, b⟩ := p
  obtain ⟨c, d⟩ := q
  simp
theorem eO_inj {p q : List Nat} : eO p = eO q ↔ p = q := by
  unfold eO
  rw [PyData.tuple.injEq]
  exact map_inj fun _ _ => eN_inj
theorem pure_N {n : Nat} : pureD (eN n) = true := rfl
theorem pure_P {p : Nat × Nat} : pureD (eP p) = true := rfl
theorem pure_H {p : Option (Nat × Nat)} : pureD (eH p) = true := by cases p <;> rfl
theorem pure_map {α : Type} {f : α → PyData} {xs : List α} (q : ∀ a, pureD (f a) = true) : pureDs (xs.map f) = true := pureDs_of fun d hd => by
  obtain ⟨a, _, rfl⟩ := List.mem_map.mp hd
  exact q a
theorem pure_Ts {ts : List (Nat × Nat)} : pureD (eTs ts) = true := pure_map fun _ => pure_P
theorem pure_S {s : Say} : pureD (eS s) = true := by
  show (pureD (eTs s.1) && (pureD (eH s.2) && true)) = true
  rw [pure_Ts, pure_H]
  rfl
theorem pure_O {o : List Nat} : pureD (eO o) = true := pure_map fun _ => pure_N
/-! places -/
theorem atI_nat {α : Type} {xs : List α} {i : Nat} : L2.atI xs (i : Nat) = xs[i]? := by
  unfold L2.atI L2.ixN
  by_cases h : i < xs.length
  · rw [if_pos (by omega), if_pos (by omega)]
    rfl
  · rw [if_pos (by omega), if_neg (by omega), List.getElem?_eq_none (by omega)]
    rfl
theorem atI_map {α β : Type} {f : α → β} {xs : List α} {i : Nat} (h : i < xs.length) : L2.atI (xs.map f) (i : Nat) = some (f xs[i]) := by
  rw [atI_nat, List.getElem?_map, List.getElem?_eq_getElem h]
  rfl
theorem at_0 {α : Type} {x : α} {xs : List α} : L2.atI (x :: xs) 0 = some x := by
  rw [show (0 : Int) = ((0 : Nat) : Int) from rfl, atI_nat]; rfl
theorem at_1 {α : Type} {x y : α} {xs : List α} : L2.atI (x :: y :: xs) 1 = some y := by
  rw [show (1 : Int) = ((1 : Nat) : Int) from rfl, atI_nat]; rfl
theorem at_2 {α : Type} {x y z : α} {xs : List α} : L2.atI (x :: y :: z :: xs) 2 = some z := by
  rw [show (2 : Int) = ((2 : Nat) : Int) from rfl, atI_nat]; rfl
theorem at_3 {α : Type} {x y z u : α} {xs : List α} : L2.atI (x :: y :: z :: u :: xs) 3 = some u := by
  rw [show (3 : Int) = ((3 : Nat) : Int) from rfl, atI_nat]; rfl
def pAt (p : List Int) (i : Nat) : Int := p.getD i 0
theorem atI_pl {p : List Int} {i : Nat} (h : i < p.length) : L2.atI (p.map eI) (i : Nat) = some (eI (pAt p i)) := by
  rw [atI_map h]
  unfold pAt
  rw [List.getD_eq_getElem?_getD, List.getElem?_eq_getElem h]
  rfl
def oAt (p : List Nat) (i : Nat) : Nat := p.getD i 0
theorem atI_o {p : List Nat} {i : Nat} (h : i < p.length) : L2.atI (p.map eN) (i : Nat) = some (eN (oAt p i)) := by
  rw [atI_map h]
  unfold oAt
  rw [List.getD_eq_getElem?_getD, List.getElem?_eq_getElem h]
  rfl
/-- all moments of a saying are below n -/
def inP (n : Nat) (p : Nat × Nat) : Prop := p.1 < n ∧ p.2 < n
def inS (n : Nat) (s : Say) : Prop := (∀ t ∈ s.1, inP n t) ∧ ∀ h, s.2 = some h → inP n h
/-- does a placing keep a saying? -/
def headT (p : List Int) : Option (Nat × Nat) → Bool
  | some h => decide (pAt p h.1 ≤ pAt p h.2)
  | none => false
def keepT (s : Say) (p : List Int) : Bool := s.1.any (fun t => !decide (pAt p t.1 = pAt p t.2)) || headT p s.2
/-! what can be written -/
theorem rep_fitL {n k : Nat} {ds : List PyData} (h : Fit n k (.list ds)) (hn : n ≤ 60) (hk : k ≤ 270000) : repOk (.list ds) = true := by
  show ((PyData.list ds).leavesShort 60 && (PyData.list ds).showable && !(PyData.list ds).hasDict && (PyData.list ds).canLay0 && Nat.ble (PyData.list ds).depth 60 && Nat.ble (PyData.list ds).weight 270000) = true
  rw [h.short, h.shw, h.nod, h.lay, Nat.ble_eq_true_of_le (Nat.le_trans h.dep hn), Nat.ble_eq_true_of_le (Nat.le_trans h.wt hk)]
  rfl
theorem rep_fitT {n k : Nat} {ds : List PyData} (h : Fit n k (.tuple ds)) (hn : n ≤ 60) (hk : k ≤ 270000) : repOk (.tuple ds) = true := by
  show ((PyData.tuple ds).leavesShort 60 && (PyData.tuple ds).showable && !(PyData.tuple ds).hasDict && (PyData.tuple ds).canLay0 && Nat.ble (PyData.tuple ds).depth 60 && Nat.ble (PyData.tuple ds).weight 270000) = true
  rw [h.short, h.shw, h.nod, h.lay, Nat.ble_eq_true_of_le (Nat.le_trans h.dep hn), Nat.ble_eq_true_of_le (Nat.le_trans h.wt hk)]
  rfl
theorem shEq_self (d : PyData) : shEq d d = true := by rw [shEq_eq, decide_eq_true rfl]
/-! draws -/
theorem pick_ok {m : Int} {k : ER → Bool} (hm : m < 1000000000000000000000000000000) (h : ∀ r : Nat, (r : Int) < max 1 m → k (.dat (eN r)) = true) : pickF [.src, .dat (.int m)] k = true := by
  show (match decide (m < 1000000000000000000000000000000) with
    | true => allN (max 1 m).toNat fun r => k (.dat (.int (r : Nat)))
    | false => false) = true
  rw [decide_eq_true hm]
  show allN (max 1 m).toNat _ = true
  exact allN_mk fun r hr => h r (by omega)
theorem cons_erase {α : Type} : ∀ {ds : List α} {r : Nat} (h : r < ds.length), (ds[r] :: ds.eraseIdx r).Perm ds
  | [], _, h => absurd h (Nat.not_lt_zero _)
  | d :: ds, 0, _ => List.Perm.refl _
  | d :: ds, r + 1, h => ((List.Perm.swap _ _ _).trans ((cons_erase (Nat.lt_of_succ_lt_succ h)).cons d))
theorem mixL_ok : ∀ {n : Nat} {ds : List PyData} {k : List PyData → Bool}, ds.length = n → (∀ es, es.Perm ds → k es = true) → mixL n ds k = true
  | 0, ds, k, hl, h => h [] (by rw [List.length_eq_zero_iff.mp hl])
  | n + 1, ds, k, hl, h => by
    unfold mixL
    refine allN_mk fun r hr => mixL_ok (by rw [List.length_eraseIdx, if_pos hr, hl]; rfl) fun es he => h _ ?_
    have : at0 ds r = ds[r] := by
      unfold at0
      rw [List.getD_eq_getElem?_getD, List.getElem?_eq_getElem hr]
      rfl
    rw [this]
    exact (he.cons _).trans (cons_erase hr)
theorem mix_ok {ds : List PyData} {k : ER → Bool} (hl : ds.length ≤ 1000) (h : ∀ es, es.Perm ds → k (.dat (.list es)) = true) : mixF [.src, .dat (.list ds)] k = true := by
  show (match Nat.ble ds.length 1000 with
    | true => mixL ds.length ds fun es => k (.dat (.list es))
    | false => false) = true
  rw [Nat.ble_eq_true_of_le hl]
  exact mixL_ok rfl h
end Mp

/-! defs that many laws have -/
namespace Mp
open PySem L2 Dq Gd PySem.Spec PyProof.Rows
local macro_rules | `(tactic| walk_at "ev") => `(tactic| simp only [↓Mp.ev_var, ↓Mp.ev_int, ↓Mp.ev_bl, ↓Mp.ev_non, ↓Mp.ev_str, ↓Mp.ev_cst, ↓Mp.ev_tup, ↓Mp.ev_lst, ↓Mp.ev_bin, ↓Mp.ev_un, ↓Mp.ev_isN, ↓Mp.ev_ntN, ↓Mp.ev_and, ↓Mp.ev_or, ↓Mp.ev_not, ↓Mp.ev_ife, ↓Mp.ev_slc, ↓Mp.ev_rev, ↓Mp.ev_bi, ↓Mp.ev_bj, ↓Mp.ev_call, ↓Mp.ev_lc, ↓Mp.ev_gn, ↓Mp.ev_isi, ↓Mp.ev_sub', ↓Mp.ev_rcmp, ↓Mp.ev_lrg, ↓Mp.evA_nil, ↓Mp.evA_cons, ↓Mp.evA_star, ↓Mp.evT_tru, ↓Mp.evT_tbl, ↓Mp.evT_tand, ↓Mp.evT_tor, ↓Mp.evT_tnot, ↓Mp.evT_yes, ↓Mp.evI_it, ↓Mp.evI_rng1, ↓Mp.rng1_is, ↓Mp.evI_rng2, ↓Mp.evI_enu, ↓Mp.evI_zip, ↓Mp.evO_no, ↓Mp.evO_some, ↓Mp.es_nil, ↓Mp.es_seq, ↓Mp.es_asg, ↓Mp.es_unp, ↓Mp.es_par, ↓Mp.es_ret, ↓Mp.es_retN, ↓Mp.es_exp, ↓Mp.es_ife, ↓Mp.es_for, ↓Mp.es_brk, ↓Mp.es_cnt, ↓Mp.es_frz, ↓Mp.es_aug, ↓Mp.es_app, ↓Mp.ob_some', ↓Mp.oq_some, ↓Mp.oq_gd, Mp.oq_some, Mp.oq_gd, Mp.bq_t, Mp.bq_f, ↓Mp.ob_gd, Mp.gs0, Mp.gsS, Mp.vk_dat, Mp.vk_ol, Mp.vk_od, Mp.vk_src, Mp.subk_dat, Mp.subk_ol, Mp.subk_od, Mp.dOf_dat', Mp.dOf_nw', Mp.sOf_dat', Mp.sOf_nw', Mp.dOf_lc, Mp.dk_ol, Mp.svOf_dat, Mp.svOf_nw, Mp.svOf_nd, Mp.svOf_src, Mp.rtOf_dat, Mp.rtOf_nw, Mp.rtOf_lc, Mp.rk_ol, Mp.sOfs_nil, Mp.sOfs_cons, Mp.dOfs_nil, Mp.dOfs_cons, Mp.avs_nil, Mp.avs_cons, Mp.avR_dat, Mp.avR_nw, Mp.avR_src, Mp.avR_lc, Mp.ak_ol, Mp.sqR_list, Mp.sqR_tuple, Mp.sqR_nw, Mp.sqR_lc, Mp.qk_ol, Mp.seqOf_list, Mp.seqOf_tuple, Mp.iOf_int, Mp.bOf_bool, Mp.setG_nm, Mp.setG_tpt, Mp.setG_tpl, Mp.setGs_nil, Mp.setGs_cons, Mp.wipeD_nil, Mp.wipeD_cons, Mp.frz_nil, Mp.frz_cons, Mp.fk_ol, Mp.fk_od, Mp.fk_dat, Mp.fk_un, Mp.fk_src, Mp.truD_bool, Mp.truD_int, Mp.truD_none, Mp.truD_list, Mp.truD_tuple, Mp.truR_nw, Mp.isNon_none, Mp.isNon_int, Mp.isNon_tuple, Mp.isNon_list, Mp.isNon_bool, Mp.bin_add, Mp.bin_addL, Mp.bin_addT, Mp.bin_sub, Mp.bin_mul, Mp.bin_mod, Mp.bin_fdiv, Mp.bin_band, Mp.bin_bor, Mp.bin_shl, Mp.bin_shr, Mp.bin_lt, Mp.bin_le, Mp.bin_gt, Mp.bin_ge, Mp.bin_eqI, Mp.bin_neI, Mp.bin_ixL, Mp.bin_ixT, Mp.un_neg', Mp.bi_lenL, Mp.bi_lenT, Mp.bi_int, Mp.bi_intB, Mp.bi_tupL, Mp.bi_tupT, Mp.bi_lstL, Mp.bi_lstT, Mp.bi_max2, Mp.bi_min2, Mp.sl_L, Mp.sl_T, Mp.rev_L, Mp.rev_T, Mp.runD_fn, List.set_cons_zero, List.set_cons_succ, Option.bind_some, Option.map_some, Mp.ob_some', Mp.ob_gd, List.replicate, List.nil_append, List.cons_append, Bool.or_false, Bool.or_true, List.length_cons, List.length_nil, Mp.bk_t, Bool.not_false, Bool.not_true, Bool.true_and, Bool.false_and, Bool.and_true, Bool.true_or, Bool.false_or, Mp.at_0, Mp.at_1, Mp.at_2, Mp.at_3, Mp.small_0, Mp.small_1, Mp.small_2, Mp.small_3, Mp.small_4, Mp.small_5, Mp.small_6, Mp.bk_f, Mp.augk_int, Mp.appk_ol, Mp.rg1k_int, List.append_nil])
local macro_rules | `(tactic| walk_at "evh") => `(tactic| simp only [↓Mp.ev_var, ↓Mp.ev_int, ↓Mp.ev_bl, ↓Mp.ev_non, ↓Mp.ev_str, ↓Mp.ev_cst, ↓Mp.ev_tup, ↓Mp.ev_lst, ↓Mp.ev_bin, ↓Mp.ev_un, ↓Mp.ev_isN, ↓Mp.ev_ntN, ↓Mp.ev_and, ↓Mp.ev_or, ↓Mp.ev_not, ↓Mp.ev_ife, ↓Mp.ev_slc, ↓Mp.ev_rev, ↓Mp.ev_bi, ↓Mp.ev_bj, ↓Mp.ev_call, ↓Mp.ev_lc, ↓Mp.ev_gn, ↓Mp.ev_isi, ↓Mp.ev_sub', ↓Mp.ev_rcmp, ↓Mp.ev_lrg, ↓Mp.evA_nil, ↓Mp.evA_cons, ↓Mp.evA_star, ↓Mp.evT_tru, ↓Mp.evT_tbl, ↓Mp.evT_tand, ↓Mp.evT_tor, ↓Mp.evT_tnot, ↓Mp.evT_yes, ↓Mp.evI_it, ↓Mp.evI_rng1, ↓Mp.rng1_is, ↓Mp.evI_rng2, ↓Mp.evI_enu, ↓Mp.evI_zip, ↓Mp.evO_no, ↓Mp.evO_some, ↓Mp.es_nil, ↓Mp.es_seq, ↓Mp.es_asg, ↓Mp.es_unp, ↓Mp.es_par, ↓Mp.es_ret, ↓Mp.es_retN, ↓Mp.es_exp, ↓Mp.es_ife, ↓Mp.es_for, ↓Mp.es_brk, ↓Mp.es_cnt, ↓Mp.es_frz, ↓Mp.es_aug, ↓Mp.es_app, ↓Mp.ob_some', ↓Mp.oq_some, ↓Mp.oq_gd, Mp.oq_some, Mp.oq_gd, Mp.bq_t, Mp.bq_f, ↓Mp.ob_gd, Mp.gs0, Mp.gsS, Mp.vk_dat, Mp.vk_ol, Mp.vk_od, Mp.vk_src, Mp.subk_dat, Mp.subk_ol, Mp.subk_od, Mp.dOf_dat', Mp.dOf_nw', Mp.sOf_dat', Mp.sOf_nw', Mp.dOf_lc, Mp.dk_ol, Mp.svOf_dat, Mp.svOf_nw, Mp.svOf_nd, Mp.svOf_src, Mp.rtOf_dat, Mp.rtOf_nw, Mp.rtOf_lc, Mp.rk_ol, Mp.sOfs_nil, Mp.sOfs_cons, Mp.dOfs_nil, Mp.dOfs_cons, Mp.avs_nil, Mp.avs_cons, Mp.avR_dat, Mp.avR_nw, Mp.avR_src, Mp.avR_lc, Mp.ak_ol, Mp.sqR_list, Mp.sqR_tuple, Mp.sqR_nw, Mp.sqR_lc, Mp.qk_ol, Mp.seqOf_list, Mp.seqOf_tuple, Mp.iOf_int, Mp.bOf_bool, Mp.setG_nm, Mp.setG_tpt, Mp.setG_tpl, Mp.setGs_nil, Mp.setGs_cons, Mp.wipeD_nil, Mp.wipeD_cons, Mp.frz_nil, Mp.frz_cons, Mp.fk_ol, Mp.fk_od, Mp.fk_dat, Mp.fk_un, Mp.fk_src, Mp.truD_bool, Mp.truD_int, Mp.truD_none, Mp.truD_list, Mp.truD_tuple, Mp.truR_nw, Mp.isNon_none, Mp.isNon_int, Mp.isNon_tuple, Mp.isNon_list, Mp.isNon_bool, Mp.bin_add, Mp.bin_addL, Mp.bin_addT, Mp.bin_sub, Mp.bin_mul, Mp.bin_mod, Mp.bin_fdiv, Mp.bin_band, Mp.bin_bor, Mp.bin_shl, Mp.bin_shr, Mp.bin_lt, Mp.bin_le, Mp.bin_gt, Mp.bin_ge, Mp.bin_eqI, Mp.bin_neI, Mp.bin_ixL, Mp.bin_ixT, Mp.un_neg', Mp.bi_lenL, Mp.bi_lenT, Mp.bi_int, Mp.bi_intB, Mp.bi_tupL, Mp.bi_tupT, Mp.bi_lstL, Mp.bi_lstT, Mp.bi_max2, Mp.bi_min2, Mp.sl_L, Mp.sl_T, Mp.rev_L, Mp.rev_T, Mp.runD_fn, List.set_cons_zero, List.set_cons_succ, Option.bind_some, Option.map_some, Mp.ob_some', Mp.ob_gd, List.replicate, List.nil_append, List.cons_append, Bool.or_false, Bool.or_true, List.length_cons, List.length_nil, Mp.bk_t, Bool.not_false, Bool.not_true, Bool.true_and, Bool.false_and, Bool.and_true, Bool.true_or, Bool.false_or, Mp.at_0, Mp.at_1, Mp.at_2, Mp.at_3, Mp.small_0, Mp.small_1, Mp.small_2, Mp.small_3, Mp.small_4, Mp.small_5, Mp.small_6, Mp.bk_f, Mp.augk_int, Mp.appk_ol, Mp.rg1k_int, List.append_nil, *])
def B_lwkeeps : MS := (.seq (.unp (.tp (.cons (.nm 2) (.cons (.nm 3) .nil))) (.var 0)) (.seq (.ife (.tbl (.bin .ne (.lc (.tp (.cons (.nm 4) (.cons (.nm 5) .nil))) (.it (.var 2)) (.tbl (.bin .ne (.sub 1 (.var 4)) (.sub 1 (.var 5)))) (.int 1) [4, 5]) (.lst .nil))) (.ret (.bl true)) .nil) (.ret (.and (.ntN (.var 3)) (.bin .le (.sub 1 (.sub 3 (.int 0))) (.sub 1 (.sub 3 (.int 1))))))))
theorem len_ble {α : Type} {f : α → PyData} {xs : List α} (h : xs.length ≤ 16000000) : Nat.ble ((xs.map f).length * 1) 16000000 = true := by
  rw [List.length_map, Nat.mul_one]
  exact Nat.ble_eq_true_of_le h
theorem ne_nil {α : Type} {f : α → PyData} {xs : List α} {h : Nat} (q : ∀ a ∈ xs, Ok h (f a)) (hh : h < 64) : binF .ne (.list (xs.map f)) (.list []) = some (.dat (.bool (!xs.isEmpty))) := by
  rw [bin_ne, (ok_lst (ok_map q)).shaped (by omega)]
  cases xs <;> rfl
theorem eq_nil {α : Type} {f : α → PyData} {xs : List α} {h : Nat} (q : ∀ a ∈ xs, Ok h (f a)) (hh : h < 64) : binF .eq (.list (xs.map f)) (.list []) = some (.dat (.bool xs.isEmpty)) := by
  rw [bin_eq, (ok_lst (ok_map q)).shaped (by omega)]
  cases xs <;> rfl
/-- a filter by draws: some sublist -/
theorem draw_fil {α : Type} {sdw : SD} {set : PyData → SD → Option SD} {c : SD → (Bool → Bool) → Bool} {F : SD → (List PyData → Bool) → Bool} {enc f : α → PyData} : ∀ {xs : List α} {k : List PyData → Bool}, (∀ a ∈ xs, ∃ sd2, set (enc a) sdw = some sd2 ∧ (∀ K : Bool → Bool, (∀ b, K b = true) → c sd2 K = true) ∧ ∀ K, F sd2 K = K [f a]) →
    (∀ ys : List α, ys.Sublist xs → k (ys.map f) = true) → nestL sdw set c F (xs.map enc) k = true
  | [], k, _, hk => hk [] (List.Sublist.refl _)
  | a :: xs, k, h, hk => by
    obtain ⟨sd2, h1, h2, h3⟩ := h a (List.mem_cons_self ..)
    rw [List.map_cons, nestL_cons, h1]
    show (c sd2 fun b => bk b (F sd2 fun es => nestL sdw set c F (xs.map enc) fun fs => k (es ++ fs)) (nestL sdw set c F (xs.map enc) k)) = true
    refine h2 _ fun b => ?_
    cases b with
    | true =>
      show (F sd2 fun es => nestL sdw set c F (xs.map enc) fun fs => k (es ++ fs)) = true
      rw [h3]
      exact draw_fil (fun b hb => h b (List.mem_cons_of_mem _ hb)) fun ys hy => hk (a :: ys) (hy.cons₂ a)
    | false => exact draw_fil (fun b hb => h b (List.mem_cons_of_mem _ hb)) fun ys hy => hk ys (hy.cons a)
theorem fil_any {α : Type} {p : α → Bool} : ∀ {xs : List α}, (!(xs.filter p).isEmpty) = xs.any p
  | [] => rfl
  | a :: xs => by
    rw [List.any_cons]
    cases h : p a with
    | true => rw [List.filter_cons_of_pos h]; rfl
    | false => rw [List.filter_cons_of_neg (by rw [h]; exact Bool.false_ne_true), fil_any]; rfl
theorem lwkeeps_is {G : GE} {C : CE'} {s : Say} {p : List Int} (h : inS p.length s) (hl : s.1.length ≤ 16000000) (K : ER → Bool) : runD G C (.fn 4 B_lwkeeps) [.dat (eS s), .dat (ePl p)] K = K (.dat (.bool (keepT s p))) := by
  obtain ⟨ts, hd⟩ := s
  unfold B_lwkeeps eS ePl eTs
  walk_at "ev"
  rw [len_ble hl]
  walk_at "ev"
  refine (nestL_fil (p := fun t : Nat × Nat => !decide (pAt p t.1 = pAt p t.2)) (f := fun _ => PyData.int 1) (fun t ht => ?_)).trans ?_
  · refine ⟨_, rfl, fun k => ?_, fun _ k => ?_⟩
    · have := h.1 t ht
      unfold eN
      have a1 := atI_pl this.1
      have a2 := atI_pl this.2
      unfold eI at *
      walk_at "evh"
      rw [decide_not]
    · walk_at "ev"
  · walk_at "ev"
    rw [ne_nil (h := 0) (fun _ _ => ok_int) (by omega), fil_any]
    walk_at "ev"
    unfold keepT
    cases ha : ts.any (fun t => !decide (pAt p t.1 = pAt p t.2)) with
    | true => simp only [ha]; rfl
    | false =>
      simp only [ha]
      cases hd with
      | none => rfl
      | some q =>
        have := h.2 q rfl
        unfold eH eP eN
        have a1 := atI_pl this.1
        have a2 := atI_pl this.2
        unfold eI at *
        walk_at "evh"
        rfl
def B_keeps : MS := (.seq (.unp (.tp (.cons (.nm 2) (.cons (.nm 3) .nil))) (.var 0)) (.seq (.for (.tp (.cons (.nm 4) (.cons (.nm 5) .nil))) (.it (.var 2)) (.ife (.tbl (.bin .ne (.sub 1 (.var 4)) (.sub 1 (.var 5)))) (.ret (.bl true)) .nil)) (.seq (.ife (.tbl (.isN (.var 3))) (.ret (.bl false)) .nil) (.seq (.unp (.tp (.cons (.nm 6) (.cons (.nm 7) .nil))) (.var 3)) (.ret (.bin .le (.sub 1 (.var 6)) (.sub 1 (.var 7))))))))
theorem keeps_is {G : GE} {C : CE'} {s : Say} {p : List Int} (h : inS p.length s) (K : ER → Bool) : runD G C (.fn 6 B_keeps) [.dat (eS s), .dat (ePl p)] K = K (.dat (.bool (keepT s p))) := by
  obtain ⟨ts, hd⟩ := s
  unfold B_keeps eS ePl eTs
  walk_at "ev"
  have key : ∀ (xs : List (Nat × Nat)) (y z : SV), (∀ t ∈ xs, inP p.length t) → ∀ (rt : ER → Bool) (N : SD → Bool) (v : Bool), (∀ y z, N [.dat (.tuple [.tuple (ts.map eP), eH hd]), .dat (.tuple (p.map eI)), .dat (.tuple (ts.map eP)), .dat (eH hd), y, z, .un, .un] = v) →
      forL (setG (.tp (.cons (.nm 4) (.cons (.nm 5) .nil)))) (es G C (.ife (.tbl (.bin .ne (.sub 1 (.var 4)) (.sub 1 (.var 5)))) (.ret (.bl true)) .nil)) rt N (xs.map eP) [.dat (.tuple [.tuple (ts.map eP), eH hd]), .dat (.tuple (p.map eI)), .dat (.tuple (ts.map eP)), .dat (eH hd), y, z, .un, .un] =
        bk (xs.any fun t => !decide (pAt p t.1 = pAt p t.2)) (rt (.dat (.bool true))) v := by
    intro xs
    induction xs with
    | nil => intro y z _ rt N v hv; exact hv y z
    | cons t xs ih =>
      intro y z hx rt N v hv
      have ht := hx t (List.mem_cons_self ..)
      rw [List.map_cons, forL_cons]
      conv => lhs; arg 1; unfold eP eN
      walk_at "ev"
      rw [atI_pl ht.1]
      unfold eI
      walk_at "ev"
      rw [show L2.atI (p.map PyData.int) (t.2 : Nat) = some (.int (pAt p t.2)) from atI_pl ht.2]
      walk_at "ev"
      rw [List.any_cons]
      by_cases hq : pAt p t.1 = pAt p t.2
      · rw [decide_eq_false (by intro z; exact z hq), decide_eq_true hq]
        exact ih _ _ (fun u hu => hx u (List.mem_cons_of_mem _ hu)) rt N v hv
      · rw [decide_eq_true hq, decide_eq_false hq]
        rfl
  refine (key ts _ _ h.1 _ _ (K (.dat (.bool (headT p hd)))) fun y z => ?_).trans ?_
  · cases hd with
    | none =>
      unfold eH
      walk_at "ev"
      rfl
    | some q =>
      have := h.2 q rfl
      unfold eH eP eN
      have a1 := atI_pl this.1
      have a2 := atI_pl this.2
      unfold eI at *
      walk_at "evh"
      rfl
  · unfold keepT
    show bk _ _ _ = K (.dat (.bool (ts.any (fun t => !decide (pAt p t.1 = pAt p t.2)) || headT p hd)))
    cases ts.any (fun t => !decide (pAt p t.1 = pAt p t.2)) <;> rfl
end Mp

namespace Own
open PySem PySem.Spec PyProof.Rows L2 Gd Dq Mp RZ

def D_WAY_ORDERS : PyData := (.tuple [(.tuple [(.int 0), (.int 1), (.int 0), (.int 1)]), (.tuple [(.int 0), (.int 1), (.int 0), (.int 2)]), (.tuple [(.int 0), (.int 1), (.int 1), (.int 2)]), (.tuple [(.int 0), (.int 1), (.int 2), (.int 3)]), (.tuple [(.int 0), (.int 2), (.int 0), (.int 1)]), (.tuple [(.int 0), (.int 2), (.int 1), (.int 2)]), (.tuple [(.int 0), (.int 2), (.int 1), (.int 3)]), (.tuple [(.int 0), (.int 3), (.int 1), (.int 2)]), (.tuple [(.int 1), (.int 2), (.int 0), (.int 1)]), (.tuple [(.int 1), (.int 2), (.int 0), (.int 2)]), (.tuple [(.int 1), (.int 2), (.int 0), (.int 3)]), (.tuple [(.int 1), (.int 3), (.int 0), (.int 2)]), (.tuple [(.int 2), (.int 3), (.int 0), (.int 1)])])
def D_ALL_WAYS : PyData := (.tuple [(.int 0), (.int 1), (.int 2), (.int 3), (.int 4), (.int 5), (.int 6), (.int 7), (.int 8), (.int 9), (.int 10), (.int 11), (.int 12)])
def topS (i : Nat) : Stmt := PySem.Challenge.pw_soonerornot_k44_whole_said_lots.main.body.getD i (.Pass ⟨0, 0, 0, 0⟩)
abbrev s_keeps : Stmt := topS 1
theorem sc_keeps : FnScope ["saying", "placing", "ties", "head", "a", "b", "u", "v"] ["saying", "placing"] (defScope s_keeps) := ⟨rfl, rfl, rfl, by decide +kernel, rfl, by decide +kernel, by decide +kernel⟩
abbrev s_unlike_pairs : Stmt := topS 3
theorem sc_unlike_pairs : FnScope ["n", "u", "v"] ["n"] (defScope s_unlike_pairs) := ⟨rfl, rfl, rfl, by decide +kernel, rfl, by decide +kernel, by decide +kernel⟩
abbrev s_ties_of : Stmt := topS 4
theorem sc_ties_of : FnScope ["order", "a", "b"] ["order"] (defScope s_ties_of) := ⟨rfl, rfl, rfl, by decide +kernel, rfl, by decide +kernel, by decide +kernel⟩
abbrev s_fullest_sayings : Stmt := topS 5
theorem sc_fullest_sayings : FnScope ["order", "ties", "head"] ["order"] (defScope s_fullest_sayings) := ⟨rfl, rfl, rfl, by decide +kernel, rfl, by decide +kernel, by decide +kernel⟩
abbrev s_first_refusing : Stmt := topS 6
theorem sc_first_refusing : FnScope ["sayings", "orders", "order", "saying", "one"] ["sayings", "orders", "order"] (defScope s_first_refusing) := ⟨rfl, rfl, rfl, by decide +kernel, rfl, by decide +kernel, by decide +kernel⟩
abbrev s_way_order : Stmt := topS 10
theorem sc_way_order : FnScope ["k"] ["k"] (defScope s_way_order) := ⟨rfl, rfl, rfl, by decide +kernel, rfl, by decide +kernel, by decide +kernel⟩
abbrev s_is_said : Stmt := topS 12
theorem sc_is_said : FnScope ["lot"] ["lot"] (defScope s_is_said) := ⟨rfl, rfl, rfl, by decide +kernel, rfl, by decide +kernel, by decide +kernel⟩
abbrev s_is_clear : Stmt := topS 13
theorem sc_is_clear : FnScope ["lot"] ["lot"] (defScope s_is_clear) := ⟨rfl, rfl, rfl, by decide +kernel, rfl, by decide +kernel, by decide +kernel⟩
abbrev s_is_plain : Stmt := topS 14
theorem sc_is_plain : FnScope ["lot"] ["lot"] (defScope s_is_plain) := ⟨rfl, rfl, rfl, by decide +kernel, rfl, by decide +kernel, by decide +kernel⟩
abbrev s_hull_of_lot : Stmt := topS 15
theorem sc_hull_of_lot : FnScope ["lot", "k"] ["lot"] (defScope s_hull_of_lot) := ⟨rfl, rfl, rfl, by decide +kernel, rfl, by decide +kernel, by decide +kernel⟩
abbrev s_refusing_saying : Stmt := topS 16
theorem sc_refusing_saying : FnScope ["lot", "k"] ["lot", "k"] (defScope s_refusing_saying) := ⟨rfl, rfl, rfl, by decide +kernel, rfl, by decide +kernel, by decide +kernel⟩
abbrev s_u_refusing : Stmt := topS 17
theorem sc_u_refusing : FnScope ["sayings", "lot", "k", "one"] ["sayings", "lot", "k"] (defScope s_u_refusing) := ⟨rfl, rfl, rfl, by decide +kernel, rfl, by decide +kernel, by decide +kernel⟩
abbrev s_u_are_all_refused : Stmt := topS 18
theorem sc_u_are_all_refused : FnScope ["sayings", "lot", "k"] ["sayings", "lot"] (defScope s_u_are_all_refused) := ⟨rfl, rfl, rfl, by decide +kernel, rfl, by decide +kernel, by decide +kernel⟩
abbrev s_u_not_later_sayings : Stmt := topS 19
theorem sc_u_not_later_sayings : FnScope ["pair"] [] (defScope s_u_not_later_sayings) := ⟨rfl, rfl, rfl, by decide +kernel, rfl, by decide +kernel, by decide +kernel⟩
abbrev s_u_not_at_once_sayings : Stmt := topS 20
theorem sc_u_not_at_once_sayings : FnScope ["pair"] [] (defScope s_u_not_at_once_sayings) := ⟨rfl, rfl, rfl, by decide +kernel, rfl, by decide +kernel, by decide +kernel⟩
abbrev s_lw_source : Stmt := topS 22
theorem sc_lw_source : FnScope ["script", "mixed", "cell"] ["script"] (defScope s_lw_source) := ⟨rfl, rfl, rfl, by decide +kernel, rfl, by decide +kernel, by decide +kernel⟩
abbrev s_lw_pick : Stmt := topS 23
theorem sc_lw_pick : FnScope ["source", "many", "left", "mixed"] ["source", "many"] (defScope s_lw_pick) := ⟨rfl, rfl, rfl, by decide +kernel, rfl, by decide +kernel, by decide +kernel⟩
abbrev s_lw_of : Stmt := topS 24
theorem sc_lw_of : FnScope ["source", "some"] ["source", "some"] (defScope s_lw_of) := ⟨rfl, rfl, rfl, by decide +kernel, rfl, by decide +kernel, by decide +kernel⟩
abbrev s_lw_orders : Stmt := topS 25
theorem sc_lw_orders : FnScope ["n", "found", "lap", "later", "order", "levels", "gap", "level", "one"] ["n"] (defScope s_lw_orders) := ⟨rfl, rfl, rfl, by decide +kernel, rfl, by decide +kernel, by decide +kernel⟩
abbrev s_lw_keeps : Stmt := topS 26
theorem sc_lw_keeps : FnScope ["saying", "placing", "ties", "head", "a", "b"] ["saying", "placing"] (defScope s_lw_keeps) := ⟨rfl, rfl, rfl, by decide +kernel, rfl, by decide +kernel, by decide +kernel⟩
abbrev s_lw_way_orders : Stmt := topS 27
theorem sc_lw_way_orders : FnScope ["order"] [] (defScope s_lw_way_orders) := ⟨rfl, rfl, rfl, by decide +kernel, rfl, by decide +kernel, by decide +kernel⟩
abbrev s_lw_some_lot : Stmt := topS 28
theorem sc_lw_some_lot : FnScope ["source", "seldom", "lot", "k"] ["source"] (defScope s_lw_some_lot) := ⟨rfl, rfl, rfl, by decide +kernel, rfl, by decide +kernel, by decide +kernel⟩
abbrev s_lw_four_sayings : Stmt := topS 29
theorem sc_lw_four_sayings : FnScope ["most", "pairs", "some", "pair", "ties", "found"] ["most"] (defScope s_lw_four_sayings) := ⟨rfl, rfl, rfl, by decide +kernel, rfl, by decide +kernel, by decide +kernel⟩
abbrev s_lw_kept_lots : Stmt := topS 30
theorem sc_lw_kept_lots : FnScope ["sayings", "orders", "found", "saying", "k"] ["sayings", "orders"] (defScope s_lw_kept_lots) := ⟨rfl, rfl, rfl, by decide +kernel, rfl, by decide +kernel, by decide +kernel⟩
abbrev s_lw_hull_by : Stmt := topS 31
theorem sc_lw_hull_by : FnScope ["lot", "kept", "whole", "left", "one", "k"] ["lot", "kept"] (defScope s_lw_hull_by) := ⟨rfl, rfl, rfl, by decide +kernel, rfl, by decide +kernel, by decide +kernel⟩
abbrev s_law : Stmt := topS 32
theorem sc_law : FnScope ["script", "source", "orders", "sayings", "kept", "wide", "plain", "clear", "lap", "lot", "way", "some", "left", "turn", "hull", "told", "due", "one", "saying", "k"] ["script"] (defScope s_law) := ⟨rfl, rfl, rfl, by decide +kernel, rfl, by decide +kernel, by decide +kernel⟩
structure Ads where
  a_keeps : Addr
  d_keeps : FuncData
  k_keeps : Addr
  a_unlike_pairs : Addr
  d_unlike_pairs : FuncData
  k_unlike_pairs : Addr
  a_ties_of : Addr
  d_ties_of : FuncData
  k_ties_of : Addr
  a_fullest_sayings : Addr
  d_fullest_sayings : FuncData
  k_fullest_sayings : Addr
  a_first_refusing : Addr
  d_first_refusing : FuncData
  k_first_refusing : Addr
  a_way_order : Addr
  d_way_order : FuncData
  k_way_order : Addr
  a_is_said : Addr
  d_is_said : FuncData
  k_is_said : Addr
  a_is_clear : Addr
  d_is_clear : FuncData
  k_is_clear : Addr
  a_is_plain : Addr
  d_is_plain : FuncData
  k_is_plain : Addr
  a_hull_of_lot : Addr
  d_hull_of_lot : FuncData
  k_hull_of_lot : Addr
  a_refusing_saying : Addr
  d_refusing_saying : FuncData
  k_refusing_saying : Addr
  a_u_refusing : Addr
  d_u_refusing : FuncData
  k_u_refusing : Addr
  a_u_are_all_refused : Addr
  d_u_are_all_refused : FuncData
  k_u_are_all_refused : Addr
  a_u_not_later_sayings : Addr
  d_u_not_later_sayings : FuncData
  k_u_not_later_sayings : Addr
  a_u_not_at_once_sayings : Addr
  d_u_not_at_once_sayings : FuncData
  k_u_not_at_once_sayings : Addr
  a_lw_source : Addr
  d_lw_source : FuncData
  k_lw_source : Addr
  a_lw_pick : Addr
  d_lw_pick : FuncData
  k_lw_pick : Addr
  a_lw_of : Addr
  d_lw_of : FuncData
  k_lw_of : Addr
  a_lw_orders : Addr
  d_lw_orders : FuncData
  k_lw_orders : Addr
  a_lw_keeps : Addr
  d_lw_keeps : FuncData
  k_lw_keeps : Addr
  a_lw_way_orders : Addr
  d_lw_way_orders : FuncData
  k_lw_way_orders : Addr
  a_lw_some_lot : Addr
  d_lw_some_lot : FuncData
  k_lw_some_lot : Addr
  a_lw_four_sayings : Addr
  d_lw_four_sayings : FuncData
  k_lw_four_sayings : Addr
  a_lw_kept_lots : Addr
  d_lw_kept_lots : FuncData
  k_lw_kept_lots : Addr
  a_lw_hull_by : Addr
  d_lw_hull_by : FuncData
  k_lw_hull_by : Addr
  a_law : Addr
  d_law : FuncData
  k_law : Addr
  t_law : Addr
  t_first_refusing : Addr
  t_u_are_all_refused : Addr
  c_WAY_ORDERS : Addr
  c_ALL_WAYS : Addr
structure Tp (K : PySem.W.Frag) (mg : Str → Option Value) (base : Heap) (A : Ads) : Prop where
  F_keeps : FunC K "keeps" "keeps" s_keeps A.a_keeps A.d_keeps A.k_keeps
  g_keeps : mg "keeps" = some (.ref A.a_keeps)
  b_keeps : Binds K A.d_keeps ["saying", "placing"] []
  F_unlike_pairs : FunC K "unlike_pairs" "unlike_pairs" s_unlike_pairs A.a_unlike_pairs A.d_unlike_pairs A.k_unlike_pairs
  g_unlike_pairs : mg "unlike_pairs" = some (.ref A.a_unlike_pairs)
  b_unlike_pairs : Binds K A.d_unlike_pairs ["n"] []
  F_ties_of : FunC K "ties_of" "ties_of" s_ties_of A.a_ties_of A.d_ties_of A.k_ties_of
  g_ties_of : mg "ties_of" = some (.ref A.a_ties_of)
  b_ties_of : Binds K A.d_ties_of ["order"] []
  F_fullest_sayings : FunC K "fullest_sayings" "fullest_sayings" s_fullest_sayings A.a_fullest_sayings A.d_fullest_sayings A.k_fullest_sayings
  g_fullest_sayings : mg "fullest_sayings" = some (.ref A.a_fullest_sayings)
  b_fullest_sayings : Binds K A.d_fullest_sayings ["order"] []
  F_first_refusing : FunC K "first_refusing" "first_refusing" s_first_refusing A.a_first_refusing A.d_first_refusing A.k_first_refusing
  g_first_refusing : mg "first_refusing" = some (.ref A.a_first_refusing)
  b_first_refusing : Binds K A.d_first_refusing ["sayings", "orders", "order"] []
  F_way_order : FunC K "way_order" "way_order" s_way_order A.a_way_order A.d_way_order A.k_way_order
  g_way_order : mg "way_order" = some (.ref A.a_way_order)
  b_way_order : Binds K A.d_way_order ["k"] []
  F_is_said : FunC K "is_said" "is_said" s_is_said A.a_is_said A.d_is_said A.k_is_said
  g_is_said : mg "is_said" = some (.ref A.a_is_said)
  b_is_said : Binds K A.d_is_said ["lot"] []
  F_is_clear : FunC K "is_clear" "is_clear" s_is_clear A.a_is_clear A.d_is_clear A.k_is_clear
  g_is_clear : mg "is_clear" = some (.ref A.a_is_clear)
  b_is_clear : Binds K A.d_is_clear ["lot"] []
  F_is_plain : FunC K "is_plain" "is_plain" s_is_plain A.a_is_plain A.d_is_plain A.k_is_plain
  g_is_plain : mg "is_plain" = some (.ref A.a_is_plain)
  b_is_plain : Binds K A.d_is_plain ["lot"] []
  F_hull_of_lot : FunC K "hull_of_lot" "hull_of_lot" s_hull_of_lot A.a_hull_of_lot A.d_hull_of_lot A.k_hull_of_lot
  g_hull_of_lot : mg "hull_of_lot" = some (.ref A.a_hull_of_lot)
  b_hull_of_lot : Binds K A.d_hull_of_lot ["lot"] []
  F_refusing_saying : FunC K "refusing_saying" "refusing_saying" s_refusing_saying A.a_refusing_saying A.d_refusing_saying A.k_refusing_saying
  g_refusing_saying : mg "refusing_saying" = some (.ref A.a_refusing_saying)
  b_refusing_saying : Binds K A.d_refusing_saying ["lot", "k"] []
  F_u_refusing : FunC K "_refusing" "_refusing" s_u_refusing A.a_u_refusing A.d_u_refusing A.k_u_refusing
  g_u_refusing : mg "_refusing" = some (.ref A.a_u_refusing)
  b_u_refusing : Binds K A.d_u_refusing ["sayings", "lot", "k"] []
  F_u_are_all_refused : FunC K "_are_all_refused" "_are_all_refused" s_u_are_all_refused A.a_u_are_all_refused A.d_u_are_all_refused A.k_u_are_all_refused
  g_u_are_all_refused : mg "_are_all_refused" = some (.ref A.a_u_are_all_refused)
  b_u_are_all_refused : Binds K A.d_u_are_all_refused ["sayings", "lot"] []
  F_u_not_later_sayings : FunC K "_not_later_sayings" "_not_later_sayings" s_u_not_later_sayings A.a_u_not_later_sayings A.d_u_not_later_sayings A.k_u_not_later_sayings
  g_u_not_later_sayings : mg "_not_later_sayings" = some (.ref A.a_u_not_later_sayings)
  b_u_not_later_sayings : Binds K A.d_u_not_later_sayings [] []
  F_u_not_at_once_sayings : FunC K "_not_at_once_sayings" "_not_at_once_sayings" s_u_not_at_once_sayings A.a_u_not_at_once_sayings A.d_u_not_at_once_sayings A.k_u_not_at_once_sayings
  g_u_not_at_once_sayings : mg "_not_at_once_sayings" = some (.ref A.a_u_not_at_once_sayings)
  b_u_not_at_once_sayings : Binds K A.d_u_not_at_once_sayings [] []
  F_lw_source : FunC K "_law_source" "_law_source" s_lw_source A.a_lw_source A.d_lw_source A.k_lw_source
  g_lw_source : mg "_law_source" = some (.ref A.a_lw_source)
  b_lw_source : Binds K A.d_lw_source ["script"] []
  F_lw_pick : FunC K "_law_pick" "_law_pick" s_lw_pick A.a_lw_pick A.d_lw_pick A.k_lw_pick
  g_lw_pick : mg "_law_pick" = some (.ref A.a_lw_pick)
  b_lw_pick : Binds K A.d_lw_pick ["source", "many"] []
  F_lw_of : FunC K "_law_of" "_law_of" s_lw_of A.a_lw_of A.d_lw_of A.k_lw_of
  g_lw_of : mg "_law_of" = some (.ref A.a_lw_of)
  b_lw_of : Binds K A.d_lw_of ["source", "some"] []
  F_lw_orders : FunC K "_law_orders" "_law_orders" s_lw_orders A.a_lw_orders A.d_lw_orders A.k_lw_orders
  g_lw_orders : mg "_law_orders" = some (.ref A.a_lw_orders)
  b_lw_orders : Binds K A.d_lw_orders ["n"] []
  F_lw_keeps : FunC K "_law_keeps" "_law_keeps" s_lw_keeps A.a_lw_keeps A.d_lw_keeps A.k_lw_keeps
  g_lw_keeps : mg "_law_keeps" = some (.ref A.a_lw_keeps)
  b_lw_keeps : Binds K A.d_lw_keeps ["saying", "placing"] []
  F_lw_way_orders : FunC K "_law_way_orders" "_law_way_orders" s_lw_way_orders A.a_lw_way_orders A.d_lw_way_orders A.k_lw_way_orders
  g_lw_way_orders : mg "_law_way_orders" = some (.ref A.a_lw_way_orders)
  b_lw_way_orders : Binds K A.d_lw_way_orders [] []
  F_lw_some_lot : FunC K "_law_some_lot" "_law_some_lot" s_lw_some_lot A.a_lw_some_lot A.d_lw_some_lot A.k_lw_some_lot
  g_lw_some_lot : mg "_law_some_lot" = some (.ref A.a_lw_some_lot)
  b_lw_some_lot : Binds K A.d_lw_some_lot ["source"] []
  F_lw_four_sayings : FunC K "_law_four_sayings" "_law_four_sayings" s_lw_four_sayings A.a_lw_four_sayings A.d_lw_four_sayings A.k_lw_four_sayings
  g_lw_four_sayings : mg "_law_four_sayings" = some (.ref A.a_lw_four_sayings)
  b_lw_four_sayings : Binds K A.d_lw_four_sayings ["most"] []
  F_lw_kept_lots : FunC K "_law_kept_lots" "_law_kept_lots" s_lw_kept_lots A.a_lw_kept_lots A.d_lw_kept_lots A.k_lw_kept_lots
  g_lw_kept_lots : mg "_law_kept_lots" = some (.ref A.a_lw_kept_lots)
  b_lw_kept_lots : Binds K A.d_lw_kept_lots ["sayings", "orders"] []
  F_lw_hull_by : FunC K "_law_hull_by" "_law_hull_by" s_lw_hull_by A.a_lw_hull_by A.d_lw_hull_by A.k_lw_hull_by
  g_lw_hull_by : mg "_law_hull_by" = some (.ref A.a_lw_hull_by)
  b_lw_hull_by : Binds K A.d_lw_hull_by ["lot", "kept"] []
  F_law : FunC K "law" "law" s_law A.a_law A.d_law A.k_law
  g_law : mg "law" = some (.ref A.a_law)
  b_law : Binds K A.d_law ["script"] []
  T_law : GxR.TabB base mg A.k_law A.t_law
  T_first_refusing : GxR.TabB base mg A.k_first_refusing A.t_first_refusing
  T_u_are_all_refused : GxR.TabB base mg A.k_u_are_all_refused A.t_u_are_all_refused
  e_WAY_ORDERS : mg "WAY_ORDERS" = some (.ref A.c_WAY_ORDERS)
  r_WAY_ORDERS : Dq.readV K 4 (.ref A.c_WAY_ORDERS) = some D_WAY_ORDERS
  e_ALL_WAYS : mg "ALL_WAYS" = some (.ref A.c_ALL_WAYS)
  r_ALL_WAYS : Dq.readV K 3 (.ref A.c_ALL_WAYS) = some D_ALL_WAYS
  z_abs : mg "abs" = none
  z_all : mg "all" = none
  z_int : mg "int" = none
  z_len : mg "len" = none
  z_list : mg "list" = none
  z_max : mg "max" = none
  z_range : mg "range" = none
  z_repr : mg "repr" = none
  z_sorted : mg "sorted" = none
  z_sum : mg "sum" = none
  z_tuple : mg "tuple" = none
  z_zip : mg "zip" = none
section
variable {P : Program} {w : World} {K : PySem.W.Frag} {mg : Str → Option Value} {base : Heap} {A : Ads}
theorem G_lw_source (T : Tp K mg base A) : FnG P w K mg base 1 A.a_lw_source A.d_lw_source ["script"] (spSource K) := by
  refine fn_ofG T.F_lw_source.fun sc_lw_source (fun vs H Q E h => ?_) (fun cdv A outer s H vs Q E hg hr h => ?_)
  · obtain ⟨a, ns, rfl, _⟩ := h
    rfl
  · obtain ⟨a, ns, rfl, hS, hl, k⟩ := h
    have hu := hu_of hr
    have tr : Tr [] H := fun b hb => nomatch hb
    have hS0 : SqL K (mn [] H) a (ns.map V.int) := Same.seq (K := K) (fun b o e => by rw [mn_out (by simp)]; exact e) hS
    refine ⟨_, (pss_cons (ps_set (i := 1) sc_lw_source.nd rfl (Or.inl rfl) pe_int)
      (pss_cons (ps_for PassesOwn.never rfl (pi_list_k (K := K) rfl (pv 0)) (pg_name (i := 2) sc_lw_source.nd rfl (Or.inl rfl))
      (pss_one (ps_set (i := 1) sc_lw_source.nd rfl (Or.inl rfl) (pe_op op_mod (pe_callTy call_int1 (by rfl) T.z_int (by decide +kernel) (pa_cons (pe_op op_add (pe_op op_add (pe_op op_mul (pv 1) pe_int) (pe_op op_mul (pv 2) pe_int)) pe_int) pa_nil)) pe_int))))
      (pss_one (ps_ret (pe_disp (pps_cons pe_str (pe_revL_k (K := K) rfl (pe_lc (own := [("cell", 2)]) (g := gName 2) (tt := tYes) rfl sc_lw_source.nd (pi_list_k (K := K) rfl (pv 0)) (blkOk_by (N := ["script", "mixed", "cell"]) (sc := defScope s_lw_source) (by decide +kernel)) (fun _ _ _ _ _ => (pg_name (i := 2) sc_lw_source.nd rfl (Or.inl rfl))) (fun _ _ _ _ _ => pts_nil) (fun _ _ _ _ _ => (pe_callB call_abs (by rfl) T.z_abs (by decide +kernel) (pa_cons (pv 2) pa_nil))))) (pps_cons pe_str pe_int (pps_cons pe_str (pv 1) (pps_cons pe_str pe_int pps_nil)))) (by rfl) (by rfl) (fun z => by cases z) (by decide)))))), ?_⟩
    refine q_asg (K := K) tr ev_int fun v H1 e1 t1 d1 => ?_
    cases d1
    have hS1 : SqL K (mn [] H1) a (ns.map V.int) := Same.seq (K := K) ((Go.refl tr).same e1).mn hS0
    refine q_for (K := K) t1 (wk_sq hS1 (fun H1 Q q => ⟨_, rfl, q⟩)) (fun H2 i σ' H' => (∃ (m : Int) (c : Option V), σ' = [some (.ref a), some (.int m), c]) ∧ Same H2 H' ∧ Tr [] H')
      (fun H2 e2 t2 => ⟨⟨_, _, rfl⟩, Same.refl _, t2⟩) (fun H2 i σ' H' e2 p => (Go.refl (t1.same e2)).same p.2.1) ?_ ?_
    · rintro H2 i σ' H' x H4 e2 hi ⟨⟨m, c, rfl⟩, s2, t2⟩ e4 dx
      rw [at0_map hi] at dx
      cases dx
      have t4 := t2.same e4
      show tAsg _ _ _ _ _
      refine ev_I (K := K) (M := []) (H := H4) (C := fun _ j => 0 < j) (ev_int1 (ev_I0 (ev_I0 (ev_I (ev_var rfl (.int m)) ev_int (.inr ⟨by decide, by decide⟩)) (ev_I (ev_var rfl (.int _)) ev_int (.inr ⟨by decide, by decide⟩))) ev_int)) ev_int (by decide) [] H4 (Go.refl t4) _ fun v H5 e5 d5 => ?_
      cases d5
      exact ⟨⟨_, _, rfl⟩, (s2.trans e4).trans e5, t4.same e5⟩
    · rintro H2 σ' H' e2 ⟨⟨m, c, rfl⟩, s2, t2⟩
      intro p hp
      have eH := (e1.trans e2).trans s2
      have sp : Same H' (upd H' p (.dK [])) := same_new hp
      have go1 : Go [] H [p] (upd H' p (.dK [])) := ((Go.refl tr).same eH).trans (go_mut t2 hp)
      have hS2 : SqL K (mn [p] (upd H' p (.dK []))) a (ns.map V.int) := Same.seq (K := K) go1.mn hS0
      have t3 := go1.tr
      refine pairs_c ?_
      refine revL_new (K := K) (M := [p]) t3 (ev_lcA (enc := PyData.int) (xs := ns) (fun i => .int (if i < 0 then -i else i))
        (wk_sq hS2 (fun H1 Q q => ⟨_, rfl, q⟩)) (by omega) fun M' H' a x g _ dx => ⟨_, tk_name, rfl, ev_abs (ev_var rfl dx)⟩) fun c0 vs H5 e5 t5 hc0 hvs => ?_
      rw [← List.map_reverse] at hvs
      have hvs2 : vs = (ns.reverse.map fun i : Int => if i < 0 then -i else i).map V.int := by
        have e0 : (ns.reverse.map fun i : Int => PyData.int (if i < 0 then -i else i)) = (ns.reverse.map fun i : Int => if i < 0 then -i else i).map PyData.int := by
          rw [List.map_map]
          rfl
        rw [e0] at hvs
        exact das_ints hvs
      have h5p : H5 p = some (.dK []) := e5 _ _ upd_same
      have ne : p ≠ c0 := ne_of_none h5p hc0
      refine pairs_cc (pairs_cv rfl (pairs_cc (pairs_n ?_)))
      refine ⟨by rw [upd_ne ne]; exact h5p, srcK c0 1 m 0, rfl, by show 4 ≤ 15; decide, ?_⟩
      rw [src_merge]
      have s5 : Same H H5 := (eH.trans sp).trans e5
      refine k p c0 _ (fun b o e => ?_) (eH.free hp) (s5.free hc0) ⟨ne, _, _, _, _, upd_same, by rw [upd_ne ne.symm, upd_same, hvs2], by simp; exact hl⟩
      rw [upd_ne (ne_of_none e (eH.free hp)), upd_ne (ne_of_none e (s5.free hc0))]
      exact s5 _ _ e
abbrev mx (m : Int) : Int := if m > 1 then m else 1
def Rpick (ds : List PyData) (d : PyData) : Prop := ∃ m r : Int, ds = [.int m] ∧ d = .int r ∧ 0 ≤ r ∧ r < mx m
theorem mod_mx (a m : Int) : 0 ≤ a % mx m ∧ a % mx m < mx m := by
  have h : 0 < mx m := by
    unfold mx
    split <;> omega
  exact ⟨Int.emod_nonneg _ (by omega), Int.emod_lt_of_pos _ h⟩
theorem G_lw_pick (T : Tp K mg base A) : FnG P w K mg base 1 A.a_lw_pick A.d_lw_pick ["source", "many"] (spDraw K 1 (fun ds => ∃ m : Int, ds = [.int m] ∧ m < 1000000000000000000000000000000) Rpick) := by
  refine fn_ofG T.F_lw_pick.fun sc_lw_pick (fun vs H Q E h => spDraw_len vs H Q E h) (fun cdv A outer s0 H vs Q E hg hr h => ?_)
  obtain ⟨M, s, c, ws, ds, rfl, hsM, hcM, hS, tr, hd, hl, ⟨m, rfl, hm⟩, k⟩ := h
  cases hd with
  | cons h1 h2 =>
    cases h2
    cases h1
    have hu := hu_of hr
    have fin : ∀ r H', Kp s c H H' → Src s c H' → 0 ≤ r ∧ r < mx m → Q (.int r) H' := fun r H' kp sr hr => k (.int r) (.int r) H' kp sr (.int r) ⟨m, r, rfl, rfl, hr.1, hr.2⟩
    obtain ⟨cells0, l0, x0, t0, X0⟩ := hS.x
    refine ⟨_, (Evl.pss_cut (ps_while PassesOwn.never (PW.pt (pw_and (pt_cmpR op_gt (pv 1) pe_int (nomark _)) (pw_and (pt_cmpR op_lt (pe_dget hu (pv 0) pe_str (fun _ _ => rfl)) pe_int (nomark _)) (pw_and1 (pt_cmpR op_gt (pe_callB (call_len_k (K := K) rfl) (by rfl) T.z_len (by decide +kernel) (pa_cons (pe_dget hu (pv 0) pe_str (fun _ _ => rfl)) pa_nil)) pe_int (nomark _))))))
      (pss_one (ps_dput hu (pv 0) pe_str (pe_k (K := K) (f := fun K => tBM0 K "list" _ _) rfl (pe_bm0 PySem.F.plainAttrs_list PySem.F.slot_list_pop PySem.F.type_list_pop mt_pop (pe_dget hu (pv 0) pe_str (fun _ _ => rfl)))) rfl)))
      (pss_cons (ps_set (i := 2) sc_lw_pick.nd rfl (Or.inl rfl) (pe_dget hu (pv 0) pe_str (fun _ _ => rfl)))
      (pss_cons (ps_if (PW.pt (pw_or (pt_cmpR op_lt (pv 1) pe_int (nomark _)) (pw_or1 (pt_cmpR op_gt (pv 2) pe_int (nomark _)))))
      (pss_cons (ps_dput hu (pv 0) pe_str (pe_op op_fdivW (pv 2) (pe_callB (call_max2 rfl) (by rfl) T.z_max (by decide +kernel) (pa_cons pe_int (pa_cons (pv 1) pa_nil)))) rfl)
      (pss_one (ps_ret (pe_op op_mod (pe_callTy call_int1 (by rfl) T.z_int (by decide +kernel) (pa_cons (pv 2) pa_nil)) (pe_callB (call_max2 rfl) (by rfl) T.z_max (by decide +kernel) (pa_cons pe_int (pa_cons (pv 1) pa_nil)))))))
      pss_nil)
      (pss_cons (ps_dput hu (pv 0) pe_str (pe_op op_add (pe_dget hu (pv 0) pe_str (fun _ _ => rfl)) pe_int) rfl)
      (pss_cons (ps_set (i := 3) sc_lw_pick.nd rfl (Or.inl rfl) (pe_op op_mod (pe_callTy call_int1 (by rfl) T.z_int (by decide +kernel) (pa_cons (pe_op op_add (pe_dget hu (pv 0) pe_str (fun _ _ => rfl)) (pe_op op_mul (pe_dget hu (pv 0) pe_str (fun _ _ => rfl)) pe_int)) pa_nil)) pe_int))
      (pss_cons (ps_set (i := 3) sc_lw_pick.nd rfl (Or.inl rfl) (pe_op op_mod (pe_callTy call_int1 (by rfl) T.z_int (by decide +kernel) (pa_cons (pe_op op_add (pe_op op_mul (pv 3) (pv 3)) (pe_op op_mul (pe_dget hu (pv 0) pe_str (fun _ _ => rfl)) pe_int)) pa_nil)) pe_int))
      (pss_cons (ps_dput hu (pv 0) pe_str (pv 3) rfl)
      (pss_one (ps_ret (pe_op op_mod (pe_callTy call_int1 (by rfl) T.z_int (by decide +kernel) (pa_cons (pe_op op_fdivW (pv 3) pe_int) pa_nil)) (pv 1))))))))))), ?_⟩
    let st0 : S := [some (.ref s), some (.int m), none, none]
    refine ⟨fun σ' H' => ∃ cells l, σ' = st0 ∧ SrcX s c H' cells l x0 t0 ∧ Kp s c H H', ?_, ?_⟩
    · refine ⟨fun n σ' H' => ∃ cells l, σ' = st0 ∧ SrcX s c H' cells l x0 t0 ∧ Kp s c H H' ∧ cells.length = n, ⟨_, cells0, l0, rfl, X0, Kp.refl H, rfl⟩, ?_⟩
      rintro n σ' H1 ⟨cells, l, rfl, X1, k1, hn⟩
      refine ⟨.int m, rfl, m, 1, rfl, rfl, _, rfl, ?_⟩
      by_cases hm1 : 1 < m
      · rw [decide_eq_true hm1]
        refine iteT ?_
        refine ⟨.ref s, rfl, s, .int l, rfl, X1.gLeft, l, 2, rfl, rfl, _, rfl, ?_⟩
        by_cases hl2 : l < 2
        · rw [decide_eq_true hl2]
          refine iteT ?_
          refine ⟨.ref s, rfl, s, .ref c, rfl, X1.gCells, c, _, rfl, .inl (SqL.of X1.cs), _, 0, rfl, rfl, _, rfl, ?_⟩
          cases cells with
          | nil =>
            refine iteF ?_
            exact ⟨[], l, rfl, X1, k1⟩
          | cons x xs =>
            rw [decide_eq_true (show (0 : Int) < ((List.map V.int (x :: xs)).length : Int) by rw [List.length_map, List.length_cons]; omega)]
            refine iteT ?_
            refine ⟨fun σ' H' => ∃ cells' l', σ' = st0 ∧ SrcX s c H' cells' l' x0 t0 ∧ Kp s c H H' ∧ cells'.length < n, fun σ' H' ⟨cells', l', e, X', kk, hc⟩ => ⟨_, hc, cells', l', e, X', kk, rfl⟩, ?_⟩
            -- the last cell
            have hlast : ((x :: xs).map V.int)[((x :: xs).map V.int).length - 1]? = some (.int ((x :: xs).getLast (List.cons_ne_nil x xs))) := by
              rw [List.length_map, List.getElem?_map, ← List.getLast?_eq_getElem?, List.getLast?_eq_getLast (List.cons_ne_nil x xs)]
              rfl
            have X2 := X1.drop
            obtain ⟨H3, dp, X3, k3⟩ := X2.pLeft ((x :: xs).getLast (List.cons_ne_nil x xs))
            refine ⟨.ref s, rfl, s, .ref c, rfl, X1.gCells, .inl ⟨rfl, _, SqL.of X1.cs⟩, c, _, _, rfl, rfl, X1.cs, hlast, ?_⟩
            refine ⟨.ref s, rfl, s, H3, rfl, dp, ?_⟩
            refine ⟨_, _, rfl, X3, (k1.trans (Kp.set s c H1 _)).trans k3, ?_⟩
            rw [List.length_dropLast, List.length_cons]
            rw [List.length_cons] at hn
            omega
        · rw [decide_eq_false hl2]
          refine iteF ?_
          refine iteF ?_
          exact ⟨cells, l, rfl, X1, k1⟩
      · rw [decide_eq_false hm1]
        refine iteF ?_
        refine iteF ?_
        exact ⟨cells, l, rfl, X1, k1⟩
    · rintro σ' H1 ⟨cells, l, rfl, X1, k1⟩
      have hmx0 : 0 < mx m ∧ mx m < 1000000000000000000000000000000 := by
        unfold mx
        split <;> omega
      have hmx : CDivW l (mx m) := wide_div (b := 100) hmx0.1 (by omega) (by decide) (by decide)
      refine ⟨.ref s, rfl, s, .int l, rfl, X1.gLeft, ?_⟩
      have out : ∀ H1, SrcX s c H1 cells l x0 t0 → Kp s c H H1 → (m < 2 ∨ 1 < l) → ∃ H3, DPut H1 s (.str "left") (.int (l / mx m)) H3 ∧ Q (.int (l % mx m)) H3 := fun H1 X1 k1 _ => by
        obtain ⟨H3, dp, X3, k3⟩ := X1.pLeft (l / mx m)
        exact ⟨H3, dp, fin _ H3 (k1.trans k3) X3.src (mod_mx l m)⟩
      have go1 : ∀ (h : m < 2 ∨ 1 < l), ∃ H3, DPut H1 s (.str "left") (.int (l / mx m)) H3 ∧ Q (.int (l % mx m)) H3 := out H1 X1 k1
      refine ⟨.int m, rfl, m, 2, rfl, rfl, _, rfl, ?_⟩
      by_cases hm2 : m < 2
      · rw [decide_eq_true hm2]
        refine iteT (iteT ?_)
        obtain ⟨H3, dp, q⟩ := go1 (.inl hm2)
        exact ⟨.int l, rfl, .int m, rfl, 1, m, rfl, l, _, rfl, rfl, hmx, .ref s, rfl, s, H3, rfl, dp, .int l, rfl, .inl ⟨l, rfl, .int m, rfl, 1, m, rfl, l, _, rfl, rfl, hmx0.1, q⟩⟩
      · rw [decide_eq_false hm2]
        refine iteF ?_
        refine ⟨.int l, rfl, l, 1, rfl, rfl, _, rfl, ?_⟩
        by_cases hl1 : 1 < l
        · rw [decide_eq_true hl1]
          refine iteT ?_
          obtain ⟨H3, dp, q⟩ := go1 (.inr hl1)
          exact ⟨.int l, rfl, .int m, rfl, 1, m, rfl, l, _, rfl, rfl, hmx, .ref s, rfl, s, H3, rfl, dp, .int l, rfl, .inl ⟨l, rfl, .int m, rfl, 1, m, rfl, l, _, rfl, rfl, hmx0.1, q⟩⟩
        · rw [decide_eq_false hl1]
          refine iteF ?_
          obtain ⟨H3, dp3, X3, k3⟩ := X1.pTurn (t0 + 1)
          refine ⟨.ref s, rfl, s, .int t0, rfl, X1.gTurn, t0, 1, rfl, rfl, .ref s, rfl, s, H3, rfl, dp3, ?_⟩
          have hy : ∀ a : Int, -(2 ^ 64) < a % 998244353 ∧ a % 998244353 < 2 ^ 64 := fun a => by omega
          refine ⟨.ref s, rfl, s, .int x0, rfl, X3.gMixed, .ref s, rfl, s, .int (t0 + 1), rfl, X3.gTurn, t0 + 1, 104729, rfl, rfl, .inr ⟨by decide, by decide⟩, x0, _, rfl, rfl, .inl ⟨_, rfl, _, 998244353, rfl, rfl, by show (0 : Int) < 998244353; decide, ?_⟩⟩
          refine ⟨_, rfl, _, rfl, _, _, rfl, rfl, .inl (hy _), .ref s, rfl, s, .int (t0 + 1), rfl, X3.gTurn, t0 + 1, 17, rfl, rfl, .inr ⟨by decide, by decide⟩, _, _, rfl, rfl, .inl ⟨_, rfl, _, 2147483647, rfl, rfl, by show (0 : Int) < 2147483647; decide, ?_⟩⟩
          obtain ⟨H4, dp4, X4, k4⟩ := X3.pMixed ((((x0 + (t0 + 1) * 104729) % 998244353) * ((x0 + (t0 + 1) * 104729) % 998244353) + (t0 + 1) * 17) % 2147483647)
          refine ⟨_, rfl, .ref s, rfl, s, H4, rfl, dp4, ?_⟩
          have hmm : mx m = m := by
            unfold mx
            rw [if_pos (by omega)]
          refine ⟨_, rfl, _, 16, rfl, rfl, wide_div (b := 5) (by decide) (by decide) (by decide) (by decide), .inl ⟨_, rfl, .int m, rfl, _, m, rfl, rfl, by omega, ?_⟩⟩
          have hb := mod_mx ((((((x0 + (t0 + 1) * 104729) % 998244353) * ((x0 + (t0 + 1) * 104729) % 998244353) + (t0 + 1) * 17) % 2147483647)) / 16) m
          have q := fin _ H4 ((k1.trans k3).trans k4) X4.src hb
          rw [hmm] at q
          exact q
theorem mx_le {m : Int} (h : 1 ≤ m) : mx m = m := by
  unfold mx
  split <;> omega
end
def M_keeps : MS :=
  (.seq (.unp (.tp (.cons (.nm 2) (.cons (.nm 3) .nil))) (.var 0)) (.seq (.for (.tp (.cons (.nm 4) (.cons (.nm 5) .nil))) (.it (.var 2)) (.ife (.tbl (.bin .ne (.sub 1 (.var 4)) (.sub 1 (.var 5)))) (.ret (.bl true)) .nil)) (.seq (.ife (.tbl (.isN (.var 3))) (.ret (.bl false)) .nil) (.seq (.unp (.tp (.cons (.nm 6) (.cons (.nm 7) .nil))) (.var 3)) (.ret (.bin .le (.sub 1 (.var 6)) (.sub 1 (.var 7))))))))
def M_unlike_pairs : MS :=
  (.ret (.lc2 (.nm 1) (.rng1 (.cons (.var 0) .nil)) .yes [1, 2] (.nm 2) (.rng1 (.cons (.var 0) .nil)) (.tbl (.bin .ne (.var 1) (.var 2))) [2] (.tup (.cons (.var 1) (.cons (.var 2) .nil)))))
def M_ties_of : MS :=
  (.ret (.bi .tup (.cons (.lc (.tp (.cons (.nm 1) (.cons (.nm 2) .nil))) (.it (.call 1 (.cons (.bi .len (.cons (.var 0) .nil)) .nil))) (.tand (.tbl (.bin .lt (.var 1) (.var 2))) (.tbl (.bin .eq (.sub 0 (.var 1)) (.sub 0 (.var 2))))) (.tup (.cons (.var 1) (.cons (.var 2) .nil))) [1, 2]) .nil)))
def M_fullest_sayings : MS :=
  (.seq (.asg 1 (.call 2 (.cons (.var 0) .nil))) (.frz [1] (.ret (.lc (.nm 2) (.it (.lst (.cons .non (.star (.call 1 (.cons (.bi .len (.cons (.var 0) .nil)) .nil)) .nil)))) .yes (.tup (.cons (.var 1) (.cons (.var 2) .nil))) [2]))))
def M_first_refusing : MS :=
  (.seq (.for (.nm 3) (.it (.var 0)) (.ife (.tand (.tnot (.tru (.call 0 (.cons (.var 3) (.cons (.var 2) .nil))))) (.tru (.gn false 1 (.nm 4) (.it (.var 1)) .yes (.call 0 (.cons (.var 3) (.cons (.var 4) .nil))) [4]))) (.ret (.var 3)) .nil)) (.ret .non))
def M_way_order : MS :=
  (.ret (.bin .ix (.cst 0) (.var 0)))
def M_is_said : MS :=
  (.ret (.bin .eq (.call 9 (.cons (.var 0) .nil)) (.var 0)))
def M_is_clear : MS :=
  (.ret (.call 12 (.cons (.bin .add (.call 13 .nil) (.call 14 .nil)) (.cons (.var 0) .nil))))
def M_is_plain : MS :=
  (.ret (.call 12 (.cons (.call 13 .nil) (.cons (.var 0) .nil))))
def M_hull_of_lot : MS :=
  (.ret (.bi .tup (.cons (.lc (.nm 1) (.it (.cst 1)) (.tbl (.isN (.call 10 (.cons (.var 0) (.cons (.var 1) .nil))))) (.var 1) [1]) .nil)))
def M_refusing_saying : MS :=
  (.ret (.call 11 (.cons (.call 3 (.cons (.call 5 (.cons (.var 1) .nil)) .nil)) (.cons (.var 0) (.cons (.var 1) .nil)))))
def M_u_refusing : MS :=
  (.ret (.call 4 (.cons (.var 0) (.cons (.lc (.nm 3) (.it (.var 1)) .yes (.call 5 (.cons (.var 3) .nil)) [3]) (.cons (.call 5 (.cons (.var 2) .nil)) .nil)))))
def M_u_are_all_refused : MS :=
  (.ret (.gn false 2 (.nm 2) (.it (.cst 1)) .yes (.or (.bin .inn (.var 2) (.var 1)) (.ntN (.call 11 (.cons (.var 0) (.cons (.var 1) (.cons (.var 2) .nil)))))) [2]))
def M_u_not_later_sayings : MS :=
  (.ret (.lc (.nm 0) (.it (.call 1 (.cons (.int 4) .nil))) .yes (.tup (.cons (.tup .nil) (.cons (.var 0) .nil))) [0]))
def M_u_not_at_once_sayings : MS :=
  (.ret (.lc (.nm 0) (.it (.call 1 (.cons (.int 4) .nil))) (.tbl (.bin .lt (.sub 0 (.int 0)) (.sub 0 (.int 1)))) (.tup (.cons (.tup (.cons (.var 0) .nil)) (.cons .non .nil))) [0]))
def M_lw_of : MS :=
  (.ret (.sub 1 (.call 16 (.cons (.var 0) (.cons (.bi .len (.cons (.var 1) .nil)) .nil)))))
def M_lw_orders : MS :=
  (.seq (.asg 1 (.lst (.cons (.tup .nil) .nil))) (.seq (.for (.nm 2) (.rng1 (.cons (.var 0) .nil)) (.seq (.asg 3 (.lst .nil)) (.seq (.frz [1] (.for (.nm 4) (.it (.var 1)) (.seq (.asg 5 (.bin .add (.int 1) (.bj .max1 (.cons (.bin .add (.lst (.cons (.un .neg (.int 1)) .nil)) (.bi .lst (.cons (.var 4) .nil))) .nil)))) (.seq (.asg 3 (.bin .add (.var 3) (.lc (.nm 7) (.rng1 (.cons (.var 5) .nil)) .yes (.bin .add (.var 4) (.tup (.cons (.var 7) .nil))) [7]))) (.for (.nm 6) (.rng1 (.cons (.bin .add (.var 5) (.int 1)) .nil)) (.app 3 (.bin .add (.bi .tup (.cons (.lc (.nm 8) (.it (.var 4)) .yes (.bin .add (.var 8) (.bi .int (.cons (.bin .ge (.var 8) (.var 6)) .nil))) [8]) .nil)) (.tup (.cons (.var 6) .nil))))))))) (.frz [3] (.asg 1 (.var 3)))))) (.ret (.bj .srt (.cons (.var 1) .nil)))))
def M_lw_keeps : MS :=
  (.seq (.unp (.tp (.cons (.nm 2) (.cons (.nm 3) .nil))) (.var 0)) (.seq (.ife (.tbl (.bin .ne (.lc (.tp (.cons (.nm 4) (.cons (.nm 5) .nil))) (.it (.var 2)) (.tbl (.bin .ne (.sub 1 (.var 4)) (.sub 1 (.var 5)))) (.int 1) [4, 5]) (.lst .nil))) (.ret (.bl true)) .nil) (.ret (.and (.ntN (.var 3)) (.bin .le (.sub 1 (.sub 3 (.int 0))) (.sub 1 (.sub 3 (.int 1))))))))
def M_lw_way_orders : MS :=
  (.ret (.lc (.nm 0) (.it (.call 18 (.cons (.int 4) .nil))) (.tand (.tbl (.bin .lt (.sub 0 (.int 0)) (.sub 0 (.int 1)))) (.tbl (.bin .lt (.sub 0 (.int 2)) (.sub 0 (.int 3))))) (.var 0) [0]))
def M_lw_some_lot : MS :=
  (.seq (.asg 1 (.call 17 (.cons (.var 0) (.cons (.lst (.cons (.int 2) (.cons (.int 2) (.cons (.int 3) (.cons (.int 5) (.cons (.int 13) .nil)))))) .nil)))) (.seq (.asg 2 (.lc (.nm 3) (.rng1 (.cons (.int 13) .nil)) (.tbl (.bin .eq (.call 16 (.cons (.var 0) (.cons (.var 1) .nil))) (.int 0))) (.var 3) [3])) (.ret (.ife (.tand (.tbl (.bin .eq (.var 2) (.lst .nil))) (.tbl (.bin .gt (.call 16 (.cons (.var 0) (.cons (.int 4) .nil))) (.int 0)))) (.bi .tup (.cons (.lst (.cons (.call 16 (.cons (.var 0) (.cons (.int 13) .nil))) .nil)) .nil)) (.bi .tup (.cons (.var 2) .nil))))))
def M_lw_four_sayings : MS :=
  (.seq (.par 1 2 (.cons (.lst (.cons (.tup (.cons (.int 0) (.cons (.int 1) .nil))) (.cons (.tup (.cons (.int 0) (.cons (.int 2) .nil))) (.cons (.tup (.cons (.int 0) (.cons (.int 3) .nil))) (.cons (.tup (.cons (.int 1) (.cons (.int 2) .nil))) (.cons (.tup (.cons (.int 1) (.cons (.int 3) .nil))) (.cons (.tup (.cons (.int 2) (.cons (.int 3) .nil))) .nil))))))) (.cons (.lst (.cons (.tup .nil) .nil)) .nil))) (.seq (.frz [1] (.for (.nm 3) (.it (.var 1)) (.asg 2 (.bin .add (.var 2) (.lc (.nm 4) (.it (.var 2)) (.tbl (.bin .lt (.bi .len (.cons (.var 4) .nil)) (.var 0))) (.bin .add (.var 4) (.tup (.cons (.var 3) .nil))) [4]))))) (.seq (.asg 5 (.lst .nil)) (.seq (.frz [2] (.for (.nm 4) (.it (.var 2)) (.asg 5 (.bin .add (.bin .add (.bin .add (.var 5) (.lst (.cons (.tup (.cons (.var 4) (.cons .non .nil))) .nil))) (.lc (.nm 3) (.it (.var 1)) .yes (.tup (.cons (.var 4) (.cons (.var 3) .nil))) [3])) (.lc (.nm 3) (.it (.var 1)) .yes (.tup (.cons (.var 4) (.cons (.rev (.var 3)) .nil))) [3]))))) (.ret (.var 5))))))
def M_lw_kept_lots : MS :=
  (.seq (.asg 2 (.lst .nil)) (.seq (.for (.nm 3) (.it (.var 0)) (.app 2 (.bj .sum (.cons (.lc (.nm 4) (.rng1 (.cons (.bi .len (.cons (.var 1) .nil)) .nil)) (.tru (.call 19 (.cons (.var 3) (.cons (.sub 1 (.var 4)) .nil)))) (.bin .shl (.int 1) (.var 4)) [4]) .nil)))) (.ret (.var 2))))
def M_lw_hull_by : MS :=
  (.seq (.unp (.tp (.cons (.nm 2) (.cons (.nm 3) .nil))) (.tup (.cons (.bj .sum (.cons (.lc (.nm 5) (.it (.var 0)) .yes (.bin .shl (.int 1) (.var 5)) [5]) .nil)) (.cons (.bin .sub (.bin .shl (.int 1) (.int 13)) (.int 1)) .nil)))) (.seq (.for (.nm 4) (.it (.var 1)) (.frz [3] (.asg 3 (.ife (.tbl (.bin .eq (.bin .band (.var 4) (.var 2)) (.var 2))) (.bin .band (.var 3) (.var 4)) (.var 3))))) (.ret (.bi .tup (.cons (.lc (.nm 5) (.rng1 (.cons (.int 13) .nil)) (.tbl (.bin .eq (.bin .band (.bin .shr (.var 3) (.var 5)) (.int 1)) (.int 1))) (.var 5) [5]) .nil)))))
def M_law : MS :=
  (.seq (.asg 3 (.call 22 (.cons (.int 6) .nil))) (.seq (.asg 4 (.call 23 (.cons (.var 3) (.cons (.var 2) .nil)))) (.seq (.asg 5 (.lc (.nm 17) (.it (.var 4)) (.tbl (.bin .lt (.bin .add (.var 17) (.int 1)) (.bin .shl (.int 1) (.int 13)))) (.var 17) [17])) (.seq (.asg 6 (.lc (.tp (.cons (.nm 17) (.cons (.nm 18) .nil))) (.zip (.cons (.var 4) (.cons (.var 3) .nil))) (.tand (.tbl (.bin .eq (.sub 18 (.int 0)) (.tup .nil))) (.tbl (.ntN (.sub 18 (.int 1))))) (.var 17) [17, 18])) (.seq (.asg 7 (.bin .add (.var 6) (.lc (.tp (.cons (.nm 17) (.cons (.nm 18) .nil))) (.zip (.cons (.var 4) (.cons (.var 3) .nil))) (.tand (.tbl (.bin .eq (.bi .len (.cons (.sub 18 (.int 0)) .nil)) (.int 1))) (.tbl (.isN (.sub 18 (.int 1))))) (.var 17) [17, 18]))) (.seq (.frz [5, 6, 7] (.for (.nm 8) (.rng1 (.cons (.int 12) .nil)) (.seq (.asg 9 (.call 21 (.cons (.var 1) .nil))) (.seq (.asg 10 (.call 16 (.cons (.var 1) (.cons (.int 4) .nil)))) (.seq (.ife (.tbl (.bin .gt (.var 10) (.int 0))) (.seq (.frz [5, 6, 7] (.asg 11 (.bin .ix (.lst (.cons (.var 5) (.cons (.var 7) (.cons (.var 6) .nil)))) (.bin .sub (.var 10) (.int 1))))) (.seq (.asg 12 (.bin .sub (.bin .shl (.int 1) (.int 13)) (.int 1))) (.seq (.for (.nm 13) (.rng1 (.cons (.bin .add (.int 1) (.call 16 (.cons (.var 1) (.cons (.int 4) .nil)))) .nil)) (.asg 12 (.bin .band (.var 12) (.call 17 (.cons (.var 1) (.cons (.var 11) .nil)))))) (.asg 9 (.bi .tup (.cons (.lc (.nm 19) (.rng1 (.cons (.int 13) .nil)) (.tbl (.bin .eq (.bin .band (.bin .shr (.var 12) (.var 19)) (.int 1)) (.int 1))) (.var 19) [19]) .nil)))))) .nil) (.seq (.asg 14 (.call 24 (.cons (.var 9) (.cons (.var 4) .nil)))) (.seq (.asg 15 (.lst (.cons (.call 9 (.cons (.var 9) .nil)) (.cons (.call 6 (.cons (.var 9) .nil)) (.cons (.call 7 (.cons (.var 9) .nil)) (.cons (.call 8 (.cons (.var 9) .nil)) (.cons (.call 6 (.cons (.var 14) .nil)) .nil))))))) (.seq (.frz [14] (.asg 16 (.lst (.cons (.var 14) (.cons (.bin .eq (.var 14) (.var 9)) (.cons (.bin .eq (.call 24 (.cons (.var 9) (.cons (.var 7) .nil))) (.var 9)) (.cons (.bin .eq (.call 24 (.cons (.var 9) (.cons (.var 6) .nil))) (.var 9)) (.cons (.bl true) .nil)))))))) (.ife (.tbl (.rcmp true (.var 15) (.var 16))) (.ret (.bl false)) .nil))))))))) (.ret (.bl true))))))))
def DD : Nat → MD
  | 0 => .fn 6 M_keeps
  | 1 => .fn 2 M_unlike_pairs
  | 2 => .fn 2 M_ties_of
  | 3 => .fn 2 M_fullest_sayings
  | 4 => .fn 2 M_first_refusing
  | 5 => .fn 0 M_way_order
  | 6 => .fn 0 M_is_said
  | 7 => .fn 0 M_is_clear
  | 8 => .fn 0 M_is_plain
  | 9 => .fn 1 M_hull_of_lot
  | 10 => .fn 0 M_refusing_saying
  | 11 => .fn 1 M_u_refusing
  | 12 => .fn 1 M_u_are_all_refused
  | 13 => .fn 1 M_u_not_later_sayings
  | 14 => .fn 1 M_u_not_at_once_sayings
  | 16 => .pick
  | 17 => .fn 0 M_lw_of
  | 18 => .fn 8 M_lw_orders
  | 19 => .fn 4 M_lw_keeps
  | 20 => .fn 1 M_lw_way_orders
  | 21 => .fn 3 M_lw_some_lot
  | 22 => .fn 5 M_lw_four_sayings
  | 23 => .fn 3 M_lw_kept_lots
  | 24 => .fn 4 M_lw_hull_by
  | _ => .no
def GEv : GE where
  cd := fun j => match j with
    | 0 => D_WAY_ORDERS
    | 1 => D_ALL_WAYS
    | _ => .dict []
  ar := fun j => match j with
    | 0 => 2
    | 1 => 1
    | 2 => 1
    | 3 => 1
    | 4 => 3
    | 5 => 1
    | 6 => 1
    | 7 => 1
    | 8 => 1
    | 9 => 1
    | 10 => 2
    | 11 => 3
    | 12 => 2
    | 13 => 0
    | 14 => 0
    | 15 => 1
    | 16 => 2
    | 17 => 2
    | 18 => 1
    | 19 => 2
    | 20 => 0
    | 21 => 1
    | 22 => 1
    | 23 => 2
    | 24 => 2
    | 25 => 1
    | _ => 0
theorem ar_0 : Nat.beq (0 + 1 + 1) (GEv.ar 0) = true := (rfl)
theorem ar_1 : Nat.beq (0 + 1) (GEv.ar 1) = true := (rfl)
theorem ar_2 : Nat.beq (0 + 1) (GEv.ar 2) = true := (rfl)
theorem ar_3 : Nat.beq (0 + 1) (GEv.ar 3) = true := (rfl)
theorem ar_4 : Nat.beq (0 + 1 + 1 + 1) (GEv.ar 4) = true := (rfl)
theorem ar_5 : Nat.beq (0 + 1) (GEv.ar 5) = true := (rfl)
theorem ar_6 : Nat.beq (0 + 1) (GEv.ar 6) = true := (rfl)
theorem ar_7 : Nat.beq (0 + 1) (GEv.ar 7) = true := (rfl)
theorem ar_8 : Nat.beq (0 + 1) (GEv.ar 8) = true := (rfl)
theorem ar_9 : Nat.beq (0 + 1) (GEv.ar 9) = true := (rfl)
theorem ar_10 : Nat.beq (0 + 1 + 1) (GEv.ar 10) = true := (rfl)
theorem ar_11 : Nat.beq (0 + 1 + 1 + 1) (GEv.ar 11) = true := (rfl)
theorem ar_12 : Nat.beq (0 + 1 + 1) (GEv.ar 12) = true := (rfl)
theorem ar_13 : Nat.beq (0) (GEv.ar 13) = true := (rfl)
theorem ar_14 : Nat.beq (0) (GEv.ar 14) = true := (rfl)
theorem ar_15 : Nat.beq (0 + 1) (GEv.ar 15) = true := (rfl)
theorem ar_16 : Nat.beq (0 + 1 + 1) (GEv.ar 16) = true := (rfl)
theorem ar_17 : Nat.beq (0 + 1 + 1) (GEv.ar 17) = true := (rfl)
theorem ar_18 : Nat.beq (0 + 1) (GEv.ar 18) = true := (rfl)
theorem ar_19 : Nat.beq (0 + 1 + 1) (GEv.ar 19) = true := (rfl)
theorem ar_20 : Nat.beq (0) (GEv.ar 20) = true := (rfl)
theorem ar_21 : Nat.beq (0 + 1) (GEv.ar 21) = true := (rfl)
theorem ar_22 : Nat.beq (0 + 1) (GEv.ar 22) = true := (rfl)
theorem ar_23 : Nat.beq (0 + 1 + 1) (GEv.ar 23) = true := (rfl)
theorem ar_24 : Nat.beq (0 + 1 + 1) (GEv.ar 24) = true := (rfl)
theorem ar_25 : Nat.beq (0 + 1) (GEv.ar 25) = true := (rfl)
def CA (A : Ads) (j : Nat) : Addr := match j with
  | 0 => A.c_WAY_ORDERS
  | 1 => A.c_ALL_WAYS
  | _ => 0
abbrev kt (K : PySem.W.Frag) (w : World) (A : Ads) : KT := ⟨K, w, A.t_law, [A.t_first_refusing, A.t_u_are_all_refused]⟩
section
variable {P : Program} {w : World} {K : PySem.W.Frag} {mg : Str → Option Value} {base : Heap} {A : Ads}
theorem hc (T : Tp K mg base A) : ∀ j, (∃ kvs, GEv.cd j = .dict kvs) ∨ ∃ n, readV (kt K w A).K n (.ref (CA A j)) = some (GEv.cd j) := by
  intro j
  match j with
  | 0 => exact .inr ⟨_, T.r_WAY_ORDERS⟩
  | 1 => exact .inr ⟨_, T.r_ALL_WAYS⟩
  | _ + 2 => exact .inl ⟨[], rfl⟩
structure All (P : Program) (w : World) (K : PySem.W.Frag) (mg : Str → Option Value) (base : Heap) (A : Ads) (n : Nat) : Prop where
  g_keeps : FnG P w K mg base (3 * n) A.a_keeps A.d_keeps ["saying", "placing"] (spE (kt K w A) (runF GEv DD n 0) (GEv.ar 0))
  g_unlike_pairs : FnG P w K mg base (3 * n) A.a_unlike_pairs A.d_unlike_pairs ["n"] (spE (kt K w A) (runF GEv DD n 1) (GEv.ar 1))
  g_ties_of : FnG P w K mg base (3 * n) A.a_ties_of A.d_ties_of ["order"] (spE (kt K w A) (runF GEv DD n 2) (GEv.ar 2))
  g_fullest_sayings : FnG P w K mg base (3 * n) A.a_fullest_sayings A.d_fullest_sayings ["order"] (spE (kt K w A) (runF GEv DD n 3) (GEv.ar 3))
  g_first_refusing : FnG P w K mg base (3 * n) A.a_first_refusing A.d_first_refusing ["sayings", "orders", "order"] (spE (kt K w A) (runF GEv DD n 4) (GEv.ar 4))
  g_way_order : FnG P w K mg base (3 * n) A.a_way_order A.d_way_order ["k"] (spE (kt K w A) (runF GEv DD n 5) (GEv.ar 5))
  g_is_said : FnG P w K mg base (3 * n) A.a_is_said A.d_is_said ["lot"] (spE (kt K w A) (runF GEv DD n 6) (GEv.ar 6))
  g_is_clear : FnG P w K mg base (3 * n) A.a_is_clear A.d_is_clear ["lot"] (spE (kt K w A) (runF GEv DD n 7) (GEv.ar 7))
  g_is_plain : FnG P w K mg base (3 * n) A.a_is_plain A.d_is_plain ["lot"] (spE (kt K w A) (runF GEv DD n 8) (GEv.ar 8))
  g_hull_of_lot : FnG P w K mg base (3 * n) A.a_hull_of_lot A.d_hull_of_lot ["lot"] (spE (kt K w A) (runF GEv DD n 9) (GEv.ar 9))
  g_refusing_saying : FnG P w K mg base (3 * n) A.a_refusing_saying A.d_refusing_saying ["lot", "k"] (spE (kt K w A) (runF GEv DD n 10) (GEv.ar 10))
  g_u_refusing : FnG P w K mg base (3 * n) A.a_u_refusing A.d_u_refusing ["sayings", "lot", "k"] (spE (kt K w A) (runF GEv DD n 11) (GEv.ar 11))
  g_u_are_all_refused : FnG P w K mg base (3 * n) A.a_u_are_all_refused A.d_u_are_all_refused ["sayings", "lot"] (spE (kt K w A) (runF GEv DD n 12) (GEv.ar 12))
  g_u_not_later_sayings : FnG P w K mg base (3 * n) A.a_u_not_later_sayings A.d_u_not_later_sayings [] (spE (kt K w A) (runF GEv DD n 13) (GEv.ar 13))
  g_u_not_at_once_sayings : FnG P w K mg base (3 * n) A.a_u_not_at_once_sayings A.d_u_not_at_once_sayings [] (spE (kt K w A) (runF GEv DD n 14) (GEv.ar 14))
  g_lw_pick : FnG P w K mg base (3 * n) A.a_lw_pick A.d_lw_pick ["source", "many"] (spE (kt K w A) (runF GEv DD n 16) (GEv.ar 16))
  g_lw_of : FnG P w K mg base (3 * n) A.a_lw_of A.d_lw_of ["source", "some"] (spE (kt K w A) (runF GEv DD n 17) (GEv.ar 17))
  g_lw_orders : FnG P w K mg base (3 * n) A.a_lw_orders A.d_lw_orders ["n"] (spE (kt K w A) (runF GEv DD n 18) (GEv.ar 18))
  g_lw_keeps : FnG P w K mg base (3 * n) A.a_lw_keeps A.d_lw_keeps ["saying", "placing"] (spE (kt K w A) (runF GEv DD n 19) (GEv.ar 19))
  g_lw_way_orders : FnG P w K mg base (3 * n) A.a_lw_way_orders A.d_lw_way_orders [] (spE (kt K w A) (runF GEv DD n 20) (GEv.ar 20))
  g_lw_some_lot : FnG P w K mg base (3 * n) A.a_lw_some_lot A.d_lw_some_lot ["source"] (spE (kt K w A) (runF GEv DD n 21) (GEv.ar 21))
  g_lw_four_sayings : FnG P w K mg base (3 * n) A.a_lw_four_sayings A.d_lw_four_sayings ["most"] (spE (kt K w A) (runF GEv DD n 22) (GEv.ar 22))
  g_lw_kept_lots : FnG P w K mg base (3 * n) A.a_lw_kept_lots A.d_lw_kept_lots ["sayings", "orders"] (spE (kt K w A) (runF GEv DD n 23) (GEv.ar 23))
  g_lw_hull_by : FnG P w K mg base (3 * n) A.a_lw_hull_by A.d_lw_hull_by ["lot", "kept"] (spE (kt K w A) (runF GEv DD n 24) (GEv.ar 24))
theorem all0 : All P w K mg base A 0 := ⟨fnG_no rfl, fnG_no rfl, fnG_no rfl, fnG_no rfl, fnG_no rfl, fnG_no rfl, fnG_no rfl, fnG_no rfl, fnG_no rfl, fnG_no rfl, fnG_no rfl, fnG_no rfl, fnG_no rfl, fnG_no rfl, fnG_no rfl, fnG_no rfl, fnG_no rfl, fnG_no rfl, fnG_no rfl, fnG_no rfl, fnG_no rfl, fnG_no rfl, fnG_no rfl, fnG_no rfl⟩
theorem G_keeps_n (T : Tp K mg base A) {n : Nat} (ih : All P w K mg base A n) : FnG P w K mg base (3 * (n + 1)) A.a_keeps A.d_keeps ["saying", "placing"] (spE (kt K w A) (runF GEv DD (n + 1) 0) (GEv.ar 0)) := by
  refine fn_ofC (k := 3 * n + 2) T.F_keeps sc_keeps (fun vs H Q E h => spE_len vs H Q E h) (fun A0 outer s0 H vs Q E hg hr h => ?_)
  refine ⟨_, (pss_cons (ps_asg (pv 0) (pg_any (K := K) rfl rfl (pgs_cons (pg_name (i := 2) sc_keeps.nd rfl (Or.inl rfl)) (pgs_cons (pg_name (i := 3) sc_keeps.nd rfl (Or.inl rfl)) pgs_nil))))
      (pss_cons (ps_for PassesOwn.never rfl (pi_any (K := K) rfl (pv 2)) (pg_any (K := K) rfl rfl (pgs_cons (pg_name (i := 4) sc_keeps.nd rfl (Or.inl rfl)) (pgs_cons (pg_name (i := 5) sc_keeps.nd rfl (Or.inl rfl)) pgs_nil)))
      (pss_one (ps_if (pt_cmpR (ok_ne rfl hr.units65) (pe_or2 (pe_ix (ok_ix (K := K) rfl) (pv 1) (pv 4) (fun _ _ => rfl)) (pe_dget (hu_of hr) (pv 1) (pv 4) (fun _ _ => rfl))) (pe_or2 (pe_ix (ok_ix (K := K) rfl) (pv 1) (pv 5) (fun _ _ => rfl)) (pe_dget (hu_of hr) (pv 1) (pv 5) (fun _ _ => rfl))) (nomark _))
      (pss_one (ps_ret pe_bl))
      pss_nil)))
      (pss_cons (ps_if (pt_cmp (pc_isN (pv 3)))
      (pss_one (ps_ret pe_bl))
      pss_nil)
      (pss_cons (ps_asg (pv 3) (pg_any (K := K) rfl rfl (pgs_cons (pg_name (i := 6) sc_keeps.nd rfl (Or.inl rfl)) (pgs_cons (pg_name (i := 7) sc_keeps.nd rfl (Or.inl rfl)) pgs_nil))))
      (pss_one (ps_ret (pe_cmpR (ok_le rfl hr.units65) (pe_or2 (pe_ix (ok_ix (K := K) rfl) (pv 1) (pv 6) (fun _ _ => rfl)) (pe_dget (hu_of hr) (pv 1) (pv 6) (fun _ _ => rfl))) (pe_or2 (pe_ix (ok_ix (K := K) rfl) (pv 1) (pv 7) (fun _ _ => rfl)) (pe_dget (hu_of hr) (pv 1) (pv 7) (fun _ _ => rfl))) (nomark _)))))))), ?_⟩
  exact body_ok (K := kt K w A) (ca := CA A) (G := GEv) (C := runF GEv DD n) (n := 6) (a := 2) (b := M_keeps) (hc T) (by decide +kernel) h rfl rfl
theorem G_unlike_pairs_n (T : Tp K mg base A) {n : Nat} (ih : All P w K mg base A n) : FnG P w K mg base (3 * (n + 1)) A.a_unlike_pairs A.d_unlike_pairs ["n"] (spE (kt K w A) (runF GEv DD (n + 1) 1) (GEv.ar 1)) := by
  refine fn_ofC (k := 3 * n + 2) T.F_unlike_pairs sc_unlike_pairs (fun vs H Q E h => spE_len vs H Q E h) (fun A0 outer s0 H vs Q E hg hr h => ?_)
  refine ⟨_, (pss_one (ps_ret (lc2_k (pe_lc2 (own := [("u", 1), ("v", 2)]) (vs1 := [2]) (g := gName 1) (tt := tYes) (g1 := gName 2) rfl sc_unlike_pairs.nd (pi_range1 (by rfl) T.z_range (pa_cons (pv 0) pa_nil)) (blkOk_by (N := ["n", "u", "v"]) (sc := defScope s_unlike_pairs) (by decide +kernel)) (by decide) (fun _ _ _ _ _ => (pg_name (i := 1) sc_unlike_pairs.nd rfl (Or.inl rfl))) (fun _ _ _ _ _ => pts_nil) (fun _ _ _ _ _ => (pi_range1 (by rfl) T.z_range (pa_cons (pv 0) pa_nil))) (fun _ _ _ _ _ => (pg_name (i := 2) sc_unlike_pairs.nd rfl (Or.inl rfl))) (fun _ _ _ _ _ => (pts_one (pt_cmpR (ok_ne rfl hr.units65) (pv 1) (pv 2) (nomark _)))) (fun _ _ _ _ _ => (pe_tup (pa_cons (pv 1) (pa_cons (pv 2) pa_nil)))))))), ?_⟩
  exact body_ok (K := kt K w A) (ca := CA A) (G := GEv) (C := runF GEv DD n) (n := 2) (a := 1) (b := M_unlike_pairs) (hc T) (by decide +kernel) h rfl rfl
theorem G_ties_of_n (T : Tp K mg base A) {n : Nat} (ih : All P w K mg base A n) : FnG P w K mg base (3 * (n + 1)) A.a_ties_of A.d_ties_of ["order"] (spE (kt K w A) (runF GEv DD (n + 1) 2) (GEv.ar 2)) := by
  refine fn_ofC (k := 3 * n + 2) T.F_ties_of sc_ties_of (fun vs H Q E h => spE_len vs H Q E h) (fun A0 outer s0 H vs Q E hg hr h => ?_)
  refine ⟨_, (pss_one (ps_ret (pe_callTy (call_tup_k (K := K) rfl) (by rfl) T.z_tuple (by decide +kernel) (pa_cons (pe_lc (own := [("a", 1), ("b", 2)]) (g := gAny K 2 (gCons (gName 1) (gCons (gName 2) (gNil)))) rfl sc_ties_of.nd (pi_any (K := K) rfl (pe_callG (FnG.mono ih.g_unlike_pairs (by omega)) hg hr (by rfl) T.g_unlike_pairs T.F_unlike_pairs.kp T.b_unlike_pairs .nil (pa_cons (pe_callB (call_len_k (K := K) rfl) (by rfl) T.z_len (by decide +kernel) (pa_cons (pv 0) pa_nil)) pa_nil))) (blkOk_by (N := ["order", "a", "b"]) (sc := defScope s_ties_of) (by decide +kernel)) (fun _ _ _ _ _ => (pg_any (K := K) rfl rfl (pgs_cons (pg_name (i := 1) sc_ties_of.nd rfl (Or.inl rfl)) (pgs_cons (pg_name (i := 2) sc_ties_of.nd rfl (Or.inl rfl)) pgs_nil)))) (fun _ _ _ _ _ => (pts_one (PW.pt (pw_and (pt_cmpR (ok_lt rfl hr.units65) (pv 1) (pv 2) (nomark _)) (pw_and1 (pt_cmpR (ok_eq rfl hr.units65) (pe_or2 (pe_ix (ok_ix (K := K) rfl) (pv 0) (pv 1) (fun _ _ => rfl)) (pe_dget (hu_of hr) (pv 0) (pv 1) (fun _ _ => rfl))) (pe_or2 (pe_ix (ok_ix (K := K) rfl) (pv 0) (pv 2) (fun _ _ => rfl)) (pe_dget (hu_of hr) (pv 0) (pv 2) (fun _ _ => rfl))) (nomark _))))))) (fun _ _ _ _ _ => (pe_tup (pa_cons (pv 1) (pa_cons (pv 2) pa_nil))))) pa_nil)))), ?_⟩
  exact body_ok (K := kt K w A) (ca := CA A) (G := GEv) (C := runF GEv DD n) (n := 2) (a := 1) (b := M_ties_of) (hc T) (by decide +kernel) h rfl rfl
theorem G_fullest_sayings_n (T : Tp K mg base A) {n : Nat} (ih : All P w K mg base A n) : FnG P w K mg base (3 * (n + 1)) A.a_fullest_sayings A.d_fullest_sayings ["order"] (spE (kt K w A) (runF GEv DD (n + 1) 3) (GEv.ar 3)) := by
  refine fn_ofC (k := 3 * n + 2) T.F_fullest_sayings sc_fullest_sayings (fun vs H Q E h => spE_len vs H Q E h) (fun A0 outer s0 H vs Q E hg hr h => ?_)
  refine ⟨_, (pss_cons (ps_set (i := 1) sc_fullest_sayings.nd rfl (Or.inr rfl) (pe_callG (FnG.mono ih.g_ties_of (by omega)) hg hr (by rfl) T.g_ties_of T.F_ties_of.kp T.b_ties_of .nil (pa_cons (pv 0) pa_nil)))
      (pss_one (ps_ret (pe_lc (own := [("head", 2)]) (g := gName 2) (tt := tYes) rfl sc_fullest_sayings.nd (pi_any (K := K) rfl (pe_lst (pa_cons pe_non (pa_star_k (K := K) rfl (pe_callG (FnG.mono ih.g_unlike_pairs (by omega)) hg hr (by rfl) T.g_unlike_pairs T.F_unlike_pairs.kp T.b_unlike_pairs .nil (pa_cons (pe_callB (call_len_k (K := K) rfl) (by rfl) T.z_len (by decide +kernel) (pa_cons (pv 0) pa_nil)) pa_nil)) pa_nil)))) (blkOk_by (N := ["order", "ties", "head"]) (sc := defScope s_fullest_sayings) (by decide +kernel)) (fun _ _ _ _ _ => (pg_name (i := 2) sc_fullest_sayings.nd rfl (Or.inl rfl))) (fun _ _ _ _ _ => pts_nil) (fun _ _ _ _ _ => (pe_tup (pa_cons (pv 1) (pa_cons (pv 2) pa_nil)))))))), ?_⟩
  exact body_ok (K := kt K w A) (ca := CA A) (G := GEv) (C := runF GEv DD n) (n := 2) (a := 1) (b := M_fullest_sayings) (hc T) (by decide +kernel) h rfl rfl
theorem G_first_refusing_n (T : Tp K mg base A) {n : Nat} (ih : All P w K mg base A n) : FnG P w K mg base (3 * (n + 1)) A.a_first_refusing A.d_first_refusing ["sayings", "orders", "order"] (spE (kt K w A) (runF GEv DD (n + 1) 4) (GEv.ar 4)) := by
  refine fn_ofC (k := 3 * n + 2) T.F_first_refusing sc_first_refusing (fun vs H Q E h => spE_len vs H Q E h) (fun A0 outer s0 H vs Q E hg hr h => ?_)
  refine ⟨_, (pss_cons (ps_for PassesOwn.never rfl (pi_any (K := K) rfl (pv 0)) (pg_name (i := 3) sc_first_refusing.nd rfl (Or.inr rfl))
      (pss_one (ps_if (PW.pt (pw_and (pt_not (pt_k (K := K) (f := fun K => tTru K _) rfl (pt_truth (pe_callG (FnG.mono ih.g_keeps (by omega)) hg hr (by rfl) T.g_keeps T.F_keeps.kp T.b_keeps .nil (pa_cons (pv 3) (pa_cons (pv 2) pa_nil))) (by intro _; rfl)))) (pw_and1 (pt_k (K := K) (f := fun K => tTru K _) rfl (pt_truth (Gx.pe_all (own := [("one", 4)]) (g := gName 4) (tt := tYes) rfl hr sc_first_refusing.nd (by rfl) T.z_all T.T_first_refusing rfl (Gx.gscope_by (N := ["sayings", "orders", "order", "saying", "one"]) (sc := defScope s_first_refusing) (by decide +kernel)) (pi_any (K := K) rfl (pv 1)) (fun _ _ _ _ _ _ => (pg_name (i := 4) sc_first_refusing.nd rfl (Or.inl rfl))) (fun _ _ _ _ _ _ => pts_nil) (fun _ _ _ _ _ _ => (pe_callG (FnG.mono ih.g_keeps (by omega)) hg (Gx.roomG hr) (by rfl) T.g_keeps T.F_keeps.kp T.b_keeps .nil (pa_cons (pv 3) (pa_cons (pv 4) pa_nil))))) (by intro _; rfl))))))
      (pss_one (ps_ret (pv 3)))
      pss_nil)))
      (pss_one (ps_ret pe_non))), ?_⟩
  exact body_ok (K := kt K w A) (ca := CA A) (G := GEv) (C := runF GEv DD n) (n := 2) (a := 3) (b := M_first_refusing) (hc T) (by decide +kernel) h rfl rfl
theorem G_way_order_n (T : Tp K mg base A) {n : Nat} (ih : All P w K mg base A n) : FnG P w K mg base (3 * (n + 1)) A.a_way_order A.d_way_order ["k"] (spE (kt K w A) (runF GEv DD (n + 1) 5) (GEv.ar 5)) := by
  refine fn_ofC (k := 3 * n + 2) T.F_way_order sc_way_order (fun vs H Q E h => spE_len vs H Q E h) (fun A0 outer s0 H vs Q E hg hr h => ?_)
  refine ⟨_, (pss_one (ps_ret (pe_ix (ok_ix (K := K) rfl) (pe_const rfl T.e_WAY_ORDERS) (pv 0) (fun _ _ => rfl)))), ?_⟩
  exact body_ok (K := kt K w A) (ca := CA A) (G := GEv) (C := runF GEv DD n) (n := 0) (a := 1) (b := M_way_order) (hc T) (by decide +kernel) h rfl rfl
theorem G_is_said_n (T : Tp K mg base A) {n : Nat} (ih : All P w K mg base A n) : FnG P w K mg base (3 * (n + 1)) A.a_is_said A.d_is_said ["lot"] (spE (kt K w A) (runF GEv DD (n + 1) 6) (GEv.ar 6)) := by
  refine fn_ofC (k := 3 * n + 2) T.F_is_said sc_is_said (fun vs H Q E h => spE_len vs H Q E h) (fun A0 outer s0 H vs Q E hg hr h => ?_)
  refine ⟨_, (pss_one (ps_ret (pe_cmpR (ok_eq rfl hr.units65) (pe_callG (FnG.mono ih.g_hull_of_lot (by omega)) hg hr (by rfl) T.g_hull_of_lot T.F_hull_of_lot.kp T.b_hull_of_lot .nil (pa_cons (pv 0) pa_nil)) (pv 0) (nomark _)))), ?_⟩
  exact body_ok (K := kt K w A) (ca := CA A) (G := GEv) (C := runF GEv DD n) (n := 0) (a := 1) (b := M_is_said) (hc T) (by decide +kernel) h rfl rfl
theorem G_is_clear_n (T : Tp K mg base A) {n : Nat} (ih : All P w K mg base A n) : FnG P w K mg base (3 * (n + 1)) A.a_is_clear A.d_is_clear ["lot"] (spE (kt K w A) (runF GEv DD (n + 1) 7) (GEv.ar 7)) := by
  refine fn_ofC (k := 3 * n + 2) T.F_is_clear sc_is_clear (fun vs H Q E h => spE_len vs H Q E h) (fun A0 outer s0 H vs Q E hg hr h => ?_)
  refine ⟨_, (pss_one (ps_ret (pe_callG (FnG.mono ih.g_u_are_all_refused (by omega)) hg hr (by rfl) T.g_u_are_all_refused T.F_u_are_all_refused.kp T.b_u_are_all_refused .nil (pa_cons (pe_op (ok_add rfl) (pe_callG0 (FnG.mono ih.g_u_not_later_sayings (by omega)) hg hr (by rfl) T.g_u_not_later_sayings T.F_u_not_later_sayings.kp T.b_u_not_later_sayings .nil) (pe_callG0 (FnG.mono ih.g_u_not_at_once_sayings (by omega)) hg hr (by rfl) T.g_u_not_at_once_sayings T.F_u_not_at_once_sayings.kp T.b_u_not_at_once_sayings .nil)) (pa_cons (pv 0) pa_nil))))), ?_⟩
  exact body_ok (K := kt K w A) (ca := CA A) (G := GEv) (C := runF GEv DD n) (n := 0) (a := 1) (b := M_is_clear) (hc T) (by decide +kernel) h rfl rfl
theorem G_is_plain_n (T : Tp K mg base A) {n : Nat} (ih : All P w K mg base A n) : FnG P w K mg base (3 * (n + 1)) A.a_is_plain A.d_is_plain ["lot"] (spE (kt K w A) (runF GEv DD (n + 1) 8) (GEv.ar 8)) := by
  refine fn_ofC (k := 3 * n + 2) T.F_is_plain sc_is_plain (fun vs H Q E h => spE_len vs H Q E h) (fun A0 outer s0 H vs Q E hg hr h => ?_)
  refine ⟨_, (pss_one (ps_ret (pe_callG (FnG.mono ih.g_u_are_all_refused (by omega)) hg hr (by rfl) T.g_u_are_all_refused T.F_u_are_all_refused.kp T.b_u_are_all_refused .nil (pa_cons (pe_callG0 (FnG.mono ih.g_u_not_later_sayings (by omega)) hg hr (by rfl) T.g_u_not_later_sayings T.F_u_not_later_sayings.kp T.b_u_not_later_sayings .nil) (pa_cons (pv 0) pa_nil))))), ?_⟩
  exact body_ok (K := kt K w A) (ca := CA A) (G := GEv) (C := runF GEv DD n) (n := 0) (a := 1) (b := M_is_plain) (hc T) (by decide +kernel) h rfl rfl
theorem G_hull_of_lot_n (T : Tp K mg base A) {n : Nat} (ih : All P w K mg base A n) : FnG P w K mg base (3 * (n + 1)) A.a_hull_of_lot A.d_hull_of_lot ["lot"] (spE (kt K w A) (runF GEv DD (n + 1) 9) (GEv.ar 9)) := by
  refine fn_ofC (k := 3 * n + 2) T.F_hull_of_lot sc_hull_of_lot (fun vs H Q E h => spE_len vs H Q E h) (fun A0 outer s0 H vs Q E hg hr h => ?_)
  refine ⟨_, (pss_one (ps_ret (pe_callTy (call_tup_k (K := K) rfl) (by rfl) T.z_tuple (by decide +kernel) (pa_cons (pe_lc (own := [("k", 1)]) (g := gName 1) rfl sc_hull_of_lot.nd (pi_any (K := K) rfl (pe_const rfl T.e_ALL_WAYS)) (blkOk_by (N := ["lot", "k"]) (sc := defScope s_hull_of_lot) (by decide +kernel)) (fun _ _ _ _ _ => (pg_name (i := 1) sc_hull_of_lot.nd rfl (Or.inl rfl))) (fun _ _ _ _ _ => (pts_one (pt_cmp (pc_isN (pe_callG (FnG.mono ih.g_refusing_saying (by omega)) hg hr (by rfl) T.g_refusing_saying T.F_refusing_saying.kp T.b_refusing_saying .nil (pa_cons (pv 0) (pa_cons (pv 1) pa_nil))))))) (fun _ _ _ _ _ => (pv 1))) pa_nil)))), ?_⟩
  exact body_ok (K := kt K w A) (ca := CA A) (G := GEv) (C := runF GEv DD n) (n := 1) (a := 1) (b := M_hull_of_lot) (hc T) (by decide +kernel) h rfl rfl
theorem G_refusing_saying_n (T : Tp K mg base A) {n : Nat} (ih : All P w K mg base A n) : FnG P w K mg base (3 * (n + 1)) A.a_refusing_saying A.d_refusing_saying ["lot", "k"] (spE (kt K w A) (runF GEv DD (n + 1) 10) (GEv.ar 10)) := by
  refine fn_ofC (k := 3 * n + 2) T.F_refusing_saying sc_refusing_saying (fun vs H Q E h => spE_len vs H Q E h) (fun A0 outer s0 H vs Q E hg hr h => ?_)
  refine ⟨_, (pss_one (ps_ret (pe_callG (FnG.mono ih.g_u_refusing (by omega)) hg hr (by rfl) T.g_u_refusing T.F_u_refusing.kp T.b_u_refusing .nil (pa_cons (pe_callG (FnG.mono ih.g_fullest_sayings (by omega)) hg hr (by rfl) T.g_fullest_sayings T.F_fullest_sayings.kp T.b_fullest_sayings .nil (pa_cons (pe_callG (FnG.mono ih.g_way_order (by omega)) hg hr (by rfl) T.g_way_order T.F_way_order.kp T.b_way_order .nil (pa_cons (pv 1) pa_nil)) pa_nil)) (pa_cons (pv 0) (pa_cons (pv 1) pa_nil)))))), ?_⟩
  exact body_ok (K := kt K w A) (ca := CA A) (G := GEv) (C := runF GEv DD n) (n := 0) (a := 2) (b := M_refusing_saying) (hc T) (by decide +kernel) h rfl rfl
theorem G_u_refusing_n (T : Tp K mg base A) {n : Nat} (ih : All P w K mg base A n) : FnG P w K mg base (3 * (n + 1)) A.a_u_refusing A.d_u_refusing ["sayings", "lot", "k"] (spE (kt K w A) (runF GEv DD (n + 1) 11) (GEv.ar 11)) := by
  refine fn_ofC (k := 3 * n + 2) T.F_u_refusing sc_u_refusing (fun vs H Q E h => spE_len vs H Q E h) (fun A0 outer s0 H vs Q E hg hr h => ?_)
  refine ⟨_, (pss_one (ps_ret (pe_callG (FnG.mono ih.g_first_refusing (by omega)) hg hr (by rfl) T.g_first_refusing T.F_first_refusing.kp T.b_first_refusing .nil (pa_cons (pv 0) (pa_cons (pe_lc (own := [("one", 3)]) (g := gName 3) (tt := tYes) rfl sc_u_refusing.nd (pi_any (K := K) rfl (pv 1)) (blkOk_by (N := ["sayings", "lot", "k", "one"]) (sc := defScope s_u_refusing) (by decide +kernel)) (fun _ _ _ _ _ => (pg_name (i := 3) sc_u_refusing.nd rfl (Or.inl rfl))) (fun _ _ _ _ _ => pts_nil) (fun _ _ _ _ _ => (pe_callG (FnG.mono ih.g_way_order (by omega)) hg hr (by rfl) T.g_way_order T.F_way_order.kp T.b_way_order .nil (pa_cons (pv 3) pa_nil)))) (pa_cons (pe_callG (FnG.mono ih.g_way_order (by omega)) hg hr (by rfl) T.g_way_order T.F_way_order.kp T.b_way_order .nil (pa_cons (pv 2) pa_nil)) pa_nil)))))), ?_⟩
  exact body_ok (K := kt K w A) (ca := CA A) (G := GEv) (C := runF GEv DD n) (n := 1) (a := 3) (b := M_u_refusing) (hc T) (by decide +kernel) h rfl rfl
theorem G_u_are_all_refused_n (T : Tp K mg base A) {n : Nat} (ih : All P w K mg base A n) : FnG P w K mg base (3 * (n + 1)) A.a_u_are_all_refused A.d_u_are_all_refused ["sayings", "lot"] (spE (kt K w A) (runF GEv DD (n + 1) 12) (GEv.ar 12)) := by
  refine fn_ofC (k := 3 * n + 2) T.F_u_are_all_refused sc_u_are_all_refused (fun vs H Q E h => spE_len vs H Q E h) (fun A0 outer s0 H vs Q E hg hr h => ?_)
  refine ⟨_, (pss_one (ps_ret (Gx.pe_all (own := [("k", 2)]) (g := gName 2) (tt := tYes) rfl hr sc_u_are_all_refused.nd (by rfl) T.z_all T.T_u_are_all_refused rfl (Gx.gscope_by (N := ["sayings", "lot", "k"]) (sc := defScope s_u_are_all_refused) (by decide +kernel)) (pi_any (K := K) rfl (pe_const rfl T.e_ALL_WAYS)) (fun _ _ _ _ _ _ => (pg_name (i := 2) sc_u_are_all_refused.nd rfl (Or.inl rfl))) (fun _ _ _ _ _ _ => pts_nil) (fun _ _ _ _ _ _ => (pe_k (K := K) (f := fun K => tOrT K _ _) rfl (pe_orT (pe_cmpR (ok_in rfl (Gx.roomG hr).units65) (pv 2) (pv 1) (by rfl)) (pe_one (pe_cmp (pc_notN (pe_callG (FnG.mono ih.g_u_refusing (by omega)) hg (Gx.roomG hr) (by rfl) T.g_u_refusing T.F_u_refusing.kp T.b_u_refusing .nil (pa_cons (pv 0) (pa_cons (pv 1) (pa_cons (pv 2) pa_nil))))))))))))), ?_⟩
  exact body_ok (K := kt K w A) (ca := CA A) (G := GEv) (C := runF GEv DD n) (n := 1) (a := 2) (b := M_u_are_all_refused) (hc T) (by decide +kernel) h rfl rfl
theorem G_u_not_later_sayings_n (T : Tp K mg base A) {n : Nat} (ih : All P w K mg base A n) : FnG P w K mg base (3 * (n + 1)) A.a_u_not_later_sayings A.d_u_not_later_sayings [] (spE (kt K w A) (runF GEv DD (n + 1) 13) (GEv.ar 13)) := by
  refine fn_ofC (k := 3 * n + 2) T.F_u_not_later_sayings sc_u_not_later_sayings (fun vs H Q E h => spE_len vs H Q E h) (fun A0 outer s0 H vs Q E hg hr h => ?_)
  refine ⟨_, (pss_one (ps_ret (pe_lc (own := [("pair", 0)]) (g := gName 0) (tt := tYes) rfl sc_u_not_later_sayings.nd (pi_any (K := K) rfl (pe_callG (FnG.mono ih.g_unlike_pairs (by omega)) hg hr (by rfl) T.g_unlike_pairs T.F_unlike_pairs.kp T.b_unlike_pairs .nil (pa_cons pe_int pa_nil))) (blkOk_by (N := ["pair"]) (sc := defScope s_u_not_later_sayings) (by decide +kernel)) (fun _ _ _ _ _ => (pg_name (i := 0) sc_u_not_later_sayings.nd rfl (Or.inl rfl))) (fun _ _ _ _ _ => pts_nil) (fun _ _ _ _ _ => (pe_tup (pa_cons (pe_tup pa_nil) (pa_cons (pv 0) pa_nil))))))), ?_⟩
  exact body_ok (K := kt K w A) (ca := CA A) (G := GEv) (C := runF GEv DD n) (n := 1) (a := 0) (b := M_u_not_later_sayings) (hc T) (by decide +kernel) h rfl rfl
theorem G_u_not_at_once_sayings_n (T : Tp K mg base A) {n : Nat} (ih : All P w K mg base A n) : FnG P w K mg base (3 * (n + 1)) A.a_u_not_at_once_sayings A.d_u_not_at_once_sayings [] (spE (kt K w A) (runF GEv DD (n + 1) 14) (GEv.ar 14)) := by
  refine fn_ofC (k := 3 * n + 2) T.F_u_not_at_once_sayings sc_u_not_at_once_sayings (fun vs H Q E h => spE_len vs H Q E h) (fun A0 outer s0 H vs Q E hg hr h => ?_)
  refine ⟨_, (pss_one (ps_ret (pe_lc (own := [("pair", 0)]) (g := gName 0) rfl sc_u_not_at_once_sayings.nd (pi_any (K := K) rfl (pe_callG (FnG.mono ih.g_unlike_pairs (by omega)) hg hr (by rfl) T.g_unlike_pairs T.F_unlike_pairs.kp T.b_unlike_pairs .nil (pa_cons pe_int pa_nil))) (blkOk_by (N := ["pair"]) (sc := defScope s_u_not_at_once_sayings) (by decide +kernel)) (fun _ _ _ _ _ => (pg_name (i := 0) sc_u_not_at_once_sayings.nd rfl (Or.inl rfl))) (fun _ _ _ _ _ => (pts_one (pt_cmpR (ok_lt rfl hr.units65) (pe_or2 (pe_ix (ok_ix (K := K) rfl) (pv 0) pe_int (fun _ _ => rfl)) (pe_dget (hu_of hr) (pv 0) pe_int (fun _ _ => rfl))) (pe_or2 (pe_ix (ok_ix (K := K) rfl) (pv 0) pe_int (fun _ _ => rfl)) (pe_dget (hu_of hr) (pv 0) pe_int (fun _ _ => rfl))) (nomark _)))) (fun _ _ _ _ _ => (pe_tup (pa_cons (pe_tup (pa_cons (pv 0) pa_nil)) (pa_cons pe_non pa_nil))))))), ?_⟩
  exact body_ok (K := kt K w A) (ca := CA A) (G := GEv) (C := runF GEv DD n) (n := 1) (a := 0) (b := M_u_not_at_once_sayings) (hc T) (by decide +kernel) h rfl rfl
theorem G_lw_pick_n (T : Tp K mg base A) {n : Nat} (ih : All P w K mg base A n) : FnG P w K mg base (3 * (n + 1)) A.a_lw_pick A.d_lw_pick ["source", "many"] (spE (kt K w A) (runF GEv DD (n + 1) 16) (GEv.ar 16)) :=
  FnG.mono (pick_of (KK := kt K w A) (G_lw_pick T) fun _ _ h => h) (by omega)
theorem G_lw_of_n (T : Tp K mg base A) {n : Nat} (ih : All P w K mg base A n) : FnG P w K mg base (3 * (n + 1)) A.a_lw_of A.d_lw_of ["source", "some"] (spE (kt K w A) (runF GEv DD (n + 1) 17) (GEv.ar 17)) := by
  refine fn_ofC (k := 3 * n + 2) T.F_lw_of sc_lw_of (fun vs H Q E h => spE_len vs H Q E h) (fun A0 outer s0 H vs Q E hg hr h => ?_)
  refine ⟨_, (pss_one (ps_ret (pe_or2 (pe_ix (ok_ix (K := K) rfl) (pv 1) (pe_callG (FnG.mono ih.g_lw_pick (by omega)) hg hr (by rfl) T.g_lw_pick T.F_lw_pick.kp T.b_lw_pick .nil (pa_cons (pv 0) (pa_cons (pe_callB (call_len_k (K := K) rfl) (by rfl) T.z_len (by decide +kernel) (pa_cons (pv 1) pa_nil)) pa_nil))) (fun _ _ => rfl)) (pe_dget (hu_of hr) (pv 1) (pe_callG (FnG.mono ih.g_lw_pick (by omega)) hg hr (by rfl) T.g_lw_pick T.F_lw_pick.kp T.b_lw_pick .nil (pa_cons (pv 0) (pa_cons (pe_callB (call_len_k (K := K) rfl) (by rfl) T.z_len (by decide +kernel) (pa_cons (pv 1) pa_nil)) pa_nil))) (fun _ _ => rfl))))), ?_⟩
  exact body_ok (K := kt K w A) (ca := CA A) (G := GEv) (C := runF GEv DD n) (n := 0) (a := 2) (b := M_lw_of) (hc T) (by decide +kernel) h rfl rfl
theorem G_lw_orders_n (T : Tp K mg base A) {n : Nat} (ih : All P w K mg base A n) : FnG P w K mg base (3 * (n + 1)) A.a_lw_orders A.d_lw_orders ["n"] (spE (kt K w A) (runF GEv DD (n + 1) 18) (GEv.ar 18)) := by
  refine fn_ofC (k := 3 * n + 2) T.F_lw_orders sc_lw_orders (fun vs H Q E h => spE_len vs H Q E h) (fun A0 outer s0 H vs Q E hg hr h => ?_)
  refine ⟨_, (pss_cons (ps_set (i := 1) sc_lw_orders.nd rfl (Or.inl rfl) (pe_lst (pa_cons (pe_tup pa_nil) pa_nil)))
      (pss_cons (ps_for PassesOwn.never rfl (pi_range1 (by rfl) T.z_range (pa_cons (pv 0) pa_nil)) (pg_name (i := 2) sc_lw_orders.nd rfl (Or.inl rfl))
      (pss_cons (ps_set (i := 3) sc_lw_orders.nd rfl (Or.inl rfl) (pe_lst pa_nil))
      (pss_cons (ps_for PassesOwn.never rfl (pi_any (K := K) rfl (pv 1)) (pg_name (i := 4) sc_lw_orders.nd rfl (Or.inr rfl))
      (pss_cons (ps_set (i := 5) sc_lw_orders.nd rfl (Or.inl rfl) (pe_op (ok_add rfl) pe_int (pe_callB (cr_max1 (K := K) rfl rfl hr.units65) (by rfl) T.z_max (by decide +kernel) (pa_cons (pe_op (ok_add rfl) (pe_lst (pa_cons (pe_un un_neg pe_int) pa_nil)) (pe_callTy (call_list_k (K := K) rfl) (by rfl) T.z_list (by decide +kernel) (pa_cons (pv 4) pa_nil))) pa_nil))))
      (pss_cons (ps_set (i := 3) sc_lw_orders.nd rfl (Or.inl rfl) (pe_op (ok_add rfl) (pv 3) (pe_lc (own := [("level", 7)]) (g := gName 7) (tt := tYes) rfl sc_lw_orders.nd (pi_range1 (by rfl) T.z_range (pa_cons (pv 5) pa_nil)) (blkOk_by (N := ["n", "found", "lap", "later", "order", "levels", "gap", "level", "one"]) (sc := defScope s_lw_orders) (by decide +kernel)) (fun _ _ _ _ _ => (pg_name (i := 7) sc_lw_orders.nd rfl (Or.inl rfl))) (fun _ _ _ _ _ => pts_nil) (fun _ _ _ _ _ => (pe_op (ok_add rfl) (pv 4) (pe_tup (pa_cons (pv 7) pa_nil)))))))
      (pss_one (ps_for PassesOwn.never rfl (pi_range1 (by rfl) T.z_range (pa_cons (pe_op (ok_add rfl) (pv 5) pe_int) pa_nil)) (pg_name (i := 6) sc_lw_orders.nd rfl (Or.inr rfl))
      (pss_one (ps_expr (pe_k (K := K) (f := fun K => tBM K "list" _ _ _) rfl (pe_bm PySem.F.plainAttrs_list PySem.F.slot_list_append PySem.F.type_list_append mt_append (pv 3) (pa_cons (pe_op (ok_add rfl) (pe_callTy (call_tup_k (K := K) rfl) (by rfl) T.z_tuple (by decide +kernel) (pa_cons (pe_lc (own := [("one", 8)]) (g := gName 8) (tt := tYes) rfl sc_lw_orders.nd (pi_any (K := K) rfl (pv 4)) (blkOk_by (N := ["n", "found", "lap", "later", "order", "levels", "gap", "level", "one"]) (sc := defScope s_lw_orders) (by decide +kernel)) (fun _ _ _ _ _ => (pg_name (i := 8) sc_lw_orders.nd rfl (Or.inl rfl))) (fun _ _ _ _ _ => pts_nil) (fun _ _ _ _ _ => (pe_op (ok_add rfl) (pv 8) (pe_callTy call_int1 (by rfl) T.z_int (by decide +kernel) (pa_cons (pe_cmpR (ok_ge rfl hr.units65) (pv 8) (pv 6) (nomark _)) pa_nil))))) pa_nil)) (pe_tup (pa_cons (pv 6) pa_nil))) pa_nil))))))))))
      (pss_one (ps_set (i := 1) sc_lw_orders.nd rfl (Or.inl rfl) (pv 3))))))
      (pss_one (ps_ret (pe_callB (cr_sortedA (K := K) rfl hr.units65) (by rfl) T.z_sorted (by decide +kernel) (pa_cons (pv 1) pa_nil)))))), ?_⟩
  exact body_ok (K := kt K w A) (ca := CA A) (G := GEv) (C := runF GEv DD n) (n := 8) (a := 1) (b := M_lw_orders) (hc T) (by decide +kernel) h rfl rfl
theorem G_lw_keeps_n (T : Tp K mg base A) {n : Nat} (ih : All P w K mg base A n) : FnG P w K mg base (3 * (n + 1)) A.a_lw_keeps A.d_lw_keeps ["saying", "placing"] (spE (kt K w A) (runF GEv DD (n + 1) 19) (GEv.ar 19)) := by
  refine fn_ofC (k := 3 * n + 2) T.F_lw_keeps sc_lw_keeps (fun vs H Q E h => spE_len vs H Q E h) (fun A0 outer s0 H vs Q E hg hr h => ?_)
  refine ⟨_, (pss_cons (ps_asg (pv 0) (pg_any (K := K) rfl rfl (pgs_cons (pg_name (i := 2) sc_lw_keeps.nd rfl (Or.inl rfl)) (pgs_cons (pg_name (i := 3) sc_lw_keeps.nd rfl (Or.inl rfl)) pgs_nil))))
      (pss_cons (ps_if (pt_cmpR (ok_ne rfl hr.units65) (pe_lc (own := [("a", 4), ("b", 5)]) (g := gAny K 2 (gCons (gName 4) (gCons (gName 5) (gNil)))) rfl sc_lw_keeps.nd (pi_any (K := K) rfl (pv 2)) (blkOk_by (N := ["saying", "placing", "ties", "head", "a", "b"]) (sc := defScope s_lw_keeps) (by decide +kernel)) (fun _ _ _ _ _ => (pg_any (K := K) rfl rfl (pgs_cons (pg_name (i := 4) sc_lw_keeps.nd rfl (Or.inl rfl)) (pgs_cons (pg_name (i := 5) sc_lw_keeps.nd rfl (Or.inl rfl)) pgs_nil)))) (fun _ _ _ _ _ => (pts_one (pt_cmpR (ok_ne rfl hr.units65) (pe_or2 (pe_ix (ok_ix (K := K) rfl) (pv 1) (pv 4) (fun _ _ => rfl)) (pe_dget (hu_of hr) (pv 1) (pv 4) (fun _ _ => rfl))) (pe_or2 (pe_ix (ok_ix (K := K) rfl) (pv 1) (pv 5) (fun _ _ => rfl)) (pe_dget (hu_of hr) (pv 1) (pv 5) (fun _ _ => rfl))) (nomark _)))) (fun _ _ _ _ _ => pe_int)) (pe_lst pa_nil) (nomark _))
      (pss_one (ps_ret pe_bl))
      pss_nil)
      (pss_one (ps_ret (pe_k (K := K) (f := fun K => tAndT K _ _) rfl (pe_andT (pe_cmp (pc_notN (pv 3))) (pe_one (pe_cmpR (ok_le rfl hr.units65) (pe_or2 (pe_ix (ok_ix (K := K) rfl) (pv 1) (pe_or2 (pe_ix (ok_ix (K := K) rfl) (pv 3) pe_int (fun _ _ => rfl)) (pe_dget (hu_of hr) (pv 3) pe_int (fun _ _ => rfl))) (fun _ _ => rfl)) (pe_dget (hu_of hr) (pv 1) (pe_or2 (pe_ix (ok_ix (K := K) rfl) (pv 3) pe_int (fun _ _ => rfl)) (pe_dget (hu_of hr) (pv 3) pe_int (fun _ _ => rfl))) (fun _ _ => rfl))) (pe_or2 (pe_ix (ok_ix (K := K) rfl) (pv 1) (pe_or2 (pe_ix (ok_ix (K := K) rfl) (pv 3) pe_int (fun _ _ => rfl)) (pe_dget (hu_of hr) (pv 3) pe_int (fun _ _ => rfl))) (fun _ _ => rfl)) (pe_dget (hu_of hr) (pv 1) (pe_or2 (pe_ix (ok_ix (K := K) rfl) (pv 3) pe_int (fun _ _ => rfl)) (pe_dget (hu_of hr) (pv 3) pe_int (fun _ _ => rfl))) (fun _ _ => rfl))) (nomark _))))))))), ?_⟩
  exact body_ok (K := kt K w A) (ca := CA A) (G := GEv) (C := runF GEv DD n) (n := 4) (a := 2) (b := M_lw_keeps) (hc T) (by decide +kernel) h rfl rfl
theorem G_lw_way_orders_n (T : Tp K mg base A) {n : Nat} (ih : All P w K mg base A n) : FnG P w K mg base (3 * (n + 1)) A.a_lw_way_orders A.d_lw_way_orders [] (spE (kt K w A) (runF GEv DD (n + 1) 20) (GEv.ar 20)) := by
  refine fn_ofC (k := 3 * n + 2) T.F_lw_way_orders sc_lw_way_orders (fun vs H Q E h => spE_len vs H Q E h) (fun A0 outer s0 H vs Q E hg hr h => ?_)
  refine ⟨_, (pss_one (ps_ret (pe_lc (own := [("order", 0)]) (g := gName 0) rfl sc_lw_way_orders.nd (pi_any (K := K) rfl (pe_callG (FnG.mono ih.g_lw_orders (by omega)) hg hr (by rfl) T.g_lw_orders T.F_lw_orders.kp T.b_lw_orders .nil (pa_cons pe_int pa_nil))) (blkOk_by (N := ["order"]) (sc := defScope s_lw_way_orders) (by decide +kernel)) (fun _ _ _ _ _ => (pg_name (i := 0) sc_lw_way_orders.nd rfl (Or.inl rfl))) (fun _ _ _ _ _ => (pts_one (PW.pt (pw_and (pt_cmpR (ok_lt rfl hr.units65) (pe_or2 (pe_ix (ok_ix (K := K) rfl) (pv 0) pe_int (fun _ _ => rfl)) (pe_dget (hu_of hr) (pv 0) pe_int (fun _ _ => rfl))) (pe_or2 (pe_ix (ok_ix (K := K) rfl) (pv 0) pe_int (fun _ _ => rfl)) (pe_dget (hu_of hr) (pv 0) pe_int (fun _ _ => rfl))) (nomark _)) (pw_and1 (pt_cmpR (ok_lt rfl hr.units65) (pe_or2 (pe_ix (ok_ix (K := K) rfl) (pv 0) pe_int (fun _ _ => rfl)) (pe_dget (hu_of hr) (pv 0) pe_int (fun _ _ => rfl))) (pe_or2 (pe_ix (ok_ix (K := K) rfl) (pv 0) pe_int (fun _ _ => rfl)) (pe_dget (hu_of hr) (pv 0) pe_int (fun _ _ => rfl))) (nomark _))))))) (fun _ _ _ _ _ => (pv 0))))), ?_⟩
  exact body_ok (K := kt K w A) (ca := CA A) (G := GEv) (C := runF GEv DD n) (n := 1) (a := 0) (b := M_lw_way_orders) (hc T) (by decide +kernel) h rfl rfl
theorem G_lw_some_lot_n (T : Tp K mg base A) {n : Nat} (ih : All P w K mg base A n) : FnG P w K mg base (3 * (n + 1)) A.a_lw_some_lot A.d_lw_some_lot ["source"] (spE (kt K w A) (runF GEv DD (n + 1) 21) (GEv.ar 21)) := by
  refine fn_ofC (k := 3 * n + 2) T.F_lw_some_lot sc_lw_some_lot (fun vs H Q E h => spE_len vs H Q E h) (fun A0 outer s0 H vs Q E hg hr h => ?_)
  refine ⟨_, (pss_cons (ps_set (i := 1) sc_lw_some_lot.nd rfl (Or.inr rfl) (pe_callG (FnG.mono ih.g_lw_of (by omega)) hg hr (by rfl) T.g_lw_of T.F_lw_of.kp T.b_lw_of .nil (pa_cons (pv 0) (pa_cons (pe_lst (pa_cons pe_int (pa_cons pe_int (pa_cons pe_int (pa_cons pe_int (pa_cons pe_int pa_nil)))))) pa_nil))))
      (pss_cons (ps_setLc (i := 2) (own := [("k", 3)]) (g := gName 3) rfl sc_lw_some_lot.nd rfl rfl (sw_true rfl rfl rfl (by decide +kernel)) (pi_range1 (by rfl) T.z_range (pa_cons pe_int pa_nil)) (blkOk_by (N := ["source", "seldom", "lot", "k"]) (sc := defScope s_lw_some_lot) (by decide +kernel)) (fun _ _ _ _ _ => (pg_name (i := 3) sc_lw_some_lot.nd rfl (Or.inl rfl))) (fun _ _ _ _ _ => (pts_one (pt_cmpR (ok_eq rfl hr.units65) (pe_callG (FnG.mono ih.g_lw_pick (by omega)) hg hr (by rfl) T.g_lw_pick T.F_lw_pick.kp T.b_lw_pick .nil (pa_cons (pv 0) (pa_cons (pv 1) pa_nil))) pe_int (nomark _)))) (fun _ _ _ _ _ => (pv 3)))
      (pss_one (ps_ret (pe_ifExp (PW.pt (pw_and (pt_cmpR (ok_eq rfl hr.units65) (pv 2) (pe_lst pa_nil) (nomark _)) (pw_and1 (pt_cmpR (ok_gt rfl hr.units65) (pe_callG (FnG.mono ih.g_lw_pick (by omega)) hg hr (by rfl) T.g_lw_pick T.F_lw_pick.kp T.b_lw_pick .nil (pa_cons (pv 0) (pa_cons pe_int pa_nil))) pe_int (nomark _))))) (pe_callTy (call_tup_k (K := K) rfl) (by rfl) T.z_tuple (by decide +kernel) (pa_cons (pe_lst (pa_cons (pe_callG (FnG.mono ih.g_lw_pick (by omega)) hg hr (by rfl) T.g_lw_pick T.F_lw_pick.kp T.b_lw_pick .nil (pa_cons (pv 0) (pa_cons pe_int pa_nil))) pa_nil)) pa_nil)) (pe_callTy (call_tup_k (K := K) rfl) (by rfl) T.z_tuple (by decide +kernel) (pa_cons (pv 2) pa_nil))))))), ?_⟩
  exact body_ok (K := kt K w A) (ca := CA A) (G := GEv) (C := runF GEv DD n) (n := 3) (a := 1) (b := M_lw_some_lot) (hc T) (by decide +kernel) h rfl rfl
theorem G_lw_four_sayings_n (T : Tp K mg base A) {n : Nat} (ih : All P w K mg base A n) : FnG P w K mg base (3 * (n + 1)) A.a_lw_four_sayings A.d_lw_four_sayings ["most"] (spE (kt K w A) (runF GEv DD (n + 1) 22) (GEv.ar 22)) := by
  refine fn_ofC (k := 3 * n + 2) T.F_lw_four_sayings sc_lw_four_sayings (fun vs H Q E h => spE_len vs H Q E h) (fun A0 outer s0 H vs Q E hg hr h => ?_)
  refine ⟨_, (pss_cons (ps_par (i := 1) (j := 2) rfl sc_lw_four_sayings.nd rfl rfl (by decide) rfl rfl (pa_cons (pe_lst (pa_cons (pe_tup (pa_cons pe_int (pa_cons pe_int pa_nil))) (pa_cons (pe_tup (pa_cons pe_int (pa_cons pe_int pa_nil))) (pa_cons (pe_tup (pa_cons pe_int (pa_cons pe_int pa_nil))) (pa_cons (pe_tup (pa_cons pe_int (pa_cons pe_int pa_nil))) (pa_cons (pe_tup (pa_cons pe_int (pa_cons pe_int pa_nil))) (pa_cons (pe_tup (pa_cons pe_int (pa_cons pe_int pa_nil))) pa_nil))))))) (pa_cons (pe_lst (pa_cons (pe_tup pa_nil) pa_nil)) pa_nil)) (by rfl))
      (pss_cons (ps_for PassesOwn.never rfl (pi_any (K := K) rfl (pv 1)) (pg_name (i := 3) sc_lw_four_sayings.nd rfl (Or.inr rfl))
      (pss_one (ps_set (i := 2) sc_lw_four_sayings.nd rfl (Or.inl rfl) (pe_op (ok_add rfl) (pv 2) (pe_lc (own := [("ties", 4)]) (g := gName 4) rfl sc_lw_four_sayings.nd (pi_any (K := K) rfl (pv 2)) (blkOk_by (N := ["most", "pairs", "some", "pair", "ties", "found"]) (sc := defScope s_lw_four_sayings) (by decide +kernel)) (fun _ _ _ _ _ => (pg_name (i := 4) sc_lw_four_sayings.nd rfl (Or.inl rfl))) (fun _ _ _ _ _ => (pts_one (pt_cmpR (ok_lt rfl hr.units65) (pe_callB (call_len_k (K := K) rfl) (by rfl) T.z_len (by decide +kernel) (pa_cons (pv 4) pa_nil)) (pv 0) (nomark _)))) (fun _ _ _ _ _ => (pe_op (ok_add rfl) (pv 4) (pe_tup (pa_cons (pv 3) pa_nil)))))))))
      (pss_cons (ps_set (i := 5) sc_lw_four_sayings.nd rfl (Or.inl rfl) (pe_lst pa_nil))
      (pss_cons (ps_for PassesOwn.never rfl (pi_any (K := K) rfl (pv 2)) (pg_name (i := 4) sc_lw_four_sayings.nd rfl (Or.inr rfl))
      (pss_one (ps_set (i := 5) sc_lw_four_sayings.nd rfl (Or.inl rfl) (pe_op (ok_add rfl) (pe_op (ok_add rfl) (pe_op (ok_add rfl) (pv 5) (pe_lst (pa_cons (pe_tup (pa_cons (pv 4) (pa_cons pe_non pa_nil))) pa_nil))) (pe_lc (own := [("pair", 3)]) (g := gName 3) (tt := tYes) rfl sc_lw_four_sayings.nd (pi_any (K := K) rfl (pv 1)) (blkOk_by (N := ["most", "pairs", "some", "pair", "ties", "found"]) (sc := defScope s_lw_four_sayings) (by decide +kernel)) (fun _ _ _ _ _ => (pg_name (i := 3) sc_lw_four_sayings.nd rfl (Or.inl rfl))) (fun _ _ _ _ _ => pts_nil) (fun _ _ _ _ _ => (pe_tup (pa_cons (pv 4) (pa_cons (pv 3) pa_nil)))))) (pe_lc (own := [("pair", 3)]) (g := gName 3) (tt := tYes) rfl sc_lw_four_sayings.nd (pi_any (K := K) rfl (pv 1)) (blkOk_by (N := ["most", "pairs", "some", "pair", "ties", "found"]) (sc := defScope s_lw_four_sayings) (by decide +kernel)) (fun _ _ _ _ _ => (pg_name (i := 3) sc_lw_four_sayings.nd rfl (Or.inl rfl))) (fun _ _ _ _ _ => pts_nil) (fun _ _ _ _ _ => (pe_tup (pa_cons (pv 4) (pa_cons (pe_rev (K := K) rfl (pv 3)) pa_nil)))))))))
      (pss_one (ps_ret (pv 5))))))), ?_⟩
  exact body_ok (K := kt K w A) (ca := CA A) (G := GEv) (C := runF GEv DD n) (n := 5) (a := 1) (b := M_lw_four_sayings) (hc T) (by decide +kernel) h rfl rfl
theorem G_lw_kept_lots_n (T : Tp K mg base A) {n : Nat} (ih : All P w K mg base A n) : FnG P w K mg base (3 * (n + 1)) A.a_lw_kept_lots A.d_lw_kept_lots ["sayings", "orders"] (spE (kt K w A) (runF GEv DD (n + 1) 23) (GEv.ar 23)) := by
  refine fn_ofC (k := 3 * n + 2) T.F_lw_kept_lots sc_lw_kept_lots (fun vs H Q E h => spE_len vs H Q E h) (fun A0 outer s0 H vs Q E hg hr h => ?_)
  refine ⟨_, (pss_cons (ps_set (i := 2) sc_lw_kept_lots.nd rfl (Or.inl rfl) (pe_lst pa_nil))
      (pss_cons (ps_for PassesOwn.never rfl (pi_any (K := K) rfl (pv 0)) (pg_name (i := 3) sc_lw_kept_lots.nd rfl (Or.inr rfl))
      (pss_one (ps_expr (pe_k (K := K) (f := fun K => tBM K "list" _ _ _) rfl (pe_bm PySem.F.plainAttrs_list PySem.F.slot_list_append PySem.F.type_list_append mt_append (pv 2) (pa_cons (pe_callB (cr_sum_k (K := K) rfl rfl) (by rfl) T.z_sum (by decide +kernel) (pa_cons (pe_lc (own := [("k", 4)]) (g := gName 4) rfl sc_lw_kept_lots.nd (pi_range1 (by rfl) T.z_range (pa_cons (pe_callB (call_len_k (K := K) rfl) (by rfl) T.z_len (by decide +kernel) (pa_cons (pv 1) pa_nil)) pa_nil)) (blkOk_by (N := ["sayings", "orders", "found", "saying", "k"]) (sc := defScope s_lw_kept_lots) (by decide +kernel)) (fun _ _ _ _ _ => (pg_name (i := 4) sc_lw_kept_lots.nd rfl (Or.inl rfl))) (fun _ _ _ _ _ => (pts_one (pt_k (K := K) (f := fun K => tTru K _) rfl (pt_truth (pe_callG (FnG.mono ih.g_lw_keeps (by omega)) hg hr (by rfl) T.g_lw_keeps T.F_lw_keeps.kp T.b_lw_keeps .nil (pa_cons (pv 3) (pa_cons (pe_or2 (pe_ix (ok_ix (K := K) rfl) (pv 1) (pv 4) (fun _ _ => rfl)) (pe_dget (hu_of hr) (pv 1) (pv 4) (fun _ _ => rfl))) pa_nil))) (by intro _; rfl))))) (fun _ _ _ _ _ => (pe_op (ok_shl (K := K)) pe_int (pv 4)))) pa_nil)) pa_nil))))))
      (pss_one (ps_ret (pv 2))))), ?_⟩
  exact body_ok (K := kt K w A) (ca := CA A) (G := GEv) (C := runF GEv DD n) (n := 3) (a := 2) (b := M_lw_kept_lots) (hc T) (by decide +kernel) h rfl rfl
theorem G_lw_hull_by_n (T : Tp K mg base A) {n : Nat} (ih : All P w K mg base A n) : FnG P w K mg base (3 * (n + 1)) A.a_lw_hull_by A.d_lw_hull_by ["lot", "kept"] (spE (kt K w A) (runF GEv DD (n + 1) 24) (GEv.ar 24)) := by
  refine fn_ofC (k := 3 * n + 2) T.F_lw_hull_by sc_lw_hull_by (fun vs H Q E h => spE_len vs H Q E h) (fun A0 outer s0 H vs Q E hg hr h => ?_)
  refine ⟨_, (pss_cons (ps_asg (pe_tup (pa_cons (pe_callB (cr_sum_k (K := K) rfl rfl) (by rfl) T.z_sum (by decide +kernel) (pa_cons (pe_lc (own := [("k", 5)]) (g := gName 5) (tt := tYes) rfl sc_lw_hull_by.nd (pi_any (K := K) rfl (pv 0)) (blkOk_by (N := ["lot", "kept", "whole", "left", "one", "k"]) (sc := defScope s_lw_hull_by) (by decide +kernel)) (fun _ _ _ _ _ => (pg_name (i := 5) sc_lw_hull_by.nd rfl (Or.inl rfl))) (fun _ _ _ _ _ => pts_nil) (fun _ _ _ _ _ => (pe_op (ok_shl (K := K)) pe_int (pv 5)))) pa_nil)) (pa_cons (pe_op (ok_sub (K := K)) (pe_op (ok_shl (K := K)) pe_int pe_int) pe_int) pa_nil))) (pg_any (K := K) rfl rfl (pgs_cons (pg_name (i := 2) sc_lw_hull_by.nd rfl (Or.inl rfl)) (pgs_cons (pg_name (i := 3) sc_lw_hull_by.nd rfl (Or.inr rfl)) pgs_nil))))
      (pss_cons (ps_for PassesOwn.never rfl (pi_any (K := K) rfl (pv 1)) (pg_name (i := 4) sc_lw_hull_by.nd rfl (Or.inl rfl))
      (pss_one (ps_set (i := 3) sc_lw_hull_by.nd rfl (Or.inr rfl) (pe_ifExp (pt_cmpR (ok_eq rfl hr.units65) (pe_op (ok_band (K := K)) (pv 4) (pv 2)) (pv 2) (nomark _)) (pe_op (ok_band (K := K)) (pv 3) (pv 4)) (pv 3)))))
      (pss_one (ps_ret (pe_callTy (call_tup_k (K := K) rfl) (by rfl) T.z_tuple (by decide +kernel) (pa_cons (pe_lc (own := [("k", 5)]) (g := gName 5) rfl sc_lw_hull_by.nd (pi_range1 (by rfl) T.z_range (pa_cons pe_int pa_nil)) (blkOk_by (N := ["lot", "kept", "whole", "left", "one", "k"]) (sc := defScope s_lw_hull_by) (by decide +kernel)) (fun _ _ _ _ _ => (pg_name (i := 5) sc_lw_hull_by.nd rfl (Or.inl rfl))) (fun _ _ _ _ _ => (pts_one (pt_cmpR (ok_eq rfl hr.units65) (pe_op (ok_band (K := K)) (pe_op (ok_shr (K := K)) (pv 3) (pv 5)) pe_int) pe_int (nomark _)))) (fun _ _ _ _ _ => (pv 5))) pa_nil)))))), ?_⟩
  exact body_ok (K := kt K w A) (ca := CA A) (G := GEv) (C := runF GEv DD n) (n := 4) (a := 2) (b := M_lw_hull_by) (hc T) (by decide +kernel) h rfl rfl
theorem all_n (T : Tp K mg base A) : ∀ n, All P w K mg base A n
  | 0 => all0
  | n + 1 => have ih := all_n T n
    ⟨G_keeps_n T ih, G_unlike_pairs_n T ih, G_ties_of_n T ih, G_fullest_sayings_n T ih, G_first_refusing_n T ih, G_way_order_n T ih, G_is_said_n T ih, G_is_clear_n T ih, G_is_plain_n T ih, G_hull_of_lot_n T ih, G_refusing_saying_n T ih, G_u_refusing_n T ih, G_u_are_all_refused_n T ih, G_u_not_later_sayings_n T ih, G_u_not_at_once_sayings_n T ih, G_lw_pick_n T ih, G_lw_of_n T ih, G_lw_orders_n T ih, G_lw_keeps_n T ih, G_lw_way_orders_n T ih, G_lw_some_lot_n T ih, G_lw_four_sayings_n T ih, G_lw_kept_lots_n T ih, G_lw_hull_by_n T ih⟩
def M_two : ME := (.call 20 .nil)
def lawB : Bool := (ev GEv (runF GEv DD 6) M_two (List.replicate (19 + 1) SV.un) fun r => ob (sOf r) fun d => es GEv (runF GEv DD 6) M_law ((lawSd 19 1).set 2 (.dat d)) lawE)
theorem G_law (T : Tp K mg base A) (ok : (ev GEv (runF GEv DD 6) M_two (List.replicate (19 + 1) SV.un) fun r => ob (sOf r) fun d => es GEv (runF GEv DD 6) M_law ((lawSd 19 1).set 2 (.dat d)) lawE) = true) : FnG P w K mg base 21 A.a_law A.d_law ["script"] (spLaw (kt K w A)) := by
  have ih := all_n (P := P) (w := w) T 6
  refine fn_ofC (k := 20) T.F_law sc_law (fun vs H Q E h => ?_) (fun A0 outer s0 H vs Q E hg hr h => ?_)
  · obtain ⟨a, ns, rfl, _⟩ := h
    rfl
  · refine ⟨_, (pss_cons (ps_par (i := 1) (j := 2) rfl sc_law.nd rfl rfl (by decide) rfl rfl (pa_cons (pe_callG (FnG.mono (G_lw_source T) (by decide)) hg hr (by rfl) T.g_lw_source T.F_lw_source.kp T.b_lw_source .nil (pa_cons (pv 0) pa_nil)) (pa_cons (pe_callG0 (FnG.mono ih.g_lw_way_orders (by omega)) hg hr (by rfl) T.g_lw_way_orders T.F_lw_way_orders.kp T.b_lw_way_orders .nil) pa_nil)) (by rfl))
      (pss_cons (ps_set (i := 3) sc_law.nd rfl (Or.inl rfl) (pe_callG (FnG.mono ih.g_lw_four_sayings (by omega)) hg hr (by rfl) T.g_lw_four_sayings T.F_lw_four_sayings.kp T.b_lw_four_sayings .nil (pa_cons pe_int pa_nil)))
      (pss_cons (ps_set (i := 4) sc_law.nd rfl (Or.inl rfl) (pe_callG (FnG.mono ih.g_lw_kept_lots (by omega)) hg hr (by rfl) T.g_lw_kept_lots T.F_lw_kept_lots.kp T.b_lw_kept_lots .nil (pa_cons (pv 3) (pa_cons (pv 2) pa_nil))))
      (pss_cons (ps_setLc (i := 5) (own := [("one", 17)]) (g := gName 17) rfl sc_law.nd rfl rfl (sw_true rfl rfl rfl (by decide +kernel)) (pi_any (K := K) rfl (pv 4)) (blkOk_by (N := ["script", "source", "orders", "sayings", "kept", "wide", "plain", "clear", "lap", "lot", "way", "some", "left", "turn", "hull", "told", "due", "one", "saying", "k"]) (sc := defScope s_law) (by decide +kernel)) (fun _ _ _ _ _ => (pg_name (i := 17) sc_law.nd rfl (Or.inl rfl))) (fun _ _ _ _ _ => (pts_one (pt_cmpR (ok_lt rfl hr.units65) (pe_op (ok_add rfl) (pv 17) pe_int) (pe_op (ok_shl (K := K)) pe_int pe_int) (nomark _)))) (fun _ _ _ _ _ => (pv 17)))
      (pss_cons (ps_setLc (i := 6) (own := [("one", 17), ("saying", 18)]) (g := gAny K 2 (gCons (gName 17) (gCons (gName 18) (gNil)))) rfl sc_law.nd rfl rfl (sw_true rfl rfl rfl (by decide +kernel)) (pi_k (K := K) (f := fun K => iZipA K _) rfl (pi_zipA (by rfl) T.z_zip (pa_cons (pv 4) (pa_cons (pv 3) pa_nil)))) (blkOk_by (N := ["script", "source", "orders", "sayings", "kept", "wide", "plain", "clear", "lap", "lot", "way", "some", "left", "turn", "hull", "told", "due", "one", "saying", "k"]) (sc := defScope s_law) (by decide +kernel)) (fun _ _ _ _ _ => (pg_any (K := K) rfl rfl (pgs_cons (pg_name (i := 17) sc_law.nd rfl (Or.inl rfl)) (pgs_cons (pg_name (i := 18) sc_law.nd rfl (Or.inl rfl)) pgs_nil)))) (fun _ _ _ _ _ => (pts_one (PW.pt (pw_and (pt_cmpR (ok_eq rfl hr.units65) (pe_or2 (pe_ix (ok_ix (K := K) rfl) (pv 18) pe_int (fun _ _ => rfl)) (pe_dget (hu_of hr) (pv 18) pe_int (fun _ _ => rfl))) (pe_tup pa_nil) (nomark _)) (pw_and1 (pt_cmp (pc_notN (pe_or2 (pe_ix (ok_ix (K := K) rfl) (pv 18) pe_int (fun _ _ => rfl)) (pe_dget (hu_of hr) (pv 18) pe_int (fun _ _ => rfl)))))))))) (fun _ _ _ _ _ => (pv 17)))
      (pss_cons (ps_set (i := 7) sc_law.nd rfl (Or.inl rfl) (pe_op (ok_add rfl) (pv 6) (pe_lc (own := [("one", 17), ("saying", 18)]) (g := gAny K 2 (gCons (gName 17) (gCons (gName 18) (gNil)))) rfl sc_law.nd (pi_k (K := K) (f := fun K => iZipA K _) rfl (pi_zipA (by rfl) T.z_zip (pa_cons (pv 4) (pa_cons (pv 3) pa_nil)))) (blkOk_by (N := ["script", "source", "orders", "sayings", "kept", "wide", "plain", "clear", "lap", "lot", "way", "some", "left", "turn", "hull", "told", "due", "one", "saying", "k"]) (sc := defScope s_law) (by decide +kernel)) (fun _ _ _ _ _ => (pg_any (K := K) rfl rfl (pgs_cons (pg_name (i := 17) sc_law.nd rfl (Or.inl rfl)) (pgs_cons (pg_name (i := 18) sc_law.nd rfl (Or.inl rfl)) pgs_nil)))) (fun _ _ _ _ _ => (pts_one (PW.pt (pw_and (pt_cmpR (ok_eq rfl hr.units65) (pe_callB (call_len_k (K := K) rfl) (by rfl) T.z_len (by decide +kernel) (pa_cons (pe_or2 (pe_ix (ok_ix (K := K) rfl) (pv 18) pe_int (fun _ _ => rfl)) (pe_dget (hu_of hr) (pv 18) pe_int (fun _ _ => rfl))) pa_nil)) pe_int (nomark _)) (pw_and1 (pt_cmp (pc_isN (pe_or2 (pe_ix (ok_ix (K := K) rfl) (pv 18) pe_int (fun _ _ => rfl)) (pe_dget (hu_of hr) (pv 18) pe_int (fun _ _ => rfl)))))))))) (fun _ _ _ _ _ => (pv 17)))))
      (pss_cons (ps_for PassesOwn.never rfl (pi_range1 (by rfl) T.z_range (pa_cons pe_int pa_nil)) (pg_name (i := 8) sc_law.nd rfl (Or.inl rfl))
      (pss_cons (ps_set (i := 9) sc_law.nd rfl (Or.inl rfl) (pe_callG (FnG.mono ih.g_lw_some_lot (by omega)) hg hr (by rfl) T.g_lw_some_lot T.F_lw_some_lot.kp T.b_lw_some_lot .nil (pa_cons (pv 1) pa_nil)))
      (pss_cons (ps_set (i := 10) sc_law.nd rfl (Or.inl rfl) (pe_callG (FnG.mono ih.g_lw_pick (by omega)) hg hr (by rfl) T.g_lw_pick T.F_lw_pick.kp T.b_lw_pick .nil (pa_cons (pv 1) (pa_cons pe_int pa_nil))))
      (pss_cons (ps_if (pt_cmpR (ok_gt rfl hr.units65) (pv 10) pe_int (nomark _))
      (pss_cons (ps_set (i := 11) sc_law.nd rfl (Or.inl rfl) (pe_ix (ok_ix (K := K) rfl) (pe_lst (pa_cons (pv 5) (pa_cons (pv 7) (pa_cons (pv 6) pa_nil)))) (pe_op (ok_sub (K := K)) (pv 10) pe_int) (fun _ _ => rfl)))
      (pss_cons (ps_set (i := 12) sc_law.nd rfl (Or.inr rfl) (pe_op (ok_sub (K := K)) (pe_op (ok_shl (K := K)) pe_int pe_int) pe_int))
      (pss_cons (ps_for PassesOwn.never rfl (pi_range1 (by rfl) T.z_range (pa_cons (pe_op (ok_add rfl) pe_int (pe_callG (FnG.mono ih.g_lw_pick (by omega)) hg hr (by rfl) T.g_lw_pick T.F_lw_pick.kp T.b_lw_pick .nil (pa_cons (pv 1) (pa_cons pe_int pa_nil)))) pa_nil)) (pg_name (i := 13) sc_law.nd rfl (Or.inl rfl))
      (pss_one (ps_set (i := 12) sc_law.nd rfl (Or.inr rfl) (pe_op (ok_band (K := K)) (pv 12) (pe_callG (FnG.mono ih.g_lw_of (by omega)) hg hr (by rfl) T.g_lw_of T.F_lw_of.kp T.b_lw_of .nil (pa_cons (pv 1) (pa_cons (pv 11) pa_nil)))))))
      (pss_one (ps_set (i := 9) sc_law.nd rfl (Or.inl rfl) (pe_callTy (call_tup_k (K := K) rfl) (by rfl) T.z_tuple (by decide +kernel) (pa_cons (pe_lc (own := [("k", 19)]) (g := gName 19) rfl sc_law.nd (pi_range1 (by rfl) T.z_range (pa_cons pe_int pa_nil)) (blkOk_by (N := ["script", "source", "orders", "sayings", "kept", "wide", "plain", "clear", "lap", "lot", "way", "some", "left", "turn", "hull", "told", "due", "one", "saying", "k"]) (sc := defScope s_law) (by decide +kernel)) (fun _ _ _ _ _ => (pg_name (i := 19) sc_law.nd rfl (Or.inl rfl))) (fun _ _ _ _ _ => (pts_one (pt_cmpR (ok_eq rfl hr.units65) (pe_op (ok_band (K := K)) (pe_op (ok_shr (K := K)) (pv 12) (pv 19)) pe_int) pe_int (nomark _)))) (fun _ _ _ _ _ => (pv 19))) pa_nil)))))))
      pss_nil)
      (pss_cons (ps_set (i := 14) sc_law.nd rfl (Or.inl rfl) (pe_callG (FnG.mono ih.g_lw_hull_by (by omega)) hg hr (by rfl) T.g_lw_hull_by T.F_lw_hull_by.kp T.b_lw_hull_by .nil (pa_cons (pv 9) (pa_cons (pv 4) pa_nil))))
      (pss_cons (ps_set (i := 15) sc_law.nd rfl (Or.inl rfl) (pe_lst (pa_cons (pe_callG (FnG.mono ih.g_hull_of_lot (by omega)) hg hr (by rfl) T.g_hull_of_lot T.F_hull_of_lot.kp T.b_hull_of_lot .nil (pa_cons (pv 9) pa_nil)) (pa_cons (pe_callG (FnG.mono ih.g_is_said (by omega)) hg hr (by rfl) T.g_is_said T.F_is_said.kp T.b_is_said .nil (pa_cons (pv 9) pa_nil)) (pa_cons (pe_callG (FnG.mono ih.g_is_clear (by omega)) hg hr (by rfl) T.g_is_clear T.F_is_clear.kp T.b_is_clear .nil (pa_cons (pv 9) pa_nil)) (pa_cons (pe_callG (FnG.mono ih.g_is_plain (by omega)) hg hr (by rfl) T.g_is_plain T.F_is_plain.kp T.b_is_plain .nil (pa_cons (pv 9) pa_nil)) (pa_cons (pe_callG (FnG.mono ih.g_is_said (by omega)) hg hr (by rfl) T.g_is_said T.F_is_said.kp T.b_is_said .nil (pa_cons (pv 14) pa_nil)) pa_nil)))))))
      (pss_cons (ps_set (i := 16) sc_law.nd rfl (Or.inl rfl) (pe_lst (pa_cons (pv 14) (pa_cons (pe_cmpR (ok_eq rfl hr.units65) (pv 14) (pv 9) (nomark _)) (pa_cons (pe_cmpR (ok_eq rfl hr.units65) (pe_callG (FnG.mono ih.g_lw_hull_by (by omega)) hg hr (by rfl) T.g_lw_hull_by T.F_lw_hull_by.kp T.b_lw_hull_by .nil (pa_cons (pv 9) (pa_cons (pv 7) pa_nil))) (pv 9) (nomark _)) (pa_cons (pe_cmpR (ok_eq rfl hr.units65) (pe_callG (FnG.mono ih.g_lw_hull_by (by omega)) hg hr (by rfl) T.g_lw_hull_by T.F_lw_hull_by.kp T.b_lw_hull_by .nil (pa_cons (pv 9) (pa_cons (pv 6) pa_nil))) (pv 9) (nomark _)) (pa_cons pe_bl pa_nil)))))))
      (pss_one (ps_if (pt_cmpR op_ne (pe_callB (call_reprZ_k (K := K) rfl hg hr.units) (by rfl) T.z_repr (by decide +kernel) (pa_cons (pv 15) pa_nil)) (pe_callB (call_reprZ_k (K := K) rfl hg hr.units) (by rfl) T.z_repr (by decide +kernel) (pa_cons (pv 16) pa_nil)) (nomark _))
      (pss_one (ps_ret pe_bl))
      pss_nil)))))))))
      (pss_one (ps_ret pe_bl))))))))), ?_⟩
    exact law_first2 (K := kt K w A) (ca := CA A) (G := GEv) (C := runF GEv DD 6) (n := 19) (j := 1) (l := 2) (e := M_two) (b := M_law) (hc T) (by decide +kernel) h rfl (by decide) ok rfl
end
end Own
namespace Own
open PySem PySem.Spec PyProof.Rows L2 Gd Dq Mp RZ
/-! what the defs answer -/
def pI (i : Int) : PyData := .int i
def pP (a b : Int) : PyData := .tuple [.int a, .int b]
def ORD : List PyData := match D_WAY_ORDERS with
  | .tuple ds => ds
  | _ => []
def PRS : List PyData := [(0, 1), (0, 2), (0, 3), (1, 0), (1, 2), (1, 3), (2, 0), (2, 1), (2, 3), (3, 0), (3, 1), (3, 2)].map fun p : Int × Int => pP p.1 p.2
def ixD (d : PyData) (i : Int) : Int := match d with
  | .tuple ds => match L2.atI ds i with
    | some (.int x) => x
    | _ => 0
  | _ => 0
def fst' : PyData → Int
  | .tuple (.int a :: _) => a
  | _ => 0
def snd' : PyData → Int
  | .tuple (_ :: .int b :: _) => b
  | _ => 0
/-- does the order o keep the saying s? -/
def kpB (s o : PyData) : Bool := match s with
  | .tuple [.tuple ts, h] => (ts.any fun t => ixD o (fst' t) != ixD o (snd' t)) || (match h with
    | .tuple _ => decide (ixD o (fst' h) ≤ ixD o (snd' h))
    | _ => false)
  | _ => false
def tiesB (o : PyData) : List PyData := PRS.filter fun p => decide (fst' p < snd' p) && (ixD o (fst' p) == ixD o (snd' p))
def fullB (o : PyData) : List PyData := (PyData.none :: PRS).map fun h => .tuple [.tuple (tiesB o), h]
def notL : List PyData := PRS.map fun p => .tuple [.tuple [], p]
def notO : List PyData := (PRS.filter fun p => decide (fst' p < snd' p)).map fun p => .tuple [.tuple [p], .none]
/-- all sayings that the defs ask of -/
def SS : List PyData := (ORD.map fullB).flatten ++ (notL ++ notO)
abbrev Cn (n : Nat) : CE' := runF GEv DD n
theorem map_at {α β : Type} {f g : α → β} : ∀ {xs : List α}, xs.map f = xs.map g → ∀ x ∈ xs, f x = g x
  | [], _, x, h => nomatch h
  | y :: xs, e, x, h => by
    rw [List.map_cons, List.map_cons] at e
    injection e with e1 e2
    rcases List.mem_cons.mp h with rfl | h
    · exact e1
    · exact map_at e2 x h
theorem way_tab (n : Nat) : ((List.range 13).map fun i => fun k => Cn (n + 1) 5 [.dat (.int (i : Nat))] k) = (List.range 13).map fun i => fun k => k (.dat (ORD.getD i .none)) := by kernel_rfl
theorem full_tab (n : Nat) : (ORD.map fun o => fun k => Cn (n + 3) 3 [.dat o] k) = ORD.map fun o => fun k => k (.nw (fullB o)) := by kernel_rfl
theorem notL_is (n : Nat) : ∀ k, Cn (n + 2) 13 [] k = k (.nw notL) := fun k => by kernel_rfl
theorem notO_is (n : Nat) : ∀ k, Cn (n + 2) 14 [] k = k (.nw notO) := fun k => by kernel_rfl
theorem kp_tab (n : Nat) : (SS.map fun s => ORD.map fun o => fun k => Cn (n + 1) 0 [.dat s, .dat o] k) = SS.map fun s => ORD.map fun o => fun k => k (.dat (.bool (kpB s o))) := by kernel_rfl
theorem kp_is (n : Nat) {s o : PyData} (hs : s ∈ SS) (ho : o ∈ ORD) (k : ER → Bool) : Cn (n + 1) 0 [.dat s, .dat o] k = k (.dat (.bool (kpB s o))) := congrFun (map_at (map_at (kp_tab n) s hs) o ho) k
theorem way_is (n : Nat) {i : Nat} (hi : i < 13) (k : ER → Bool) : Cn (n + 1) 5 [.dat (.int (i : Nat))] k = k (.dat (ORD.getD i .none)) := congrFun (map_at (way_tab n) i (List.mem_range.mpr hi)) k
theorem full_is (n : Nat) {o : PyData} (ho : o ∈ ORD) (k : ER → Bool) : Cn (n + 3) 3 [.dat o] k = k (.nw (fullB o)) := congrFun (map_at (full_tab n) o ho) k
end Own

namespace Own
open PySem PySem.Spec PyProof.Rows L2 Gd Dq Mp RZ
/-- the first saying that o breaks and all of os keep -/
def frB (ss os : List PyData) (o : PyData) : Option PyData := ss.find? fun s => !kpB s o && os.all (kpB s)
def frR : Option PyData → ER
  | some s => .dat s
  | none => .dat .none
def frBody : MS := (.ife (.tand (.tnot (.tru (.call 0 (.cons (.var 3) (.cons (.var 2) .nil))))) (.tru (.gn false 1 (.nm 4) (.it (.var 1)) .yes (.call 0 (.cons (.var 3) (.cons (.var 4) .nil))) [4]))) (.ret (.var 3)) .nil)
theorem fr_loop (n : Nat) {os : List PyData} {o l0 : PyData} (hos : ∀ x ∈ os, x ∈ ORD) (ho : o ∈ ORD) {rt : ER → Bool} : ∀ {ss : List PyData} (y : SV), (∀ s ∈ ss, s ∈ SS) →
    forL (setG (.nm 3)) (es GEv (Cn (n + 1)) frBody) rt (fun _ => rt (.dat .none)) ss [.dat l0, .dat (.list os), .dat o, y, .un] = rt (frR (frB ss os o))
  | [], y, _ => rfl
  | s :: ss, y, hss => by
    have hs := hss s (List.mem_cons_self ..)
    have ih := fr_loop n (l0 := l0) (rt := rt) hos ho (ss := ss) (.dat s) fun x hx => hss x (List.mem_cons_of_mem _ hx)
    show runF GEv DD (n + 1) 0 [.dat s, .dat o] _ = _
    refine (kp_is n hs ho _).trans ?_
    have gn : ∀ K : Bool → Bool, (evT GEv (Cn (n + 1)) (.tru (.gn false 1 (.nm 4) (.it (.var 1)) .yes (.call 0 (.cons (.var 3) (.cons (.var 4) .nil))) [4])) [.dat l0, .dat (.list os), .dat o, .dat s, .un] K) = K (os.all (kpB s)) := fun K => by
      show allL false _ (setG (.nm 4)) _ _ os _ = _
      refine (allL_at (stp := false) (sdw := wipeD [SV.dat l0, SV.dat (PyData.list os), SV.dat o, SV.dat s, SV.un] [4]) (set := setG (GT.nm 4)) (c := evT GEv (Cn (n + 1)) .yes) (F := ev GEv (Cn (n + 1)) (.call 0 (.cons (.var 3) (.cons (.var 4) .nil)))) (p := fun _ => true) (q := kpB s) fun x hx => ⟨_, rfl, fun k => rfl, fun _ k => ?_⟩).trans ?_
      · show runF GEv DD (n + 1) 0 [.dat s, .dat x] _ = _
        exact kp_is n hs (hos x hx) _
      · rw [List.filter_eq_self.mpr fun _ _ => rfl]
        rfl
    unfold frB
    rw [List.find?_cons]
    cases hk : kpB s o with
    | true => exact ih
    | false =>
      refine (gn _).trans ?_
      cases ha : os.all (kpB s) with
      | true => rfl
      | false => exact ih
theorem fr_is (n : Nat) {ss os : List PyData} {o : PyData} (hss : ∀ s ∈ ss, s ∈ SS) (hos : ∀ x ∈ os, x ∈ ORD) (ho : o ∈ ORD) (k : ER → Bool) : Cn (n + 2) 4 [.dat (.list ss), .dat (.list os), .dat o] k = k (frR (frB ss os o)) := by
  unfold Cn runF
  exact fr_loop n hos ho .un hss
end Own

namespace Own
open PySem PySem.Spec PyProof.Rows L2 Gd Dq Mp RZ
/-- a lot of ways: ints from 0 to 12 -/
def isLot (l : List Nat) : Prop := (∀ i ∈ l, i < 13) ∧ l.length ≤ 13
def lotL (l : List Nat) : List PyData := l.map fun i => .int (i : Nat)
def lotD (l : List Nat) : PyData := .tuple (lotL l)
def ordN (i : Nat) : PyData := ORD.getD i .none
def ordD (d : PyData) : PyData := match d with
  | .int i => ordN i.toNat
  | _ => .none
theorem ordN_mem {i : Nat} (h : i < 13) : ordN i ∈ ORD := by
  unfold ordN
  rw [List.getD_eq_getElem?_getD, List.getElem?_eq_getElem (show i < ORD.length from h)]
  exact List.getElem_mem _
theorem ordL (l : List Nat) : (lotL l).map ordD = l.map ordN := by
  unfold lotL
  rw [List.map_map]
  rfl
theorem mem_lotL {l : List Nat} {x : PyData} (h : x ∈ lotL l) : ∃ i ∈ l, x = .int (i : Nat) := by
  obtain ⟨i, hi, rfl⟩ := List.mem_map.mp h
  exact ⟨i, hi, rfl⟩
theorem lot_ble {l : List Nat} (h : isLot l) : Nat.ble ((lotL l).length * 1) 16000000 = true := by
  unfold lotL
  rw [List.length_map, Nat.mul_one]
  exact Nat.ble_eq_true_of_le (by have := h.2; omega)
theorem way_isN (n : Nat) {i : Nat} (hi : i < 13) (k : ER → Bool) : Cn (n + 1) 5 [.dat (.int (i : Nat))] k = k (.dat (ordN i)) := way_is n hi k
theorem ordD_nat (i : Nat) : ordD (.int (i : Nat)) = ordN i := rfl
theorem rf_is (n : Nat) {ss : List PyData} {l : List Nat} {j : Nat} (hss : ∀ s ∈ ss, s ∈ SS) (hl : isLot l) (hj : j < 13) (K : ER → Bool) :
    Cn (n + 3) 11 [.dat (.list ss), .dat (lotD l), .dat (.int (j : Nat))] K = K (frR (frB ss (l.map ordN) (ordN j))) := by
  unfold Cn runF
  show (match Nat.ble ((lotL l).length * 1) 16000000 with
    | true => nestL (wipeD [.dat (.list ss), .dat (lotD l), .dat (.int (j : Nat)), .un] [3]) (setG (.nm 3)) (evT GEv (Cn (n + 2)) .yes) (fun sd k => ev GEv (Cn (n + 2)) (.call 5 (.cons (.var 3) .nil)) sd fun r => ob (sOf r) fun d => k [d]) (lotL l) _
    | false => false) = _
  rw [lot_ble hl]
  refine (nestL_at (p := fun _ => true) (f := ordD) fun x hx => ?_).trans ?_
  · obtain ⟨i, hi, rfl⟩ := mem_lotL hx
    refine ⟨_, rfl, fun k => rfl, fun _ k => ?_⟩
    show runF GEv DD (n + 2) 5 [.dat (.int (i : Nat))] _ = _
    refine (way_isN (n + 1) (hl.1 i hi) _).trans ?_
    rw [ordD_nat]
    rfl
  · rw [List.filter_eq_self.mpr fun _ _ => rfl, ordL]
    show runF GEv DD (n + 2) 5 [.dat (.int (j : Nat))] _ = _
    refine (way_isN (n + 1) hj _).trans ?_
    show runF GEv DD (n + 2) 4 [.dat (.list ss), .dat (.list (l.map ordN)), .dat (ordN j)] _ = _
    refine (fr_is n hss (fun x hx => ?_) (ordN_mem hj) _).trans ?_
    · obtain ⟨i, hi, rfl⟩ := List.mem_map.mp hx
      exact ordN_mem (hl.1 i hi)
    · cases frB ss (l.map ordN) (ordN j) <;> rfl
end Own

namespace Own
open PySem PySem.Spec PyProof.Rows L2 Gd Dq Mp RZ
/-- is it refused? -/
def refB (ss : List PyData) (l : List Nat) (j : Nat) : Bool := (frB ss (l.map ordN) (ordN j)).isSome
theorem SS_is : SS = (ORD.map fullB).flatten ++ (notL ++ notO) := by unfold SS; exact Eq.refl _
theorem fullB_is (o : PyData) : fullB o = (PyData.none :: PRS).map fun h => .tuple [.tuple (tiesB o), h] := by unfold fullB; exact Eq.refl _
theorem fullSS {j : Nat} (h : j < 13) : ∀ s ∈ fullB (ordN j), s ∈ SS := fun s hs => by
  rw [SS_is]
  exact List.mem_append_left _ (List.mem_flatten.mpr ⟨_, List.mem_map.mpr ⟨_, ordN_mem h, rfl⟩, hs⟩)
theorem full_tup {o : PyData} : ∀ s ∈ fullB o, ∃ ds, s = PyData.tuple ds := fun s h => by
  rw [fullB_is] at h
  obtain ⟨d, _, h⟩ := List.mem_map.mp h
  exact ⟨_, h.symm⟩
theorem isNon_frR (o : Option PyData) (h : ∀ s, o = some s → ∃ ds, s = .tuple ds) : isNon (frR o) = !o.isSome := by
  cases o with
  | none => rfl
  | some s =>
    obtain ⟨ds, rfl⟩ := h s rfl
    rfl
theorem evA_nil {C : CE'} {sd : SD} {k : List ER → Bool} : evA GEv C ME.nil sd k = k [] := rfl
theorem mt_t {x : Bool} : ∀ {b : Bool}, b = true → (match b with | true => x | false => false) = x
  | true, _ => rfl
theorem mt_f {x y : Bool} : ∀ {b : Bool}, b = false → (match b with | false => x | true => y) = x
  | false, _ => rfl
theorem avs1 (sd : SD) (o : PyData) : avs sd [ER.dat o] = some ([SV.dat o], false) := rfl
theorem avs3 (sd : SD) (fb : List PyData) (a b : PyData) : avs sd [ER.nw fb, ER.dat a, ER.dat b] = some ([SV.dat (.list fb), SV.dat a, SV.dat b], false) := rfl
theorem evA_vars {C : CE'} {a b : PyData} {k : List ER → Bool} : evA GEv C ((ME.var 0).cons ((ME.var 1).cons ME.nil)) ([SV.dat a, SV.dat b] ++ List.replicate 0 SV.un) k = k [ER.dat a, ER.dat b] := rfl
theorem rs_is (n : Nat) {l : List Nat} {j : Nat} (hl : isLot l) (hj : j < 13) (K : ER → Bool) : Cn (n + 4) 10 [.dat (lotD l), .dat (.int (j : Nat))] K = K (frR (frB (fullB (ordN j)) (l.map ordN) (ordN j))) := by
  have e5 : ∀ k, runF GEv DD (n + 3) 5 [.dat (.int (j : Nat))] k = k (.dat (ordN j)) := fun k => way_isN (n + 2) hj k
  have e3 : ∀ k, runF GEv DD (n + 3) 3 [.dat (ordN j)] k = k (.nw (fullB (ordN j))) := fun k => full_is n (ordN_mem hj) k
  have e2 : ∀ k, runF GEv DD (n + 3) 11 [.dat (.list (fullB (ordN j))), .dat (lotD l), .dat (.int (j : Nat))] k = k (frR (frB (fullB (ordN j)) (l.map ordN) (ordN j))) := fun k => rf_is n (fullSS hj) hl hj k
  unfold Cn runF
  generalize frB (fullB (ordN j)) (l.map ordN) (ordN j) = q at e2 ⊢
  generalize fullB (ordN j) = fb at e3 e2
  generalize ordN j = o at e5 e3
  generalize lotD l = ld at e2 ⊢
  generalize runF GEv DD (n + 3) = C at e5 e3 e2 ⊢
  show C 5 [.dat (.int (j : Nat))] _ = _
  refine (e5 _).trans ?_
  refine evA_nil.trans ?_
  refine (ob_at (avs1 _ o)).trans ?_
  refine (mt_t (show Nat.beq [SV.dat o].length (GEv.ar 3) = true from rfl)).trans ?_
  refine (e3 _).trans ?_
  refine evA_vars.trans ?_
  refine (ob_at (avs3 _ fb ld (.int (j : Nat)))).trans ?_
  refine (mt_t (show Nat.beq [SV.dat (.list fb), SV.dat ld, SV.dat (.int (j : Nat))].length (GEv.ar 11) = true from rfl)).trans ?_
  refine (e2 _).trans ?_
  cases q with
  | none => rfl
  | some s => rfl
end Own

namespace Own
open PySem PySem.Spec PyProof.Rows L2 Gd Dq Mp RZ
def ALLW : List PyData := match D_ALL_WAYS with
  | .tuple ds => ds
  | _ => []
theorem allw_is : ALLW = lotL (List.range 13) := by kernel_rfl
theorem allw_ble : Nat.ble (ALLW.length * 1) 16000000 = true := by kernel_rfl
def hullN (l : List Nat) : List Nat := (List.range 13).filter fun j => !refB (fullB (ordN j)) l j
theorem hull_fil (l : List Nat) : (List.filter (fun d : PyData => match d with | .int i => !refB (fullB (ordN i.toNat)) l i.toNat | _ => false) (lotL (List.range 13))) = lotL (hullN l) := by
  unfold lotL hullN
  rw [List.filter_map]
  rfl
theorem avs2 (sd : SD) (a b : PyData) : avs sd [ER.dat a, ER.dat b] = some ([SV.dat a, SV.dat b], false) := rfl
theorem c10 {C : CE'} {ld x : PyData} {r : ER} (e : ∀ k, C 10 [.dat ld, .dat x] k = k r) (k : Bool → Bool) : evT GEv C (.tbl (.isN (.call 10 (.cons (.var 0) (.cons (.var 1) .nil))))) ([SV.dat ld, SV.dat x]) k = k (isNon r) := by
  unfold evT ev ev callF
  refine (evA_vars (a := ld) (b := x)).trans ?_
  refine (ob_at (avs2 _ ld x)).trans ?_
  refine (mt_t (show Nat.beq [SV.dat ld, SV.dat x].length (GEv.ar 10) = true from rfl)).trans ?_
  refine (e _).trans ?_
  rfl
theorem cst1 (sd : SD) (k : ER → Bool) : cstF (GEv.cd 1) sd k = k (.dat (.tuple ALLW)) := by unfold ALLW; rfl
theorem sq1 (sd : SD) (ds : List PyData) : sqR sd (.dat (.tuple ds)) = some ((sqR sd (.dat (.tuple ds))).get!.1, ds) := rfl
theorem hull_is (n : Nat) {l : List Nat} (hl : isLot l) (K : ER → Bool) : Cn (n + 5) 9 [.dat (lotD l)] K = K (.dat (lotD (hullN l))) := by
  have e : ∀ j, j < 13 → ∀ k, runF GEv DD (n + 4) 10 [.dat (lotD l), .dat (.int (j : Nat))] k = k (frR (frB (fullB (ordN j)) (l.map ordN) (ordN j))) := fun j hj k => rs_is n hl hj k
  unfold Cn runF
  generalize runF GEv DD (n + 4) = C at e ⊢
  show ev GEv C (.bi .tup (.cons (.lc (.nm 1) (.it (.cst 1)) (.tbl (.isN (.call 10 (.cons (.var 0) (.cons (.var 1) .nil))))) (.var 1) [1]) .nil)) [.dat (lotD l), .un] _ = _
  unfold ev evA ev lcF evI ev
  refine (cst1 _ _).trans ?_
  refine (ob_at (sq1 _ ALLW)).trans ?_
  refine (mt_t allw_ble).trans ?_
  rw [allw_is]
  refine (nestL_at (p := fun d => match d with | .int i => !refB (fullB (ordN i.toNat)) l i.toNat | _ => false) (f := id) fun x hx => ?_).trans ?_
  · obtain ⟨i, hi, rfl⟩ := mem_lotL hx
    have hi := List.mem_range.mp hi
    refine ⟨[.dat (lotD l), .dat (.int (i : Nat))], rfl, fun k => ?_, fun _ k => ?_⟩
    · refine (c10 (e i hi) k).trans ?_
      rw [isNon_frR _ fun s hs => full_tup (o := ordN i) s (by unfold frB at hs; exact List.mem_of_find?_eq_some hs)]
      rfl
    · unfold ev
      rfl
  · rw [List.map_id]
    show K (.dat (.tuple (List.filter _ (lotL (List.range 13))))) = _
    rw [hull_fil]
    rfl
end Own

namespace Own
open PySem PySem.Spec PyProof.Rows L2 Gd Dq Mp RZ
theorem evA_var0 {C : CE'} {a : PyData} {k : List ER → Bool} : evA GEv C ((ME.var 0).cons ME.nil) [SV.dat a] k = k [ER.dat a] := rfl
theorem ev_var0 {C : CE'} {a : PyData} {k : ER → Bool} : ev GEv C (ME.var 0) [SV.dat a] k = k (ER.dat a) := rfl
theorem dOf_dat (sd : SD) (d : PyData) : dOf sd (.dat d) = some d := rfl
theorem c9 {C : CE'} {ld r : PyData} (e : ∀ k, C 9 [.dat ld] k = k (.dat r)) (k : ER → Bool) : ev GEv C (.call 9 (.cons (.var 0) .nil)) [SV.dat ld] k = k (.dat r) := by
  unfold ev callF
  refine evA_var0.trans ?_
  refine (ob_at (avs1 _ ld)).trans ?_
  refine (mt_t (show Nat.beq [SV.dat ld].length (GEv.ar 9) = true from rfl)).trans ?_
  exact e _
/-- eq_lots is still to be proved: the host's equality of two lots -/
def EqLots : Prop := ∀ a b : List Nat, isLot a → isLot b → binF .eq (lotD a) (lotD b) = some (.dat (.bool (decide (a = b))))
theorem hull_lot (l : List Nat) : isLot (hullN l) := by
  unfold hullN
  exact ⟨fun i h => List.mem_range.mp (List.mem_filter.mp h).1, Nat.le_trans (List.length_filter_le _ _) (Nat.le_of_eq (List.length_range ..))⟩
theorem said_is (n : Nat) {l : List Nat} (q : EqLots) (hl : isLot l) (K : ER → Bool) : Cn (n + 6) 6 [.dat (lotD l)] K = K (.dat (.bool (decide (hullN l = l)))) := by
  have e : ∀ k, runF GEv DD (n + 5) 9 [.dat (lotD l)] k = k (.dat (lotD (hullN l))) := fun k => hull_is n hl k
  have q := q _ _ (hull_lot l) hl
  unfold Cn runF
  generalize runF GEv DD (n + 5) = C at e ⊢
  generalize lotD (hullN l) = r at e q
  generalize lotD l = ld at e q ⊢
  show ev GEv C (.bin .eq (.call 9 (.cons (.var 0) .nil)) (.var 0)) [.dat ld] _ = _
  unfold ev
  refine (c9 e _).trans ?_
  refine ev_var0.trans ?_
  refine (ob_at (dOf_dat _ r)).trans ?_
  refine (ob_at (dOf_dat _ ld)).trans ?_
  refine (ob_at q).trans ?_
  rfl
end Own

namespace Own
open PySem PySem.Spec PyProof.Rows L2 Gd Dq Mp RZ
theorem eqv_lots : ∀ a b : List Nat, PyData.eqvAll (lotL a) (lotL b) = decide (a = b)
  | [], [] => rfl
  | [], _ :: _ => rfl
  | _ :: _, [] => rfl
  | x :: a, y :: b => by
    show ((((x : Nat) : Int) == ((y : Nat) : Int)) && PyData.eqvAll (lotL a) (lotL b)) = _
    rw [eqv_lots a b, Bool.eq_iff_iff, Bool.and_eq_true, beq_iff_eq, decide_eq_true_iff, decide_eq_true_iff, List.cons.injEq]
    constructor
    · rintro ⟨h, e⟩
      exact ⟨by omega, e⟩
    · rintro ⟨h, e⟩
      exact ⟨by omega, e⟩
theorem lay_lot : ∀ l : List Nat, PyData.canLayAll0 (lotL l) = true
  | [] => rfl
  | x :: l => by
    show ((PyData.int (x : Nat)).canLay0 && PyData.canLayAll0 (lotL l)) = true
    rw [lay_lot l]
    rfl
theorem depth_lot : ∀ l : List Nat, PyData.depthAll (lotL l) ≤ 10
  | [] => by decide
  | x :: l => by
    show max (PyData.int (x : Nat)).depth (PyData.depthAll (lotL l)) ≤ 10
    exact Nat.max_le.mpr ⟨by show (PyData.int (0 : Nat)).depth ≤ 10; decide, depth_lot l⟩
theorem depth_lotD (l : List Nat) : (lotD l).depth ≤ 64 := by
  show PyData.depthAll (lotL l) + 1 ≤ 64
  have := depth_lot l
  omega
theorem shaped_lot (l : List Nat) : SeqAt.shaped (lotD l) = true := by
  unfold SeqAt.shaped
  rw [decide_eq_true (depth_lotD l), Bool.and_true]
  exact lay_lot l
theorem eq_lots : EqLots := fun a b _ _ => by
  show gd (SeqAt.shaped (lotD a) && SeqAt.shaped (lotD b)) (ER.dat (.bool (PyData.eqvAll (lotL a) (lotL b)))) = _
  rw [shaped_lot, shaped_lot, eqv_lots]
  rfl
end Own

namespace Own
open PySem PySem.Spec PyProof.Rows L2 Gd Dq Mp RZ
theorem any_lot (j : Nat) : ∀ l : List Nat, ((lotL l).any fun z => PyData.eqv z (.int (j : Nat))) = l.any (· == j)
  | [] => rfl
  | x :: l => by
    show ((((x : Nat) : Int) == ((j : Nat) : Int)) || ((lotL l).any fun z => PyData.eqv z (.int (j : Nat)))) = ((x == j) || l.any (· == j))
    rw [any_lot j l]
    congr 1
    rw [Bool.eq_iff_iff, beq_iff_eq, beq_iff_eq]
    omega
theorem in_lot (j : Nat) (l : List Nat) : binF .inn (.int (j : Nat)) (lotD l) = some (.dat (.bool (l.any (· == j)))) := by
  show gd (SeqAt.shaped (.int (j : Nat)) && SeqAt.shaped (lotD l)) (ER.dat (.bool ((lotL l).any fun z => PyData.eqv z (.int (j : Nat))))) = _
  rw [shaped_lot, any_lot, Bool.and_true]
  rfl
theorem or_ev {C : CE'} {a b : ME} {sd : SD} {k : ER → Bool} : ev GEv C (.or a b) sd k = ev GEv C a sd fun x => ob (truR sd x) fun c => match c with
  | true => k x
  | false => ev GEv C b sd k := rfl
theorem in_ev {C : CE'} {a b c : PyData} {k : ER → Bool} : ev GEv C (.bin .inn (.var 2) (.var 1)) [.dat a, .dat b, .dat c] k = ob (binF .inn c b) k := rfl
theorem c11 {C : CE'} {a b c : PyData} {r : ER} (e : ∀ k, C 11 [.dat a, .dat b, .dat c] k = k r) (k : ER → Bool) : ev GEv C (.ntN (.call 11 (.cons (.var 0) (.cons (.var 1) (.cons (.var 2) .nil))))) [.dat a, .dat b, .dat c] k = k (.dat (.bool (!isNon r))) := by
  unfold ev ev callF
  refine (show evA GEv C (.cons (.var 0) (.cons (.var 1) (.cons (.var 2) .nil))) [.dat a, .dat b, .dat c] _ = _ from rfl).trans ?_
  refine (show (∀ k : List ER → Bool, evA GEv C (.cons (.var 0) (.cons (.var 1) (.cons (.var 2) .nil))) [.dat a, .dat b, .dat c] k = k [.dat a, .dat b, .dat c]) from fun _ => rfl) _ |>.trans ?_
  refine (ob_at (show avs _ [ER.dat a, ER.dat b, ER.dat c] = some ([SV.dat a, SV.dat b, SV.dat c], false) from rfl)).trans ?_
  refine (mt_t (show Nat.beq [SV.dat a, SV.dat b, SV.dat c].length (GEv.ar 11) = true from rfl)).trans ?_
  refine (e _).trans ?_
  rfl
theorem refd_ev {C : CE'} {a b c : PyData} {i : Bool} {r : ER} (hi : binF .inn c b = some (.dat (.bool i))) (e : ∀ k, C 11 [.dat a, .dat b, .dat c] k = k r) (k : ER → Bool) : ev GEv C (.or (.bin .inn (.var 2) (.var 1)) (.ntN (.call 11 (.cons (.var 0) (.cons (.var 1) (.cons (.var 2) .nil)))))) [.dat a, .dat b, .dat c] k = k (.dat (.bool (i || !isNon r))) := by
  refine or_ev.trans ?_
  refine in_ev.trans ?_
  refine (ob_at hi).trans ?_
  cases i with
  | true => rfl
  | false => exact c11 e k
end Own

namespace Own
open PySem PySem.Spec PyProof.Rows L2 Gd Dq Mp RZ
/-- is each way of no part of the lot refused? -/
def refdN (ss : List PyData) (l : List Nat) (j : Nat) : Bool := l.any (· == j) || refB ss l j
def allrefN (ss : List PyData) (l : List Nat) : Bool := (List.range 13).all (refdN ss l)
def refdD (ss : List PyData) (l : List Nat) : PyData → Bool
  | .int i => refdN ss l i.toNat
  | _ => false
theorem all_lot (ss : List PyData) (l : List Nat) : ∀ r : List Nat, (lotL r).all (refdD ss l) = r.all (refdN ss l)
  | [] => rfl
  | x :: r => by
    show (refdN ss l x && (lotL r).all (refdD ss l)) = (refdN ss l x && r.all (refdN ss l))
    rw [all_lot ss l r]
theorem allref_is (n : Nat) {ss : List PyData} {l : List Nat} (hss : ∀ s ∈ ss, s ∈ SS) (ht : ∀ s ∈ ss, ∃ ds, s = PyData.tuple ds) (hl : isLot l) (K : ER → Bool) :
    Cn (n + 4) 12 [.dat (.list ss), .dat (lotD l)] K = K (.dat (.bool (allrefN ss l))) := by
  have e : ∀ j, j < 13 → ∀ k, runF GEv DD (n + 3) 11 [.dat (.list ss), .dat (lotD l), .dat (.int (j : Nat))] k = k (frR (frB ss (l.map ordN) (ordN j))) := fun j hj k => rf_is n hss hl hj k
  unfold Cn runF
  generalize runF GEv DD (n + 3) = C at e ⊢
  show ev GEv C (.gn false 2 (.nm 2) (.it (.cst 1)) .yes (.or (.bin .inn (.var 2) (.var 1)) (.ntN (.call 11 (.cons (.var 0) (.cons (.var 1) (.cons (.var 2) .nil)))))) [2]) [.dat (.list ss), .dat (lotD l), .un] _ = _
  unfold ev genF evI ev
  refine (cst1 _ _).trans ?_
  refine (ob_at (sq1 _ ALLW)).trans ?_
  rw [allw_is]
  refine (allL_at (p := fun _ => true) (q := refdD ss l) fun x hx => ?_).trans ?_
  · obtain ⟨i, hi, rfl⟩ := mem_lotL hx
    have hi := List.mem_range.mp hi
    refine ⟨[.dat (.list ss), .dat (lotD l), .dat (.int (i : Nat))], rfl, fun k => ?_, fun _ k => ?_⟩
    · unfold evT
      rfl
    · refine (refd_ev (in_lot i l) (e i hi) k).trans ?_
      rw [isNon_frR _ fun s hs => ht s (by unfold frB at hs; exact List.mem_of_find?_eq_some hs), Bool.not_not]
      rfl
  · rw [List.filter_eq_self.mpr fun _ _ => rfl]
    show K (.dat (.bool (List.all (lotL (List.range 13)) (refdD ss l)))) = _
    rw [all_lot]
    rfl
end Own

namespace Own
open PySem PySem.Spec PyProof.Rows L2 Gd Dq Mp RZ
theorem notL_ss : ∀ s ∈ notL, s ∈ SS := fun s h => by
  rw [SS_is]
  exact List.mem_append_right _ (List.mem_append_left _ h)
theorem notL_tup : ∀ s ∈ notL, ∃ ds, s = PyData.tuple ds := fun s h => by
  obtain ⟨d, _, h⟩ := List.mem_map.mp h
  exact ⟨_, h.symm⟩
theorem avsN (sd : SD) (fb : List PyData) (a : PyData) : avs sd [ER.nw fb, ER.dat a] = some ([SV.dat (.list fb), SV.dat a], false) := rfl
theorem plain_is (n : Nat) {l : List Nat} (hl : isLot l) (K : ER → Bool) : Cn (n + 5) 8 [.dat (lotD l)] K = K (.dat (.bool (allrefN notL l))) := by
  have e : ∀ k, runF GEv DD (n + 4) 12 [.dat (.list notL), .dat (lotD l)] k = k (.dat (.bool (allrefN notL l))) := fun k => allref_is n notL_ss notL_tup hl k
  have e2 : ∀ k, runF GEv DD (n + 4) 13 [] k = k (.nw notL) := fun k => notL_is (n + 2) k
  unfold Cn runF
  generalize runF GEv DD (n + 4) = C at e e2 ⊢
  generalize allrefN notL l = q at e ⊢
  generalize lotD l = ld at e ⊢
  generalize notL = nl at e e2
  show ev GEv C (.call 12 (.cons (.call 13 .nil) (.cons (.var 0) .nil))) [.dat ld] _ = _
  unfold ev callF evA ev callF
  refine evA_nil.trans ?_
  refine (ob_at (show avs _ [] = some ([], false) from rfl)).trans ?_
  refine (mt_t (show Nat.beq ([] : List SV).length (GEv.ar 13) = true from rfl)).trans ?_
  refine (e2 _).trans ?_
  refine evA_var0.trans ?_
  refine (ob_at (avsN _ nl ld)).trans ?_
  refine (mt_t (show Nat.beq [SV.dat (.list nl), SV.dat ld].length (GEv.ar 12) = true from rfl)).trans ?_
  refine (e _).trans ?_
  rfl
end Own

namespace Own
open PySem PySem.Spec PyProof.Rows L2 Gd Dq Mp RZ
theorem notA_ss : ∀ s ∈ notL ++ notO, s ∈ SS := fun s h => by
  rw [SS_is]
  exact List.mem_append_right _ h
theorem notA_tup : ∀ s ∈ notL ++ notO, ∃ ds, s = PyData.tuple ds := fun s h => by
  rcases List.mem_append.mp h with h | h
  · exact notL_tup s h
  · obtain ⟨d, _, h⟩ := List.mem_map.mp h
    exact ⟨_, h.symm⟩
theorem add_not : binF .add (.list notL) (.list notO) = some (.nw (notL ++ notO)) := by kernel_rfl
theorem dOf_nw (sd : SD) (ds : List PyData) : dOf sd (.nw ds) = some (.list ds) := rfl
theorem bin_ev {C : CE'} {o : BK} {a b : ME} {sd : SD} {k : ER → Bool} : ev GEv C (.bin o a b) sd k = ev GEv C a sd fun r1 => ev GEv C b sd fun r2 => ob (dOf sd r1) fun d1 => ob (dOf sd r2) fun d2 => ob (binF o d1 d2) k := rfl
theorem call_ev0 {C : CE'} {f : Nat} {sd : SD} {r : ER} (ha : GEv.ar f = 0) (e : ∀ k, C f [] k = k r) (k : ER → Bool) : ev GEv C (.call f .nil) sd k = k r := by
  unfold ev callF
  refine evA_nil.trans ?_
  refine (ob_at (show avs _ [] = some ([], false) from rfl)).trans ?_
  refine (mt_t (show Nat.beq ([] : List SV).length (GEv.ar f) = true from by rw [ha]; rfl)).trans ?_
  exact e _
theorem clear_is (n : Nat) {l : List Nat} (hl : isLot l) (K : ER → Bool) : Cn (n + 5) 7 [.dat (lotD l)] K = K (.dat (.bool (allrefN (notL ++ notO) l))) := by
  have e : ∀ k, runF GEv DD (n + 4) 12 [.dat (.list (notL ++ notO)), .dat (lotD l)] k = k (.dat (.bool (allrefN (notL ++ notO) l))) := fun k => allref_is n notA_ss notA_tup hl k
  have e2 : ∀ k, runF GEv DD (n + 4) 13 [] k = k (.nw notL) := fun k => notL_is (n + 2) k
  have e3 : ∀ k, runF GEv DD (n + 4) 14 [] k = k (.nw notO) := fun k => notO_is (n + 2) k
  have ad := add_not
  unfold Cn runF
  generalize runF GEv DD (n + 4) = C at e e2 e3 ⊢
  generalize allrefN (notL ++ notO) l = q at e ⊢
  generalize lotD l = ld at e ⊢
  generalize notL ++ notO = na at e ad
  generalize notL = nl at e2 ad
  generalize notO = no at e3 ad
  show ev GEv C (.call 12 (.cons (.bin .add (.call 13 .nil) (.call 14 .nil)) (.cons (.var 0) .nil))) [.dat ld] _ = _
  unfold ev callF evA
  refine bin_ev.trans ?_
  refine (call_ev0 rfl e2 _).trans ?_
  refine (call_ev0 rfl e3 _).trans ?_
  refine (ob_at (dOf_nw _ nl)).trans ?_
  refine (ob_at (dOf_nw _ no)).trans ?_
  refine (ob_at ad).trans ?_
  refine evA_var0.trans ?_
  refine (ob_at (avsN _ na ld)).trans ?_
  refine (mt_t (show Nat.beq [SV.dat (.list na), SV.dat ld].length (GEv.ar 12) = true from rfl)).trans ?_
  refine (e _).trans ?_
  rfl
end Own

namespace Own
open PySem PySem.Spec PyProof.Rows L2 Gd Dq Mp RZ
local macro_rules | `(tactic| walk_at "ev") => `(tactic| simp only [Own.ar_0, Own.ar_1, Own.ar_2, Own.ar_3, Own.ar_4, Own.ar_5, Own.ar_6, Own.ar_7, Own.ar_8, Own.ar_9, Own.ar_10, Own.ar_11, Own.ar_12, Own.ar_13, Own.ar_14, Own.ar_15, Own.ar_16, Own.ar_17, Own.ar_18, Own.ar_19, Own.ar_20, Own.ar_21, Own.ar_22, Own.ar_23, Own.ar_24, Own.ar_25, ↓Mp.ev_var, ↓Mp.ev_int, ↓Mp.ev_bl, ↓Mp.ev_non, ↓Mp.ev_str, ↓Mp.ev_cst, ↓Mp.ev_tup, ↓Mp.ev_lst, ↓Mp.ev_bin, ↓Mp.ev_un, ↓Mp.ev_isN, ↓Mp.ev_ntN, ↓Mp.ev_and, ↓Mp.ev_or, ↓Mp.ev_not, ↓Mp.ev_ife, ↓Mp.ev_slc, ↓Mp.ev_rev, ↓Mp.ev_bi, ↓Mp.ev_bj, ↓Mp.ev_call, ↓Mp.ev_lc, ↓Mp.ev_gn, ↓Mp.ev_isi, ↓Mp.ev_sub', ↓Mp.ev_rcmp, ↓Mp.ev_lrg, ↓Mp.evA_nil, ↓Mp.evA_cons, ↓Mp.evA_star, ↓Mp.evT_tru, ↓Mp.evT_tbl, ↓Mp.evT_tand, ↓Mp.evT_tor, ↓Mp.evT_tnot, ↓Mp.evT_yes, ↓Mp.evI_it, ↓Mp.evI_rng1, ↓Mp.rng1_is, ↓Mp.evI_rng2, ↓Mp.evI_enu, ↓Mp.evI_zip, ↓Mp.evO_no, ↓Mp.evO_some, ↓Mp.es_nil, ↓Mp.es_seq, ↓Mp.es_asg, ↓Mp.es_unp, ↓Mp.es_par, ↓Mp.es_ret, ↓Mp.es_retN, ↓Mp.es_exp, ↓Mp.es_ife, ↓Mp.es_for, ↓Mp.es_brk, ↓Mp.es_cnt, ↓Mp.es_frz, ↓Mp.es_aug, ↓Mp.es_app, ↓Mp.ob_some', ↓Mp.oq_some, ↓Mp.oq_gd, Mp.oq_some, Mp.oq_gd, Mp.bq_t, Mp.bq_f, ↓Mp.ob_gd, Mp.gs0, Mp.gsS, Mp.vk_dat, Mp.vk_ol, Mp.vk_od, Mp.vk_src, Mp.subk_dat, Mp.subk_ol, Mp.subk_od, Mp.dOf_dat', Mp.dOf_nw', Mp.sOf_dat', Mp.sOf_nw', Mp.dOf_lc, Mp.dk_ol, Mp.svOf_dat, Mp.svOf_nw, Mp.svOf_nd, Mp.svOf_src, Mp.rtOf_dat, Mp.rtOf_nw, Mp.rtOf_lc, Mp.rk_ol, Mp.sOfs_nil, Mp.sOfs_cons, Mp.dOfs_nil, Mp.dOfs_cons, Mp.avs_nil, Mp.avs_cons, Mp.avR_dat, Mp.avR_nw, Mp.avR_src, Mp.avR_lc, Mp.ak_ol, Mp.sqR_list, Mp.sqR_tuple, Mp.sqR_nw, Mp.sqR_lc, Mp.qk_ol, Mp.seqOf_list, Mp.seqOf_tuple, Mp.iOf_int, Mp.bOf_bool, Mp.setG_nm, Mp.setG_tpt, Mp.setG_tpl, Mp.setGs_nil, Mp.setGs_cons, Mp.wipeD_nil, Mp.wipeD_cons, Mp.frz_nil, Mp.frz_cons, Mp.fk_ol, Mp.fk_od, Mp.fk_dat, Mp.fk_un, Mp.fk_src, Mp.truD_bool, Mp.truD_int, Mp.truD_none, Mp.truD_list, Mp.truD_tuple, Mp.truR_nw, Mp.isNon_none, Mp.isNon_int, Mp.isNon_tuple, Mp.isNon_list, Mp.isNon_bool, Mp.bin_add, Mp.bin_addL, Mp.bin_addT, Mp.bin_sub, Mp.bin_mul, Mp.bin_mod, Mp.bin_fdiv, Mp.bin_band, Mp.bin_bor, Mp.bin_shl, Mp.bin_shr, Mp.bin_lt, Mp.bin_le, Mp.bin_gt, Mp.bin_ge, Mp.bin_eqI, Mp.bin_neI, Mp.bin_ixL, Mp.bin_ixT, Mp.un_neg', Mp.bi_lenL, Mp.bi_lenT, Mp.bi_int, Mp.bi_intB, Mp.bi_tupL, Mp.bi_tupT, Mp.bi_lstL, Mp.bi_lstT, Mp.bi_max2, Mp.bi_min2, Mp.sl_L, Mp.sl_T, Mp.rev_L, Mp.rev_T, Mp.runD_fn, List.set_cons_zero, List.set_cons_succ, Option.bind_some, Option.map_some, Mp.ob_some', Mp.ob_gd, List.replicate, List.nil_append, List.cons_append, Bool.or_false, Bool.or_true, List.length_cons, List.length_nil, Mp.bk_t, Bool.not_false, Bool.not_true, Bool.true_and, Bool.false_and, Bool.and_true, Bool.true_or, Bool.false_or, Mp.at_0, Mp.at_1, Mp.at_2, Mp.at_3, Mp.small_0, Mp.small_1, Mp.small_2, Mp.small_3, Mp.small_4, Mp.small_5, Mp.small_6, Mp.bk_f, Mp.augk_int, Mp.appk_ol, Mp.rg1k_int, List.append_nil])
local macro_rules | `(tactic| walk_at "evh") => `(tactic| simp only [Own.ar_0, Own.ar_1, Own.ar_2, Own.ar_3, Own.ar_4, Own.ar_5, Own.ar_6, Own.ar_7, Own.ar_8, Own.ar_9, Own.ar_10, Own.ar_11, Own.ar_12, Own.ar_13, Own.ar_14, Own.ar_15, Own.ar_16, Own.ar_17, Own.ar_18, Own.ar_19, Own.ar_20, Own.ar_21, Own.ar_22, Own.ar_23, Own.ar_24, Own.ar_25, ↓Mp.ev_var, ↓Mp.ev_int, ↓Mp.ev_bl, ↓Mp.ev_non, ↓Mp.ev_str, ↓Mp.ev_cst, ↓Mp.ev_tup, ↓Mp.ev_lst, ↓Mp.ev_bin, ↓Mp.ev_un, ↓Mp.ev_isN, ↓Mp.ev_ntN, ↓Mp.ev_and, ↓Mp.ev_or, ↓Mp.ev_not, ↓Mp.ev_ife, ↓Mp.ev_slc, ↓Mp.ev_rev, ↓Mp.ev_bi, ↓Mp.ev_bj, ↓Mp.ev_call, ↓Mp.ev_lc, ↓Mp.ev_gn, ↓Mp.ev_isi, ↓Mp.ev_sub', ↓Mp.ev_rcmp, ↓Mp.ev_lrg, ↓Mp.evA_nil, ↓Mp.evA_cons, ↓Mp.evA_star, ↓Mp.evT_tru, ↓Mp.evT_tbl, ↓Mp.evT_tand, ↓Mp.evT_tor, ↓Mp.evT_tnot, ↓Mp.evT_yes, ↓Mp.evI_it, ↓Mp.evI_rng1, ↓Mp.rng1_is, ↓Mp.evI_rng2, ↓Mp.evI_enu, ↓Mp.evI_zip, ↓Mp.evO_no, ↓Mp.evO_some, ↓Mp.es_nil, ↓Mp.es_seq, ↓Mp.es_asg, ↓Mp.es_unp, ↓Mp.es_par, ↓Mp.es_ret, ↓Mp.es_retN, ↓Mp.es_exp, ↓Mp.es_ife, ↓Mp.es_for, ↓Mp.es_brk, ↓Mp.es_cnt, ↓Mp.es_frz, ↓Mp.es_aug, ↓Mp.es_app, ↓Mp.ob_some', ↓Mp.oq_some, ↓Mp.oq_gd, Mp.oq_some, Mp.oq_gd, Mp.bq_t, Mp.bq_f, ↓Mp.ob_gd, Mp.gs0, Mp.gsS, Mp.vk_dat, Mp.vk_ol, Mp.vk_od, Mp.vk_src, Mp.subk_dat, Mp.subk_ol, Mp.subk_od, Mp.dOf_dat', Mp.dOf_nw', Mp.sOf_dat', Mp.sOf_nw', Mp.dOf_lc, Mp.dk_ol, Mp.svOf_dat, Mp.svOf_nw, Mp.svOf_nd, Mp.svOf_src, Mp.rtOf_dat, Mp.rtOf_nw, Mp.rtOf_lc, Mp.rk_ol, Mp.sOfs_nil, Mp.sOfs_cons, Mp.dOfs_nil, Mp.dOfs_cons, Mp.avs_nil, Mp.avs_cons, Mp.avR_dat, Mp.avR_nw, Mp.avR_src, Mp.avR_lc, Mp.ak_ol, Mp.sqR_list, Mp.sqR_tuple, Mp.sqR_nw, Mp.sqR_lc, Mp.qk_ol, Mp.seqOf_list, Mp.seqOf_tuple, Mp.iOf_int, Mp.bOf_bool, Mp.setG_nm, Mp.setG_tpt, Mp.setG_tpl, Mp.setGs_nil, Mp.setGs_cons, Mp.wipeD_nil, Mp.wipeD_cons, Mp.frz_nil, Mp.frz_cons, Mp.fk_ol, Mp.fk_od, Mp.fk_dat, Mp.fk_un, Mp.fk_src, Mp.truD_bool, Mp.truD_int, Mp.truD_none, Mp.truD_list, Mp.truD_tuple, Mp.truR_nw, Mp.isNon_none, Mp.isNon_int, Mp.isNon_tuple, Mp.isNon_list, Mp.isNon_bool, Mp.bin_add, Mp.bin_addL, Mp.bin_addT, Mp.bin_sub, Mp.bin_mul, Mp.bin_mod, Mp.bin_fdiv, Mp.bin_band, Mp.bin_bor, Mp.bin_shl, Mp.bin_shr, Mp.bin_lt, Mp.bin_le, Mp.bin_gt, Mp.bin_ge, Mp.bin_eqI, Mp.bin_neI, Mp.bin_ixL, Mp.bin_ixT, Mp.un_neg', Mp.bi_lenL, Mp.bi_lenT, Mp.bi_int, Mp.bi_intB, Mp.bi_tupL, Mp.bi_tupT, Mp.bi_lstL, Mp.bi_lstT, Mp.bi_max2, Mp.bi_min2, Mp.sl_L, Mp.sl_T, Mp.rev_L, Mp.rev_T, Mp.runD_fn, List.set_cons_zero, List.set_cons_succ, Option.bind_some, Option.map_some, Mp.ob_some', Mp.ob_gd, List.replicate, List.nil_append, List.cons_append, Bool.or_false, Bool.or_true, List.length_cons, List.length_nil, Mp.bk_t, Bool.not_false, Bool.not_true, Bool.true_and, Bool.false_and, Bool.and_true, Bool.true_or, Bool.false_or, Mp.at_0, Mp.at_1, Mp.at_2, Mp.at_3, Mp.small_0, Mp.small_1, Mp.small_2, Mp.small_3, Mp.small_4, Mp.small_5, Mp.small_6, Mp.bk_f, Mp.augk_int, Mp.appk_ol, Mp.rg1k_int, List.append_nil, *])
/-- the numbers with the bits of l -/
def wholeN (l : List Nat) : Nat := (l.map fun k => 2 ^ k).sum
def stepN (w : Nat) (left one : Nat) : Nat := if one &&& w = w then left &&& one else left
def bitsN (m : Nat) : List Nat := (List.range 13).filter fun k => (m / 2 ^ k) &&& 1 == 1
def hbN (l ks : List Nat) : List Nat := bitsN (ks.foldl (stepN (wholeN l)) 8191)
theorem sum_cast (l : List Nat) : (l.map fun k => (1 * 2 ^ (((k : Nat) : Int)).toNat : Int)).sum = ((wholeN l : Nat) : Int) := by
  unfold wholeN
  induction l with
  | nil => rfl
  | cons a l ih =>
    rw [List.map_cons, List.sum_cons, ih, List.map_cons, List.sum_cons]
    simp
theorem fst_fold {g : Nat → Nat → Nat} {h : Nat → SV} : ∀ (ks : List Nat) (a : Nat) (y : SV) , (ks.foldl (fun (b : Nat × SV) one => (g b.1 one, h one)) (a, y)).1 = ks.foldl g a
  | [], _, _ => rfl
  | k :: ks, a, y => by
    rw [List.foldl_cons, List.foldl_cons]
    exact fst_fold ks _ _
theorem shr_nat (m a : Nat) : (((m : Nat) : Int) / 2 ^ (((a : Nat) : Int).toNat)) = ((m / 2 ^ a : Nat) : Int) := by
  rw [Int.toNat_natCast]
  push_cast
  rfl
theorem hb_is (n : Nat) {l ks : List Nat} (hl : isLot l) (K : ER → Bool) : runF GEv DD (n + 1) 24 [.dat (lotD l), .dat (.list (lotL ks))] K = K (.dat (lotD (hbN l ks))) := by
  rw [runF_S]
  show runD _ _ (.fn 4 M_lw_hull_by) _ _ = _
  unfold M_lw_hull_by lotD
  walk_at "ev"
  rw [lot_ble hl]
  walk_at "ev"
  unfold lotL
  refine (nestL_map (enc := fun i => PyData.int (i : Nat)) (f := fun k => .int (1 * 2 ^ ((k : Nat) : Int).toNat)) (fun a ha => ?_)).trans ?_
  rotate_left
  · walk_at "ev"
    rw [jsum_map]
    walk_at "ev"
    rw [sum_cast]
    rw [show powOk 1 13 = true from rfl]
    walk_at "ev"
    rw [show ((1 : Int) * 2 ^ Int.toNat 13 - 1) = ((8191 : Nat) : Int) from by decide]
    refine (forL_fold (enc := fun (i : Nat) => PyData.int (i : Nat)) (S := fun (b : Nat × SV) => [SV.dat (lotD l), SV.dat (PyData.list (lotL ks)), SV.dat (PyData.int (wholeN l : Nat)), SV.dat (PyData.int (b.1 : Nat)), b.2, SV.un]) (b := (8191, .un)) (f := fun b one => (stepN (wholeN l) b.1 one, .dat (.int (one : Nat)))) (P := fun _ => True) trivial (fun _ _ _ _ => trivial) (fun a _ b _ N => ?_)).trans ?_
    · walk_at "ev"
      rw [PySem.W.os_band]
      unfold stepN
      by_cases h : a &&& wholeN l = wholeN l
      · rw [decide_eq_true (by rw [h]), if_pos h]
        walk_at "ev"
        rw [PySem.W.os_band]
      · rw [decide_eq_false (by intro z; exact h (by omega)), if_neg h]
        walk_at "ev"
    · walk_at "ev"
      rw [show rgOk 13 = true from rfl]
      walk_at "ev"
      rw [show Nat.ble ((rgL 0 (Int.toNat 13)).length * 1) 16000000 = true from rfl]
      walk_at "ev"
      rw [show rgL 0 (Int.toNat 13) = (List.range 13).map fun i => PyData.int (i : Nat) from rgL_nat 13]
      generalize hq : (List.foldl (fun b one => (stepN (wholeN l) b.fst one, SV.dat (PyData.int (one : Nat)))) (8191, SV.un) ks) = q
      have hq1 : q.1 = ks.foldl (stepN (wholeN l)) 8191 := by
        rw [← hq]
        exact fst_fold _ _ _
      refine (nestL_fil (enc := fun (i : Nat) => PyData.int (i : Nat)) (f := fun (i : Nat) => PyData.int (i : Nat)) (p := fun k => (q.1 / 2 ^ k) &&& 1 == 1) (fun a ha => ⟨_, rfl, fun k => ?_, fun _ k => ?_⟩)).trans ?_
      · walk_at "ev"
        rw [show decide ((0 : Int) ≤ (a : Nat)) = true from decide_eq_true (by omega)]
        walk_at "ev"
        rw [shr_nat, show (1 : Int) = ((1 : Nat) : Int) from rfl, PySem.W.os_band]
        congr 1
        rw [Bool.eq_iff_iff, decide_eq_true_iff, beq_iff_eq]
        omega
      · walk_at "ev"
      · unfold hbN bitsN
        rw [hq1]
        walk_at "ev"
  · refine ⟨_, rfl, fun k => rfl, fun k => ?_⟩
    walk_at "ev"
    rw [powOk_1 (by have := hl.1 a ha; omega)]
    walk_at "ev"
end Own


namespace Own
open PySem PySem.Spec PyProof.Rows L2 Gd Dq Mp RZ
local macro_rules | `(tactic| walk_at "ev") => `(tactic| simp only [Own.ar_0, Own.ar_1, Own.ar_2, Own.ar_3, Own.ar_4, Own.ar_5, Own.ar_6, Own.ar_7, Own.ar_8, Own.ar_9, Own.ar_10, Own.ar_11, Own.ar_12, Own.ar_13, Own.ar_14, Own.ar_15, Own.ar_16, Own.ar_17, Own.ar_18, Own.ar_19, Own.ar_20, Own.ar_21, Own.ar_22, Own.ar_23, Own.ar_24, Own.ar_25, ↓Mp.ev_var, ↓Mp.ev_int, ↓Mp.ev_bl, ↓Mp.ev_non, ↓Mp.ev_str, ↓Mp.ev_cst, ↓Mp.ev_tup, ↓Mp.ev_lst, ↓Mp.ev_bin, ↓Mp.ev_un, ↓Mp.ev_isN, ↓Mp.ev_ntN, ↓Mp.ev_and, ↓Mp.ev_or, ↓Mp.ev_not, ↓Mp.ev_ife, ↓Mp.ev_slc, ↓Mp.ev_rev, ↓Mp.ev_bi, ↓Mp.ev_bj, ↓Mp.ev_call, ↓Mp.ev_lc, ↓Mp.ev_gn, ↓Mp.ev_isi, ↓Mp.ev_sub', ↓Mp.ev_rcmp, ↓Mp.ev_lrg, ↓Mp.evA_nil, ↓Mp.evA_cons, ↓Mp.evA_star, ↓Mp.evT_tru, ↓Mp.evT_tbl, ↓Mp.evT_tand, ↓Mp.evT_tor, ↓Mp.evT_tnot, ↓Mp.evT_yes, ↓Mp.evI_it, ↓Mp.evI_rng1, ↓Mp.rng1_is, ↓Mp.evI_rng2, ↓Mp.evI_enu, ↓Mp.evI_zip, ↓Mp.evO_no, ↓Mp.evO_some, ↓Mp.es_nil, ↓Mp.es_seq, ↓Mp.es_asg, ↓Mp.es_unp, ↓Mp.es_par, ↓Mp.es_ret, ↓Mp.es_retN, ↓Mp.es_exp, ↓Mp.es_ife, ↓Mp.es_for, ↓Mp.es_brk, ↓Mp.es_cnt, ↓Mp.es_frz, ↓Mp.es_aug, ↓Mp.es_app, ↓Mp.ob_some', ↓Mp.oq_some, ↓Mp.oq_gd, Mp.oq_some, Mp.oq_gd, Mp.bq_t, Mp.bq_f, ↓Mp.ob_gd, Mp.gs0, Mp.gsS, Mp.vk_dat, Mp.vk_ol, Mp.vk_od, Mp.vk_src, Mp.subk_dat, Mp.subk_ol, Mp.subk_od, Mp.dOf_dat', Mp.dOf_nw', Mp.sOf_dat', Mp.sOf_nw', Mp.dOf_lc, Mp.dk_ol, Mp.svOf_dat, Mp.svOf_nw, Mp.svOf_nd, Mp.svOf_src, Mp.rtOf_dat, Mp.rtOf_nw, Mp.rtOf_lc, Mp.rk_ol, Mp.sOfs_nil, Mp.sOfs_cons, Mp.dOfs_nil, Mp.dOfs_cons, Mp.avs_nil, Mp.avs_cons, Mp.avR_dat, Mp.avR_nw, Mp.avR_src, Mp.avR_lc, Mp.ak_ol, Mp.sqR_list, Mp.sqR_tuple, Mp.sqR_nw, Mp.sqR_lc, Mp.qk_ol, Mp.seqOf_list, Mp.seqOf_tuple, Mp.iOf_int, Mp.bOf_bool, Mp.setG_nm, Mp.setG_tpt, Mp.setG_tpl, Mp.setGs_nil, Mp.setGs_cons, Mp.wipeD_nil, Mp.wipeD_cons, Mp.frz_nil, Mp.frz_cons, Mp.fk_ol, Mp.fk_od, Mp.fk_dat, Mp.fk_un, Mp.fk_src, Mp.truD_bool, Mp.truD_int, Mp.truD_none, Mp.truD_list, Mp.truD_tuple, Mp.truR_nw, Mp.isNon_none, Mp.isNon_int, Mp.isNon_tuple, Mp.isNon_list, Mp.isNon_bool, Mp.bin_add, Mp.bin_addL, Mp.bin_addT, Mp.bin_sub, Mp.bin_mul, Mp.bin_mod, Mp.bin_fdiv, Mp.bin_band, Mp.bin_bor, Mp.bin_shl, Mp.bin_shr, Mp.bin_lt, Mp.bin_le, Mp.bin_gt, Mp.bin_ge, Mp.bin_eqI, Mp.bin_neI, Mp.bin_ixL, Mp.bin_ixT, Mp.un_neg', Mp.bi_lenL, Mp.bi_lenT, Mp.bi_int, Mp.bi_intB, Mp.bi_tupL, Mp.bi_tupT, Mp.bi_lstL, Mp.bi_lstT, Mp.bi_max2, Mp.bi_min2, Mp.sl_L, Mp.sl_T, Mp.rev_L, Mp.rev_T, Mp.runD_fn, List.set_cons_zero, List.set_cons_succ, Option.bind_some, Option.map_some, Mp.ob_some', Mp.ob_gd, List.replicate, List.nil_append, List.cons_append, Bool.or_false, Bool.or_true, List.length_cons, List.length_nil, Mp.bk_t, Bool.not_false, Bool.not_true, Bool.true_and, Bool.false_and, Bool.and_true, Bool.true_or, Bool.false_or, Mp.at_0, Mp.at_1, Mp.at_2, Mp.at_3, Mp.small_0, Mp.small_1, Mp.small_2, Mp.small_3, Mp.small_4, Mp.small_5, Mp.small_6, Mp.bk_f, Mp.augk_int, Mp.appk_ol, Mp.rg1k_int, List.append_nil])
local macro_rules | `(tactic| walk_at "evh") => `(tactic| simp only [Own.ar_0, Own.ar_1, Own.ar_2, Own.ar_3, Own.ar_4, Own.ar_5, Own.ar_6, Own.ar_7, Own.ar_8, Own.ar_9, Own.ar_10, Own.ar_11, Own.ar_12, Own.ar_13, Own.ar_14, Own.ar_15, Own.ar_16, Own.ar_17, Own.ar_18, Own.ar_19, Own.ar_20, Own.ar_21, Own.ar_22, Own.ar_23, Own.ar_24, Own.ar_25, ↓Mp.ev_var, ↓Mp.ev_int, ↓Mp.ev_bl, ↓Mp.ev_non, ↓Mp.ev_str, ↓Mp.ev_cst, ↓Mp.ev_tup, ↓Mp.ev_lst, ↓Mp.ev_bin, ↓Mp.ev_un, ↓Mp.ev_isN, ↓Mp.ev_ntN, ↓Mp.ev_and, ↓Mp.ev_or, ↓Mp.ev_not, ↓Mp.ev_ife, ↓Mp.ev_slc, ↓Mp.ev_rev, ↓Mp.ev_bi, ↓Mp.ev_bj, ↓Mp.ev_call, ↓Mp.ev_lc, ↓Mp.ev_gn, ↓Mp.ev_isi, ↓Mp.ev_sub', ↓Mp.ev_rcmp, ↓Mp.ev_lrg, ↓Mp.evA_nil, ↓Mp.evA_cons, ↓Mp.evA_star, ↓Mp.evT_tru, ↓Mp.evT_tbl, ↓Mp.evT_tand, ↓Mp.evT_tor, ↓Mp.evT_tnot, ↓Mp.evT_yes, ↓Mp.evI_it, ↓Mp.evI_rng1, ↓Mp.rng1_is, ↓Mp.evI_rng2, ↓Mp.evI_enu, ↓Mp.evI_zip, ↓Mp.evO_no, ↓Mp.evO_some, ↓Mp.es_nil, ↓Mp.es_seq, ↓Mp.es_asg, ↓Mp.es_unp, ↓Mp.es_par, ↓Mp.es_ret, ↓Mp.es_retN, ↓Mp.es_exp, ↓Mp.es_ife, ↓Mp.es_for, ↓Mp.es_brk, ↓Mp.es_cnt, ↓Mp.es_frz, ↓Mp.es_aug, ↓Mp.es_app, ↓Mp.ob_some', ↓Mp.oq_some, ↓Mp.oq_gd, Mp.oq_some, Mp.oq_gd, Mp.bq_t, Mp.bq_f, ↓Mp.ob_gd, Mp.gs0, Mp.gsS, Mp.vk_dat, Mp.vk_ol, Mp.vk_od, Mp.vk_src, Mp.subk_dat, Mp.subk_ol, Mp.subk_od, Mp.dOf_dat', Mp.dOf_nw', Mp.sOf_dat', Mp.sOf_nw', Mp.dOf_lc, Mp.dk_ol, Mp.svOf_dat, Mp.svOf_nw, Mp.svOf_nd, Mp.svOf_src, Mp.rtOf_dat, Mp.rtOf_nw, Mp.rtOf_lc, Mp.rk_ol, Mp.sOfs_nil, Mp.sOfs_cons, Mp.dOfs_nil, Mp.dOfs_cons, Mp.avs_nil, Mp.avs_cons, Mp.avR_dat, Mp.avR_nw, Mp.avR_src, Mp.avR_lc, Mp.ak_ol, Mp.sqR_list, Mp.sqR_tuple, Mp.sqR_nw, Mp.sqR_lc, Mp.qk_ol, Mp.seqOf_list, Mp.seqOf_tuple, Mp.iOf_int, Mp.bOf_bool, Mp.setG_nm, Mp.setG_tpt, Mp.setG_tpl, Mp.setGs_nil, Mp.setGs_cons, Mp.wipeD_nil, Mp.wipeD_cons, Mp.frz_nil, Mp.frz_cons, Mp.fk_ol, Mp.fk_od, Mp.fk_dat, Mp.fk_un, Mp.fk_src, Mp.truD_bool, Mp.truD_int, Mp.truD_none, Mp.truD_list, Mp.truD_tuple, Mp.truR_nw, Mp.isNon_none, Mp.isNon_int, Mp.isNon_tuple, Mp.isNon_list, Mp.isNon_bool, Mp.bin_add, Mp.bin_addL, Mp.bin_addT, Mp.bin_sub, Mp.bin_mul, Mp.bin_mod, Mp.bin_fdiv, Mp.bin_band, Mp.bin_bor, Mp.bin_shl, Mp.bin_shr, Mp.bin_lt, Mp.bin_le, Mp.bin_gt, Mp.bin_ge, Mp.bin_eqI, Mp.bin_neI, Mp.bin_ixL, Mp.bin_ixT, Mp.un_neg', Mp.bi_lenL, Mp.bi_lenT, Mp.bi_int, Mp.bi_intB, Mp.bi_tupL, Mp.bi_tupT, Mp.bi_lstL, Mp.bi_lstT, Mp.bi_max2, Mp.bi_min2, Mp.sl_L, Mp.sl_T, Mp.rev_L, Mp.rev_T, Mp.runD_fn, List.set_cons_zero, List.set_cons_succ, Option.bind_some, Option.map_some, Mp.ob_some', Mp.ob_gd, List.replicate, List.nil_append, List.cons_append, Bool.or_false, Bool.or_true, List.length_cons, List.length_nil, Mp.bk_t, Bool.not_false, Bool.not_true, Bool.true_and, Bool.false_and, Bool.and_true, Bool.true_or, Bool.false_or, Mp.at_0, Mp.at_1, Mp.at_2, Mp.at_3, Mp.small_0, Mp.small_1, Mp.small_2, Mp.small_3, Mp.small_4, Mp.small_5, Mp.small_6, Mp.bk_f, Mp.augk_int, Mp.appk_ol, Mp.rg1k_int, List.append_nil, *])
/-! the law's own tables -/
def PR6 : List (Nat × Nat) := [(0, 1), (0, 2), (0, 3), (1, 2), (1, 3), (2, 3)]
def TS6 : List (List (Nat × Nat)) := PR6.foldl (fun some p => some ++ some.map fun ts => ts ++ [p]) [[]]
def SYs : List Say := TS6.flatMap fun ts => [(ts, none)] ++ PR6.map (fun p => (ts, some p)) ++ PR6.map (fun p => (ts, some (p.2, p.1)))
def OR : List (List Nat) := [[0, 1, 0, 1], [0, 1, 0, 2], [0, 1, 1, 2], [0, 1, 2, 3], [0, 2, 0, 1], [0, 2, 1, 2], [0, 2, 1, 3], [0, 3, 1, 2], [1, 2, 0, 1], [1, 2, 0, 2], [1, 2, 0, 3], [1, 3, 0, 2], [2, 3, 0, 1]]
def orI (k : Nat) : List Int := (OR.getD k []).map fun (n : Nat) => (n : Int)
def bitS (s : Say) (k : Nat) : Bool := keepT s (orI k)
def maskS (s : Say) : Nat := (((List.range 13).filter (bitS s)).map fun k => 2 ^ k).sum
def KM : List Nat := SYs.map maskS
def PLs : List Say := PR6.map (fun p => ([], some p)) ++ PR6.map (fun p => ([], some (p.2, p.1)))
def CLs : List Say := PR6.map fun p => ([p], none)
def WD : List Nat := KM.filter fun m => decide (m + 1 < 8192)
def PL : List Nat := PLs.map maskS
def CL : List Nat := PL ++ CLs.map maskS
theorem ks_is (n : Nat) : ∀ k, Cn (n + 1) 22 [.dat (.int 6)] k = k (.nw (SYs.map eS)) := fun k => by kernel_rfl
theorem ord_is (n : Nat) : ∀ k, Cn (n + 2) 20 [] k = k (.nw (OR.map eO)) := fun k => by kernel_rfl
theorem eO_pl (o : List Nat) : eO o = ePl (o.map fun (n : Nat) => (n : Int)) := by
  unfold eO ePl
  rw [List.map_map]
  rfl
theorem inS_mono {n m : Nat} {s : Say} (h : inS n s) (l : n ≤ m) : inS m s := ⟨fun t ht => ⟨Nat.lt_of_lt_of_le (h.1 t ht).1 l, Nat.lt_of_lt_of_le (h.1 t ht).2 l⟩, fun q hq => ⟨Nat.lt_of_lt_of_le (h.2 q hq).1 l, Nat.lt_of_lt_of_le (h.2 q hq).2 l⟩⟩
def inSB (n : Nat) (s : Say) : Bool := s.1.all (fun t => Nat.blt t.1 n && Nat.blt t.2 n) && (match s.2 with | some h => Nat.blt h.1 n && Nat.blt h.2 n | none => true)
theorem blt_lt {a b : Nat} (h : Nat.blt a b = true) : a < b := by
  unfold Nat.blt at h
  exact Nat.le_of_ble_eq_true h
theorem inSB_ok {n : Nat} {s : Say} (h : inSB n s = true) : inS n s := by
  unfold inSB at h
  rw [Bool.and_eq_true] at h
  refine ⟨fun t ht => ?_, fun q hq => ?_⟩
  · have := List.all_eq_true.mp h.1 t ht
    rw [Bool.and_eq_true] at this
    exact ⟨blt_lt this.1, blt_lt this.2⟩
  · have h2 := h.2
    rw [hq] at h2
    simp only [Bool.and_eq_true] at h2
    exact ⟨blt_lt h2.1, blt_lt h2.2⟩
theorem sy_in : ∀ s ∈ SYs, inS 4 s ∧ s.1.length ≤ 16000000 := fun s hs => by
  have h : SYs.all (fun s => inSB 4 s && Nat.ble s.1.length 10) = true := by decide +kernel
  have := List.all_eq_true.mp h s hs
  rw [Bool.and_eq_true] at this
  exact ⟨inSB_ok this.1, Nat.le_trans (Nat.le_of_ble_eq_true this.2) (by decide)⟩
theorem or_len : ∀ o ∈ OR, o.length = 4 := by decide
theorem lk_is (n : Nat) {s : Say} {o : List Nat} (hs : inS 4 s ∧ s.1.length ≤ 16000000) (ho : o.length = 4) (k : ER → Bool) : runF GEv DD (n + 1) 19 [.dat (eS s), .dat (eO o)] k = k (.dat (.bool (keepT s (o.map fun (n : Nat) => (n : Int))))) := by
  rw [eO_pl, runF_S]
  show runD _ _ (.fn 4 B_lwkeeps) _ _ = _
  exact lwkeeps_is (G := GEv) (C := runF GEv DD n) (by rw [List.length_map, ho]; exact hs.1) hs.2 k
end Own


namespace Own
open PySem PySem.Spec PyProof.Rows L2 Gd Dq Mp RZ
local macro_rules | `(tactic| walk_at "ev") => `(tactic| simp only [Own.ar_0, Own.ar_1, Own.ar_2, Own.ar_3, Own.ar_4, Own.ar_5, Own.ar_6, Own.ar_7, Own.ar_8, Own.ar_9, Own.ar_10, Own.ar_11, Own.ar_12, Own.ar_13, Own.ar_14, Own.ar_15, Own.ar_16, Own.ar_17, Own.ar_18, Own.ar_19, Own.ar_20, Own.ar_21, Own.ar_22, Own.ar_23, Own.ar_24, Own.ar_25, ↓Mp.ev_var, ↓Mp.ev_int, ↓Mp.ev_bl, ↓Mp.ev_non, ↓Mp.ev_str, ↓Mp.ev_cst, ↓Mp.ev_tup, ↓Mp.ev_lst, ↓Mp.ev_bin, ↓Mp.ev_un, ↓Mp.ev_isN, ↓Mp.ev_ntN, ↓Mp.ev_and, ↓Mp.ev_or, ↓Mp.ev_not, ↓Mp.ev_ife, ↓Mp.ev_slc, ↓Mp.ev_rev, ↓Mp.ev_bi, ↓Mp.ev_bj, ↓Mp.ev_call, ↓Mp.ev_lc, ↓Mp.ev_gn, ↓Mp.ev_isi, ↓Mp.ev_sub', ↓Mp.ev_rcmp, ↓Mp.ev_lrg, ↓Mp.evA_nil, ↓Mp.evA_cons, ↓Mp.evA_star, ↓Mp.evT_tru, ↓Mp.evT_tbl, ↓Mp.evT_tand, ↓Mp.evT_tor, ↓Mp.evT_tnot, ↓Mp.evT_yes, ↓Mp.evI_it, ↓Mp.evI_rng1, ↓Mp.rng1_is, ↓Mp.evI_rng2, ↓Mp.evI_enu, ↓Mp.evI_zip, ↓Mp.evO_no, ↓Mp.evO_some, ↓Mp.es_nil, ↓Mp.es_seq, ↓Mp.es_asg, ↓Mp.es_unp, ↓Mp.es_par, ↓Mp.es_ret, ↓Mp.es_retN, ↓Mp.es_exp, ↓Mp.es_ife, ↓Mp.es_for, ↓Mp.es_brk, ↓Mp.es_cnt, ↓Mp.es_frz, ↓Mp.es_aug, ↓Mp.es_app, ↓Mp.ob_some', ↓Mp.oq_some, ↓Mp.oq_gd, Mp.oq_some, Mp.oq_gd, Mp.bq_t, Mp.bq_f, ↓Mp.ob_gd, Mp.gs0, Mp.gsS, Mp.vk_dat, Mp.vk_ol, Mp.vk_od, Mp.vk_src, Mp.subk_dat, Mp.subk_ol, Mp.subk_od, Mp.dOf_dat', Mp.dOf_nw', Mp.sOf_dat', Mp.sOf_nw', Mp.dOf_lc, Mp.dk_ol, Mp.svOf_dat, Mp.svOf_nw, Mp.svOf_nd, Mp.svOf_src, Mp.rtOf_dat, Mp.rtOf_nw, Mp.rtOf_lc, Mp.rk_ol, Mp.sOfs_nil, Mp.sOfs_cons, Mp.dOfs_nil, Mp.dOfs_cons, Mp.avs_nil, Mp.avs_cons, Mp.avR_dat, Mp.avR_nw, Mp.avR_src, Mp.avR_lc, Mp.ak_ol, Mp.sqR_list, Mp.sqR_tuple, Mp.sqR_nw, Mp.sqR_lc, Mp.qk_ol, Mp.seqOf_list, Mp.seqOf_tuple, Mp.iOf_int, Mp.bOf_bool, Mp.setG_nm, Mp.setG_tpt, Mp.setG_tpl, Mp.setGs_nil, Mp.setGs_cons, Mp.wipeD_nil, Mp.wipeD_cons, Mp.frz_nil, Mp.frz_cons, Mp.fk_ol, Mp.fk_od, Mp.fk_dat, Mp.fk_un, Mp.fk_src, Mp.truD_bool, Mp.truD_int, Mp.truD_none, Mp.truD_list, Mp.truD_tuple, Mp.truR_nw, Mp.isNon_none, Mp.isNon_int, Mp.isNon_tuple, Mp.isNon_list, Mp.isNon_bool, Mp.bin_add, Mp.bin_addL, Mp.bin_addT, Mp.bin_sub, Mp.bin_mul, Mp.bin_mod, Mp.bin_fdiv, Mp.bin_band, Mp.bin_bor, Mp.bin_shl, Mp.bin_shr, Mp.bin_lt, Mp.bin_le, Mp.bin_gt, Mp.bin_ge, Mp.bin_eqI, Mp.bin_neI, Mp.bin_ixL, Mp.bin_ixT, Mp.un_neg', Mp.bi_lenL, Mp.bi_lenT, Mp.bi_int, Mp.bi_intB, Mp.bi_tupL, Mp.bi_tupT, Mp.bi_lstL, Mp.bi_lstT, Mp.bi_max2, Mp.bi_min2, Mp.sl_L, Mp.sl_T, Mp.rev_L, Mp.rev_T, Mp.runD_fn, List.set_cons_zero, List.set_cons_succ, Option.bind_some, Option.map_some, Mp.ob_some', Mp.ob_gd, List.replicate, List.nil_append, List.cons_append, Bool.or_false, Bool.or_true, List.length_cons, List.length_nil, Mp.bk_t, Bool.not_false, Bool.not_true, Bool.true_and, Bool.false_and, Bool.and_true, Bool.true_or, Bool.false_or, Mp.at_0, Mp.at_1, Mp.at_2, Mp.at_3, Mp.small_0, Mp.small_1, Mp.small_2, Mp.small_3, Mp.small_4, Mp.small_5, Mp.small_6, Mp.bk_f, Mp.augk_int, Mp.appk_ol, Mp.rg1k_int, List.append_nil])
local macro_rules | `(tactic| walk_at "evh") => `(tactic| simp only [Own.ar_0, Own.ar_1, Own.ar_2, Own.ar_3, Own.ar_4, Own.ar_5, Own.ar_6, Own.ar_7, Own.ar_8, Own.ar_9, Own.ar_10, Own.ar_11, Own.ar_12, Own.ar_13, Own.ar_14, Own.ar_15, Own.ar_16, Own.ar_17, Own.ar_18, Own.ar_19, Own.ar_20, Own.ar_21, Own.ar_22, Own.ar_23, Own.ar_24, Own.ar_25, ↓Mp.ev_var, ↓Mp.ev_int, ↓Mp.ev_bl, ↓Mp.ev_non, ↓Mp.ev_str, ↓Mp.ev_cst, ↓Mp.ev_tup, ↓Mp.ev_lst, ↓Mp.ev_bin, ↓Mp.ev_un, ↓Mp.ev_isN, ↓Mp.ev_ntN, ↓Mp.ev_and, ↓Mp.ev_or, ↓Mp.ev_not, ↓Mp.ev_ife, ↓Mp.ev_slc, ↓Mp.ev_rev, ↓Mp.ev_bi, ↓Mp.ev_bj, ↓Mp.ev_call, ↓Mp.ev_lc, ↓Mp.ev_gn, ↓Mp.ev_isi, ↓Mp.ev_sub', ↓Mp.ev_rcmp, ↓Mp.ev_lrg, ↓Mp.evA_nil, ↓Mp.evA_cons, ↓Mp.evA_star, ↓Mp.evT_tru, ↓Mp.evT_tbl, ↓Mp.evT_tand, ↓Mp.evT_tor, ↓Mp.evT_tnot, ↓Mp.evT_yes, ↓Mp.evI_it, ↓Mp.evI_rng1, ↓Mp.rng1_is, ↓Mp.evI_rng2, ↓Mp.evI_enu, ↓Mp.evI_zip, ↓Mp.evO_no, ↓Mp.evO_some, ↓Mp.es_nil, ↓Mp.es_seq, ↓Mp.es_asg, ↓Mp.es_unp, ↓Mp.es_par, ↓Mp.es_ret, ↓Mp.es_retN, ↓Mp.es_exp, ↓Mp.es_ife, ↓Mp.es_for, ↓Mp.es_brk, ↓Mp.es_cnt, ↓Mp.es_frz, ↓Mp.es_aug, ↓Mp.es_app, ↓Mp.ob_some', ↓Mp.oq_some, ↓Mp.oq_gd, Mp.oq_some, Mp.oq_gd, Mp.bq_t, Mp.bq_f, ↓Mp.ob_gd, Mp.gs0, Mp.gsS, Mp.vk_dat, Mp.vk_ol, Mp.vk_od, Mp.vk_src, Mp.subk_dat, Mp.subk_ol, Mp.subk_od, Mp.dOf_dat', Mp.dOf_nw', Mp.sOf_dat', Mp.sOf_nw', Mp.dOf_lc, Mp.dk_ol, Mp.svOf_dat, Mp.svOf_nw, Mp.svOf_nd, Mp.svOf_src, Mp.rtOf_dat, Mp.rtOf_nw, Mp.rtOf_lc, Mp.rk_ol, Mp.sOfs_nil, Mp.sOfs_cons, Mp.dOfs_nil, Mp.dOfs_cons, Mp.avs_nil, Mp.avs_cons, Mp.avR_dat, Mp.avR_nw, Mp.avR_src, Mp.avR_lc, Mp.ak_ol, Mp.sqR_list, Mp.sqR_tuple, Mp.sqR_nw, Mp.sqR_lc, Mp.qk_ol, Mp.seqOf_list, Mp.seqOf_tuple, Mp.iOf_int, Mp.bOf_bool, Mp.setG_nm, Mp.setG_tpt, Mp.setG_tpl, Mp.setGs_nil, Mp.setGs_cons, Mp.wipeD_nil, Mp.wipeD_cons, Mp.frz_nil, Mp.frz_cons, Mp.fk_ol, Mp.fk_od, Mp.fk_dat, Mp.fk_un, Mp.fk_src, Mp.truD_bool, Mp.truD_int, Mp.truD_none, Mp.truD_list, Mp.truD_tuple, Mp.truR_nw, Mp.isNon_none, Mp.isNon_int, Mp.isNon_tuple, Mp.isNon_list, Mp.isNon_bool, Mp.bin_add, Mp.bin_addL, Mp.bin_addT, Mp.bin_sub, Mp.bin_mul, Mp.bin_mod, Mp.bin_fdiv, Mp.bin_band, Mp.bin_bor, Mp.bin_shl, Mp.bin_shr, Mp.bin_lt, Mp.bin_le, Mp.bin_gt, Mp.bin_ge, Mp.bin_eqI, Mp.bin_neI, Mp.bin_ixL, Mp.bin_ixT, Mp.un_neg', Mp.bi_lenL, Mp.bi_lenT, Mp.bi_int, Mp.bi_intB, Mp.bi_tupL, Mp.bi_tupT, Mp.bi_lstL, Mp.bi_lstT, Mp.bi_max2, Mp.bi_min2, Mp.sl_L, Mp.sl_T, Mp.rev_L, Mp.rev_T, Mp.runD_fn, List.set_cons_zero, List.set_cons_succ, Option.bind_some, Option.map_some, Mp.ob_some', Mp.ob_gd, List.replicate, List.nil_append, List.cons_append, Bool.or_false, Bool.or_true, List.length_cons, List.length_nil, Mp.bk_t, Bool.not_false, Bool.not_true, Bool.true_and, Bool.false_and, Bool.and_true, Bool.true_or, Bool.false_or, Mp.at_0, Mp.at_1, Mp.at_2, Mp.at_3, Mp.small_0, Mp.small_1, Mp.small_2, Mp.small_3, Mp.small_4, Mp.small_5, Mp.small_6, Mp.bk_f, Mp.augk_int, Mp.appk_ol, Mp.rg1k_int, List.append_nil, *])
def bitO (os : List (List Nat)) (s : Say) (k : Nat) : Bool := keepT s ((os.getD k []).map fun (n : Nat) => (n : Int))
def maskO (os : List (List Nat)) (s : Say) : Nat := (((List.range os.length).filter (bitO os s)).map fun k => 2 ^ k).sum
theorem rgOk_nat {n : Nat} (h : n ≤ 1000000) : rgOk (n : Nat) = true := by
  unfold rgOk
  rw [decide_eq_true (by omega), decide_eq_true (by omega)]
  rfl
theorem kl_is (n : Nat) {ss : List Say} {os : List (List Nat)} (hs : ∀ s ∈ ss, inS 4 s ∧ s.1.length ≤ 16000000) (ho : ∀ o ∈ os, o.length = 4) (hn : os.length ≤ 1000) (hm : ss.length ≤ 1000) (K : ER → Bool) : runF GEv DD (n + 2) 23 [.dat (.list (ss.map eS)), .dat (.list (os.map eO))] K = K (.nw (lotL (ss.map (maskO os)))) := by
  rw [runF_S]
  show runD _ _ (.fn 3 M_lw_kept_lots) _ _ = _
  unfold M_lw_kept_lots
  walk_at "ev"
  have hw : ∀ (nx : SD → Bool) (_ : ∀ acc y, nx [SV.dat (PyData.list (List.map eS ss)), SV.dat (PyData.list (List.map eO os)), SV.ol (lotL acc), y, SV.un] = K (ER.nw (lotL acc))) (xs : List Say), (∀ s ∈ xs, inS 4 s ∧ s.1.length ≤ 16000000) → ∀ (acc : List Nat) (y : SV), acc.length + xs.length ≤ 1000 → forL (setG (GT.nm 3)) (es GEv (runF GEv DD (n + 1)) (MS.app 2 (ME.bj BJ.sum ((ME.lc (GT.nm 4) ((ME.bi BI.len ((ME.var 1).cons ME.nil)).cons ME.nil).rng1 (ME.call 19 ((ME.var 3).cons ((ME.sub 1 (ME.var 4)).cons ME.nil))).tru (ME.bin BK.shl (ME.int 1) (ME.var 4)) [4]).cons ME.nil)))) K nx (List.map eS xs)
      [SV.dat (PyData.list (List.map eS ss)), SV.dat (PyData.list (List.map eO os)), SV.ol (lotL acc), y, SV.un] = K (ER.nw (lotL (acc ++ xs.map (maskO os)))) := by
    intro nx hnx xs
    induction xs with
    | nil =>
      intro _ acc y _
      rw [List.map_nil, List.map_nil, List.append_nil]
      rw [forL_nil]
      exact hnx _ _
    | cons s xs ih =>
      intro hx acc y hl
      have hs1 := hx s (List.mem_cons_self ..)
      rw [List.length_cons] at hl
      rw [List.map_cons, forL_cons]
      walk_at "ev"
      rw [List.length_map, show rgOk (os.length : Nat) = true from rgOk_nat (by omega)]
      walk_at "ev"
      rw [Int.toNat_natCast, rgL_nat, len_ble (by rw [List.length_range]; omega)]
      walk_at "ev"
      refine (nestL_fil (p := bitO os s) (f := fun k => PyData.int (1 * 2 ^ ((k : Nat) : Int).toNat)) (fun k hk => ⟨_, rfl, fun K => ?_, fun _ K => ?_⟩)).trans ?_
      · have hk := List.mem_range.mp hk
        walk_at "ev"
        rw [atI_map hk]
        walk_at "ev"
        rw [cl_is (lk_is _ hs1 (ho _ (List.getElem_mem hk)))]
        walk_at "ev"
        unfold bitO
        rw [List.getD_eq_getElem?_getD, List.getElem?_eq_getElem hk]
        rfl
      · have hk := List.mem_range.mp hk
        walk_at "ev"
        rw [powOk_1 (by omega)]
        walk_at "ev"
      · walk_at "ev"
        rw [jsum_map, sum_cast]
        walk_at "ev"
        rw [show small (lotL acc).length = true from Nat.ble_eq_true_of_le (by unfold lotL; rw [List.length_map]; omega)]
        walk_at "ev"
        have := ih (fun s hs => hx s (List.mem_cons_of_mem _ hs)) (acc ++ [maskO os s]) (.dat (eS s)) (by rw [List.length_append, List.length_singleton]; omega)
        rw [List.map_cons]
        refine Eq.trans ?_ (this.trans (by rw [List.append_assoc]; rfl))
        unfold lotL
        rw [List.map_append]
        rfl
  refine hw _ (fun acc y => ?_) ss hs [] .un (by rw [List.length_nil]; omega)
  walk_at "ev"
end Own

namespace Own
open PySem PySem.Spec PyProof.Rows L2 Gd Dq Mp RZ
/-! bits -/
theorem whole_bit : ∀ {l : List Nat}, l.Pairwise (· < ·) → (∀ k, (wholeN l).testBit k = l.contains k) ∧ ∀ a, (∀ b ∈ l, a ≤ b) → ∃ q, wholeN l = 2 ^ a * q
  | [], _ => ⟨fun k => by simp [wholeN], fun a _ => ⟨0, by simp [wholeN]⟩⟩
  | x :: l, h => by
    obtain ⟨h1, h2⟩ := List.pairwise_cons.mp h
    obtain ⟨i1, i2⟩ := whole_bit h2
    have e : wholeN (x :: l) = 2 ^ x + wholeN l := by
      unfold wholeN
      rw [List.map_cons, List.sum_cons]
    obtain ⟨q, hq⟩ := i2 (x + 1) fun b hb => h1 b hb
    refine ⟨fun k => ?_, fun a ha => ?_⟩
    · rw [e, hq, Nat.add_comm, Nat.two_pow_add_eq_or_of_lt (Nat.pow_lt_pow_right (by omega) (by omega)), Nat.testBit_or, ← hq, i1, Nat.testBit_two_pow, List.contains_cons]
      rw [Bool.or_comm]
      congr 1
      by_cases hk : x = k
      · subst hk; simp
      · rw [decide_eq_false hk]
        symm
        rw [beq_eq_false_iff_ne]
        exact fun z => hk z.symm
    · obtain ⟨r, hr⟩ := i2 a fun b hb => ha b (List.mem_cons_of_mem _ hb)
      have hx := ha x (List.mem_cons_self ..)
      refine ⟨2 ^ (x - a) + r, ?_⟩
      rw [e, hr, Nat.mul_add, ← Nat.pow_add, Nat.add_sub_cancel' hx]
theorem and_iff {m w : Nat} : m &&& w = w ↔ ∀ k, w.testBit k = true → m.testBit k = true := by
  constructor
  · intro h k hk
    rw [← h, Nat.testBit_and, Bool.and_eq_true] at hk
    exact hk.1
  · intro h
    refine Nat.eq_of_testBit_eq fun k => ?_
    rw [Nat.testBit_and]
    cases hw : w.testBit k with
    | false => rw [Bool.and_false]
    | true => rw [h k hw]; rfl
theorem fold_bit {w : Nat} : ∀ (ks : List Nat) (a k : Nat), (ks.foldl (stepN w) a).testBit k = (a.testBit k && ks.all fun m => !decide (m &&& w = w) || m.testBit k)
  | [], a, k => by simp
  | m :: ks, a, k => by
    rw [List.foldl_cons, fold_bit ks, List.all_cons]
    unfold stepN
    by_cases h : m &&& w = w
    · rw [if_pos h, decide_eq_true h, Nat.testBit_and]
      cases a.testBit k <;> cases m.testBit k <;> simp
    · rw [if_neg h, decide_eq_false h]
      simp
theorem bits_mem {m k : Nat} : k ∈ bitsN m ↔ k < 13 ∧ m.testBit k = true := by
  unfold bitsN
  rw [List.mem_filter, List.mem_range]
  refine and_congr_right fun _ => ?_
  rw [beq_iff_eq, Nat.testBit, ← Nat.shiftRight_eq_div_pow, Nat.and_comm]
  simp [Nat.one_and_eq_mod_two]
theorem bit_8191 {k : Nat} (h : k < 13) : (8191 : Nat).testBit k = true := by
  have : ∀ k, k < 13 → (8191 : Nat).testBit k = true := by decide
  exact this k h
/-- a lot -/
def Lot (l : List Nat) : Prop := l.Sublist (List.range 13)
theorem Lot.pw {l : List Nat} (h : Lot l) : l.Pairwise (· < ·) := List.pairwise_lt_range.sublist h
theorem Lot.is {l : List Nat} (h : Lot l) : isLot l := ⟨fun i hi => List.mem_range.mp (h.subset hi), by have := h.length_le; rwa [List.length_range] at this⟩
theorem asc_ext : ∀ {l m : List Nat}, l.Pairwise (· < ·) → m.Pairwise (· < ·) → (∀ k, k ∈ l ↔ k ∈ m) → l = m
  | [], [], _, _, _ => rfl
  | [], b :: m, _, _, h => absurd ((h b).mpr (List.mem_cons_self ..)) (by simp)
  | a :: l, [], _, _, h => absurd ((h a).mp (List.mem_cons_self ..)) (by simp)
  | a :: l, b :: m, h1, h2, h => by
    obtain ⟨p1, p2⟩ := List.pairwise_cons.mp h1
    obtain ⟨q1, q2⟩ := List.pairwise_cons.mp h2
    have e : a = b := by
      rcases List.mem_cons.mp ((h a).mp (List.mem_cons_self ..)) with z | z
      · exact z
      · rcases List.mem_cons.mp ((h b).mpr (List.mem_cons_self ..)) with y | y
        · exact y.symm
        · have := q1 a z
          have := p1 b y
          omega
    subst e
    rw [asc_ext p2 q2 fun k => ⟨fun hk => ?_, fun hk => ?_⟩]
    · rcases List.mem_cons.mp ((h k).mp (List.mem_cons_of_mem _ hk)) with z | z
      · have := p1 k hk; omega
      · exact z
    · rcases List.mem_cons.mp ((h k).mpr (List.mem_cons_of_mem _ hk)) with z | z
      · have := q1 k hk; omega
      · exact z
theorem lot_ext {l m : List Nat} (hl : Lot l) (hm : Lot m) (h : ∀ k, k < 13 → (k ∈ l ↔ k ∈ m)) : l = m := asc_ext hl.pw hm.pw fun k => ⟨fun hk => (h k (hl.is.1 k hk)).mp hk, fun hk => (h k (hm.is.1 k hk)).mpr hk⟩
theorem bits_lot (m : Nat) : Lot (bitsN m) := List.filter_sublist
theorem hb_mem {l ks : List Nat} (hl : Lot l) {k : Nat} : k ∈ hbN l ks ↔ k < 13 ∧ ∀ m ∈ ks, (∀ i ∈ l, m.testBit i = true) → m.testBit k = true := by
  unfold hbN
  rw [bits_mem]
  refine and_congr_right fun hk => ?_
  rw [fold_bit, bit_8191 hk, Bool.true_and, List.all_eq_true]
  refine forall_congr' fun m => forall_congr' fun _ => ?_
  rw [Bool.or_eq_true, Bool.not_eq_true', decide_eq_false_iff_not, and_iff]
  have : (∀ k, (wholeN l).testBit k = true → m.testBit k = true) ↔ ∀ i ∈ l, m.testBit i = true := by
    refine forall_congr' fun i => ?_
    rw [(whole_bit hl.pw).1 i]
    simp
  rw [this]
  constructor
  · rintro (h | h) q
    · exact absurd q h
    · exact h
  · intro h
    by_cases q : ∀ i ∈ l, m.testBit i = true
    · exact .inr (h q)
    · exact .inl q
theorem mask_bit {s : Say} {k : Nat} (h : k < 13) : (maskO OR s).testBit k = bitO OR s k := by
  show (wholeN ((List.range 13).filter (bitO OR s))).testBit k = _
  rw [(whole_bit (List.pairwise_lt_range.sublist List.filter_sublist)).1 k, Bool.eq_iff_iff]
  simp [h]
/-! the fullest sayings, and what they refuse -/
def tiesT (o : List Nat) : List (Nat × Nat) := PR6.filter fun p => o.getD p.1 0 == o.getD p.2 0
def PR12 : List (Nat × Nat) := [(0, 1), (0, 2), (0, 3), (1, 0), (1, 2), (1, 3), (2, 0), (2, 1), (2, 3), (3, 0), (3, 1), (3, 2)]
def FT (j : Nat) : List Say := (none :: PR12.map some).map fun h => (tiesT (OR.getD j []), h)
theorem full_tabT : ((List.range 13).map fun j => fullB (ordN j)) = (List.range 13).map fun j => (FT j).map eS := by kernel_rfl
theorem fullT {j : Nat} (h : j < 13) : fullB (ordN j) = (FT j).map eS := map_at full_tabT j (List.mem_range.mpr h)
def NL : List Say := PR12.map fun p => ([], some p)
def NO : List Say := PR6.map fun p => ([p], none)
theorem notLT : notL = NL.map eS := by kernel_rfl
theorem notOT : notO = NO.map eS := by kernel_rfl
def bitT (s : Say) (k : Nat) : Bool := bitO OR s k
theorem kp_tabT : (((List.range 13).flatMap FT ++ (NL ++ NO)).all fun s => (List.range 13).all fun k => kpB (eS s) (ordN k) == bitT s k) = true := by decide +kernel
theorem kpT {s : Say} (h : s ∈ (List.range 13).flatMap FT ++ (NL ++ NO)) {k : Nat} (hk : k < 13) : kpB (eS s) (ordN k) = bitT s k := by
  have := List.all_eq_true.mp (List.all_eq_true.mp kp_tabT s h) k (List.mem_range.mpr hk)
  exact eq_of_beq this
theorem ref_mem {ss : List Say} (hss : ∀ s ∈ ss, s ∈ (List.range 13).flatMap FT ++ (NL ++ NO)) {l : List Nat} (hl : Lot l) {j : Nat} (hj : j < 13) : refB (ss.map eS) l j = true ↔ ∃ s ∈ ss, bitT s j = false ∧ ∀ i ∈ l, bitT s i = true := by
  unfold refB frB
  rw [List.find?_isSome]
  simp only [List.mem_map, Bool.and_eq_true, Bool.not_eq_true', List.all_eq_true]
  constructor
  · rintro ⟨x, ⟨s, hs, rfl⟩, h1, h2⟩
    rw [kpT (hss s hs) hj] at h1
    exact ⟨s, hs, h1, fun i hi => by rw [← kpT (hss s hs) (hl.is.1 i hi)]; exact h2 _ ⟨i, hi, rfl⟩⟩
  · rintro ⟨s, hs, h1, h2⟩
    refine ⟨_, ⟨s, hs, rfl⟩, by rw [kpT (hss s hs) hj]; exact h1, ?_⟩
    rintro x ⟨i, hi, rfl⟩
    rw [kpT (hss s hs) (hl.is.1 i hi)]
    exact h2 i hi
def KMs : List Nat := SYs.map (maskO OR)
def FM (j : Nat) : List Nat := (FT j).map (maskO OR)
/-- the heart: what any saying refuses, one of the fullest does -/
theorem heart_tab : ((List.range 13).all fun j => KMs.all fun m => m.testBit j || (FM j).any fun f => !f.testBit j && (m &&& f == m)) = true := by decide +kernel
theorem full_in : ((List.range 13).all fun j => (FM j).all fun f => KMs.contains f) = true := by decide +kernel
def PLo : List Nat := PLs.map (maskO OR)
def CLo : List Nat := PLo ++ CLs.map (maskO OR)
theorem pl_tab : ((NL.map (maskO OR)).all fun m => PLo.contains m) = true ∧ (PLo.all fun m => (NL.map (maskO OR)).contains m) = true := by decide +kernel
theorem cl_tab : (((NL ++ NO).map (maskO OR)).all fun m => CLo.contains m) = true ∧ (CLo.all fun m => ((NL ++ NO).map (maskO OR)).contains m) = true := by decide +kernel
end Own

namespace Own
open PySem PySem.Spec PyProof.Rows L2 Gd Dq Mp RZ
theorem hb_lot (l ks : List Nat) : Lot (hbN l ks) := bits_lot _
theorem hull_lot' (l : List Nat) : Lot (hullN l) := List.filter_sublist
theorem inFT {j : Nat} (h : j < 13) : ∀ s ∈ FT j, s ∈ (List.range 13).flatMap FT ++ (NL ++ NO) := fun s hs => List.mem_append_left _ (List.mem_flatMap.mpr ⟨j, List.mem_range.mpr h, hs⟩)
theorem bit_mask {s : Say} {k : Nat} (h : k < 13) : (maskO OR s).testBit k = bitT s k := mask_bit h
theorem heart {j : Nat} (hj : j < 13) {m : Nat} (hm : m ∈ KMs) (h : m.testBit j = false) : ∃ s ∈ FT j, bitT s j = false ∧ ∀ i, i < 13 → m.testBit i = true → bitT s i = true := by
  have := List.all_eq_true.mp (List.all_eq_true.mp heart_tab j (List.mem_range.mpr hj)) m hm
  rw [h, Bool.false_or, List.any_eq_true] at this
  obtain ⟨f, hf, e⟩ := this
  rw [Bool.and_eq_true, Bool.not_eq_true', beq_iff_eq] at e
  obtain ⟨s, hs, rfl⟩ := List.mem_map.mp hf
  refine ⟨s, hs, by rw [← bit_mask hj]; exact e.1, fun i hi hb => ?_⟩
  rw [← e.2, Nat.testBit_and, Bool.and_eq_true] at hb
  rw [← bit_mask hi]
  exact hb.2
theorem full_k {j : Nat} (hj : j < 13) {s : Say} (hs : s ∈ FT j) : maskO OR s ∈ KMs := by
  have := List.all_eq_true.mp (List.all_eq_true.mp full_in j (List.mem_range.mpr hj)) _ (List.mem_map.mpr ⟨s, hs, rfl⟩)
  simpa using this
theorem hull_eq {l : List Nat} (hl : Lot l) : hbN l KMs = hullN l := by
  refine lot_ext (hb_lot _ _) (hull_lot' _) fun k hk => ?_
  rw [hb_mem hl]
  unfold hullN
  rw [List.mem_filter, List.mem_range]
  refine and_congr_right fun _ => ?_
  rw [Bool.not_eq_true', fullT hk, ← Bool.not_eq_true, ref_mem (inFT hk) hl hk]
  constructor
  · rintro h ⟨s, hs, h1, h2⟩
    have := h _ (full_k hk hs) fun i hi => by rw [bit_mask (hl.is.1 i hi)]; exact h2 i hi
    rw [bit_mask hk, h1] at this
    cases this
  · intro h m hm hi
    cases hb : m.testBit k with
    | true => rfl
    | false =>
      obtain ⟨s, hs, h1, h2⟩ := heart hk hm hb
      exact absurd ⟨s, hs, h1, fun i hl' => h2 i (hl.is.1 i hl') (hi i hl')⟩ h
theorem hb_sub {l ks : List Nat} (hl : Lot l) {k : Nat} (h : k ∈ l) : k ∈ hbN l ks := (hb_mem hl).mpr ⟨hl.is.1 k h, fun _ _ hi => hi k h⟩
theorem hb_idem {l : List Nat} (hl : Lot l) : hullN (hbN l KMs) = hbN l KMs := by
  rw [← hull_eq (hb_lot _ _)]
  refine lot_ext (hb_lot _ _) (hb_lot _ _) fun k hk => ⟨fun h => ?_, fun h => hb_sub (hb_lot _ _) h⟩
  rw [hb_mem (hb_lot _ _)] at h
  rw [hb_mem hl]
  refine ⟨hk, fun m hm hi => h.2 m hm fun i hi2 => ?_⟩
  rw [hb_mem hl] at hi2
  exact hi2.2 m hm hi
theorem allref_eq {ss : List Say} {ks : List Nat} (hss : ∀ s ∈ ss, s ∈ (List.range 13).flatMap FT ++ (NL ++ NO)) (h1 : ((ss.map (maskO OR)).all fun m => ks.contains m) = true) (h2 : (ks.all fun m => (ss.map (maskO OR)).contains m) = true) {l : List Nat} (hl : Lot l) : allrefN (ss.map eS) l = decide (hbN l ks = l) := by
  rw [Bool.eq_iff_iff, decide_eq_true_iff]
  unfold allrefN
  rw [List.all_eq_true]
  have key : ∀ j, j < 13 → (refdN (ss.map eS) l j = true ↔ (j ∈ hbN l ks → j ∈ l)) := fun j hj => by
    unfold refdN
    rw [Bool.or_eq_true, ref_mem hss hl hj, hb_mem hl]
    have e : (l.any (· == j)) = true ↔ j ∈ l := by simp
    rw [e]
    constructor
    · rintro (h | ⟨s, hs, h3, h4⟩) q
      · exact h
      · have hm : maskO OR s ∈ ks := by
          have := List.all_eq_true.mp h1 _ (List.mem_map.mpr ⟨s, hs, rfl⟩)
          simpa using this
        have := q.2 _ hm fun i hi => by rw [bit_mask (hl.is.1 i hi)]; exact h4 i hi
        rw [bit_mask hj, h3] at this
        cases this
    · intro h
      by_cases q : j ∈ l
      · exact .inl q
      · right
        have h' : ¬ (j < 13 ∧ ∀ m ∈ ks, (∀ i ∈ l, m.testBit i = true) → m.testBit j = true) := fun z => q (h z)
        have h'' : ¬ ∀ m ∈ ks, (∀ i ∈ l, m.testBit i = true) → m.testBit j = true := fun z => h' ⟨hj, z⟩
        obtain ⟨m, h''⟩ := Classical.not_forall.mp h''
        obtain ⟨hm, h''⟩ := Classical.not_imp.mp h''
        obtain ⟨hi, h''⟩ := Classical.not_imp.mp h''
        have : m ∈ ss.map (maskO OR) := by
          have := List.all_eq_true.mp h2 m hm
          simpa using this
        obtain ⟨s, hs, rfl⟩ := List.mem_map.mp this
        refine ⟨s, hs, ?_, fun i hl' => ?_⟩
        · rw [← bit_mask hj]
          simpa using h''
        · rw [← bit_mask (hl.is.1 i hl')]
          exact hi i hl'
  constructor
  · intro h
    exact lot_ext (hb_lot _ _) hl fun k hk => ⟨fun q => (key k hk).mp (h k (List.mem_range.mpr hk)) q, fun q => hb_sub hl q⟩
  · intro h j hj
    refine (key j (List.mem_range.mp hj)).mpr fun q => ?_
    rwa [h] at q
theorem inNL : ∀ s ∈ NL, s ∈ (List.range 13).flatMap FT ++ (NL ++ NO) := fun s hs => List.mem_append_right _ (List.mem_append_left _ hs)
theorem inNA : ∀ s ∈ NL ++ NO, s ∈ (List.range 13).flatMap FT ++ (NL ++ NO) := fun s hs => List.mem_append_right _ hs
theorem plain_eq {l : List Nat} (hl : Lot l) : allrefN notL l = decide (hbN l PLo = l) := by
  rw [notLT]
  exact allref_eq inNL pl_tab.1 pl_tab.2 hl
theorem clear_eq {l : List Nat} (hl : Lot l) : allrefN (notL ++ notO) l = decide (hbN l CLo = l) := by
  rw [notLT, notOT, ← List.map_append]
  exact allref_eq inNA cl_tab.1 cl_tab.2 hl
end Own

namespace Own
open PySem PySem.Spec PyProof.Rows L2 Gd Dq Mp RZ
local macro_rules | `(tactic| walk_at "ev") => `(tactic| simp only [Own.ar_0, Own.ar_1, Own.ar_2, Own.ar_3, Own.ar_4, Own.ar_5, Own.ar_6, Own.ar_7, Own.ar_8, Own.ar_9, Own.ar_10, Own.ar_11, Own.ar_12, Own.ar_13, Own.ar_14, Own.ar_15, Own.ar_16, Own.ar_17, Own.ar_18, Own.ar_19, Own.ar_20, Own.ar_21, Own.ar_22, Own.ar_23, Own.ar_24, Own.ar_25, ↓Mp.ev_var, ↓Mp.ev_int, ↓Mp.ev_bl, ↓Mp.ev_non, ↓Mp.ev_str, ↓Mp.ev_cst, ↓Mp.ev_tup, ↓Mp.ev_lst, ↓Mp.ev_bin, ↓Mp.ev_un, ↓Mp.ev_isN, ↓Mp.ev_ntN, ↓Mp.ev_and, ↓Mp.ev_or, ↓Mp.ev_not, ↓Mp.ev_ife, ↓Mp.ev_slc, ↓Mp.ev_rev, ↓Mp.ev_bi, ↓Mp.ev_bj, ↓Mp.ev_call, ↓Mp.ev_lc, ↓Mp.ev_gn, ↓Mp.ev_isi, ↓Mp.ev_sub', ↓Mp.ev_rcmp, ↓Mp.ev_lrg, ↓Mp.evA_nil, ↓Mp.evA_cons, ↓Mp.evA_star, ↓Mp.evT_tru, ↓Mp.evT_tbl, ↓Mp.evT_tand, ↓Mp.evT_tor, ↓Mp.evT_tnot, ↓Mp.evT_yes, ↓Mp.evI_it, ↓Mp.evI_rng1, ↓Mp.rng1_is, ↓Mp.evI_rng2, ↓Mp.evI_enu, ↓Mp.evI_zip, ↓Mp.evO_no, ↓Mp.evO_some, ↓Mp.es_nil, ↓Mp.es_seq, ↓Mp.es_asg, ↓Mp.es_unp, ↓Mp.es_par, ↓Mp.es_ret, ↓Mp.es_retN, ↓Mp.es_exp, ↓Mp.es_ife, ↓Mp.es_for, ↓Mp.es_brk, ↓Mp.es_cnt, ↓Mp.es_frz, ↓Mp.es_aug, ↓Mp.es_app, ↓Mp.ob_some', ↓Mp.oq_some, ↓Mp.oq_gd, Mp.oq_some, Mp.oq_gd, Mp.bq_t, Mp.bq_f, ↓Mp.ob_gd, Mp.gs0, Mp.gsS, Mp.vk_dat, Mp.vk_ol, Mp.vk_od, Mp.vk_src, Mp.subk_dat, Mp.subk_ol, Mp.subk_od, Mp.dOf_dat', Mp.dOf_nw', Mp.sOf_dat', Mp.sOf_nw', Mp.dOf_lc, Mp.dk_ol, Mp.svOf_dat, Mp.svOf_nw, Mp.svOf_nd, Mp.svOf_src, Mp.rtOf_dat, Mp.rtOf_nw, Mp.rtOf_lc, Mp.rk_ol, Mp.sOfs_nil, Mp.sOfs_cons, Mp.dOfs_nil, Mp.dOfs_cons, Mp.avs_nil, Mp.avs_cons, Mp.avR_dat, Mp.avR_nw, Mp.avR_src, Mp.avR_lc, Mp.ak_ol, Mp.sqR_list, Mp.sqR_tuple, Mp.sqR_nw, Mp.sqR_lc, Mp.qk_ol, Mp.seqOf_list, Mp.seqOf_tuple, Mp.iOf_int, Mp.bOf_bool, Mp.setG_nm, Mp.setG_tpt, Mp.setG_tpl, Mp.setGs_nil, Mp.setGs_cons, Mp.wipeD_nil, Mp.wipeD_cons, Mp.frz_nil, Mp.frz_cons, Mp.fk_ol, Mp.fk_od, Mp.fk_dat, Mp.fk_un, Mp.fk_src, Mp.truD_bool, Mp.truD_int, Mp.truD_none, Mp.truD_list, Mp.truD_tuple, Mp.truR_nw, Mp.isNon_none, Mp.isNon_int, Mp.isNon_tuple, Mp.isNon_list, Mp.isNon_bool, Mp.bin_add, Mp.bin_addL, Mp.bin_addT, Mp.bin_sub, Mp.bin_mul, Mp.bin_mod, Mp.bin_fdiv, Mp.bin_band, Mp.bin_bor, Mp.bin_shl, Mp.bin_shr, Mp.bin_lt, Mp.bin_le, Mp.bin_gt, Mp.bin_ge, Mp.bin_eqI, Mp.bin_neI, Mp.bin_ixL, Mp.bin_ixT, Mp.un_neg', Mp.bi_lenL, Mp.bi_lenT, Mp.bi_int, Mp.bi_intB, Mp.bi_tupL, Mp.bi_tupT, Mp.bi_lstL, Mp.bi_lstT, Mp.bi_max2, Mp.bi_min2, Mp.sl_L, Mp.sl_T, Mp.rev_L, Mp.rev_T, Mp.runD_fn, List.set_cons_zero, List.set_cons_succ, Option.bind_some, Option.map_some, Mp.ob_some', Mp.ob_gd, List.replicate, List.nil_append, List.cons_append, Bool.or_false, Bool.or_true, List.length_cons, List.length_nil, Mp.bk_t, Bool.not_false, Bool.not_true, Bool.true_and, Bool.false_and, Bool.and_true, Bool.true_or, Bool.false_or, Mp.at_0, Mp.at_1, Mp.at_2, Mp.at_3, Mp.small_0, Mp.small_1, Mp.small_2, Mp.small_3, Mp.small_4, Mp.small_5, Mp.small_6, Mp.bk_f, Mp.augk_int, Mp.appk_ol, Mp.rg1k_int, List.append_nil])
local macro_rules | `(tactic| walk_at "evh") => `(tactic| simp only [Own.ar_0, Own.ar_1, Own.ar_2, Own.ar_3, Own.ar_4, Own.ar_5, Own.ar_6, Own.ar_7, Own.ar_8, Own.ar_9, Own.ar_10, Own.ar_11, Own.ar_12, Own.ar_13, Own.ar_14, Own.ar_15, Own.ar_16, Own.ar_17, Own.ar_18, Own.ar_19, Own.ar_20, Own.ar_21, Own.ar_22, Own.ar_23, Own.ar_24, Own.ar_25, ↓Mp.ev_var, ↓Mp.ev_int, ↓Mp.ev_bl, ↓Mp.ev_non, ↓Mp.ev_str, ↓Mp.ev_cst, ↓Mp.ev_tup, ↓Mp.ev_lst, ↓Mp.ev_bin, ↓Mp.ev_un, ↓Mp.ev_isN, ↓Mp.ev_ntN, ↓Mp.ev_and, ↓Mp.ev_or, ↓Mp.ev_not, ↓Mp.ev_ife, ↓Mp.ev_slc, ↓Mp.ev_rev, ↓Mp.ev_bi, ↓Mp.ev_bj, ↓Mp.ev_call, ↓Mp.ev_lc, ↓Mp.ev_gn, ↓Mp.ev_isi, ↓Mp.ev_sub', ↓Mp.ev_rcmp, ↓Mp.ev_lrg, ↓Mp.evA_nil, ↓Mp.evA_cons, ↓Mp.evA_star, ↓Mp.evT_tru, ↓Mp.evT_tbl, ↓Mp.evT_tand, ↓Mp.evT_tor, ↓Mp.evT_tnot, ↓Mp.evT_yes, ↓Mp.evI_it, ↓Mp.evI_rng1, ↓Mp.rng1_is, ↓Mp.evI_rng2, ↓Mp.evI_enu, ↓Mp.evI_zip, ↓Mp.evO_no, ↓Mp.evO_some, ↓Mp.es_nil, ↓Mp.es_seq, ↓Mp.es_asg, ↓Mp.es_unp, ↓Mp.es_par, ↓Mp.es_ret, ↓Mp.es_retN, ↓Mp.es_exp, ↓Mp.es_ife, ↓Mp.es_for, ↓Mp.es_brk, ↓Mp.es_cnt, ↓Mp.es_frz, ↓Mp.es_aug, ↓Mp.es_app, ↓Mp.ob_some', ↓Mp.oq_some, ↓Mp.oq_gd, Mp.oq_some, Mp.oq_gd, Mp.bq_t, Mp.bq_f, ↓Mp.ob_gd, Mp.gs0, Mp.gsS, Mp.vk_dat, Mp.vk_ol, Mp.vk_od, Mp.vk_src, Mp.subk_dat, Mp.subk_ol, Mp.subk_od, Mp.dOf_dat', Mp.dOf_nw', Mp.sOf_dat', Mp.sOf_nw', Mp.dOf_lc, Mp.dk_ol, Mp.svOf_dat, Mp.svOf_nw, Mp.svOf_nd, Mp.svOf_src, Mp.rtOf_dat, Mp.rtOf_nw, Mp.rtOf_lc, Mp.rk_ol, Mp.sOfs_nil, Mp.sOfs_cons, Mp.dOfs_nil, Mp.dOfs_cons, Mp.avs_nil, Mp.avs_cons, Mp.avR_dat, Mp.avR_nw, Mp.avR_src, Mp.avR_lc, Mp.ak_ol, Mp.sqR_list, Mp.sqR_tuple, Mp.sqR_nw, Mp.sqR_lc, Mp.qk_ol, Mp.seqOf_list, Mp.seqOf_tuple, Mp.iOf_int, Mp.bOf_bool, Mp.setG_nm, Mp.setG_tpt, Mp.setG_tpl, Mp.setGs_nil, Mp.setGs_cons, Mp.wipeD_nil, Mp.wipeD_cons, Mp.frz_nil, Mp.frz_cons, Mp.fk_ol, Mp.fk_od, Mp.fk_dat, Mp.fk_un, Mp.fk_src, Mp.truD_bool, Mp.truD_int, Mp.truD_none, Mp.truD_list, Mp.truD_tuple, Mp.truR_nw, Mp.isNon_none, Mp.isNon_int, Mp.isNon_tuple, Mp.isNon_list, Mp.isNon_bool, Mp.bin_add, Mp.bin_addL, Mp.bin_addT, Mp.bin_sub, Mp.bin_mul, Mp.bin_mod, Mp.bin_fdiv, Mp.bin_band, Mp.bin_bor, Mp.bin_shl, Mp.bin_shr, Mp.bin_lt, Mp.bin_le, Mp.bin_gt, Mp.bin_ge, Mp.bin_eqI, Mp.bin_neI, Mp.bin_ixL, Mp.bin_ixT, Mp.un_neg', Mp.bi_lenL, Mp.bi_lenT, Mp.bi_int, Mp.bi_intB, Mp.bi_tupL, Mp.bi_tupT, Mp.bi_lstL, Mp.bi_lstT, Mp.bi_max2, Mp.bi_min2, Mp.sl_L, Mp.sl_T, Mp.rev_L, Mp.rev_T, Mp.runD_fn, List.set_cons_zero, List.set_cons_succ, Option.bind_some, Option.map_some, Mp.ob_some', Mp.ob_gd, List.replicate, List.nil_append, List.cons_append, Bool.or_false, Bool.or_true, List.length_cons, List.length_nil, Mp.bk_t, Bool.not_false, Bool.not_true, Bool.true_and, Bool.false_and, Bool.and_true, Bool.true_or, Bool.false_or, Mp.at_0, Mp.at_1, Mp.at_2, Mp.at_3, Mp.small_0, Mp.small_1, Mp.small_2, Mp.small_3, Mp.small_4, Mp.small_5, Mp.small_6, Mp.bk_f, Mp.augk_int, Mp.appk_ol, Mp.rg1k_int, List.append_nil, *])
def Sub13 : List Nat := List.range 13
/-- a member of a list, drawn -/
theorem lwof_ok {G : GE} {C : CE'} {ip : Nat} {ds : List PyData} {K : ER → Bool} (hC : ∀ xs k, C ip xs k = pickF xs k) (har : G.ar ip = 2) (hne : ds ≠ []) (hl : ds.length ≤ 1000000) (h : ∀ d ∈ ds, K (.dat d) = true) : runD G C (.fn 0 (.ret (.sub 1 (.call ip (.cons (.var 0) (.cons (.bi .len (.cons (.var 1) .nil)) .nil)))))) [.src, .dat (.list ds)] K = true := by
  walk_at "ev"
  rw [har, show Nat.beq (0 + 1 + 1) 2 = true from rfl]
  walk_at "ev"
  refine cl_t ?_
  rw [hC]
  have hp : 0 < ds.length := List.length_pos_iff.mpr hne
  refine pick_ok (by omega) fun r hr => ?_
  have hr : r < ds.length := by omega
  unfold eN
  walk_at "ev"
  rw [Mp.atI_nat, List.getElem?_eq_getElem hr]
  walk_at "ev"
  exact h _ (List.getElem_mem hr)
theorem pick_run (n : Nat) : ∀ xs k, runF GEv DD (n + 1) 16 xs k = pickF xs k := fun xs k => by rw [runF_S]; rfl
theorem lwof_k (n : Nat) {ds : List PyData} {K : ER → Bool} (hne : ds ≠ []) (hl : ds.length ≤ 1000000) (h : ∀ d ∈ ds, K (.dat d) = true) : runF GEv DD (n + 2) 17 [.src, .dat (.list ds)] K = true := by
  rw [runF_S]
  exact lwof_ok (pick_run n) rfl hne hl h
/-- a drawn lot -/
theorem some_lot (n : Nat) {K : ER → Bool} (h : ∀ l, Lot l → K (.dat (lotD l)) = true) : runF GEv DD (n + 3) 21 [.src] K = true := by
  rw [runF_S]
  show runD _ _ (.fn 3 M_lw_some_lot) _ _ = _
  unfold M_lw_some_lot
  walk_at "ev"
  refine cl_t <| lwof_k n (by simp) (by simp) fun d hd => ?_
  have hd : ∃ m : Nat, m ≤ 13 ∧ d = eN m := by
    simp only [List.mem_cons, List.not_mem_nil, or_false] at hd
    rcases hd with rfl | rfl | rfl | rfl | rfl
    · exact ⟨2, by omega, rfl⟩
    · exact ⟨2, by omega, rfl⟩
    · exact ⟨3, by omega, rfl⟩
    · exact ⟨5, by omega, rfl⟩
    · exact ⟨13, by omega, rfl⟩
  obtain ⟨m, hm, rfl⟩ := hd
  walk_at "ev"
  rw [show rgOk 13 = true from rfl]
  walk_at "ev"
  rw [show rgL 0 (Int.toNat 13) = (List.range 13).map fun i => PyData.int (i : Nat) from rgL_nat 13, len_ble (by decide)]
  walk_at "ev"
  refine draw_fil (xs := List.range 13) (enc := fun i => PyData.int (i : Nat)) (f := fun i => PyData.int (i : Nat)) (fun a ha => ⟨_, rfl, fun K hK => ?_, fun K => ?_⟩) fun l hl => ?_
  · walk_at "ev"
    refine cl_t ?_
    rw [pick_run]
    unfold eN
    refine pick_ok (by omega) fun r hr => ?_
    unfold eN
    walk_at "ev"
    exact hK _
  · walk_at "ev"
  · have hL : Lot l := hl
    walk_at "ev"
    rw [show binF BK.eq (PyData.list (l.map fun i => PyData.int (i : Nat))) (PyData.list []) = some (.dat (.bool l.isEmpty)) from eq_nil (fun _ _ => ok_int (h := 0)) (by omega)]
    walk_at "ev"
    cases l.isEmpty with
    | false =>
      walk_at "ev"
      exact h l hL
    | true =>
      walk_at "ev"
      refine cl_t ?_
      rw [pick_run]
      refine pick_ok (by omega) fun r hr => ?_
      unfold eN
      walk_at "ev"
      cases decide ((0 : Int) < (r : Nat)) with
      | false =>
        walk_at "ev"
        exact h l hL
      | true =>
        walk_at "ev"
        refine cl_t ?_
        rw [pick_run]
        refine pick_ok (by omega) fun q hq => ?_
        unfold eN
        walk_at "ev"
        refine h [q] ?_
        unfold Lot
        exact List.singleton_sublist.mpr (List.mem_range.mpr (by omega))
end Own

namespace Own
open PySem PySem.Spec PyProof.Rows L2 Gd Dq Mp RZ
local macro_rules | `(tactic| walk_at "ev") => `(tactic| simp only [Own.ar_0, Own.ar_1, Own.ar_2, Own.ar_3, Own.ar_4, Own.ar_5, Own.ar_6, Own.ar_7, Own.ar_8, Own.ar_9, Own.ar_10, Own.ar_11, Own.ar_12, Own.ar_13, Own.ar_14, Own.ar_15, Own.ar_16, Own.ar_17, Own.ar_18, Own.ar_19, Own.ar_20, Own.ar_21, Own.ar_22, Own.ar_23, Own.ar_24, Own.ar_25, ↓Mp.ev_var, ↓Mp.ev_int, ↓Mp.ev_bl, ↓Mp.ev_non, ↓Mp.ev_str, ↓Mp.ev_cst, ↓Mp.ev_tup, ↓Mp.ev_lst, ↓Mp.ev_bin, ↓Mp.ev_un, ↓Mp.ev_isN, ↓Mp.ev_ntN, ↓Mp.ev_and, ↓Mp.ev_or, ↓Mp.ev_not, ↓Mp.ev_ife, ↓Mp.ev_slc, ↓Mp.ev_rev, ↓Mp.ev_bi, ↓Mp.ev_bj, ↓Mp.ev_call, ↓Mp.ev_lc, ↓Mp.ev_gn, ↓Mp.ev_isi, ↓Mp.ev_sub', ↓Mp.ev_rcmp, ↓Mp.ev_lrg, ↓Mp.evA_nil, ↓Mp.evA_cons, ↓Mp.evA_star, ↓Mp.evT_tru, ↓Mp.evT_tbl, ↓Mp.evT_tand, ↓Mp.evT_tor, ↓Mp.evT_tnot, ↓Mp.evT_yes, ↓Mp.evI_it, ↓Mp.evI_rng1, ↓Mp.rng1_is, ↓Mp.evI_rng2, ↓Mp.evI_enu, ↓Mp.evI_zip, ↓Mp.evO_no, ↓Mp.evO_some, ↓Mp.es_nil, ↓Mp.es_seq, ↓Mp.es_asg, ↓Mp.es_unp, ↓Mp.es_par, ↓Mp.es_ret, ↓Mp.es_retN, ↓Mp.es_exp, ↓Mp.es_ife, ↓Mp.es_for, ↓Mp.es_brk, ↓Mp.es_cnt, ↓Mp.es_frz, ↓Mp.es_aug, ↓Mp.es_app, ↓Mp.ob_some', ↓Mp.oq_some, ↓Mp.oq_gd, Mp.oq_some, Mp.oq_gd, Mp.bq_t, Mp.bq_f, ↓Mp.ob_gd, Mp.gs0, Mp.gsS, Mp.vk_dat, Mp.vk_ol, Mp.vk_od, Mp.vk_src, Mp.subk_dat, Mp.subk_ol, Mp.subk_od, Mp.dOf_dat', Mp.dOf_nw', Mp.sOf_dat', Mp.sOf_nw', Mp.dOf_lc, Mp.dk_ol, Mp.svOf_dat, Mp.svOf_nw, Mp.svOf_nd, Mp.svOf_src, Mp.rtOf_dat, Mp.rtOf_nw, Mp.rtOf_lc, Mp.rk_ol, Mp.sOfs_nil, Mp.sOfs_cons, Mp.dOfs_nil, Mp.dOfs_cons, Mp.avs_nil, Mp.avs_cons, Mp.avR_dat, Mp.avR_nw, Mp.avR_src, Mp.avR_lc, Mp.ak_ol, Mp.sqR_list, Mp.sqR_tuple, Mp.sqR_nw, Mp.sqR_lc, Mp.qk_ol, Mp.seqOf_list, Mp.seqOf_tuple, Mp.iOf_int, Mp.bOf_bool, Mp.setG_nm, Mp.setG_tpt, Mp.setG_tpl, Mp.setGs_nil, Mp.setGs_cons, Mp.wipeD_nil, Mp.wipeD_cons, Mp.frz_nil, Mp.frz_cons, Mp.fk_ol, Mp.fk_od, Mp.fk_dat, Mp.fk_un, Mp.fk_src, Mp.truD_bool, Mp.truD_int, Mp.truD_none, Mp.truD_list, Mp.truD_tuple, Mp.truR_nw, Mp.isNon_none, Mp.isNon_int, Mp.isNon_tuple, Mp.isNon_list, Mp.isNon_bool, Mp.bin_add, Mp.bin_addL, Mp.bin_addT, Mp.bin_sub, Mp.bin_mul, Mp.bin_mod, Mp.bin_fdiv, Mp.bin_band, Mp.bin_bor, Mp.bin_shl, Mp.bin_shr, Mp.bin_lt, Mp.bin_le, Mp.bin_gt, Mp.bin_ge, Mp.bin_eqI, Mp.bin_neI, Mp.bin_ixL, Mp.bin_ixT, Mp.un_neg', Mp.bi_lenL, Mp.bi_lenT, Mp.bi_int, Mp.bi_intB, Mp.bi_tupL, Mp.bi_tupT, Mp.bi_lstL, Mp.bi_lstT, Mp.bi_max2, Mp.bi_min2, Mp.sl_L, Mp.sl_T, Mp.rev_L, Mp.rev_T, Mp.runD_fn, List.set_cons_zero, List.set_cons_succ, Option.bind_some, Option.map_some, Mp.ob_some', Mp.ob_gd, List.replicate, List.nil_append, List.cons_append, Bool.or_false, Bool.or_true, List.length_cons, List.length_nil, Mp.bk_t, Bool.not_false, Bool.not_true, Bool.true_and, Bool.false_and, Bool.and_true, Bool.true_or, Bool.false_or, Mp.at_0, Mp.at_1, Mp.at_2, Mp.at_3, Mp.small_0, Mp.small_1, Mp.small_2, Mp.small_3, Mp.small_4, Mp.small_5, Mp.small_6, Mp.bk_f, Mp.augk_int, Mp.appk_ol, Mp.rg1k_int, List.append_nil])
local macro_rules | `(tactic| walk_at "evh") => `(tactic| simp only [Own.ar_0, Own.ar_1, Own.ar_2, Own.ar_3, Own.ar_4, Own.ar_5, Own.ar_6, Own.ar_7, Own.ar_8, Own.ar_9, Own.ar_10, Own.ar_11, Own.ar_12, Own.ar_13, Own.ar_14, Own.ar_15, Own.ar_16, Own.ar_17, Own.ar_18, Own.ar_19, Own.ar_20, Own.ar_21, Own.ar_22, Own.ar_23, Own.ar_24, Own.ar_25, ↓Mp.ev_var, ↓Mp.ev_int, ↓Mp.ev_bl, ↓Mp.ev_non, ↓Mp.ev_str, ↓Mp.ev_cst, ↓Mp.ev_tup, ↓Mp.ev_lst, ↓Mp.ev_bin, ↓Mp.ev_un, ↓Mp.ev_isN, ↓Mp.ev_ntN, ↓Mp.ev_and, ↓Mp.ev_or, ↓Mp.ev_not, ↓Mp.ev_ife, ↓Mp.ev_slc, ↓Mp.ev_rev, ↓Mp.ev_bi, ↓Mp.ev_bj, ↓Mp.ev_call, ↓Mp.ev_lc, ↓Mp.ev_gn, ↓Mp.ev_isi, ↓Mp.ev_sub', ↓Mp.ev_rcmp, ↓Mp.ev_lrg, ↓Mp.evA_nil, ↓Mp.evA_cons, ↓Mp.evA_star, ↓Mp.evT_tru, ↓Mp.evT_tbl, ↓Mp.evT_tand, ↓Mp.evT_tor, ↓Mp.evT_tnot, ↓Mp.evT_yes, ↓Mp.evI_it, ↓Mp.evI_rng1, ↓Mp.rng1_is, ↓Mp.evI_rng2, ↓Mp.evI_enu, ↓Mp.evI_zip, ↓Mp.evO_no, ↓Mp.evO_some, ↓Mp.es_nil, ↓Mp.es_seq, ↓Mp.es_asg, ↓Mp.es_unp, ↓Mp.es_par, ↓Mp.es_ret, ↓Mp.es_retN, ↓Mp.es_exp, ↓Mp.es_ife, ↓Mp.es_for, ↓Mp.es_brk, ↓Mp.es_cnt, ↓Mp.es_frz, ↓Mp.es_aug, ↓Mp.es_app, ↓Mp.ob_some', ↓Mp.oq_some, ↓Mp.oq_gd, Mp.oq_some, Mp.oq_gd, Mp.bq_t, Mp.bq_f, ↓Mp.ob_gd, Mp.gs0, Mp.gsS, Mp.vk_dat, Mp.vk_ol, Mp.vk_od, Mp.vk_src, Mp.subk_dat, Mp.subk_ol, Mp.subk_od, Mp.dOf_dat', Mp.dOf_nw', Mp.sOf_dat', Mp.sOf_nw', Mp.dOf_lc, Mp.dk_ol, Mp.svOf_dat, Mp.svOf_nw, Mp.svOf_nd, Mp.svOf_src, Mp.rtOf_dat, Mp.rtOf_nw, Mp.rtOf_lc, Mp.rk_ol, Mp.sOfs_nil, Mp.sOfs_cons, Mp.dOfs_nil, Mp.dOfs_cons, Mp.avs_nil, Mp.avs_cons, Mp.avR_dat, Mp.avR_nw, Mp.avR_src, Mp.avR_lc, Mp.ak_ol, Mp.sqR_list, Mp.sqR_tuple, Mp.sqR_nw, Mp.sqR_lc, Mp.qk_ol, Mp.seqOf_list, Mp.seqOf_tuple, Mp.iOf_int, Mp.bOf_bool, Mp.setG_nm, Mp.setG_tpt, Mp.setG_tpl, Mp.setGs_nil, Mp.setGs_cons, Mp.wipeD_nil, Mp.wipeD_cons, Mp.frz_nil, Mp.frz_cons, Mp.fk_ol, Mp.fk_od, Mp.fk_dat, Mp.fk_un, Mp.fk_src, Mp.truD_bool, Mp.truD_int, Mp.truD_none, Mp.truD_list, Mp.truD_tuple, Mp.truR_nw, Mp.isNon_none, Mp.isNon_int, Mp.isNon_tuple, Mp.isNon_list, Mp.isNon_bool, Mp.bin_add, Mp.bin_addL, Mp.bin_addT, Mp.bin_sub, Mp.bin_mul, Mp.bin_mod, Mp.bin_fdiv, Mp.bin_band, Mp.bin_bor, Mp.bin_shl, Mp.bin_shr, Mp.bin_lt, Mp.bin_le, Mp.bin_gt, Mp.bin_ge, Mp.bin_eqI, Mp.bin_neI, Mp.bin_ixL, Mp.bin_ixT, Mp.un_neg', Mp.bi_lenL, Mp.bi_lenT, Mp.bi_int, Mp.bi_intB, Mp.bi_tupL, Mp.bi_tupT, Mp.bi_lstL, Mp.bi_lstT, Mp.bi_max2, Mp.bi_min2, Mp.sl_L, Mp.sl_T, Mp.rev_L, Mp.rev_T, Mp.runD_fn, List.set_cons_zero, List.set_cons_succ, Option.bind_some, Option.map_some, Mp.ob_some', Mp.ob_gd, List.replicate, List.nil_append, List.cons_append, Bool.or_false, Bool.or_true, List.length_cons, List.length_nil, Mp.bk_t, Bool.not_false, Bool.not_true, Bool.true_and, Bool.false_and, Bool.and_true, Bool.true_or, Bool.false_or, Mp.at_0, Mp.at_1, Mp.at_2, Mp.at_3, Mp.small_0, Mp.small_1, Mp.small_2, Mp.small_3, Mp.small_4, Mp.small_5, Mp.small_6, Mp.bk_f, Mp.augk_int, Mp.appk_ol, Mp.rg1k_int, List.append_nil, *])
def SYD : List PyData := SYs.map eS
def WDo : List Nat := KMs.filter fun m => decide (m + 1 < 8192)
/-- the three tables -/
theorem tabs_is (n : Nat) (o : SV) (u8 u9 : SV) : ∀ (R : MS) (E : EK) (u : SV), es GEv (runF GEv DD n) (.seq (.asg 5 (.lc (.nm 17) (.it (.var 4)) (.tbl (.bin .lt (.bin .add (.var 17) (.int 1)) (.bin .shl (.int 1) (.int 13)))) (.var 17) [17])) (.seq (.asg 6 (.lc (.tp (.cons (.nm 17) (.cons (.nm 18) .nil))) (.zip (.cons (.var 4) (.cons (.var 3) .nil))) (.tand (.tbl (.bin .eq (.sub 18 (.int 0)) (.tup .nil))) (.tbl (.ntN (.sub 18 (.int 1))))) (.var 17) [17, 18])) (.seq (.asg 7 (.bin .add (.var 6) (.lc (.tp (.cons (.nm 17) (.cons (.nm 18) .nil))) (.zip (.cons (.var 4) (.cons (.var 3) .nil))) (.tand (.tbl (.bin .eq (.bi .len (.cons (.sub 18 (.int 0)) .nil)) (.int 1))) (.tbl (.isN (.sub 18 (.int 1))))) (.var 17) [17, 18]))) R)))
    [u, .src, o, .ol SYD, .ol (lotL KMs), .un, .un, .un, .un, .un, .un, .un, .un, .un, .un, .un, .un, .un, .un, .un] E =
    es GEv (runF GEv DD n) R [u, .src, o, .ol SYD, .ol (lotL KMs), .ol (lotL WDo), .ol (lotL PLo), .ol (lotL CLo), .un, .un, .un, .un, .un, .un, .un, .un, .un, .un, .un, .un] E := fun R E u => by kernel_rfl
end Own

namespace Own
open PySem PySem.Spec PyProof.Rows L2 Gd Dq Mp RZ
local macro_rules | `(tactic| walk_at "ev") => `(tactic| simp only [Own.ar_0, Own.ar_1, Own.ar_2, Own.ar_3, Own.ar_4, Own.ar_5, Own.ar_6, Own.ar_7, Own.ar_8, Own.ar_9, Own.ar_10, Own.ar_11, Own.ar_12, Own.ar_13, Own.ar_14, Own.ar_15, Own.ar_16, Own.ar_17, Own.ar_18, Own.ar_19, Own.ar_20, Own.ar_21, Own.ar_22, Own.ar_23, Own.ar_24, Own.ar_25, ↓Mp.ev_var, ↓Mp.ev_int, ↓Mp.ev_bl, ↓Mp.ev_non, ↓Mp.ev_str, ↓Mp.ev_cst, ↓Mp.ev_tup, ↓Mp.ev_lst, ↓Mp.ev_bin, ↓Mp.ev_un, ↓Mp.ev_isN, ↓Mp.ev_ntN, ↓Mp.ev_and, ↓Mp.ev_or, ↓Mp.ev_not, ↓Mp.ev_ife, ↓Mp.ev_slc, ↓Mp.ev_rev, ↓Mp.ev_bi, ↓Mp.ev_bj, ↓Mp.ev_call, ↓Mp.ev_lc, ↓Mp.ev_gn, ↓Mp.ev_isi, ↓Mp.ev_sub', ↓Mp.ev_rcmp, ↓Mp.ev_lrg, ↓Mp.evA_nil, ↓Mp.evA_cons, ↓Mp.evA_star, ↓Mp.evT_tru, ↓Mp.evT_tbl, ↓Mp.evT_tand, ↓Mp.evT_tor, ↓Mp.evT_tnot, ↓Mp.evT_yes, ↓Mp.evI_it, ↓Mp.evI_rng1, ↓Mp.rng1_is, ↓Mp.evI_rng2, ↓Mp.evI_enu, ↓Mp.evI_zip, ↓Mp.evO_no, ↓Mp.evO_some, ↓Mp.es_nil, ↓Mp.es_seq, ↓Mp.es_asg, ↓Mp.es_unp, ↓Mp.es_par, ↓Mp.es_ret, ↓Mp.es_retN, ↓Mp.es_exp, ↓Mp.es_ife, ↓Mp.es_for, ↓Mp.es_brk, ↓Mp.es_cnt, ↓Mp.es_frz, ↓Mp.es_aug, ↓Mp.es_app, ↓Mp.ob_some', ↓Mp.oq_some, ↓Mp.oq_gd, Mp.oq_some, Mp.oq_gd, Mp.bq_t, Mp.bq_f, ↓Mp.ob_gd, Mp.gs0, Mp.gsS, Mp.vk_dat, Mp.vk_ol, Mp.vk_od, Mp.vk_src, Mp.subk_dat, Mp.subk_ol, Mp.subk_od, Mp.dOf_dat', Mp.dOf_nw', Mp.sOf_dat', Mp.sOf_nw', Mp.dOf_lc, Mp.dk_ol, Mp.svOf_dat, Mp.svOf_nw, Mp.svOf_nd, Mp.svOf_src, Mp.rtOf_dat, Mp.rtOf_nw, Mp.rtOf_lc, Mp.rk_ol, Mp.sOfs_nil, Mp.sOfs_cons, Mp.dOfs_nil, Mp.dOfs_cons, Mp.avs_nil, Mp.avs_cons, Mp.avR_dat, Mp.avR_nw, Mp.avR_src, Mp.avR_lc, Mp.ak_ol, Mp.sqR_list, Mp.sqR_tuple, Mp.sqR_nw, Mp.sqR_lc, Mp.qk_ol, Mp.seqOf_list, Mp.seqOf_tuple, Mp.iOf_int, Mp.bOf_bool, Mp.setG_nm, Mp.setG_tpt, Mp.setG_tpl, Mp.setGs_nil, Mp.setGs_cons, Mp.wipeD_nil, Mp.wipeD_cons, Mp.frz_nil, Mp.frz_cons, Mp.fk_ol, Mp.fk_od, Mp.fk_dat, Mp.fk_un, Mp.fk_src, Mp.truD_bool, Mp.truD_int, Mp.truD_none, Mp.truD_list, Mp.truD_tuple, Mp.truR_nw, Mp.isNon_none, Mp.isNon_int, Mp.isNon_tuple, Mp.isNon_list, Mp.isNon_bool, Mp.bin_add, Mp.bin_addL, Mp.bin_addT, Mp.bin_sub, Mp.bin_mul, Mp.bin_mod, Mp.bin_fdiv, Mp.bin_band, Mp.bin_bor, Mp.bin_shl, Mp.bin_shr, Mp.bin_lt, Mp.bin_le, Mp.bin_gt, Mp.bin_ge, Mp.bin_eqI, Mp.bin_neI, Mp.bin_ixL, Mp.bin_ixT, Mp.un_neg', Mp.bi_lenL, Mp.bi_lenT, Mp.bi_int, Mp.bi_intB, Mp.bi_tupL, Mp.bi_tupT, Mp.bi_lstL, Mp.bi_lstT, Mp.bi_max2, Mp.bi_min2, Mp.sl_L, Mp.sl_T, Mp.rev_L, Mp.rev_T, Mp.runD_fn, List.set_cons_zero, List.set_cons_succ, Option.bind_some, Option.map_some, Mp.ob_some', Mp.ob_gd, List.replicate, List.nil_append, List.cons_append, Bool.or_false, Bool.or_true, List.length_cons, List.length_nil, Mp.bk_t, Bool.not_false, Bool.not_true, Bool.true_and, Bool.false_and, Bool.and_true, Bool.true_or, Bool.false_or, Mp.at_0, Mp.at_1, Mp.at_2, Mp.at_3, Mp.small_0, Mp.small_1, Mp.small_2, Mp.small_3, Mp.small_4, Mp.small_5, Mp.small_6, Mp.bk_f, Mp.augk_int, Mp.appk_ol, Mp.rg1k_int, List.append_nil])
local macro_rules | `(tactic| walk_at "evh") => `(tactic| simp only [Own.ar_0, Own.ar_1, Own.ar_2, Own.ar_3, Own.ar_4, Own.ar_5, Own.ar_6, Own.ar_7, Own.ar_8, Own.ar_9, Own.ar_10, Own.ar_11, Own.ar_12, Own.ar_13, Own.ar_14, Own.ar_15, Own.ar_16, Own.ar_17, Own.ar_18, Own.ar_19, Own.ar_20, Own.ar_21, Own.ar_22, Own.ar_23, Own.ar_24, Own.ar_25, ↓Mp.ev_var, ↓Mp.ev_int, ↓Mp.ev_bl, ↓Mp.ev_non, ↓Mp.ev_str, ↓Mp.ev_cst, ↓Mp.ev_tup, ↓Mp.ev_lst, ↓Mp.ev_bin, ↓Mp.ev_un, ↓Mp.ev_isN, ↓Mp.ev_ntN, ↓Mp.ev_and, ↓Mp.ev_or, ↓Mp.ev_not, ↓Mp.ev_ife, ↓Mp.ev_slc, ↓Mp.ev_rev, ↓Mp.ev_bi, ↓Mp.ev_bj, ↓Mp.ev_call, ↓Mp.ev_lc, ↓Mp.ev_gn, ↓Mp.ev_isi, ↓Mp.ev_sub', ↓Mp.ev_rcmp, ↓Mp.ev_lrg, ↓Mp.evA_nil, ↓Mp.evA_cons, ↓Mp.evA_star, ↓Mp.evT_tru, ↓Mp.evT_tbl, ↓Mp.evT_tand, ↓Mp.evT_tor, ↓Mp.evT_tnot, ↓Mp.evT_yes, ↓Mp.evI_it, ↓Mp.evI_rng1, ↓Mp.rng1_is, ↓Mp.evI_rng2, ↓Mp.evI_enu, ↓Mp.evI_zip, ↓Mp.evO_no, ↓Mp.evO_some, ↓Mp.es_nil, ↓Mp.es_seq, ↓Mp.es_asg, ↓Mp.es_unp, ↓Mp.es_par, ↓Mp.es_ret, ↓Mp.es_retN, ↓Mp.es_exp, ↓Mp.es_ife, ↓Mp.es_for, ↓Mp.es_brk, ↓Mp.es_cnt, ↓Mp.es_frz, ↓Mp.es_aug, ↓Mp.es_app, ↓Mp.ob_some', ↓Mp.oq_some, ↓Mp.oq_gd, Mp.oq_some, Mp.oq_gd, Mp.bq_t, Mp.bq_f, ↓Mp.ob_gd, Mp.gs0, Mp.gsS, Mp.vk_dat, Mp.vk_ol, Mp.vk_od, Mp.vk_src, Mp.subk_dat, Mp.subk_ol, Mp.subk_od, Mp.dOf_dat', Mp.dOf_nw', Mp.sOf_dat', Mp.sOf_nw', Mp.dOf_lc, Mp.dk_ol, Mp.svOf_dat, Mp.svOf_nw, Mp.svOf_nd, Mp.svOf_src, Mp.rtOf_dat, Mp.rtOf_nw, Mp.rtOf_lc, Mp.rk_ol, Mp.sOfs_nil, Mp.sOfs_cons, Mp.dOfs_nil, Mp.dOfs_cons, Mp.avs_nil, Mp.avs_cons, Mp.avR_dat, Mp.avR_nw, Mp.avR_src, Mp.avR_lc, Mp.ak_ol, Mp.sqR_list, Mp.sqR_tuple, Mp.sqR_nw, Mp.sqR_lc, Mp.qk_ol, Mp.seqOf_list, Mp.seqOf_tuple, Mp.iOf_int, Mp.bOf_bool, Mp.setG_nm, Mp.setG_tpt, Mp.setG_tpl, Mp.setGs_nil, Mp.setGs_cons, Mp.wipeD_nil, Mp.wipeD_cons, Mp.frz_nil, Mp.frz_cons, Mp.fk_ol, Mp.fk_od, Mp.fk_dat, Mp.fk_un, Mp.fk_src, Mp.truD_bool, Mp.truD_int, Mp.truD_none, Mp.truD_list, Mp.truD_tuple, Mp.truR_nw, Mp.isNon_none, Mp.isNon_int, Mp.isNon_tuple, Mp.isNon_list, Mp.isNon_bool, Mp.bin_add, Mp.bin_addL, Mp.bin_addT, Mp.bin_sub, Mp.bin_mul, Mp.bin_mod, Mp.bin_fdiv, Mp.bin_band, Mp.bin_bor, Mp.bin_shl, Mp.bin_shr, Mp.bin_lt, Mp.bin_le, Mp.bin_gt, Mp.bin_ge, Mp.bin_eqI, Mp.bin_neI, Mp.bin_ixL, Mp.bin_ixT, Mp.un_neg', Mp.bi_lenL, Mp.bi_lenT, Mp.bi_int, Mp.bi_intB, Mp.bi_tupL, Mp.bi_tupT, Mp.bi_lstL, Mp.bi_lstT, Mp.bi_max2, Mp.bi_min2, Mp.sl_L, Mp.sl_T, Mp.rev_L, Mp.rev_T, Mp.runD_fn, List.set_cons_zero, List.set_cons_succ, Option.bind_some, Option.map_some, Mp.ob_some', Mp.ob_gd, List.replicate, List.nil_append, List.cons_append, Bool.or_false, Bool.or_true, List.length_cons, List.length_nil, Mp.bk_t, Bool.not_false, Bool.not_true, Bool.true_and, Bool.false_and, Bool.and_true, Bool.true_or, Bool.false_or, Mp.at_0, Mp.at_1, Mp.at_2, Mp.at_3, Mp.small_0, Mp.small_1, Mp.small_2, Mp.small_3, Mp.small_4, Mp.small_5, Mp.small_6, Mp.bk_f, Mp.augk_int, Mp.appk_ol, Mp.rg1k_int, List.append_nil, *])
theorem noL_lot (l : List Nat) : noL (lotD l) = true := by
  show noLs (lotL l) = true
  induction l with
  | nil => rfl
  | cons a l ih =>
    show (noL (.int (a : Nat)) && noLs (lotL l)) = true
    rw [ih]
    rfl
def REST : MS := (.seq (.asg 14 (.call 24 (.cons (.var 9) (.cons (.var 4) .nil)))) (.seq (.asg 15 (.lst (.cons (.call 9 (.cons (.var 9) .nil)) (.cons (.call 6 (.cons (.var 9) .nil)) (.cons (.call 7 (.cons (.var 9) .nil)) (.cons (.call 8 (.cons (.var 9) .nil)) (.cons (.call 6 (.cons (.var 14) .nil)) .nil))))))) (.seq (.frz [14] (.asg 16 (.lst (.cons (.var 14) (.cons (.bin .eq (.var 14) (.var 9)) (.cons (.bin .eq (.call 24 (.cons (.var 9) (.cons (.var 7) .nil))) (.var 9)) (.cons (.bin .eq (.call 24 (.cons (.var 9) (.cons (.var 6) .nil))) (.var 9)) (.cons (.bl true) .nil)))))))) (.ife (.tbl (.rcmp true (.var 15) (.var 16))) (.ret (.bl false)) .nil))))
def B3 : MS := (.ife (.tbl (.bin .gt (.var 10) (.int 0))) (.seq (.frz [5, 6, 7] (.asg 11 (.bin .ix (.lst (.cons (.var 5) (.cons (.var 7) (.cons (.var 6) .nil)))) (.bin .sub (.var 10) (.int 1))))) (.seq (.asg 12 (.bin .sub (.bin .shl (.int 1) (.int 13)) (.int 1))) (.seq (.for (.nm 13) (.rng1 (.cons (.bin .add (.int 1) (.call 16 (.cons (.var 1) (.cons (.int 4) .nil)))) .nil)) (.asg 12 (.bin .band (.var 12) (.call 17 (.cons (.var 1) (.cons (.var 11) .nil)))))) (.asg 9 (.bi .tup (.cons (.lc (.nm 19) (.rng1 (.cons (.int 13) .nil)) (.tbl (.bin .eq (.bin .band (.bin .shr (.var 12) (.var 19)) (.int 1)) (.int 1))) (.var 19) [19]) .nil)))))) .nil)
def LR : MS := (.seq (.frz [5, 6, 7] (.for (.nm 8) (.rng1 (.cons (.int 12) .nil)) (.seq (.asg 9 (.call 21 (.cons (.var 1) .nil))) (.seq (.asg 10 (.call 16 (.cons (.var 1) (.cons (.int 4) .nil)))) (.seq B3 REST))))) (.ret (.bl true)))
theorem law_parts : M_law = .seq (.asg 3 (.call 22 (.cons (.int 6) .nil))) (.seq (.asg 4 (.call 23 (.cons (.var 3) (.cons (.var 2) .nil)))) (.seq (.asg 5 (.lc (.nm 17) (.it (.var 4)) (.tbl (.bin .lt (.bin .add (.var 17) (.int 1)) (.bin .shl (.int 1) (.int 13)))) (.var 17) [17])) (.seq (.asg 6 (.lc (.tp (.cons (.nm 17) (.cons (.nm 18) .nil))) (.zip (.cons (.var 4) (.cons (.var 3) .nil))) (.tand (.tbl (.bin .eq (.sub 18 (.int 0)) (.tup .nil))) (.tbl (.ntN (.sub 18 (.int 1))))) (.var 17) [17, 18])) (.seq (.asg 7 (.bin .add (.var 6) (.lc (.tp (.cons (.nm 17) (.cons (.nm 18) .nil))) (.zip (.cons (.var 4) (.cons (.var 3) .nil))) (.tand (.tbl (.bin .eq (.bi .len (.cons (.sub 18 (.int 0)) .nil)) (.int 1))) (.tbl (.isN (.sub 18 (.int 1))))) (.var 17) [17, 18]))) LR)))) := by unfold M_law LR REST B3; rfl
theorem law_ev : (ev GEv (runF GEv DD 6) M_two (List.replicate (19 + 1) SV.un) fun r => ob (sOf r) fun d => es GEv (runF GEv DD 6) M_law ((lawSd 19 1).set 2 (.dat d)) lawE) = true := by
  have e20 : ∀ k, runF GEv DD 6 20 [] k = k (.nw (OR.map eO)) := ord_is 4
  have e22 : ∀ k, runF GEv DD 6 22 [.dat (.int 6)] k = k (.nw (SYs.map eS)) := ks_is 5
  have e23 : ∀ k, runF GEv DD 6 23 [.dat (.list (SYs.map eS)), .dat (.list (OR.map eO))] k = k (.nw (lotL KMs)) := kl_is 4 sy_in or_len (by decide) (by decide +kernel)
  have e24 : ∀ l, Lot l → ∀ ks k, runF GEv DD 6 24 [.dat (lotD l), .dat (.list (lotL ks))] k = k (.dat (lotD (hbN l ks))) := fun l hl ks k => hb_is 5 hl.is k
  have e21 : ∀ K : ER → Bool, (∀ l, Lot l → K (ER.dat (lotD l)) = true) → runF GEv DD 6 21 [.src] K = true := fun K h => some_lot 3 h
  have e16 := pick_run 5
  have e17 : ∀ {ds : List PyData} {K : ER → Bool}, ds ≠ [] → ds.length ≤ 1000000 → (∀ d ∈ ds, K (.dat d) = true) → runF GEv DD 6 17 [.src, .dat (.list ds)] K = true := fun a b c => lwof_k 4 a b c
  have e9 : ∀ l, Lot l → ∀ k, runF GEv DD 6 9 [.dat (lotD l)] k = k (.dat (lotD (hbN l KMs))) := fun l hl k => by rw [hull_eq hl]; exact hull_is 1 hl.is k
  have e6 : ∀ l, Lot l → ∀ k, runF GEv DD 6 6 [.dat (lotD l)] k = k (.dat (.bool (decide (hbN l KMs = l)))) := fun l hl k => by rw [hull_eq hl]; exact said_is 0 eq_lots hl.is k
  have e7 : ∀ l, Lot l → ∀ k, runF GEv DD 6 7 [.dat (lotD l)] k = k (.dat (.bool (decide (hbN l CLo = l)))) := fun l hl k => by rw [← clear_eq hl]; exact clear_is 1 hl.is k
  have e8 : ∀ l, Lot l → ∀ k, runF GEv DD 6 8 [.dat (lotD l)] k = k (.dat (.bool (decide (hbN l PLo = l)))) := fun l hl k => by rw [← plain_eq hl]; exact plain_is 1 hl.is k
  have et := tabs_is 6
  generalize hC : runF GEv DD 6 = C at *
  rw [law_parts]
  generalize hX : ((.seq (.asg 5 (.lc (.nm 17) (.it (.var 4)) (.tbl (.bin .lt (.bin .add (.var 17) (.int 1)) (.bin .shl (.int 1) (.int 13)))) (.var 17) [17])) (.seq (.asg 6 (.lc (.tp (.cons (.nm 17) (.cons (.nm 18) .nil))) (.zip (.cons (.var 4) (.cons (.var 3) .nil))) (.tand (.tbl (.bin .eq (.sub 18 (.int 0)) (.tup .nil))) (.tbl (.ntN (.sub 18 (.int 1))))) (.var 17) [17, 18])) (.seq (.asg 7 (.bin .add (.var 6) (.lc (.tp (.cons (.nm 17) (.cons (.nm 18) .nil))) (.zip (.cons (.var 4) (.cons (.var 3) .nil))) (.tand (.tbl (.bin .eq (.bi .len (.cons (.sub 18 (.int 0)) .nil)) (.int 1))) (.tbl (.isN (.sub 18 (.int 1))))) (.var 17) [17, 18]))) LR))) : MS) = X
  unfold M_two lawSd
  walk_at "ev"
  rw [cl_is e20]
  walk_at "ev"
  rw [cl_is e22]
  walk_at "ev"
  rw [cl_is e23]
  have nL : noLR (ER.nw (lotL KMs)) = true := by
    show noLs (lotL KMs) = true
    exact noL_lot KMs
  rw [nL]
  walk_at "ev"
  rw [← hX]
  refine (et _ .un .un LR _ .un).trans ?_
  clear hX et e20 e22 e23
  unfold LR
  walk_at "ev"
  rw [show rgOk 12 = true from rfl]
  walk_at "ev"
  rw [show rgL 0 (Int.toNat 12) = (List.range 12).map eN from rgL_nat 12]
  refine forL_inv (I := fun _ sd => ∃ x8 x9 x10 x11 x12 x13 x14 x15 x16 x17 x18 x19, sd = [SV.un, SV.src, SV.dat (PyData.list (List.map eO OR)), SV.ol SYD, SV.ol (lotL KMs), SV.dat (PyData.list (lotL WDo)), SV.dat (PyData.list (lotL PLo)), SV.dat (PyData.list (lotL CLo)), x8, x9, x10, x11, x12, x13, x14, x15, x16, x17, x18, x19]) (j := 0) ⟨_, _, _, _, _, _, _, _, _, _, _, _, rfl⟩ ?_ (fun sd _ => rfl)
  rintro i hi sd ⟨x8, x9, x10, x11, x12, x13, x14, x15, x16, x17, x18, x19, rfl⟩ N hN
  have rest : ∀ l, Lot l → ∀ (x8 x10 x11 x12 x13 x14 x15 x16 x17 x18 x19 : SV) (bk' : SD → Bool) , es GEv C REST [SV.un, SV.src, SV.dat (PyData.list (List.map eO OR)), SV.ol SYD, SV.ol (lotL KMs), SV.dat (PyData.list (lotL WDo)), SV.dat (PyData.list (lotL PLo)), SV.dat (PyData.list (lotL CLo)), x8, .dat (lotD l), x10, x11, x12, x13, x14, x15, x16, x17, x18, x19] { nx := N, rt := lawE.rt, bk := bk', ct := N } = true := by
    intro l hl x8 x10 x11 x12 x13 x14 x15 x16 x17 x18 x19 bk'
    unfold REST
    walk_at "ev"
    rw [cl_is (e24 l hl KMs), show noLR (ER.dat (lotD (hbN l KMs))) = true from noL_lot _]
    walk_at "ev"
    rw [cl_is (e9 l hl)]
    walk_at "ev"
    rw [cl_is (e6 l hl)]
    walk_at "ev"
    rw [cl_is (e7 l hl)]
    walk_at "ev"
    rw [cl_is (e8 l hl)]
    walk_at "ev"
    rw [cl_is (e6 _ (hb_lot l KMs))]
    walk_at "ev"
    rw [show binF BK.eq (lotD (hbN l KMs)) (lotD l) = _ from eq_lots _ _ (hb_lot l KMs).is hl.is]
    walk_at "ev"
    rw [cl_is (e24 l hl CLo)]
    walk_at "ev"
    rw [show binF BK.eq (lotD (hbN l CLo)) (lotD l) = _ from eq_lots _ _ (hb_lot l CLo).is hl.is]
    walk_at "ev"
    rw [cl_is (e24 l hl PLo)]
    walk_at "ev"
    rw [show binF BK.eq (lotD (hbN l PLo)) (lotD l) = _ from eq_lots _ _ (hb_lot l PLo).is hl.is]
    walk_at "ev"
    have hid : hbN (hbN l KMs) KMs = hbN l KMs := by
      rw [hull_eq (hb_lot l KMs)]
      exact hb_idem hl
    rw [hid, decide_eq_true rfl]
    have hrep : repOk (PyData.list [lotD (hbN l KMs), PyData.bool (decide (hbN l KMs = l)), PyData.bool (decide (hbN l CLo = l)), PyData.bool (decide (hbN l PLo = l)), PyData.bool true]) = true := by
      have h1 : Fit 1 273 (lotD (hbN l KMs)) := by
        refine (Fit.tuple (n := 0) (k := 20) fun d hd => ?_).mono (Nat.le_refl _) ?_
        · obtain ⟨i, hi, rfl⟩ := mem_lotL hd
          have := (hb_lot l KMs).is.1 i hi
          exact Fit.nat (by omega) (by omega)
        · have := (hb_lot l KMs).is.2
          unfold lotL
          rw [List.length_map]
          omega
      refine rep_fitL (Fit.list (n := 1) (k := 273) fun d hd => ?_) (by omega) (show 5 * 274 ≤ 270000 by omega)
      simp only [List.mem_cons, List.not_mem_nil, or_false] at hd
      rcases hd with rfl | rfl | rfl | rfl | rfl
      · exact h1
      · exact (Fit.bl _).mono (by omega) (by omega)
      · exact (Fit.bl _).mono (by omega) (by omega)
      · exact (Fit.bl _).mono (by omega) (by omega)
      · exact (Fit.bl _).mono (by omega) (by omega)
    rw [hrep]
    walk_at "ev"
    rw [hrep]
    walk_at "ev"
    rw [shEq_self]
    show bq (true != true) _ _ = true
    exact hN _ ⟨_, _, _, _, _, _, _, _, _, _, _, _, rfl⟩
  walk_at "ev"
  refine cl_t (e21 _ fun l hl => ?_)
  walk_at "ev"
  refine cl_t ?_
  rw [e16]
  refine pick_ok (by omega) fun r hr => ?_
  unfold B3 eN
  walk_at "ev"
  cases hr0 : decide ((0 : Int) < (r : Nat)) with
  | false =>
    walk_at "ev"
    exact rest l hl _ _ _ _ _ _ _ _ _ _ _ _
  | true =>
    walk_at "ev"
    have hr0 := of_decide_eq_true hr0
    have hW : ∃ W : List Nat, W ≠ [] ∧ W.length ≤ 1000000 ∧ L2.atI [PyData.list (lotL WDo), PyData.list (lotL CLo), PyData.list (lotL PLo)] ((r : Nat) - 1 : Int) = some (.list (lotL W)) := by
      have : r = 1 ∨ r = 2 ∨ r = 3 := by omega
      rcases this with rfl | rfl | rfl
      · exact ⟨WDo, by decide +kernel, by decide +kernel, at_0⟩
      · exact ⟨CLo, by decide +kernel, by decide +kernel, at_1⟩
      · exact ⟨PLo, by decide +kernel, by decide +kernel, at_2⟩
    obtain ⟨W, hW1, hW2, hW3⟩ := hW
    rw [hW3]
    walk_at "ev"
    rw [show powOk 1 13 = true from rfl]
    walk_at "ev"
    refine cl_t ?_
    rw [e16]
    refine pick_ok (by omega) fun q hq => ?_
    unfold eN
    walk_at "ev"
    have hq2 : (1 : Int) + (q : Nat) = ((q + 1 : Nat) : Int) := by omega
    rw [hq2, show rgOk ((q + 1 : Nat) : Int) = true from rgOk_nat (by omega)]
    walk_at "ev"
    rw [Int.toNat_natCast, show rgL 0 (q + 1) = (List.range (q + 1)).map eN from rgL_nat _]
    refine forL_inv (I := fun _ sd => ∃ (m : Nat) (x13 : SV), sd = [SV.un, SV.src, SV.dat (PyData.list (List.map eO OR)), SV.ol SYD, SV.ol (lotL KMs), SV.dat (PyData.list (lotL WDo)), SV.dat (PyData.list (lotL PLo)), SV.dat (PyData.list (lotL CLo)), .dat (eN (List.range 12)[i]), .dat (lotD l), .dat (.int (r : Nat)), .dat (.list (lotL W)), .dat (.int (m : Nat)), x13, x14, x15, x16, x17, x18, x19]) (j := 0) ⟨8191, _, rfl⟩ ?_ ?_
    · rintro j hj sd ⟨m, x13, rfl⟩ N2 hN2
      walk_at "ev"
      refine cl_t (e17 (by unfold lotL; simpa using hW1) (by unfold lotL; rwa [List.length_map]) fun d hd => ?_)
      obtain ⟨a, ha, rfl⟩ := mem_lotL hd
      walk_at "ev"
      rw [PySem.W.os_band]
      exact hN2 _ ⟨_, _, rfl⟩
    · rintro sd ⟨m, x13, rfl⟩
      walk_at "ev"
      rw [show rgOk 13 = true from rfl]
      walk_at "ev"
      rw [show rgL 0 (Int.toNat 13) = (List.range 13).map fun i => PyData.int (i : Nat) from rgL_nat 13, len_ble (by decide)]
      walk_at "ev"
      refine (nestL_fil (enc := fun (i : Nat) => PyData.int (i : Nat)) (f := fun (i : Nat) => PyData.int (i : Nat)) (p := fun k => (m / 2 ^ k) &&& 1 == 1) (fun a ha => ⟨_, rfl, fun k => ?_, fun _ k => ?_⟩)).trans ?_
      · walk_at "ev"
        rw [show decide ((0 : Int) ≤ (a : Nat)) = true from decide_eq_true (by omega)]
        walk_at "ev"
        rw [shr_nat, show (1 : Int) = ((1 : Nat) : Int) from rfl, PySem.W.os_band]
        congr 1
        rw [Bool.eq_iff_iff, decide_eq_true_iff, beq_iff_eq]
        omega
      · walk_at "ev"
      · walk_at "ev"
        exact rest (bitsN m) (bits_lot m) _ _ _ _ _ _ _ _ _ _ _ _
end Own

namespace Own
open PySem PySem.Spec PyProof.Rows L2 Gd Dq Mp RZ
theorem all_mk {l : PySem.W.OpenLaw} {w : World} {K : PySem.W.Frag} {h : Heap} {mg : Str → Option Value} {fa : Addr} {qq : Program} (X : K.In h) (G : h.Ns mainGlobals mg) (TT : TabsOk qq mg h) (hfa : mg "law" = some (.ref fa))
    {f0 q0 : Addr} {od0 an0 : Option Addr} {sl0 : Array (Option Value)} {oc0 kV0 dc0 pm0 ct0 : Value}
    {f1 q1 : Addr} {od1 an1 : Option Addr} {sl1 : Array (Option Value)} {oc1 kV1 dc1 pm1 ct1 : Value}
    {f2 q2 : Addr} {od2 an2 : Option Addr} {sl2 : Array (Option Value)} {oc2 kV2 dc2 pm2 ct2 : Value}
    {f3 q3 : Addr} {od3 an3 : Option Addr} {sl3 : Array (Option Value)} {oc3 kV3 dc3 pm3 ct3 : Value}
    {f4 q4 : Addr} {od4 an4 : Option Addr} {sl4 : Array (Option Value)} {oc4 kV4 dc4 pm4 ct4 : Value}
    {f5 q5 : Addr} {od5 an5 : Option Addr} {sl5 : Array (Option Value)} {oc5 kV5 dc5 pm5 ct5 : Value}
    {f6 q6 : Addr} {od6 an6 : Option Addr} {sl6 : Array (Option Value)} {oc6 kV6 dc6 pm6 ct6 : Value}
    {f7 q7 : Addr} {od7 an7 : Option Addr} {sl7 : Array (Option Value)} {oc7 kV7 dc7 pm7 ct7 : Value}
    {f8 q8 : Addr} {od8 an8 : Option Addr} {sl8 : Array (Option Value)} {oc8 kV8 dc8 pm8 ct8 : Value}
    {f9 q9 : Addr} {od9 an9 : Option Addr} {sl9 : Array (Option Value)} {oc9 kV9 dc9 pm9 ct9 : Value}
    {f10 q10 : Addr} {od10 an10 : Option Addr} {sl10 : Array (Option Value)} {oc10 kV10 dc10 pm10 ct10 : Value}
    {f11 q11 : Addr} {od11 an11 : Option Addr} {sl11 : Array (Option Value)} {oc11 kV11 dc11 pm11 ct11 : Value}
    {f12 q12 : Addr} {od12 an12 : Option Addr} {sl12 : Array (Option Value)} {oc12 kV12 dc12 pm12 ct12 : Value}
    {f13 q13 : Addr} {od13 an13 : Option Addr} {sl13 : Array (Option Value)} {oc13 kV13 dc13 pm13 ct13 : Value}
    {f14 q14 : Addr} {od14 an14 : Option Addr} {sl14 : Array (Option Value)} {oc14 kV14 dc14 pm14 ct14 : Value}
    {f15 q15 : Addr} {od15 an15 : Option Addr} {sl15 : Array (Option Value)} {oc15 kV15 dc15 pm15 ct15 : Value}
    {f16 q16 : Addr} {od16 an16 : Option Addr} {sl16 : Array (Option Value)} {oc16 kV16 dc16 pm16 ct16 : Value}
    {f17 q17 : Addr} {od17 an17 : Option Addr} {sl17 : Array (Option Value)} {oc17 kV17 dc17 pm17 ct17 : Value}
    {f18 q18 : Addr} {od18 an18 : Option Addr} {sl18 : Array (Option Value)} {oc18 kV18 dc18 pm18 ct18 : Value}
    {f19 q19 : Addr} {od19 an19 : Option Addr} {sl19 : Array (Option Value)} {oc19 kV19 dc19 pm19 ct19 : Value}
    {f20 q20 : Addr} {od20 an20 : Option Addr} {sl20 : Array (Option Value)} {oc20 kV20 dc20 pm20 ct20 : Value}
    {f21 q21 : Addr} {od21 an21 : Option Addr} {sl21 : Array (Option Value)} {oc21 kV21 dc21 pm21 ct21 : Value}
    {f22 q22 : Addr} {od22 an22 : Option Addr} {sl22 : Array (Option Value)} {oc22 kV22 dc22 pm22 ct22 : Value}
    {f23 q23 : Addr} {od23 an23 : Option Addr} {sl23 : Array (Option Value)} {oc23 kV23 dc23 pm23 ct23 : Value}
    {f24 q24 : Addr} {od24 an24 : Option Addr} {sl24 : Array (Option Value)} {oc24 kV24 dc24 pm24 ct24 : Value}
    {f25 q25 : Addr} {od25 an25 : Option Addr} {sl25 : Array (Option Value)} {oc25 kV25 dc25 pm25 ct25 : Value}
    (a0 : PySem.W.nsIn K mainGlobals "keeps" = some (some (.ref f0))) (l0 : K.lookup f0 = some ⟨oc0, od0, .func (PySem.W.fnOf "keeps" "keeps" (defArgs s_keeps) (defBody s_keeps) (defScope s_keeps) .none kV0 dc0 pm0 an0 (.ref q0) ct0), sl0⟩) (c0 : PySem.W.codeIn K (.ref q0) "keeps" = true) (k0 : PySem.W.keepIn K (.ref f0) = true)
    (a1 : PySem.W.nsIn K mainGlobals "unlike_pairs" = some (some (.ref f1))) (l1 : K.lookup f1 = some ⟨oc1, od1, .func (PySem.W.fnOf "unlike_pairs" "unlike_pairs" (defArgs s_unlike_pairs) (defBody s_unlike_pairs) (defScope s_unlike_pairs) .none kV1 dc1 pm1 an1 (.ref q1) ct1), sl1⟩) (c1 : PySem.W.codeIn K (.ref q1) "unlike_pairs" = true) (k1 : PySem.W.keepIn K (.ref f1) = true)
    (a2 : PySem.W.nsIn K mainGlobals "ties_of" = some (some (.ref f2))) (l2 : K.lookup f2 = some ⟨oc2, od2, .func (PySem.W.fnOf "ties_of" "ties_of" (defArgs s_ties_of) (defBody s_ties_of) (defScope s_ties_of) .none kV2 dc2 pm2 an2 (.ref q2) ct2), sl2⟩) (c2 : PySem.W.codeIn K (.ref q2) "ties_of" = true) (k2 : PySem.W.keepIn K (.ref f2) = true)
    (a3 : PySem.W.nsIn K mainGlobals "fullest_sayings" = some (some (.ref f3))) (l3 : K.lookup f3 = some ⟨oc3, od3, .func (PySem.W.fnOf "fullest_sayings" "fullest_sayings" (defArgs s_fullest_sayings) (defBody s_fullest_sayings) (defScope s_fullest_sayings) .none kV3 dc3 pm3 an3 (.ref q3) ct3), sl3⟩) (c3 : PySem.W.codeIn K (.ref q3) "fullest_sayings" = true) (k3 : PySem.W.keepIn K (.ref f3) = true)
    (a4 : PySem.W.nsIn K mainGlobals "first_refusing" = some (some (.ref f4))) (l4 : K.lookup f4 = some ⟨oc4, od4, .func (PySem.W.fnOf "first_refusing" "first_refusing" (defArgs s_first_refusing) (defBody s_first_refusing) (defScope s_first_refusing) .none kV4 dc4 pm4 an4 (.ref q4) ct4), sl4⟩) (c4 : PySem.W.codeIn K (.ref q4) "first_refusing" = true) (k4 : PySem.W.keepIn K (.ref f4) = true)
    (a5 : PySem.W.nsIn K mainGlobals "way_order" = some (some (.ref f5))) (l5 : K.lookup f5 = some ⟨oc5, od5, .func (PySem.W.fnOf "way_order" "way_order" (defArgs s_way_order) (defBody s_way_order) (defScope s_way_order) .none kV5 dc5 pm5 an5 (.ref q5) ct5), sl5⟩) (c5 : PySem.W.codeIn K (.ref q5) "way_order" = true) (k5 : PySem.W.keepIn K (.ref f5) = true)
    (a6 : PySem.W.nsIn K mainGlobals "is_said" = some (some (.ref f6))) (l6 : K.lookup f6 = some ⟨oc6, od6, .func (PySem.W.fnOf "is_said" "is_said" (defArgs s_is_said) (defBody s_is_said) (defScope s_is_said) .none kV6 dc6 pm6 an6 (.ref q6) ct6), sl6⟩) (c6 : PySem.W.codeIn K (.ref q6) "is_said" = true) (k6 : PySem.W.keepIn K (.ref f6) = true)
    (a7 : PySem.W.nsIn K mainGlobals "is_clear" = some (some (.ref f7))) (l7 : K.lookup f7 = some ⟨oc7, od7, .func (PySem.W.fnOf "is_clear" "is_clear" (defArgs s_is_clear) (defBody s_is_clear) (defScope s_is_clear) .none kV7 dc7 pm7 an7 (.ref q7) ct7), sl7⟩) (c7 : PySem.W.codeIn K (.ref q7) "is_clear" = true) (k7 : PySem.W.keepIn K (.ref f7) = true)
    (a8 : PySem.W.nsIn K mainGlobals "is_plain" = some (some (.ref f8))) (l8 : K.lookup f8 = some ⟨oc8, od8, .func (PySem.W.fnOf "is_plain" "is_plain" (defArgs s_is_plain) (defBody s_is_plain) (defScope s_is_plain) .none kV8 dc8 pm8 an8 (.ref q8) ct8), sl8⟩) (c8 : PySem.W.codeIn K (.ref q8) "is_plain" = true) (k8 : PySem.W.keepIn K (.ref f8) = true)
    (a9 : PySem.W.nsIn K mainGlobals "hull_of_lot" = some (some (.ref f9))) (l9 : K.lookup f9 = some ⟨oc9, od9, .func (PySem.W.fnOf "hull_of_lot" "hull_of_lot" (defArgs s_hull_of_lot) (defBody s_hull_of_lot) (defScope s_hull_of_lot) .none kV9 dc9 pm9 an9 (.ref q9) ct9), sl9⟩) (c9 : PySem.W.codeIn K (.ref q9) "hull_of_lot" = true) (k9 : PySem.W.keepIn K (.ref f9) = true)
    (a10 : PySem.W.nsIn K mainGlobals "refusing_saying" = some (some (.ref f10))) (l10 : K.lookup f10 = some ⟨oc10, od10, .func (PySem.W.fnOf "refusing_saying" "refusing_saying" (defArgs s_refusing_saying) (defBody s_refusing_saying) (defScope s_refusing_saying) .none kV10 dc10 pm10 an10 (.ref q10) ct10), sl10⟩) (c10 : PySem.W.codeIn K (.ref q10) "refusing_saying" = true) (k10 : PySem.W.keepIn K (.ref f10) = true)
    (a11 : PySem.W.nsIn K mainGlobals "_refusing" = some (some (.ref f11))) (l11 : K.lookup f11 = some ⟨oc11, od11, .func (PySem.W.fnOf "_refusing" "_refusing" (defArgs s_u_refusing) (defBody s_u_refusing) (defScope s_u_refusing) .none kV11 dc11 pm11 an11 (.ref q11) ct11), sl11⟩) (c11 : PySem.W.codeIn K (.ref q11) "_refusing" = true) (k11 : PySem.W.keepIn K (.ref f11) = true)
    (a12 : PySem.W.nsIn K mainGlobals "_are_all_refused" = some (some (.ref f12))) (l12 : K.lookup f12 = some ⟨oc12, od12, .func (PySem.W.fnOf "_are_all_refused" "_are_all_refused" (defArgs s_u_are_all_refused) (defBody s_u_are_all_refused) (defScope s_u_are_all_refused) .none kV12 dc12 pm12 an12 (.ref q12) ct12), sl12⟩) (c12 : PySem.W.codeIn K (.ref q12) "_are_all_refused" = true) (k12 : PySem.W.keepIn K (.ref f12) = true)
    (a13 : PySem.W.nsIn K mainGlobals "_not_later_sayings" = some (some (.ref f13))) (l13 : K.lookup f13 = some ⟨oc13, od13, .func (PySem.W.fnOf "_not_later_sayings" "_not_later_sayings" (defArgs s_u_not_later_sayings) (defBody s_u_not_later_sayings) (defScope s_u_not_later_sayings) .none kV13 dc13 pm13 an13 (.ref q13) ct13), sl13⟩) (c13 : PySem.W.codeIn K (.ref q13) "_not_later_sayings" = true) (k13 : PySem.W.keepIn K (.ref f13) = true)
    (a14 : PySem.W.nsIn K mainGlobals "_not_at_once_sayings" = some (some (.ref f14))) (l14 : K.lookup f14 = some ⟨oc14, od14, .func (PySem.W.fnOf "_not_at_once_sayings" "_not_at_once_sayings" (defArgs s_u_not_at_once_sayings) (defBody s_u_not_at_once_sayings) (defScope s_u_not_at_once_sayings) .none kV14 dc14 pm14 an14 (.ref q14) ct14), sl14⟩) (c14 : PySem.W.codeIn K (.ref q14) "_not_at_once_sayings" = true) (k14 : PySem.W.keepIn K (.ref f14) = true)
    (a15 : PySem.W.nsIn K mainGlobals "_law_source" = some (some (.ref f15))) (l15 : K.lookup f15 = some ⟨oc15, od15, .func (PySem.W.fnOf "_law_source" "_law_source" (defArgs s_lw_source) (defBody s_lw_source) (defScope s_lw_source) .none kV15 dc15 pm15 an15 (.ref q15) ct15), sl15⟩) (c15 : PySem.W.codeIn K (.ref q15) "_law_source" = true) (k15 : PySem.W.keepIn K (.ref f15) = true)
    (a16 : PySem.W.nsIn K mainGlobals "_law_pick" = some (some (.ref f16))) (l16 : K.lookup f16 = some ⟨oc16, od16, .func (PySem.W.fnOf "_law_pick" "_law_pick" (defArgs s_lw_pick) (defBody s_lw_pick) (defScope s_lw_pick) .none kV16 dc16 pm16 an16 (.ref q16) ct16), sl16⟩) (c16 : PySem.W.codeIn K (.ref q16) "_law_pick" = true) (k16 : PySem.W.keepIn K (.ref f16) = true)
    (a17 : PySem.W.nsIn K mainGlobals "_law_of" = some (some (.ref f17))) (l17 : K.lookup f17 = some ⟨oc17, od17, .func (PySem.W.fnOf "_law_of" "_law_of" (defArgs s_lw_of) (defBody s_lw_of) (defScope s_lw_of) .none kV17 dc17 pm17 an17 (.ref q17) ct17), sl17⟩) (c17 : PySem.W.codeIn K (.ref q17) "_law_of" = true) (k17 : PySem.W.keepIn K (.ref f17) = true)
    (a18 : PySem.W.nsIn K mainGlobals "_law_orders" = some (some (.ref f18))) (l18 : K.lookup f18 = some ⟨oc18, od18, .func (PySem.W.fnOf "_law_orders" "_law_orders" (defArgs s_lw_orders) (defBody s_lw_orders) (defScope s_lw_orders) .none kV18 dc18 pm18 an18 (.ref q18) ct18), sl18⟩) (c18 : PySem.W.codeIn K (.ref q18) "_law_orders" = true) (k18 : PySem.W.keepIn K (.ref f18) = true)
    (a19 : PySem.W.nsIn K mainGlobals "_law_keeps" = some (some (.ref f19))) (l19 : K.lookup f19 = some ⟨oc19, od19, .func (PySem.W.fnOf "_law_keeps" "_law_keeps" (defArgs s_lw_keeps) (defBody s_lw_keeps) (defScope s_lw_keeps) .none kV19 dc19 pm19 an19 (.ref q19) ct19), sl19⟩) (c19 : PySem.W.codeIn K (.ref q19) "_law_keeps" = true) (k19 : PySem.W.keepIn K (.ref f19) = true)
    (a20 : PySem.W.nsIn K mainGlobals "_law_way_orders" = some (some (.ref f20))) (l20 : K.lookup f20 = some ⟨oc20, od20, .func (PySem.W.fnOf "_law_way_orders" "_law_way_orders" (defArgs s_lw_way_orders) (defBody s_lw_way_orders) (defScope s_lw_way_orders) .none kV20 dc20 pm20 an20 (.ref q20) ct20), sl20⟩) (c20 : PySem.W.codeIn K (.ref q20) "_law_way_orders" = true) (k20 : PySem.W.keepIn K (.ref f20) = true)
    (a21 : PySem.W.nsIn K mainGlobals "_law_some_lot" = some (some (.ref f21))) (l21 : K.lookup f21 = some ⟨oc21, od21, .func (PySem.W.fnOf "_law_some_lot" "_law_some_lot" (defArgs s_lw_some_lot) (defBody s_lw_some_lot) (defScope s_lw_some_lot) .none kV21 dc21 pm21 an21 (.ref q21) ct21), sl21⟩) (c21 : PySem.W.codeIn K (.ref q21) "_law_some_lot" = true) (k21 : PySem.W.keepIn K (.ref f21) = true)
    (a22 : PySem.W.nsIn K mainGlobals "_law_four_sayings" = some (some (.ref f22))) (l22 : K.lookup f22 = some ⟨oc22, od22, .func (PySem.W.fnOf "_law_four_sayings" "_law_four_sayings" (defArgs s_lw_four_sayings) (defBody s_lw_four_sayings) (defScope s_lw_four_sayings) .none kV22 dc22 pm22 an22 (.ref q22) ct22), sl22⟩) (c22 : PySem.W.codeIn K (.ref q22) "_law_four_sayings" = true) (k22 : PySem.W.keepIn K (.ref f22) = true)
    (a23 : PySem.W.nsIn K mainGlobals "_law_kept_lots" = some (some (.ref f23))) (l23 : K.lookup f23 = some ⟨oc23, od23, .func (PySem.W.fnOf "_law_kept_lots" "_law_kept_lots" (defArgs s_lw_kept_lots) (defBody s_lw_kept_lots) (defScope s_lw_kept_lots) .none kV23 dc23 pm23 an23 (.ref q23) ct23), sl23⟩) (c23 : PySem.W.codeIn K (.ref q23) "_law_kept_lots" = true) (k23 : PySem.W.keepIn K (.ref f23) = true)
    (a24 : PySem.W.nsIn K mainGlobals "_law_hull_by" = some (some (.ref f24))) (l24 : K.lookup f24 = some ⟨oc24, od24, .func (PySem.W.fnOf "_law_hull_by" "_law_hull_by" (defArgs s_lw_hull_by) (defBody s_lw_hull_by) (defScope s_lw_hull_by) .none kV24 dc24 pm24 an24 (.ref q24) ct24), sl24⟩) (c24 : PySem.W.codeIn K (.ref q24) "_law_hull_by" = true) (k24 : PySem.W.keepIn K (.ref f24) = true)
    (a25 : PySem.W.nsIn K mainGlobals "law" = some (some (.ref f25))) (l25 : K.lookup f25 = some ⟨oc25, od25, .func (PySem.W.fnOf "law" "law" (defArgs s_law) (defBody s_law) (defScope s_law) .none kV25 dc25 pm25 an25 (.ref q25) ct25), sl25⟩) (c25 : PySem.W.codeIn K (.ref q25) "law" = true) (k25 : PySem.W.keepIn K (.ref f25) = true)
    {p0 : Addr} {te0 : Value} {td0 : Option Addr} {tv0 : Array Value} {tz0 : Array (Option Value)} (t0 : K.lookup q25 = some ⟨te0, td0, .fields tv0, tz0⟩) (u0 : tv0[11]? = some (.ref p0)) (h0 : PySem.W.codeHdIn K q25 p0 = true) (n0 : K.lookup p0 = none) (y0 : ((recsOf qq).any fun e => e.name == "law") = true)
    {p1 : Addr} {te1 : Value} {td1 : Option Addr} {tv1 : Array Value} {tz1 : Array (Option Value)} (t1 : K.lookup q4 = some ⟨te1, td1, .fields tv1, tz1⟩) (u1 : tv1[11]? = some (.ref p1)) (h1 : PySem.W.codeHdIn K q4 p1 = true) (n1 : K.lookup p1 = none) (y1 : ((recsOf qq).any fun e => e.name == "first_refusing") = true)
    {p2 : Addr} {te2 : Value} {td2 : Option Addr} {tv2 : Array Value} {tz2 : Array (Option Value)} (t2 : K.lookup q12 = some ⟨te2, td2, .fields tv2, tz2⟩) (u2 : tv2[11]? = some (.ref p2)) (h2 : PySem.W.codeHdIn K q12 p2 = true) (n2 : K.lookup p2 = none) (y2 : ((recsOf qq).any fun e => e.name == "_are_all_refused") = true)
    {cc0 : Addr} (e0 : PySem.W.nsIn K mainGlobals "WAY_ORDERS" = some (some (.ref cc0))) (r0 : Dq.readV K 4 (.ref cc0) = some D_WAY_ORDERS)
    {cc1 : Addr} (e1 : PySem.W.nsIn K mainGlobals "ALL_WAYS" = some (some (.ref cc1))) (r1 : Dq.readV K 3 (.ref cc1) = some D_ALL_WAYS)
    (z_abs : PySem.W.nsIn K mainGlobals "abs" = some none)
    (z_all : PySem.W.nsIn K mainGlobals "all" = some none)
    (z_int : PySem.W.nsIn K mainGlobals "int" = some none)
    (z_len : PySem.W.nsIn K mainGlobals "len" = some none)
    (z_list : PySem.W.nsIn K mainGlobals "list" = some none)
    (z_max : PySem.W.nsIn K mainGlobals "max" = some none)
    (z_range : PySem.W.nsIn K mainGlobals "range" = some none)
    (z_repr : PySem.W.nsIn K mainGlobals "repr" = some none)
    (z_sorted : PySem.W.nsIn K mainGlobals "sorted" = some none)
    (z_sum : PySem.W.nsIn K mainGlobals "sum" = some none)
    (z_tuple : PySem.W.nsIn K mainGlobals "tuple" = some none)
    (z_zip : PySem.W.nsIn K mainGlobals "zip" = some none)
    : ∃ (fd : FuncData) (cs : List (Addr × Addr)) (sp : Sp), (∀ p ∈ cs, h.get? p.2 = some tab0) ∧ (∀ p ∈ cs, K.lookup p.2 = none) ∧ (∀ p ∈ cs, PySem.W.CodeHd h p.1 p.2) ∧ (∀ (s : Shared) (v : Value), BindsTo s fd ⟨[v], []⟩ [("script", v)]) ∧
      (∀ (H : Hp) (a : Addr) (ns : List Int), ns.length ≤ 63 → (∀ p ∈ cs, H p.2 = some (.tbl #[])) → SqL K H a (ns.map V.int) → sp [.ref a] H (fun v _ => v = .bl true) E0) ∧
      ∀ base : Heap, K.In base → base.Ns mainGlobals mg → (∀ p ∈ cs, GxR.TabB base mg p.1 p.2) → FnG l.prog w K mg base 21 fa fd ["script"] sp := by
  have e := (PySem.W.mg_of X G a25).symm.trans hfa
  have e2 : f25 = fa := by
    cases e
    rfl
  subst e2
  have F0 := funC_mk (st := s_keeps) l0 c0 k0
  have b0 := F0.fun.binds (ps := ["saying", "placing"]) fun _ _ _ _ _ _ us hl => match us, hl with | [_, _], _ => rfl
  have F1 := funC_mk (st := s_unlike_pairs) l1 c1 k1
  have b1 := F1.fun.binds (ps := ["n"]) fun _ _ _ _ _ _ us hl => match us, hl with | [_], _ => rfl
  have F2 := funC_mk (st := s_ties_of) l2 c2 k2
  have b2 := F2.fun.binds (ps := ["order"]) fun _ _ _ _ _ _ us hl => match us, hl with | [_], _ => rfl
  have F3 := funC_mk (st := s_fullest_sayings) l3 c3 k3
  have b3 := F3.fun.binds (ps := ["order"]) fun _ _ _ _ _ _ us hl => match us, hl with | [_], _ => rfl
  have F4 := funC_mk (st := s_first_refusing) l4 c4 k4
  have b4 := F4.fun.binds (ps := ["sayings", "orders", "order"]) fun _ _ _ _ _ _ us hl => match us, hl with | [_, _, _], _ => rfl
  have F5 := funC_mk (st := s_way_order) l5 c5 k5
  have b5 := F5.fun.binds (ps := ["k"]) fun _ _ _ _ _ _ us hl => match us, hl with | [_], _ => rfl
  have F6 := funC_mk (st := s_is_said) l6 c6 k6
  have b6 := F6.fun.binds (ps := ["lot"]) fun _ _ _ _ _ _ us hl => match us, hl with | [_], _ => rfl
  have F7 := funC_mk (st := s_is_clear) l7 c7 k7
  have b7 := F7.fun.binds (ps := ["lot"]) fun _ _ _ _ _ _ us hl => match us, hl with | [_], _ => rfl
  have F8 := funC_mk (st := s_is_plain) l8 c8 k8
  have b8 := F8.fun.binds (ps := ["lot"]) fun _ _ _ _ _ _ us hl => match us, hl with | [_], _ => rfl
  have F9 := funC_mk (st := s_hull_of_lot) l9 c9 k9
  have b9 := F9.fun.binds (ps := ["lot"]) fun _ _ _ _ _ _ us hl => match us, hl with | [_], _ => rfl
  have F10 := funC_mk (st := s_refusing_saying) l10 c10 k10
  have b10 := F10.fun.binds (ps := ["lot", "k"]) fun _ _ _ _ _ _ us hl => match us, hl with | [_, _], _ => rfl
  have F11 := funC_mk (st := s_u_refusing) l11 c11 k11
  have b11 := F11.fun.binds (ps := ["sayings", "lot", "k"]) fun _ _ _ _ _ _ us hl => match us, hl with | [_, _, _], _ => rfl
  have F12 := funC_mk (st := s_u_are_all_refused) l12 c12 k12
  have b12 := F12.fun.binds (ps := ["sayings", "lot"]) fun _ _ _ _ _ _ us hl => match us, hl with | [_, _], _ => rfl
  have F13 := funC_mk (st := s_u_not_later_sayings) l13 c13 k13
  have b13 := F13.fun.binds (ps := []) fun _ _ _ _ _ _ us hl => match us, hl with | [], _ => rfl
  have F14 := funC_mk (st := s_u_not_at_once_sayings) l14 c14 k14
  have b14 := F14.fun.binds (ps := []) fun _ _ _ _ _ _ us hl => match us, hl with | [], _ => rfl
  have F15 := funC_mk (st := s_lw_source) l15 c15 k15
  have b15 := F15.fun.binds (ps := ["script"]) fun _ _ _ _ _ _ us hl => match us, hl with | [_], _ => rfl
  have F16 := funC_mk (st := s_lw_pick) l16 c16 k16
  have b16 := F16.fun.binds (ps := ["source", "many"]) fun _ _ _ _ _ _ us hl => match us, hl with | [_, _], _ => rfl
  have F17 := funC_mk (st := s_lw_of) l17 c17 k17
  have b17 := F17.fun.binds (ps := ["source", "some"]) fun _ _ _ _ _ _ us hl => match us, hl with | [_, _], _ => rfl
  have F18 := funC_mk (st := s_lw_orders) l18 c18 k18
  have b18 := F18.fun.binds (ps := ["n"]) fun _ _ _ _ _ _ us hl => match us, hl with | [_], _ => rfl
  have F19 := funC_mk (st := s_lw_keeps) l19 c19 k19
  have b19 := F19.fun.binds (ps := ["saying", "placing"]) fun _ _ _ _ _ _ us hl => match us, hl with | [_, _], _ => rfl
  have F20 := funC_mk (st := s_lw_way_orders) l20 c20 k20
  have b20 := F20.fun.binds (ps := []) fun _ _ _ _ _ _ us hl => match us, hl with | [], _ => rfl
  have F21 := funC_mk (st := s_lw_some_lot) l21 c21 k21
  have b21 := F21.fun.binds (ps := ["source"]) fun _ _ _ _ _ _ us hl => match us, hl with | [_], _ => rfl
  have F22 := funC_mk (st := s_lw_four_sayings) l22 c22 k22
  have b22 := F22.fun.binds (ps := ["most"]) fun _ _ _ _ _ _ us hl => match us, hl with | [_], _ => rfl
  have F23 := funC_mk (st := s_lw_kept_lots) l23 c23 k23
  have b23 := F23.fun.binds (ps := ["sayings", "orders"]) fun _ _ _ _ _ _ us hl => match us, hl with | [_, _], _ => rfl
  have F24 := funC_mk (st := s_lw_hull_by) l24 c24 k24
  have b24 := F24.fun.binds (ps := ["lot", "kept"]) fun _ _ _ _ _ _ us hl => match us, hl with | [_, _], _ => rfl
  have F25 := funC_mk (st := s_law) l25 c25 k25
  have b25 := F25.fun.binds (ps := ["script"]) fun _ _ _ _ _ _ us hl => match us, hl with | [_], _ => rfl
  have w0 := tab_ok2 X TT y0 (PySem.W.mg_of X G a25) F25 t0 u0
  have w1 := tab_ok2 X TT y1 (PySem.W.mg_of X G a4) F4 t1 u1
  have w2 := tab_ok2 X TT y2 (PySem.W.mg_of X G a12) F12 t2 u2
  refine ⟨PySem.W.fnOf "law" "law" (defArgs s_law) (defBody s_law) (defScope s_law) .none kV25 dc25 pm25 an25 (.ref q25) ct25, [(q25, p0), (q4, p1), (q12, p2)], spLaw (kt K w ⟨f0, PySem.W.fnOf "keeps" "keeps" (defArgs s_keeps) (defBody s_keeps) (defScope s_keeps) .none kV0 dc0 pm0 an0 (.ref q0) ct0, q0, f1, PySem.W.fnOf "unlike_pairs" "unlike_pairs" (defArgs s_unlike_pairs) (defBody s_unlike_pairs) (defScope s_unlike_pairs) .none kV1 dc1 pm1 an1 (.ref q1) ct1, q1, f2, PySem.W.fnOf "ties_of" "ties_of" (defArgs s_ties_of) (defBody s_ties_of) (defScope s_ties_of) .none kV2 dc2 pm2 an2 (.ref q2) ct2, q2, f3, PySem.W.fnOf "fullest_sayings" "fullest_sayings" (defArgs s_fullest_sayings) (defBody s_fullest_sayings) (defScope s_fullest_sayings) .none kV3 dc3 pm3 an3 (.ref q3) ct3, q3, f4, PySem.W.fnOf "first_refusing" "first_refusing" (defArgs s_first_refusing) (defBody s_first_refusing) (defScope s_first_refusing) .none kV4 dc4 pm4 an4 (.ref q4) ct4, q4, f5, PySem.W.fnOf "way_order" "way_order" (defArgs s_way_order) (defBody s_way_order) (defScope s_way_order) .none kV5 dc5 pm5 an5 (.ref q5) ct5, q5, f6, PySem.W.fnOf "is_said" "is_said" (defArgs s_is_said) (defBody s_is_said) (defScope s_is_said) .none kV6 dc6 pm6 an6 (.ref q6) ct6, q6, f7, PySem.W.fnOf "is_clear" "is_clear" (defArgs s_is_clear) (defBody s_is_clear) (defScope s_is_clear) .none kV7 dc7 pm7 an7 (.ref q7) ct7, q7, f8, PySem.W.fnOf "is_plain" "is_plain" (defArgs s_is_plain) (defBody s_is_plain) (defScope s_is_plain) .none kV8 dc8 pm8 an8 (.ref q8) ct8, q8, f9, PySem.W.fnOf "hull_of_lot" "hull_of_lot" (defArgs s_hull_of_lot) (defBody s_hull_of_lot) (defScope s_hull_of_lot) .none kV9 dc9 pm9 an9 (.ref q9) ct9, q9, f10, PySem.W.fnOf "refusing_saying" "refusing_saying" (defArgs s_refusing_saying) (defBody s_refusing_saying) (defScope s_refusing_saying) .none kV10 dc10 pm10 an10 (.ref q10) ct10, q10, f11, PySem.W.fnOf "_refusing" "_refusing" (defArgs s_u_refusing) (defBody s_u_refusing) (defScope s_u_refusing) .none kV11 dc11 pm11 an11 (.ref q11) ct11, q11, f12, PySem.W.fnOf "_are_all_refused" "_are_all_refused" (defArgs s_u_are_all_refused) (defBody s_u_are_all_refused) (defScope s_u_are_all_refused) .none kV12 dc12 pm12 an12 (.ref q12) ct12, q12, f13, PySem.W.fnOf "_not_later_sayings" "_not_later_sayings" (defArgs s_u_not_later_sayings) (defBody s_u_not_later_sayings) (defScope s_u_not_later_sayings) .none kV13 dc13 pm13 an13 (.ref q13) ct13, q13, f14, PySem.W.fnOf "_not_at_once_sayings" "_not_at_once_sayings" (defArgs s_u_not_at_once_sayings) (defBody s_u_not_at_once_sayings) (defScope s_u_not_at_once_sayings) .none kV14 dc14 pm14 an14 (.ref q14) ct14, q14, f15, PySem.W.fnOf "_law_source" "_law_source" (defArgs s_lw_source) (defBody s_lw_source) (defScope s_lw_source) .none kV15 dc15 pm15 an15 (.ref q15) ct15, q15, f16, PySem.W.fnOf "_law_pick" "_law_pick" (defArgs s_lw_pick) (defBody s_lw_pick) (defScope s_lw_pick) .none kV16 dc16 pm16 an16 (.ref q16) ct16, q16, f17, PySem.W.fnOf "_law_of" "_law_of" (defArgs s_lw_of) (defBody s_lw_of) (defScope s_lw_of) .none kV17 dc17 pm17 an17 (.ref q17) ct17, q17, f18, PySem.W.fnOf "_law_orders" "_law_orders" (defArgs s_lw_orders) (defBody s_lw_orders) (defScope s_lw_orders) .none kV18 dc18 pm18 an18 (.ref q18) ct18, q18, f19, PySem.W.fnOf "_law_keeps" "_law_keeps" (defArgs s_lw_keeps) (defBody s_lw_keeps) (defScope s_lw_keeps) .none kV19 dc19 pm19 an19 (.ref q19) ct19, q19, f20, PySem.W.fnOf "_law_way_orders" "_law_way_orders" (defArgs s_lw_way_orders) (defBody s_lw_way_orders) (defScope s_lw_way_orders) .none kV20 dc20 pm20 an20 (.ref q20) ct20, q20, f21, PySem.W.fnOf "_law_some_lot" "_law_some_lot" (defArgs s_lw_some_lot) (defBody s_lw_some_lot) (defScope s_lw_some_lot) .none kV21 dc21 pm21 an21 (.ref q21) ct21, q21, f22, PySem.W.fnOf "_law_four_sayings" "_law_four_sayings" (defArgs s_lw_four_sayings) (defBody s_lw_four_sayings) (defScope s_lw_four_sayings) .none kV22 dc22 pm22 an22 (.ref q22) ct22, q22, f23, PySem.W.fnOf "_law_kept_lots" "_law_kept_lots" (defArgs s_lw_kept_lots) (defBody s_lw_kept_lots) (defScope s_lw_kept_lots) .none kV23 dc23 pm23 an23 (.ref q23) ct23, q23, f24, PySem.W.fnOf "_law_hull_by" "_law_hull_by" (defArgs s_lw_hull_by) (defBody s_lw_hull_by) (defScope s_lw_hull_by) .none kV24 dc24 pm24 an24 (.ref q24) ct24, q24, f25, PySem.W.fnOf "law" "law" (defArgs s_law) (defBody s_law) (defScope s_law) .none kV25 dc25 pm25 an25 (.ref q25) ct25, q25, p0, p1, p2, cc0, cc1⟩), fun p hp => by
    simp only [List.mem_cons, List.not_mem_nil, or_false] at hp
    rcases hp with rfl | rfl | rfl
    · exact w0
    · exact w1
    · exact w2, ?_, ?_, fun s v => .of_eq rfl, ?_, ?_⟩
  · exact fun p hp => by
      simp only [List.mem_cons, List.not_mem_nil, or_false] at hp
      rcases hp with rfl | rfl | rfl
      · exact n0
      · exact n1
      · exact n2
  · exact fun p hp => by
      simp only [List.mem_cons, List.not_mem_nil, or_false] at hp
      rcases hp with rfl | rfl | rfl
      · exact PySem.W.codeHd_of_K X h0
      · exact PySem.W.codeHd_of_K X h1
      · exact PySem.W.codeHd_of_K X h2
  · intro H a ns hl hT hS
    refine ⟨a, ns, rfl, hS, hl, fun P hP => ?_, fun _ => rfl⟩
    simp only [KT.tb, List.mem_cons, List.not_mem_nil, or_false] at hP
    rcases hP with eP | eP | eP
    · rw [eP]
      exact ⟨#[], hT (q25, p0) (by simp), TriplesOk_nil⟩
    · rw [eP]
      exact ⟨#[], hT (q4, p1) (by simp), TriplesOk_nil⟩
    · rw [eP]
      exact ⟨#[], hT (q12, p2) (by simp), TriplesOk_nil⟩
  · intro base KB GB TB
    have T : Tp K mg base ⟨f0, PySem.W.fnOf "keeps" "keeps" (defArgs s_keeps) (defBody s_keeps) (defScope s_keeps) .none kV0 dc0 pm0 an0 (.ref q0) ct0, q0, f1, PySem.W.fnOf "unlike_pairs" "unlike_pairs" (defArgs s_unlike_pairs) (defBody s_unlike_pairs) (defScope s_unlike_pairs) .none kV1 dc1 pm1 an1 (.ref q1) ct1, q1, f2, PySem.W.fnOf "ties_of" "ties_of" (defArgs s_ties_of) (defBody s_ties_of) (defScope s_ties_of) .none kV2 dc2 pm2 an2 (.ref q2) ct2, q2, f3, PySem.W.fnOf "fullest_sayings" "fullest_sayings" (defArgs s_fullest_sayings) (defBody s_fullest_sayings) (defScope s_fullest_sayings) .none kV3 dc3 pm3 an3 (.ref q3) ct3, q3, f4, PySem.W.fnOf "first_refusing" "first_refusing" (defArgs s_first_refusing) (defBody s_first_refusing) (defScope s_first_refusing) .none kV4 dc4 pm4 an4 (.ref q4) ct4, q4, f5, PySem.W.fnOf "way_order" "way_order" (defArgs s_way_order) (defBody s_way_order) (defScope s_way_order) .none kV5 dc5 pm5 an5 (.ref q5) ct5, q5, f6, PySem.W.fnOf "is_said" "is_said" (defArgs s_is_said) (defBody s_is_said) (defScope s_is_said) .none kV6 dc6 pm6 an6 (.ref q6) ct6, q6, f7, PySem.W.fnOf "is_clear" "is_clear" (defArgs s_is_clear) (defBody s_is_clear) (defScope s_is_clear) .none kV7 dc7 pm7 an7 (.ref q7) ct7, q7, f8, PySem.W.fnOf "is_plain" "is_plain" (defArgs s_is_plain) (defBody s_is_plain) (defScope s_is_plain) .none kV8 dc8 pm8 an8 (.ref q8) ct8, q8, f9, PySem.W.fnOf "hull_of_lot" "hull_of_lot" (defArgs s_hull_of_lot) (defBody s_hull_of_lot) (defScope s_hull_of_lot) .none kV9 dc9 pm9 an9 (.ref q9) ct9, q9, f10, PySem.W.fnOf "refusing_saying" "refusing_saying" (defArgs s_refusing_saying) (defBody s_refusing_saying) (defScope s_refusing_saying) .none kV10 dc10 pm10 an10 (.ref q10) ct10, q10, f11, PySem.W.fnOf "_refusing" "_refusing" (defArgs s_u_refusing) (defBody s_u_refusing) (defScope s_u_refusing) .none kV11 dc11 pm11 an11 (.ref q11) ct11, q11, f12, PySem.W.fnOf "_are_all_refused" "_are_all_refused" (defArgs s_u_are_all_refused) (defBody s_u_are_all_refused) (defScope s_u_are_all_refused) .none kV12 dc12 pm12 an12 (.ref q12) ct12, q12, f13, PySem.W.fnOf "_not_later_sayings" "_not_later_sayings" (defArgs s_u_not_later_sayings) (defBody s_u_not_later_sayings) (defScope s_u_not_later_sayings) .none kV13 dc13 pm13 an13 (.ref q13) ct13, q13, f14, PySem.W.fnOf "_not_at_once_sayings" "_not_at_once_sayings" (defArgs s_u_not_at_once_sayings) (defBody s_u_not_at_once_sayings) (defScope s_u_not_at_once_sayings) .none kV14 dc14 pm14 an14 (.ref q14) ct14, q14, f15, PySem.W.fnOf "_law_source" "_law_source" (defArgs s_lw_source) (defBody s_lw_source) (defScope s_lw_source) .none kV15 dc15 pm15 an15 (.ref q15) ct15, q15, f16, PySem.W.fnOf "_law_pick" "_law_pick" (defArgs s_lw_pick) (defBody s_lw_pick) (defScope s_lw_pick) .none kV16 dc16 pm16 an16 (.ref q16) ct16, q16, f17, PySem.W.fnOf "_law_of" "_law_of" (defArgs s_lw_of) (defBody s_lw_of) (defScope s_lw_of) .none kV17 dc17 pm17 an17 (.ref q17) ct17, q17, f18, PySem.W.fnOf "_law_orders" "_law_orders" (defArgs s_lw_orders) (defBody s_lw_orders) (defScope s_lw_orders) .none kV18 dc18 pm18 an18 (.ref q18) ct18, q18, f19, PySem.W.fnOf "_law_keeps" "_law_keeps" (defArgs s_lw_keeps) (defBody s_lw_keeps) (defScope s_lw_keeps) .none kV19 dc19 pm19 an19 (.ref q19) ct19, q19, f20, PySem.W.fnOf "_law_way_orders" "_law_way_orders" (defArgs s_lw_way_orders) (defBody s_lw_way_orders) (defScope s_lw_way_orders) .none kV20 dc20 pm20 an20 (.ref q20) ct20, q20, f21, PySem.W.fnOf "_law_some_lot" "_law_some_lot" (defArgs s_lw_some_lot) (defBody s_lw_some_lot) (defScope s_lw_some_lot) .none kV21 dc21 pm21 an21 (.ref q21) ct21, q21, f22, PySem.W.fnOf "_law_four_sayings" "_law_four_sayings" (defArgs s_lw_four_sayings) (defBody s_lw_four_sayings) (defScope s_lw_four_sayings) .none kV22 dc22 pm22 an22 (.ref q22) ct22, q22, f23, PySem.W.fnOf "_law_kept_lots" "_law_kept_lots" (defArgs s_lw_kept_lots) (defBody s_lw_kept_lots) (defScope s_lw_kept_lots) .none kV23 dc23 pm23 an23 (.ref q23) ct23, q23, f24, PySem.W.fnOf "_law_hull_by" "_law_hull_by" (defArgs s_lw_hull_by) (defBody s_lw_hull_by) (defScope s_lw_hull_by) .none kV24 dc24 pm24 an24 (.ref q24) ct24, q24, f25, PySem.W.fnOf "law" "law" (defArgs s_law) (defBody s_law) (defScope s_law) .none kV25 dc25 pm25 an25 (.ref q25) ct25, q25, p0, p1, p2, cc0, cc1⟩ := ⟨F0, PySem.W.mg_of X G a0, b0, F1, PySem.W.mg_of X G a1, b1, F2, PySem.W.mg_of X G a2, b2, F3, PySem.W.mg_of X G a3, b3, F4, PySem.W.mg_of X G a4, b4, F5, PySem.W.mg_of X G a5, b5, F6, PySem.W.mg_of X G a6, b6, F7, PySem.W.mg_of X G a7, b7, F8, PySem.W.mg_of X G a8, b8, F9, PySem.W.mg_of X G a9, b9, F10, PySem.W.mg_of X G a10, b10, F11, PySem.W.mg_of X G a11, b11, F12, PySem.W.mg_of X G a12, b12, F13, PySem.W.mg_of X G a13, b13, F14, PySem.W.mg_of X G a14, b14, F15, PySem.W.mg_of X G a15, b15, F16, PySem.W.mg_of X G a16, b16, F17, PySem.W.mg_of X G a17, b17, F18, PySem.W.mg_of X G a18, b18, F19, PySem.W.mg_of X G a19, b19, F20, PySem.W.mg_of X G a20, b20, F21, PySem.W.mg_of X G a21, b21, F22, PySem.W.mg_of X G a22, b22, F23, PySem.W.mg_of X G a23, b23, F24, PySem.W.mg_of X G a24, b24, F25, PySem.W.mg_of X G a25, b25, TB (q25, p0) (by simp), TB (q4, p1) (by simp), TB (q12, p2) (by simp), PySem.W.mg_of X G e0, r0, PySem.W.mg_of X G e1, r1, PySem.W.mg_none_of X G z_abs, PySem.W.mg_none_of X G z_all, PySem.W.mg_none_of X G z_int, PySem.W.mg_none_of X G z_len, PySem.W.mg_none_of X G z_list, PySem.W.mg_none_of X G z_max, PySem.W.mg_none_of X G z_range, PySem.W.mg_none_of X G z_repr, PySem.W.mg_none_of X G z_sorted, PySem.W.mg_none_of X G z_sum, PySem.W.mg_none_of X G z_tuple, PySem.W.mg_none_of X G z_zip⟩
    exact G_law T law_ev
end Own
open PySem PySem.W PyProof.Rows
set_option maxRecDepth 100000 in
set_option maxHeartbeats 0 in
theorem PySem.Challenge.cw_soonerornot_k44_whole_said_lots_holds : PySem.Challenge.rw_soonerornot_k44_whole_said_lots.Holds := by
  w_on; o_law; k_head; (case hw => w_witness2)
  k_fill
  refine Mp.walk_ofGT (l := PySem.Challenge.rw_soonerornot_k44_whole_said_lots) (n := 63) (k := 21) (x := "script") rfl (by decide) rfl ⟨rfl, by decide, by decide⟩ (fun w h Y => PySem.W.kIn_of Y) ?F
  case F =>
    intro w mg fa h KX G TT hmg
    refine' Own.all_mk KX G TT hmg ?a0 ?l0 ?c0 ?k0 ?a1 ?l1 ?c1 ?k1 ?a2 ?l2 ?c2 ?k2 ?a3 ?l3 ?c3 ?k3 ?a4 ?l4 ?c4 ?k4 ?a5 ?l5 ?c5 ?k5 ?a6 ?l6 ?c6 ?k6 ?a7 ?l7 ?c7 ?k7 ?a8 ?l8 ?c8 ?k8 ?a9 ?l9 ?c9 ?k9 ?a10 ?l10 ?c10 ?k10 ?a11 ?l11 ?c11 ?k11 ?a12 ?l12 ?c12 ?k12 ?a13 ?l13 ?c13 ?k13 ?a14 ?l14 ?c14 ?k14 ?a15 ?l15 ?c15 ?k15 ?a16 ?l16 ?c16 ?k16 ?a17 ?l17 ?c17 ?k17 ?a18 ?l18 ?c18 ?k18 ?a19 ?l19 ?c19 ?k19 ?a20 ?l20 ?c20 ?k20 ?a21 ?l21 ?c21 ?k21 ?a22 ?l22 ?c22 ?k22 ?a23 ?l23 ?c23 ?k23 ?a24 ?l24 ?c24 ?k24 ?a25 ?l25 ?c25 ?k25 ?t0 ?u0 ?h0 ?n0 ?y0 ?t1 ?u1 ?h1 ?n1 ?y1 ?t2 ?u2 ?h2 ?n2 ?y2 ?e0 ?r0 ?e1 ?r1 ?z_abs ?z_all ?z_int ?z_len ?z_list ?z_max ?z_range ?z_repr ?z_sorted ?z_sum ?z_tuple ?z_zip
    (case a0 => k_is)
    (case l0 => k_is)
    (case c0 => k_is)
    (case k0 => k_is)
    (case a1 => k_is)
    (case l1 => k_is)
    (case c1 => k_is)
    (case k1 => k_is)
    (case a2 => k_is)
    (case l2 => k_is)
    (case c2 => k_is)
    (case k2 => k_is)
    (case a3 => k_is)
    (case l3 => k_is)
    (case c3 => k_is)
    (case k3 => k_is)
    (case a4 => k_is)
    (case l4 => k_is)
    (case c4 => k_is)
    (case k4 => k_is)
    (case a5 => k_is)
    (case l5 => k_is)
    (case c5 => k_is)
    (case k5 => k_is)
    (case a6 => k_is)
    (case l6 => k_is)
    (case c6 => k_is)
    (case k6 => k_is)
    (case a7 => k_is)
    (case l7 => k_is)
    (case c7 => k_is)
    (case k7 => k_is)
    (case a8 => k_is)
    (case l8 => k_is)
    (case c8 => k_is)
    (case k8 => k_is)
    (case a9 => k_is)
    (case l9 => k_is)
    (case c9 => k_is)
    (case k9 => k_is)
    (case a10 => k_is)
    (case l10 => k_is)
    (case c10 => k_is)
    (case k10 => k_is)
    (case a11 => k_is)
    (case l11 => k_is)
    (case c11 => k_is)
    (case k11 => k_is)
    (case a12 => k_is)
    (case l12 => k_is)
    (case c12 => k_is)
    (case k12 => k_is)
    (case a13 => k_is)
    (case l13 => k_is)
    (case c13 => k_is)
    (case k13 => k_is)
    (case a14 => k_is)
    (case l14 => k_is)
    (case c14 => k_is)
    (case k14 => k_is)
    (case a15 => k_is)
    (case l15 => k_is)
    (case c15 => k_is)
    (case k15 => k_is)
    (case a16 => k_is)
    (case l16 => k_is)
    (case c16 => k_is)
    (case k16 => k_is)
    (case a17 => k_is)
    (case l17 => k_is)
    (case c17 => k_is)
    (case k17 => k_is)
    (case a18 => k_is)
    (case l18 => k_is)
    (case c18 => k_is)
    (case k18 => k_is)
    (case a19 => k_is)
    (case l19 => k_is)
    (case c19 => k_is)
    (case k19 => k_is)
    (case a20 => k_is)
    (case l20 => k_is)
    (case c20 => k_is)
    (case k20 => k_is)
    (case a21 => k_is)
    (case l21 => k_is)
    (case c21 => k_is)
    (case k21 => k_is)
    (case a22 => k_is)
    (case l22 => k_is)
    (case c22 => k_is)
    (case k22 => k_is)
    (case a23 => k_is)
    (case l23 => k_is)
    (case c23 => k_is)
    (case k23 => k_is)
    (case a24 => k_is)
    (case l24 => k_is)
    (case c24 => k_is)
    (case k24 => k_is)
    (case a25 => k_is)
    (case l25 => k_is)
    (case c25 => k_is)
    (case k25 => k_is)
    (case t0 => k_is)
    (case u0 => exact rfl)
    (case h0 => kernel_rfl)
    (case n0 => kernel_rfl)
    (case y0 => kernel_rfl)
    (case t1 => k_is)
    (case u1 => exact rfl)
    (case h1 => kernel_rfl)
    (case n1 => kernel_rfl)
    (case y1 => kernel_rfl)
    (case t2 => k_is)
    (case u2 => exact rfl)
    (case h2 => kernel_rfl)
    (case n2 => kernel_rfl)
    (case y2 => kernel_rfl)
    (case e0 => k_is)
    (case r0 => kernel_rfl)
    (case e1 => k_is)
    (case r1 => kernel_rfl)
    (case z_abs => k_is)
    (case z_all => k_is)
    (case z_int => k_is)
    (case z_len => k_is)
    (case z_list => k_is)
    (case z_max => k_is)
    (case z_range => k_is)
    (case z_repr => k_is)
    (case z_sorted => k_is)
    (case z_sum => k_is)
    (case z_tuple => k_is)
    (case z_zip => k_is)
