import PyProof.Rows.All
import Wide.All
import OpenK.AllK
import Wide.FinOn
import HandS.ForMost
import HandS.Walk
import HandS.Deep
import HandS.TupAny
import HandS.Style
import HandS.Conv
import HandS.Sort
import HandS.Evl
import KE.GoesMore
import KE.GoesEnum
import KE.KRevSl
import HandS.SetFor
import HandS.Strs
import HandS.DictComp
import HandS.SortRule
import KE.DataMinMax
import HandS.IsInst
import HandS.Wide
import HandS.Star
import HandS.Comp
import HandS.NoneIn
import HandS.SortKw
import KE.SortData
import KE.DataCmp
import PyProof.SetRoads
import HandS.TupMul
import PySem.Challenge.RW_soonerornot_k14_whole_lists_of_orders
set_option Elab.async false
set_option linter.all false
set_option maxRecDepth 100000
set_option maxHeartbeats 4000000
/-! defs whose calls stand where no repr runs: the promise with the guards told -/
namespace Gd
open PySem PySem.Spec PyProof.Rows L2

/-- a def's promise at a place where no guard stands -/
structure FnG (P : Program) (w : World) (K : PySem.W.Frag) (mg : Str → Option Value) (base : Heap)
    (k : Nat) (f : Addr) (fd : FuncData) (ps : List Str) (sp : Sp) : Prop where
  len : ∀ vs H Q E, sp vs H Q E → vs.length = ps.length
  run : ∀ (A : Around) (outer : List Env) (s : Shared) (H : Hp) (args : Args) (us : List Value)
    (vs : List V) (Q : VK) (E : XK), A.guards = some [] → Room k A → Env0 P w K mg base A outer s H →
    BindsTo s fd args (ps.zip us) → Vals vs us → sp vs H Q E →
    codeAny (model P w) A (.call (.ref f) args) (CR CX0 outer P w H s Q E) s

section
variable {P : Program} {w : World} {K : PySem.W.Frag} {mg : Str → Option Value} {base : Heap}
theorem FnG.of {k : Nat} {f : Addr} {fd : FuncData} {ps : List Str} {sp : Sp}
    (F : FnOk P w K mg base CX0 k f fd ps sp) : FnG P w K mg base k f fd ps sp :=
  ⟨F.len, fun A outer s H args us vs Q E _ => F.run A outer s H args us vs Q E⟩
theorem FnG.mono {j k : Nat} {f : Addr} {fd : FuncData} {ps : List Str} {sp : Sp}
    (F : FnG P w K mg base j f fd ps sp) (h : j ≤ k) : FnG P w K mg base k f fd ps sp :=
  ⟨F.len, fun A outer s H args us vs Q E hg hr => F.run A outer s H args us vs Q E hg (hr.mono h)⟩

theorem fn_ofG {k : Nat} {f : Addr} {x qual : Str} {st : Stmt} {fd : FuncData} {N ps : List Str} {sp : Sp}
    (F : Fun K x qual st f fd) (S : FnScope N ps (defScope st))
    (len : ∀ vs H Q E, sp vs H Q E → vs.length = ps.length)
    (hbody : ∀ (cdv : Value) (A : Around) (outer : List Env) (s : Shared) (H : Hp) (vs : List V) (Q : VK) (E : XK),
      A.guards = some [] → Room k (A.deeper (envOfC qual (defScope st) s.heap.objs.size f cdv)) → sp vs H Q E →
      ∃ t, PSs (cxOf CX0 P w K mg base N qual (defScope st) f cdv A outer s H E).nox (defBody st) t ∧
        t { nx := fun _ H' => Q .non H', rt := Q } (start N vs) H) :
    FnG P w K mg base (k + 1) f fd ps sp := by
  obtain ⟨oc, od, kV, doc, pm, an, cdv, ct, osl, rfl, lk, hcd⟩ := F.ex
  refine ⟨len, fun A outer s H args us vs Q E hg hr e0 hb rv hsp => ?_⟩
  have hlen := len vs H Q E hsp
  have kin : K.In s.heap :=
    e0.mod.kin.keeps fun b o e => (e0.bs b o e).1
  have lim : s.heap.NoLimit :=
    e0.mod.nolimit.keeps fun b o e => (e0.bs b o e).1
  have kinds : ∀ y ∈ ps.zip us, (defScope st).names.lookup y.1 = some .local ∨
      ((defScope st).names.lookup y.1 = some .cell ∧
        ((cellsFrom (s.heap.objs.size + 1) (defScope st).names []).lookup y.1).isSome = true) := by
    rintro ⟨n, v⟩ hy
    cases S.par n (List.of_mem_zip hy).1 with
    | inl q => exact Or.inl q
    | inr q => exact Or.inr ⟨q, PySem.W.cellsFrom_some _ _ _ (Or.inl q)⟩
  refine codeAny_call_function hr.depth (kin _ _ lk) rfl S.co S.gen rfl
    (PySem.W.codeRec_of kin hcd) (hb _ _ _ _ ?_)
  refine wpAny_newFunctionEnv_cells S.kind kinds fun env henv s1 icc => ?_
  cases henv
  refine ⟨lim.keeps icc.toInCall.keep, codeAny_func ?_⟩
  obtain ⟨t, ht, hq⟩ := hbody cdv A outer s H vs Q E hg (hr.deeper _) hsp
  have inv0 := inv_start (CX := CX0) (mg := mg) (base := base) (cd := cdv) (E := E) S hr.hd e0 hlen rv icc
  refine wpAny_mono (ht.nox.run [] s1 (start N vs) H _ inv0 hq) (fun fl s' hs => ?_) (fun e s' hs => hs)
  cases fl with
  | ret u =>
    obtain ⟨v, σ', H', J, r2, q⟩ := hs
    exact ⟨v, H', J.os, J.bare, J.base, J.hok, r2, q⟩
  | next =>
    obtain ⟨σ', H', J, q⟩ := hs
    exact ⟨V.non, H', J.os, J.bare, J.base, J.hok, rfl, q⟩
  | brk =>
    obtain ⟨_, _, _, q⟩ := hs
    cases q
  | cont =>
    obtain ⟨_, _, _, q⟩ := hs
    cases q
end

section
variable {X : Cx} {k : Nat} {f : Addr} {fd : FuncData} {ps : List Str} {sp : Sp} {ds : List Value}
  {dvs : List V} {x : Str} {p pos : Pos} {e : Expr} {es : List Expr} {t : TA} {E : XK}

theorem run_fnG {pins : List (Addr × Obj)} {σ : L2.St} {H : Hp} {s : Shared} {Q : VK} {us : List Value} {vs : List V}
    (F : FnG X.prog X.w X.K X.mg X.base k f fd ps sp) (hg : X.A.guards = some []) (hr : Room k X.A)
    (hb : Binds X.K fd ps ds) (hd : Vals dvs ds)
    (I : Inv X pins σ H s) (r : Vals vs us) (h : sp (vs ++ dvs) H Q E0) :
    wpAny (model X.prog X.w) X.A (call (.ref f) us) (EP X pins σ Q) X.xe s := by
  have r2 : Vals (vs ++ dvs) (us ++ ds) := r.append hd
  have hl : (us ++ ds).length = ps.length := r2.length.symm.trans (F.len _ _ _ _ h)
  refine wpAny_call (codeAny_mono
    (F.run X.A X.stack s H ⟨us, []⟩ (us ++ ds) (vs ++ dvs) Q E0 hg hr I.env0 (hb s us I.kIn hl) r2 h) ?_)
  intro res s' hq
  match res, hq with
  | .error _, hq => exact (hq : False).elim
  | .ok (.ret u), hq => exact I.after hq
  | .ok .next, hq => exact False.elim hq
  | .ok .brk, hq => exact False.elim hq
  | .ok .cont, hq => exact False.elim hq

theorem pe_callG (F : FnG X.prog X.w X.K X.mg X.base k f fd ps sp) (hgd : X.A.guards = some []) (hr : Room k X.A)
    (hg : Gl X x) (hm : X.mg x = some (.ref f)) (hk : PySem.W.keepIn X.K (.ref f) = true)
    (hb : Binds X.K fd ps ds) (hd : Vals dvs ds) (ha : PA X (e :: es) t)
    (hdb : (x == ("__debug__" : Str)) = false := by decide)
    (he : starEach (e :: es) X.env = (false, eval e X.env) :: starEach es X.env := by rfl)
    (hpl : (backTo pos (starEach es X.env)).any (·.1) = false := by rfl) :
    PE X (.Call (.Name x p) (e :: es) [] pos) (tCall sp dvs E0 t) := by
  constructor
  intro pins s σ H Q I h
  refine wpAny_Call_Name_kw (ld_glob I hg hm ?_ hdb)
  refine PySem.W.callWith_K (h₀ := X.base) I.ok.mod.kin hk ?_ he hpl
  refine thn (ha.run pos pins s σ H _ I h) ?_
  rintro us s1 ⟨vs, H1, I1, r, q⟩
  exact ⟨I1.kIn, run_fnG F hgd hr hb hd I1 r q⟩
theorem pe_callG0 (F : FnG X.prog X.w X.K X.mg X.base k f fd ps sp) (hgd : X.A.guards = some []) (hr : Room k X.A)
    (hg : Gl X x) (hm : X.mg x = some (.ref f)) (hk : PySem.W.keepIn X.K (.ref f) = true)
    (hb : Binds X.K fd ps ds) (hd : Vals dvs ds) (hdb : (x == ("__debug__" : Str)) = false := by decide) :
    PE X (.Call (.Name x p) [] [] pos) (tCall sp dvs E0 tNil) := by
  constructor
  intro pins s σ H Q I h
  refine wpAny_Call_Name_kw (ld_glob I hg hm ?_ hdb)
  exact PySem.W.callWith_K0 I.kIn hk (run_fnG (us := []) F hgd hr hb hd I .nil h)
end

/-! repr of data -/
section
variable {X : Cx}
def rReprD (K : PySem.W.Frag) : List V → Hp → VK → Prop := fun xs H Q =>
  ∃ a d, xs = [.ref a] ∧ Dp K H (.ref a) d ∧ d.showable = true ∧ d.hasDict = false ∧ d.depth ≤ 60 ∧
    d.shown.length ≤ sizeLine ∧ Q (.str d.shown) H
theorem call_reprD (hg : X.A.guards = some []) (hu : X.A.units + 64 < cLine) :
    CallR X (.builtin "repr") (rReprD X.K) := by
  intro pins s σ H xs us Q I r h
  obtain ⟨a, d, rfl, hd, hs, hnd, hdp, hz, q⟩ := h
  obtain ⟨u, rfl, ru⟩ := vals1 r
  obtain ⟨as, rd⟩ := Dp.reads I d (.ref a) u hd ru
  cases ru
  refine repr_of_reads' rd hs (PyData.noDict_hsm hnd) hg (by omega) (fun _ _ e => e) ?_ hz
  intro h' tu tk keep
  exact ⟨.str d.shown, H, I.kept (h' := h') (t' := tk) keep, ⟨_, rfl⟩, q⟩
end

/-! the law's own end -/
theorem law_callG {P : Program} {w : World} {K : PySem.W.Frag} {mg mb : Str → Option Value} {k : Nat} {fa a : Addr}
    {fd : FuncData} {x : Str} {sp : Sp} {s1 : Shared} {vs : List Value} {ns : List Int}
    (KX : K.In s1.heap) (hns : s1.heap.Ns mainGlobals mg) (hb : s1.heap.Ns builtinsNs mb)
    (hbb : ∀ x : Str, x ≠ "__name__" → mb x = bootBuiltins x) (hlim : s1.heap.NoLimit) (hg : s1.gens = #[])
    (ha : s1.heap.get? a = some { cls := .type "list", data := .seq vs.toArray }) (hi : IntsAre vs ns)
    (hl : ns.length ≤ sizeLine) (hr : Room k callerA)
    (F : ∀ base : Heap, K.In base → base.Ns mainGlobals mg → FnG P w K mg base k fa fd [x] sp)
    (hbind : ∀ (s : Shared) (u : Value), BindsTo s fd ⟨[u], []⟩ [(x, u)])
    (hsp : ∀ H : Hp, Only H → SqL K H a (ns.map V.int) → sp [.ref a] H (fun v _ => v = .bl true) E0) :
    codeAny (model P w) callerA (.call (.ref fa) ⟨[.ref a], []⟩)
      (fun r s' => r = .ok (.ret (.bool true)) ∧ OldK s1.heap s'.heap ∧ s'.os = s1.os ∧ AllBare s'.gens) s1 := by
  have rv := vals_ints hi
  have lenV := hi.length
  suffices core : ∀ H : Hp, Only H → SqL K H a (ns.map V.int) → HOk P w H s1.heap → (∀ b, H b ≠ none → b = a) →
      (H a ≠ none → K.lookup a = none) → codeAny (model P w) callerA (.call (.ref fa) ⟨[.ref a], []⟩)
        (fun r s' => r = .ok (.ret (.bool true)) ∧ OldK s1.heap s'.heap ∧ s'.os = s1.os ∧ AllBare s'.gens) s1 by
    cases hk : K.lookup a with
    | some o =>
      have e := KX a o hk
      rw [ha] at e
      cases e
      refine core (fun _ => none) (fun _ => Or.inl rfl)
        (Or.inr ⟨_, vs.toArray, _, hk, rfl, rfl, rfl, (by rw [List.size_toArray, lenV]; exact hl), (by simpa using rv)⟩)
        (fun b u z => nomatch (show (none : Option HO) = some u from z)) (fun b z => absurd rfl z) (fun z => absurd rfl z)
    | none =>
      refine core (fun b => if b = a then some (.frz { cls := .type "list", data := .seq vs.toArray } (.lst (ns.map V.int))) else none)
        (fun b => ?_) (Or.inl (Or.inr ⟨{ cls := .type "list", data := .seq vs.toArray }, if_pos rfl⟩)) (fun b u z => ?_) (fun b z => ?_) (fun _ => hk)
      · by_cases hba : b = a
        · exact Or.inr ⟨_, _, if_pos hba⟩
        · exact Or.inl (if_neg hba)
      · by_cases hba : b = a
        · have z2 := (if_pos hba).symm.trans z
          cases z2
          cases hba
          exact ⟨ha, (by rw [List.length_map]; exact hl), vs, _, rv, ha⟩
        · have z2 := (if_neg hba).symm.trans z
          cases z2
      · by_cases hba : b = a
        · exact hba
        · exact absurd (if_neg hba) z
  intro H hO hS hok hA hK
  have dictFree : ∀ {b : Addr} {o : Obj} {es : Array DictEntry} {ep : Nat},
      s1.heap.get? b = some o → o.data = .dict es ep → H b = none := by
    intro b o es ep e d
    cases q : H b with
    | none => rfl
    | some u =>
      have eb : b = a := hA b (by rw [q]; simp)
      cases eb
      rw [ha] at e
      cases e
      exact nomatch (show Data.seq vs.toArray _ = Data.dict es ep from d)
  have nsK : ∀ {b : Addr} {m : Str → Option Value}, s1.heap.Ns b m → (hidT s1.heap H).Ns b m := by
    rintro b m ⟨o, es, ep, e, d, r⟩
    exact ⟨o, es, ep, hidT_get e (dictFree e d), d, r⟩
  have hKb : K.In (hidT s1.heap H) := by
    intro b o e
    refine hidT_get (KX b o e) ?_
    cases q : H b with
    | none => rfl
    | some u =>
      have eb : b = a := hA b (by rw [q]; simp)
      cases eb
      have := hK (by rw [q]; simp)
      rw [this] at e
      cases e
  have hM : Mod K mg (hidT s1.heap H) :=
    ⟨hKb, nsK hns, ⟨mb, nsK hb, hbb⟩, let ⟨mc, h1, h2⟩ := hlim; ⟨mc, nsK h1, h2⟩⟩
  have env : Env0 P w K mg (hidT s1.heap H) callerA [] s1 H :=
    ⟨rfl, hM, fun b o e => of_hidT e, Nat.le_of_eq (hidT_size _ _), trivial,
      fun b hb => absurd (show b ∈ ([] : List Addr) from hb) (by simp), hok, .of_eq hg⟩
  have ran := (F _ hKb (nsK hns)).run callerA [] s1 H ⟨[.ref a], []⟩ [.ref a] [.ref a] _ _ rfl hr env
    (hbind s1 (.ref a)) (.cons rfl .nil) (hsp H hO hS)
  refine codeAny_mono ran ?_
  intro r s' h
  match r, h with
  | .error _, h => exact (h : False).elim
  | .ok .next, h => exact False.elim h
  | .ok .brk, h => exact False.elim h
  | .ok .cont, h => exact False.elim h
  | .ok (.ret u), h =>
    obtain ⟨v, H', os, bare, un, hok', r', q⟩ := h
    have q2 : v = .bl true := q
    cases q2
    have eu : u = Value.bool true := r'
    cases eu
    refine ⟨rfl, OldK.of_keep fun b o e => ?_, os, bare⟩
    cases qb : H b with
    | none =>
      exact un.keep b o e qb (fun z => absurd (show b ∈ ([] : List Addr) from z) (by simp)) (by simp)
    | some u =>
      cases hO b with
      | inl z => rw [qb] at z; cases z
      | inr z =>
        obtain ⟨ob, xs, z⟩ := z
        obtain ⟨e1, _⟩ := hok b _ z
        obtain ⟨e2, _⟩ := hok' b _ (un.frzs b ob _ z)
        rw [e] at e1
        cases e1
        exact e2

theorem walk_ofG {l : PySem.W.OpenLaw} {n k : Nat} {q : Program} {loose : List Str} {XP : (Str → Option Value) → Heap → Prop}
    {YP : World → Heap → Prop} {d : DefRec} {K : Params → PySem.W.Frag} {sp : PySem.W.Frag → Sp} {x : Str}
    (hn : l.most = some n) (hn2 : n ≤ sizeLine) (hdf : d.params.defaults = []) (hr : Room k callerA)
    (hY : ∀ (w : World) (h : Heap), YP w h → (K w.params).In h)
    (F : ∀ (w : World) (mg : Str → Option Value) (fa : Addr) (h : Heap), (K w.params).In h → h.Ns mainGlobals mg →
      mg d.name = some (.ref fa) → ∃ fd : FuncData, (∀ (s : Shared) (u : Value), BindsTo s fd ⟨[u], []⟩ [(x, u)]) ∧
        ∀ base : Heap, (K w.params).In base → base.Ns mainGlobals mg → FnG l.prog w (K w.params) mg base k fa fd [x] (sp (K w.params)))
    (hsp : ∀ (K : PySem.W.Frag) (H : Hp) (a : Addr) (ns : List Int), ns.length ≤ n → Only H → SqL K H a (ns.map V.int) →
      sp K [.ref a] H (fun v _ => v = .bl true) E0) :
    PySem.W.WalkO q loose XP YP l.row.toRowW d [] (fun f vs => PySem.call f vs) := by
  refine Att.attach_call hn hdf ?_
  intro w s0 s1 mg mb fa o pm cd doc a vs ns G Y ho hd hcd hmg hobj hints hlen hg
  obtain ⟨fd, hb, hF⟩ := F w mg fa _ (hY w _ Y) G.T.g hmg
  exact law_callG (hY w _ Y) G.T.g G.T.b G.T.builtins G.T.nolimit hg hobj hints (Nat.le_trans hlen hn2) hr hF hb
    fun H hO hS => hsp (K w.params) H a ns hlen hO hS
theorem _root_.L2.Room.units65 {k : Nat} {A : Around} (r : Room k A) : A.units + 65 < cLine := by
  have := r.un
  omega
end Gd

/-! data over the layer: what an expression is worth while objects of a list M may change -/
namespace Dq
open PySem PySem.Spec PyProof.Rows L2 Gd

abbrev S := L2.St

/-! ### data at values -/
mutual
inductive Da (K : PySem.W.Frag) (H : Hp) : V → PyData → Prop
  | non : Da K H .non .none
  | bl (b : Bool) : Da K H (.bl b) (.bool b)
  | int (i : Int) : Da K H (.int i) (.int i)
  | str (x : Str) : Da K H (.str x) (.str x)
  | lst {a : Addr} {xs : List V} {ds : List PyData} : H a = some (.lst xs) → Das K H xs ds → Da K H (.ref a) (.list ds)
  | tup {a : Addr} {xs : List V} {ds : List PyData} : SqT K H a xs → Das K H xs ds → Da K H (.ref a) (.tuple ds)
inductive Das (K : PySem.W.Frag) (H : Hp) : List V → List PyData → Prop
  | nil : Das K H [] []
  | cons {v : V} {vs : List V} {d : PyData} {ds : List PyData} : Da K H v d → Das K H vs ds → Das K H (v :: vs) (d :: ds)
end

section
variable {K : PySem.W.Frag} {H H' : Hp}
theorem same_sqt {a : Addr} {xs : List V} (e : Same H H') (h : SqT K H a xs) : SqT K H' a xs := by
  rcases h with (h | ⟨o, h⟩) | h
  · exact .inl (.inl (e _ _ h))
  · exact .inl (.inr ⟨o, e _ _ h⟩)
  · exact .inr h
mutual
theorem Da.same (e : Same H H') : ∀ (d : PyData) (v : V), Da K H v d → Da K H' v d
  | .none, _, h => by cases h; exact .non
  | .bool b, _, h => by cases h; exact .bl b
  | .int i, _, h => by cases h; exact .int i
  | .str x, _, h => by cases h; exact .str x
  | .list ds, _, h => by
    cases h with
    | lst hs ha => exact .lst (e _ _ hs) (Das.same e ds _ ha)
  | .tuple ds, _, h => by
    cases h with
    | tup hs ha => exact .tup (same_sqt e hs) (Das.same e ds _ ha)
  | .dict _, _, h => by cases h
theorem Das.same (e : Same H H') : ∀ (ds : List PyData) (vs : List V), Das K H vs ds → Das K H' vs ds
  | [], _, h => by cases h; exact .nil
  | d :: ds, _, h => by
    cases h with
    | cons h1 h2 => exact .cons (Da.same e d _ h1) (Das.same e ds _ h2)
end
mutual
theorem Da.dp : ∀ (d : PyData) (v : V), Da K H v d → Dp K H v d
  | .none, _, h => by cases h; exact .non
  | .bool b, _, h => by cases h; exact .bl b
  | .int i, _, h => by cases h; exact .int i
  | .str x, _, h => by cases h; exact .str x
  | .list ds, _, h => by
    cases h with
    | lst hs ha => exact .lst (SqL.of hs) (Das.dp ds _ ha)
  | .tuple ds, _, h => by
    cases h with
    | tup hs ha => exact .tup hs (Das.dp ds _ ha)
  | .dict _, _, h => by cases h
theorem Das.dp : ∀ (ds : List PyData) (vs : List V), Das K H vs ds → DpAll K H vs ds
  | [], _, h => by cases h; exact .nil
  | d :: ds, _, h => by
    cases h with
    | cons h1 h2 => exact .cons (Da.dp d _ h1) (Das.dp ds _ h2)
end
theorem Das.length : ∀ {ds : List PyData} {vs : List V}, Das K H vs ds → vs.length = ds.length
  | [], _, h => by cases h; rfl
  | d :: ds, _, h => by
    cases h with
    | cons h1 h2 => rw [List.length_cons, List.length_cons, h2.length]
theorem Das.get : ∀ {ds : List PyData} {vs : List V} {i : Nat} {d : PyData}, Das K H vs ds → ds[i]? = some d → ∃ v, vs[i]? = some v ∧ Da K H v d
  | [], _, i, d, h, e => by simp at e
  | x :: ds, _, 0, d, h, e => by
    cases h with
    | cons h1 h2 =>
      simp at e
      subst e
      exact ⟨_, rfl, h1⟩
  | x :: ds, _, i + 1, d, h, e => by
    cases h with
    | cons h1 h2 =>
      obtain ⟨v, e1, e2⟩ := Das.get (i := i) h2 (by simpa using e)
      exact ⟨v, by simpa using e1, e2⟩
theorem Das.getV {ds : List PyData} {vs : List V} {i : Nat} {v : V} (h : Das K H vs ds) (e : vs[i]? = some v) : ∃ d, ds[i]? = some d ∧ Da K H v d := by
  have hl := h.length
  have hi : i < vs.length := (List.getElem?_eq_some_iff.mp e).1
  obtain ⟨v2, e2, r⟩ := h.get (i := i) (d := ds[i]'(by omega)) (by simp [show i < ds.length by omega])
  rw [e] at e2
  cases e2
  exact ⟨_, by simp [show i < ds.length by omega], r⟩
theorem Das.append : ∀ {ds es : List PyData} {vs ws : List V}, Das K H vs ds → Das K H ws es → Das K H (vs ++ ws) (ds ++ es)
  | [], _, _, _, h, g => by cases h; exact g
  | d :: ds, _, _, _, h, g => by
    cases h with
    | cons h1 h2 => exact .cons h1 (Das.append h2 g)
theorem Das.take : ∀ {ds : List PyData} {vs : List V} (n : Nat), Das K H vs ds → Das K H (vs.take n) (ds.take n)
  | _, _, 0, _ => .nil
  | [], _, _ + 1, h => by cases h; exact .nil
  | d :: ds, _, n + 1, h => by
    cases h with
    | cons h1 h2 => exact .cons h1 (Das.take n h2)
theorem Das.drop : ∀ {ds : List PyData} {vs : List V} (n : Nat), Das K H vs ds → Das K H (vs.drop n) (ds.drop n)
  | _, _, 0, h => h
  | [], _, _ + 1, h => by cases h; exact .nil
  | d :: ds, _, n + 1, h => by
    cases h with
    | cons h1 h2 => exact Das.drop n h2
theorem Das.reverse {ds : List PyData} {vs : List V} (h : Das K H vs ds) : Das K H vs.reverse ds.reverse := by
  induction ds generalizing vs with
  | nil => cases h; exact .nil
  | cons d ds ih =>
    cases h with
    | cons h1 h2 =>
      rw [List.reverse_cons, List.reverse_cons]
      exact (ih h2).append (.cons h1 .nil)
theorem Das.ints : ∀ (ns : List Int), Das K H (ns.map V.int) (ns.map PyData.int)
  | [] => .nil
  | n :: ns => .cons (.int n) (Das.ints ns)
theorem Das.perm {ds : List PyData} {vs ws : List V} (h : Das K H vs ds) (p : ws.Perm vs) : ∃ es, es.Perm ds ∧ Das K H ws es := by
  induction p generalizing ds with
  | nil => cases h; exact ⟨[], List.Perm.refl _, .nil⟩
  | cons x p ih =>
    cases h with
    | cons h1 h2 =>
      obtain ⟨es, q, r⟩ := ih h2
      exact ⟨_ :: es, q.cons _, .cons h1 r⟩
  | swap x y l =>
    cases h with
    | cons h1 h2 =>
      cases h2 with
      | cons h3 h4 => exact ⟨_, List.Perm.swap _ _ _, .cons h3 (.cons h1 h4)⟩
  | trans p q ih1 ih2 =>
    obtain ⟨es, e1, r1⟩ := ih2 h
    obtain ⟨fs, e2, r2⟩ := ih1 r1
    exact ⟨fs, e2.trans e1, r2⟩
theorem Da.intV {v : V} {i : Int} (h : Da K H v (.int i)) : v = .int i := by cases h; rfl
theorem Da.blV {v : V} {b : Bool} (h : Da K H v (.bool b)) : v = .bl b := by cases h; rfl
theorem Da.strV {v : V} {x : Str} (h : Da K H v (.str x)) : v = .str x := by cases h; rfl
theorem Da.nonV {v : V} (h : Da K H v .none) : v = .non := by cases h; rfl
end

/-! ### worlds: the objects that may change, the heap -/
def mn (M : List Addr) (H : Hp) : Hp := fun b => if b ∈ M then none else H b
theorem mn_out {M : List Addr} {H : Hp} {b : Addr} (h : b ∉ M) : mn M H b = H b := if_neg h
theorem mn_in {M : List Addr} {H : Hp} {b : Addr} (h : b ∈ M) : mn M H b = none := if_pos h
theorem mn_some {M : List Addr} {H : Hp} {b : Addr} {o : HO} (h : mn M H b = some o) : b ∉ M ∧ H b = some o := by
  by_cases hb : b ∈ M
  · rw [mn_in hb] at h; cases h
  · rw [mn_out hb] at h; exact ⟨hb, h⟩
theorem mn_same {M : List Addr} {H : Hp} : Same (mn M H) H := fun b o h => (mn_some h).2
abbrev Dm (K : PySem.W.Frag) (M : List Addr) (H : Hp) (v : V) (d : PyData) : Prop := Da K (mn M H) v d
abbrev Dms (K : PySem.W.Frag) (M : List Addr) (H : Hp) (vs : List V) (ds : List PyData) : Prop := Das K (mn M H) vs ds
structure Go (M : List Addr) (H : Hp) (M' : List Addr) (H' : Hp) : Prop where
  sub : ∀ b ∈ M, b ∈ M'
  new : ∀ b ∈ M', b ∈ M ∨ H b = none
  le : ∀ b o, b ∉ M' → H b = some o → H' b = some o
  tr : ∀ b ∈ M', H' b ≠ none
abbrev Tr (M : List Addr) (H : Hp) : Prop := ∀ b ∈ M, H b ≠ none
theorem Go.refl {M : List Addr} {H : Hp} (t : Tr M H) : Go M H M H := ⟨fun _ h => h, fun _ h => .inl h, fun _ _ _ h => h, t⟩
theorem Go.trans {M M1 M2 : List Addr} {H H1 H2 : Hp} (g : Go M H M1 H1) (k : Go M1 H1 M2 H2) : Go M H M2 H2 where
  sub := fun b h => k.sub b (g.sub b h)
  new := fun b h => by
    rcases k.new b h with h1 | h1
    · exact g.new b h1
    · cases e : H b with
      | none => exact .inr rfl
      | some o =>
        by_cases hb : b ∈ M1
        · exact absurd h1 (g.tr b hb)
        · rw [g.le b o hb e] at h1; cases h1
  le := fun b o hb e => k.le b o hb (g.le b o (fun z => hb (k.sub b z)) e)
  tr := k.tr
theorem Go.same {M M' : List Addr} {H H' H2 : Hp} (g : Go M H M' H') (e : Same H' H2) : Go M H M' H2 :=
  ⟨g.sub, g.new, fun b o hb h => e b o (g.le b o hb h), fun b hb => by
    have := g.tr b hb
    cases q : H' b with
    | none => exact absurd q this
    | some o => rw [e b o q]; intro z; cases z⟩
theorem Tr.same {M : List Addr} {H H' : Hp} (t : Tr M H) (e : Same H H') : Tr M H' := (Go.refl t).same e |>.tr
theorem Go.mn {M M' : List Addr} {H H' : Hp} (g : Go M H M' H') : Same (mn M H) (mn M' H') := fun b o h => by
  obtain ⟨h1, h2⟩ := mn_some h
  have hb : b ∉ M' := fun z => by
    rcases g.new b z with q | q
    · exact h1 q
    · rw [q] at h2; cases h2
  rw [mn_out hb]
  exact g.le b o hb h2
section
variable {K : PySem.W.Frag} {M M' : List Addr} {H H' : Hp}
theorem dm_go {v : V} {d : PyData} (h : Dm K M H v d) (g : Go M H M' H') : Dm K M' H' v d := Da.same g.mn _ _ h
theorem dms_go {vs : List V} {ds : List PyData} (h : Dms K M H vs ds) (g : Go M H M' H') : Dms K M' H' vs ds := Das.same g.mn _ _ h
theorem dm_same {v : V} {d : PyData} (h : Dm K M H v d) (t : Tr M H) (e : Same H H') : Dm K M H' v d := dm_go h ((Go.refl t).same e)
theorem dm_h {v : V} {d : PyData} (h : Dm K M H v d) : Da K H v d := Da.same mn_same _ _ h
theorem dms_h {vs : List V} {ds : List PyData} (h : Dms K M H vs ds) : Das K H vs ds := Das.same mn_same _ _ h
/-- a new object that is no longer changed -/
theorem go_new {p : Addr} {o : HO} (t : Tr M H) (hp : H p = none) : Go M H M (upd H p o) := (Go.refl t).same (fun b u e => by
  rw [upd_ne (ne_of_none e hp)]
  exact e)
/-- a new object that is to be changed -/
theorem go_mut {p : Addr} {o : HO} (t : Tr M H) (hp : H p = none) : Go M H (p :: M) (upd H p o) where
  sub := fun b h => List.mem_cons_of_mem _ h
  new := fun b h => by
    rcases List.mem_cons.mp h with rfl | h
    · exact .inr hp
    · exact .inl h
  le := fun b u hb e => by
    have hne : b ≠ p := fun z => hb (by rw [z]; exact List.mem_cons_self ..)
    rw [upd_ne hne]
    exact e
  tr := fun b h => by
    by_cases hb : b = p
    · subst hb
      rw [upd_same]
      intro z; cases z
    · rw [upd_ne hb]
      exact t b ((List.mem_cons.mp h).resolve_left hb)
/-- a change at one of M -/
theorem go_set {p : Addr} {o : HO} (t : Tr M H) (hp : p ∈ M) : Go M H M (upd H p o) where
  sub := fun _ h => h
  new := fun _ h => .inl h
  le := fun b u hb e => by
    have hne : b ≠ p := fun z => hb (by rw [z]; exact hp)
    rw [upd_ne hne]
    exact e
  tr := fun b h => by
    by_cases hb : b = p
    · subst hb
      rw [upd_same]
      intro z; cases z
    · rw [upd_ne hb]
      exact t b h
theorem same_new {p : Addr} {o : HO} (hp : H p = none) : Same H (upd H p o) := fun b u e => by
  rw [upd_ne (ne_of_none e hp)]
  exact e
theorem dm_newT {p : Addr} {vs : List V} {ds : List PyData} (t : Tr M H) (hp : H p = none) (h : Dms K M H vs ds) : Dm K M (upd H p (.tup vs)) (.ref p) (.tuple ds) := by
  have hM : p ∉ M := fun z => absurd hp (t p z)
  refine .tup (.inl (.inl ?_)) (dms_go h (go_new t hp))
  rw [mn_out hM, upd_same]
theorem dm_newL {p : Addr} {vs : List V} {ds : List PyData} (t : Tr M H) (hp : H p = none) (h : Dms K M H vs ds) : Dm K M (upd H p (.lst vs)) (.ref p) (.list ds) := by
  have hM : p ∉ M := fun z => absurd hp (t p z)
  refine .lst ?_ (dms_go h (go_new t hp))
  rw [mn_out hM, upd_same]
end

/-! ### what an expression, a test, arguments are worth, nothing tracked being changed -/
section
variable (K : PySem.W.Frag) (M : List Addr)
def Ev (te : TE) (σ : S) (H : Hp) (d : PyData) : Prop := ∀ M' H1, Go M H M' H1 → ∀ Q : VK, (∀ v H2, Same H1 H2 → Dm K M' H2 v d → Q v H2) → te σ H1 Q
def Eb (tt : TT) (σ : S) (H : Hp) (b : Bool) : Prop := ∀ M' H1, Go M H M' H1 → ∀ Q : Bool → Hp → Prop, (∀ H2, Same H1 H2 → Q b H2) → tt σ H1 Q
def Ea (ta : TA) (σ : S) (H : Hp) (ds : List PyData) : Prop := ∀ M' H1, Go M H M' H1 → ∀ Q : List V → Hp → Prop, (∀ vs H2, Same H1 H2 → Dms K M' H2 vs ds → Q vs H2) → ta σ H1 Q
def Eo (to : TO) (σ : S) (H : Hp) (o : Option Int) : Prop := ∀ M' H1, Go M H M' H1 → ∀ Q : Option Int → Hp → Prop, (∀ H2, Same H1 H2 → Q o H2) → to σ H1 Q
end
section
variable {K : PySem.W.Frag} {M M' : List Addr} {σ : S} {H H' : Hp} {ta tb te tc : TE} {tt tu : TT} {as : TA} {d e f : PyData} {ds es : List PyData} {r : R2} {x y : V}
theorem Ev.mono (h : Ev K M te σ H d) (g : Go M H M' H') : Ev K M' te σ H' d := fun M2 H1 k Q q => h M2 H1 (g.trans k) Q q
theorem Eb.mono {b : Bool} (h : Eb M tt σ H b) (g : Go M H M' H') : Eb M' tt σ H' b := fun M2 H1 k Q q => h M2 H1 (g.trans k) Q q
theorem Ev.is (h : Ev K M te σ H d) (z : d = e) : Ev K M te σ H e := z ▸ h
theorem Eb.is {b c : Bool} (h : Eb M tt σ H b) (z : b = c) : Eb M tt σ H c := z ▸ h
theorem ev_var {i : Nat} (h : σ[i]? = some (some x)) (hd : Dm K M H x d) : Ev K M (tVar i) σ H d := fun M2 H1 g Q q => ⟨x, h, q x H1 (Same.refl _) (dm_go hd g)⟩
theorem ev_int {i : Int} : Ev K M (tC (.int i)) σ H (.int i) := fun M2 H1 g Q q => q _ _ (Same.refl _) (.int i)
theorem ev_bl {b : Bool} : Ev K M (tC (.bl b)) σ H (.bool b) := fun M2 H1 g Q q => q _ _ (Same.refl _) (.bl b)
theorem ev_non : Ev K M (tC .non) σ H .none := fun M2 H1 g Q q => q _ _ (Same.refl _) .non
theorem ev_str {z : Str} : Ev K M (tC (.str z)) σ H (.str z) := fun M2 H1 g Q q => q _ _ (Same.refl _) (.str z)
theorem ea_nil : Ea K M tNil σ H [] := fun M2 H1 g Q q => q _ _ (Same.refl _) .nil
theorem ea_cons (h : Ev K M te σ H d) (k : Ea K M as σ H ds) : Ea K M (tCons te as) σ H (d :: ds) := fun M2 H1 g Q q =>
  h M2 H1 g _ fun v H2 e2 d2 => k M2 H2 (g.same e2) _ fun vs H3 e3 d3 => q _ _ (e2.trans e3) (.cons (dm_same d2 (g.same e2).tr e3) d3)
theorem ev_tup (h : Ea K M as σ H ds) (hz : ds.length ≤ sizeLine) : Ev K M (tTup as) σ H (.tuple ds) := fun M2 H1 g Q q =>
  h M2 H1 g _ fun vs H2 e2 d2 => ⟨by rw [d2.length]; exact hz, fun p hp => q _ _ (e2.trans (same_new hp)) (dm_newT (g.same e2).tr hp d2)⟩
theorem ev_lst (h : Ea K M as σ H ds) (hz : ds.length ≤ sizeLine) : Ev K M (tLst as) σ H (.list ds) := fun M2 H1 g Q q =>
  h M2 H1 g _ fun vs H2 e2 d2 => ⟨by rw [d2.length]; exact hz, fun p hp => q _ _ (e2.trans (same_new hp)) (dm_newL (g.same e2).tr hp d2)⟩
/-- a two-place operation by its operands' data -/
theorem ev_op (ha : Ev K M ta σ H d) (hb : Ev K M tb σ H e)
    (hr : ∀ M' H1 x y, Go M H M' H1 → Dm K M' H1 x d → Dm K M' H1 y e → ∀ Q : VK, (∀ v H2, Same H1 H2 → Dm K M' H2 v f → Q v H2) → r x y H1 Q) : Ev K M (tOp r ta tb) σ H f := fun M2 H1 g Q q =>
  ha M2 H1 g _ fun v H2 e2 d2 => hb M2 H2 (g.same e2) _ fun u H3 e3 d3 => hr M2 H3 v u ((g.same e2).same e3) (dm_same d2 (g.same e2).tr e3) d3 Q fun w H4 e4 d4 => q w H4 ((e2.trans e3).trans e4) d4
theorem ev_un {r : V → Hp → VK → Prop} (ha : Ev K M ta σ H d)
    (hr : ∀ M' H1 x, Go M H M' H1 → Dm K M' H1 x d → ∀ Q : VK, (∀ v H2, Same H1 H2 → Dm K M' H2 v f → Q v H2) → r x H1 Q) : Ev K M (tUn r ta) σ H f := fun M2 H1 g Q q =>
  ha M2 H1 g _ fun v H2 e2 d2 => hr M2 H2 v (g.same e2) d2 Q fun w H4 e4 d4 => q w H4 (e2.trans e4) d4
theorem ev_cb {r : List V → Hp → VK → Prop} (ha : Ea K M as σ H ds)
    (hr : ∀ M' H1 vs, Go M H M' H1 → Dms K M' H1 vs ds → ∀ Q : VK, (∀ v H2, Same H1 H2 → Dm K M' H2 v f → Q v H2) → r vs H1 Q) : Ev K M (tCB r as) σ H f := fun M2 H1 g Q q =>
  ha M2 H1 g _ fun v H2 e2 d2 => hr M2 H2 v (g.same e2) d2 Q fun w H4 e4 d4 => q w H4 (e2.trans e4) d4
theorem ev_I0 {g : Int → Int → Int} {i j : Int} (ha : Ev K M ta σ H (.int i)) (hb : Ev K M tb σ H (.int j)) : Ev K M (tOp (rI0 fun i j => .int (g i j)) ta tb) σ H (.int (g i j)) :=
  ev_op ha hb fun M2 H1 x y gg dx dy Q q => ⟨i, j, dx.intV, dy.intV, q _ _ (Same.refl _) (.int _)⟩
theorem ev_I {C : Int → Int → Prop} {g : Int → Int → Int} {i j : Int} (ha : Ev K M ta σ H (.int i)) (hb : Ev K M tb σ H (.int j)) (hc : C i j) : Ev K M (tOp (rI C fun i j => .int (g i j)) ta tb) σ H (.int (g i j)) :=
  ev_op ha hb fun M2 H1 x y gg dx dy Q q => ⟨i, j, dx.intV, dy.intV, hc, q _ _ (Same.refl _) (.int _)⟩
theorem ev_B0 {g : Int → Int → Bool} {i j : Int} (ha : Ev K M ta σ H (.int i)) (hb : Ev K M tb σ H (.int j)) : Ev K M (tOp (rI0 fun i j => .bl (g i j)) ta tb) σ H (.bool (g i j)) :=
  ev_op ha hb fun M2 H1 x y gg dx dy Q q => ⟨i, j, dx.intV, dy.intV, q _ _ (Same.refl _) (.bl _)⟩
theorem ev_neg {g : Int → Int} {i : Int} (ha : Ev K M ta σ H (.int i)) : Ev K M (tUn (rU fun i => .int (g i)) ta) σ H (.int (g i)) :=
  ev_un ha fun M2 H1 x gg dx Q q => ⟨i, dx.intV, q _ _ (Same.refl _) (.int _)⟩
theorem ev_eqD (ha : Ev K M ta σ H d) (hb : Ev K M tb σ H e) (sd : SeqAt.shaped d = true) (se : SeqAt.shaped e = true) : Ev K M (tOp (rEqD K) ta tb) σ H (.bool (PyData.eqv d e)) :=
  ev_op ha hb fun M2 H1 x y gg dx dy Q q => ⟨d, e, Da.dp _ _ (dm_h dx), Da.dp _ _ (dm_h dy), sd, se, q _ _ (Same.refl _) (.bl _)⟩
theorem ev_neD (ha : Ev K M ta σ H d) (hb : Ev K M tb σ H e) (sd : SeqAt.shaped d = true) (se : SeqAt.shaped e = true) : Ev K M (tOp (rNeD K) ta tb) σ H (.bool (!PyData.eqv d e)) :=
  ev_op ha hb fun M2 H1 x y gg dx dy Q q => ⟨d, e, Da.dp _ _ (dm_h dx), Da.dp _ _ (dm_h dy), sd, se, q _ _ (Same.refl _) (.bl _)⟩
def isNone : PyData → Bool
  | .none => true
  | _ => false
theorem da_none {v : V} (h : Da K H v d) : decide (v = .non) = isNone d := by
  cases h <;> rfl
theorem ev_isN (ha : Ev K M ta σ H d) : Ev K M (tIsN ta) σ H (.bool (isNone d)) := fun M2 H1 g Q q =>
  ha M2 H1 g _ fun v H2 e2 d2 => by
    show Q (.bl (decide (v = .non))) H2
    rw [da_none d2]
    exact q _ _ e2 (.bl _)
theorem ev_notN (ha : Ev K M ta σ H d) : Ev K M (tNotN ta) σ H (.bool (!isNone d)) := fun M2 H1 g Q q =>
  ha M2 H1 g _ fun v H2 e2 d2 => by
    show Q (.bl (!decide (v = .non))) H2
    rw [da_none d2]
    exact q _ _ e2 (.bl _)
theorem Das.atI {vs : List V} {i : Int} (h : Das K H vs ds) (e : L2.atI ds i = some d) : ∃ v, L2.atI vs i = some v ∧ Da K H v d := by
  unfold L2.atI at e ⊢
  rw [h.length]
  cases q : ixN ds.length i with
  | none => rw [q] at e; cases e
  | some j =>
    rw [q] at e
    exact h.get e
theorem ev_ixT {i : Int} (ha : Ev K M ta σ H (.tuple ds)) (hb : Ev K M tb σ H (.int i)) (hi : L2.atI ds i = some d) : Ev K M (tOp (rIxT K) ta tb) σ H d :=
  ev_op ha hb fun M2 H1 x y gg dx dy Q q => by
    cases dx with
    | @tup a xs _ hs hd =>
      obtain ⟨v, e1, e2⟩ := hd.atI hi
      exact ⟨a, xs, i, v, rfl, dy.intV, same_sqt mn_same hs, e1, q _ _ (Same.refl _) e2⟩
theorem ev_ixL {i : Int} (ha : Ev K M ta σ H (.list ds)) (hb : Ev K M tb σ H (.int i)) (hi : L2.atI ds i = some d) : Ev K M (tOp (rIxL K) ta tb) σ H d :=
  ev_op ha hb fun M2 H1 x y gg dx dy Q q => by
    cases dx with
    | @lst a xs _ hs hd =>
      obtain ⟨v, e1, e2⟩ := hd.atI hi
      exact ⟨a, xs, i, v, rfl, dy.intV, SqL.of (mn_same _ _ hs), e1, q _ _ (Same.refl _) e2⟩
theorem ev_len (ha : Ev K M ta σ H d) (hd : d = .list ds ∨ d = .tuple ds) : Ev K M (tCB (fun xs H Q => ∃ p ys, xs = [V.ref p] ∧ (SqL K H p ys ∨ SqT K H p ys) ∧ Q (.int ys.length) H) (tCons ta tNil)) σ H (.int ds.length) :=
  ev_cb (ea_cons ha ea_nil) fun M2 H1 vs gg dv Q q => by
    cases dv with
    | cons h1 h2 =>
      cases h2
      rcases hd with rfl | rfl
      · cases h1 with
        | @lst a xs _ hs hx => exact ⟨a, xs, rfl, .inl (SqL.of (mn_same _ _ hs)), by rw [hx.length]; exact q _ _ (Same.refl _) (.int _)⟩
      · cases h1 with
        | @tup a xs _ hs hx => exact ⟨a, xs, rfl, .inr (same_sqt mn_same hs), by rw [hx.length]; exact q _ _ (Same.refl _) (.int _)⟩
/-! tests -/
theorem eb_test {b : Bool} (h : Ev K M te σ H (.bool b)) : Eb M (tTest te) σ H b := fun M2 H1 g Q q => h M2 H1 g _ fun v H2 e2 d2 => ⟨b, d2.blV, q H2 e2⟩
theorem eb_B {b : Bool} (h : Ev K M te σ H (.bool b)) : Eb M (tB te) σ H b := fun M2 H1 g Q q => h M2 H1 g _ fun v H2 e2 d2 => ⟨b, d2.blV, q H2 e2⟩
theorem eb_and {a b : Bool} (h1 : Eb M tt σ H a) (h2 : a = true → Eb M tu σ H b) : Eb M (tAnd tt tu) σ H (a && b) := fun M2 H1 g Q q => h1 M2 H1 g _ fun H2 e2 => by
  cases a with
  | true => exact h2 rfl M2 H2 (g.same e2) Q fun H3 e3 => q H3 (e2.trans e3)
  | false => exact q H2 e2
theorem eb_or {a b : Bool} (h1 : Eb M tt σ H a) (h2 : a = false → Eb M tu σ H b) : Eb M (tOr tt tu) σ H (a || b) := fun M2 H1 g Q q => h1 M2 H1 g _ fun H2 e2 => by
  cases a with
  | true => exact q H2 e2
  | false => exact h2 rfl M2 H2 (g.same e2) Q fun H3 e3 => q H3 (e2.trans e3)
theorem eb_not {a : Bool} (h1 : Eb M tt σ H a) : Eb M (tNot tt) σ H (!a) := fun M2 H1 g Q q => h1 M2 H1 g _ fun H2 e2 => q H2 e2
theorem eb_yes : Eb M tYes σ H true := fun M2 H1 g Q q => q _ (Same.refl _)
theorem ev_andV {a b : Bool} (h1 : Ev K M ta σ H (.bool a)) (h2 : a = true → Ev K M tb σ H (.bool b)) : Ev K M (tAndV ta tb) σ H (.bool (a && b)) := fun M2 H1 g Q q => h1 M2 H1 g _ fun v H2 e2 d2 => ⟨a, d2.blV, by
  cases a with
  | true => exact h2 rfl M2 H2 (g.same e2) Q fun v H3 e3 d3 => q v H3 (e2.trans e3) d3
  | false => exact q _ H2 e2 (.bl _)⟩
theorem ev_orV {a b : Bool} (h1 : Ev K M ta σ H (.bool a)) (h2 : a = false → Ev K M tb σ H (.bool b)) : Ev K M (tOrV ta tb) σ H (.bool (a || b)) := fun M2 H1 g Q q => h1 M2 H1 g _ fun v H2 e2 d2 => ⟨a, d2.blV, by
  cases a with
  | true => exact q _ H2 e2 (.bl _)
  | false => exact h2 rfl M2 H2 (g.same e2) Q fun v H3 e3 d3 => q v H3 (e2.trans e3) d3⟩
theorem ev_notV {a : Bool} (h1 : Ev K M ta σ H (.bool a)) : Ev K M (tNotV ta) σ H (.bool (!a)) := fun M2 H1 g Q q => h1 M2 H1 g _ fun v H2 e2 d2 => ⟨a, d2.blV, q _ H2 e2 (.bl _)⟩
theorem ev_if {b : Bool} (h : Eb M tt σ H b) (h1 : b = true → Ev K M ta σ H d) (h2 : b = false → Ev K M tb σ H d) : Ev K M (tIf tt ta tb) σ H d := fun M2 H1 g Q q => h M2 H1 g _ fun H2 e2 => by
  cases b with
  | true => exact h1 rfl M2 H2 (g.same e2) Q fun v H3 e3 d3 => q v H3 (e2.trans e3) d3
  | false => exact h2 rfl M2 H2 (g.same e2) Q fun v H3 e3 d3 => q v H3 (e2.trans e3) d3
/-! calls of built-ins -/
theorem ev_int1 {i : Int} (ha : Ev K M ta σ H (.int i)) : Ev K M (tCB (fun xs H Q => (∃ i, xs = [V.int i] ∧ Q (.int i) H) ∨ ∃ k, xs = [V.bl k] ∧ Q (.int (if k then 1 else 0)) H) (tCons ta tNil)) σ H (.int i) :=
  ev_cb (ea_cons ha ea_nil) fun M2 H1 vs gg dv Q q => by
    cases dv with
    | cons h1 h2 =>
      cases h2
      cases h1
      exact .inl ⟨i, rfl, q _ _ (Same.refl _) (.int _)⟩
theorem ev_intB {k : Bool} (ha : Ev K M ta σ H (.bool k)) : Ev K M (tCB (fun xs H Q => (∃ i, xs = [V.int i] ∧ Q (.int i) H) ∨ ∃ k, xs = [V.bl k] ∧ Q (.int (if k then 1 else 0)) H) (tCons ta tNil)) σ H (.int (if k then 1 else 0)) :=
  ev_cb (ea_cons ha ea_nil) fun M2 H1 vs gg dv Q q => by
    cases dv with
    | cons h1 h2 =>
      cases h2
      cases h1
      exact .inr ⟨k, rfl, q _ _ (Same.refl _) (.int _)⟩
theorem ev_abs {i : Int} (ha : Ev K M ta σ H (.int i)) : Ev K M (tCB (fun xs H Q => ∃ i, xs = [V.int i] ∧ Q (.int (if i < 0 then -i else i)) H) (tCons ta tNil)) σ H (.int (if i < 0 then -i else i)) :=
  ev_cb (ea_cons ha ea_nil) fun M2 H1 vs gg dv Q q => by
    cases dv with
    | cons h1 h2 =>
      cases h2
      cases h1
      exact ⟨i, rfl, q _ _ (Same.refl _) (.int _)⟩
theorem ev_max2 {g : Int → Int → Int} {i j : Int} (ha : Ev K M ta σ H (.int i)) (hb : Ev K M tb σ H (.int j)) : Ev K M (tCB (fun xs H Q => ∃ i j, xs = [V.int i, V.int j] ∧ Q (.int (g i j)) H) (tCons ta (tCons tb tNil))) σ H (.int (g i j)) :=
  ev_cb (ea_cons ha (ea_cons hb ea_nil)) fun M2 H1 vs gg dv Q q => by
    cases dv with
    | cons h1 h2 =>
      cases h2 with
      | cons h2 h3 =>
        cases h3
        cases h1
        cases h2
        exact ⟨i, j, rfl, q _ _ (Same.refl _) (.int _)⟩
theorem ev_listOf (ha : Ev K M ta σ H d) (hd : d = .list ds ∨ d = .tuple ds) : Ev K M (tCB (fun xs H Q => ∃ p ys, xs = [V.ref p] ∧ (SqL K H p ys ∨ SqT K H p ys) ∧ ∀ l, H l = none → Q (.ref l) (upd H l (.lst ys))) (tCons ta tNil)) σ H (.list ds) :=
  ev_cb (ea_cons ha ea_nil) fun M2 H1 vs gg dv Q q => by
    cases dv with
    | cons h1 h2 =>
      cases h2
      rcases hd with rfl | rfl
      · cases h1 with
        | @lst a xs _ hs hx => exact ⟨a, xs, rfl, .inl (SqL.of (mn_same _ _ hs)), fun l hl => q _ _ (same_new hl) (dm_newL gg.tr hl hx)⟩
      · cases h1 with
        | @tup a xs _ hs hx => exact ⟨a, xs, rfl, .inr (same_sqt mn_same hs), fun l hl => q _ _ (same_new hl) (dm_newL gg.tr hl hx)⟩
theorem ev_tupOf (ha : Ev K M ta σ H d) (hd : d = .list ds ∨ d = .tuple ds) : Ev K M (tCB (fun xs H Q => ∃ p ys, xs = [V.ref p] ∧ ((SqL K H p ys ∧ ∀ l, H l = none → Q (.ref l) (upd H l (.tup ys))) ∨ (SqT K H p ys ∧ Q (.ref p) H))) (tCons ta tNil)) σ H (.tuple ds) :=
  ev_cb (ea_cons ha ea_nil) fun M2 H1 vs gg dv Q q => by
    cases dv with
    | cons h1 h2 =>
      cases h2
      rcases hd with rfl | rfl
      · cases h1 with
        | @lst a xs _ hs hx => exact ⟨a, xs, rfl, .inl ⟨SqL.of (mn_same _ _ hs), fun l hl => q _ _ (same_new hl) (dm_newT gg.tr hl hx)⟩⟩
      · cases h1 with
        | @tup a xs _ hs hx => exact ⟨a, xs, rfl, .inr ⟨same_sqt mn_same hs, q _ _ (Same.refl _) (.tup hs hx)⟩⟩
theorem ev_repr (ha : Ev K M ta σ H d) (hd : (∃ ds, d = .list ds) ∨ (∃ ds, d = .tuple ds)) (h1 : d.showable = true) (h2 : d.hasDict = false) (h3 : d.depth ≤ 60) (h4 : d.shown.length ≤ sizeLine) : Ev K M (tCB (rReprD K) (tCons ta tNil)) σ H (.str d.shown) :=
  ev_cb (ea_cons ha ea_nil) fun M2 H1 vs gg dv Q q => by
    cases dv with
    | cons g1 g2 =>
      cases g2
      rename_i v0
      have hv : ∃ a, v0 = V.ref a := by
        rcases hd with ⟨ds, rfl⟩ | ⟨ds, rfl⟩
        · cases g1; exact ⟨_, rfl⟩
        · cases g1; exact ⟨_, rfl⟩
      obtain ⟨a, rfl⟩ := hv
      exact ⟨a, d, rfl, Da.dp _ _ (dm_h g1), h1, h2, h3, h4, q _ _ (Same.refl _) (.str _)⟩
/-! slices, sums -/
def cutPd (xs : List PyData) (lo hi : Option Int) : List PyData := (xs.drop (HT.sIx xs.length 0 lo)).take (HT.sIx xs.length xs.length hi - HT.sIx xs.length 0 lo)
theorem eo_none : Eo M tNoPart σ H none := fun M2 H1 g Q q => q _ (Same.refl _)
theorem eo_some {i : Int} (h : Ev K M te σ H (.int i)) : Eo M (tPart te) σ H (some i) := fun M2 H1 g Q q => h M2 H1 g _ fun v H2 e2 d2 => ⟨i, d2.intV, q _ e2⟩
theorem Das.cut {vs : List V} (h : Das K H vs ds) (lo hi : Option Int) : Das K H (cutV vs lo hi) (cutPd ds lo hi) := by
  unfold cutV cutPd
  rw [h.length]
  exact (h.drop _).take _
theorem ev_slL {tl th : TO} {lo hi : Option Int} (ha : Ev K M te σ H (.list ds)) (hl : Eo M tl σ H lo) (hh : Eo M th σ H hi) : Ev K M (tSl (rSlL K) te tl th) σ H (.list (cutPd ds lo hi)) := fun M2 H1 g Q q =>
  ha M2 H1 g _ fun v H2 e2 d2 => hl M2 H2 (g.same e2) _ fun H3 e3 => hh M2 H3 ((g.same e2).same e3) _ fun H4 e4 => by
    have d4 := dm_same d2 (g.same e2).tr (e3.trans e4)
    have t4 := (((g.same e2).same e3).same e4).tr
    cases d4 with
    | @lst a xs _ hs hx => exact ⟨a, xs, rfl, SqL.of (mn_same _ _ hs), fun p hp => q _ _ (((e2.trans e3).trans e4).trans (same_new hp)) (dm_newL t4 hp (hx.cut lo hi))⟩
theorem ev_slT {tl th : TO} {lo hi : Option Int} (ha : Ev K M te σ H (.tuple ds)) (hl : Eo M tl σ H lo) (hh : Eo M th σ H hi) : Ev K M (tSl (rSlA K) te tl th) σ H (.tuple (cutPd ds lo hi)) := fun M2 H1 g Q q =>
  ha M2 H1 g _ fun v H2 e2 d2 => hl M2 H2 (g.same e2) _ fun H3 e3 => hh M2 H3 ((g.same e2).same e3) _ fun H4 e4 => by
    have d4 := dm_same d2 (g.same e2).tr (e3.trans e4)
    have t4 := (((g.same e2).same e3).same e4).tr
    have e5 := (e2.trans e3).trans e4
    cases d4 with
    | @tup a xs _ hs hx =>
      refine ⟨a, xs, rfl, same_sqt mn_same hs, fun w => ?_, fun w p hp => q _ _ (e5.trans (same_new hp)) (dm_newT t4 hp (hx.cut lo hi))⟩
      have hw : cutPd ds lo hi = ds := by
        rw [hx.length] at w
        unfold cutPd
        rw [w.1, w.2]
        simp
      rw [hw] at q
      exact q _ _ e5 (.tup hs hx)
theorem ev_revL (ha : Ev K M te σ H (.list ds)) : Ev K M (tRevL K te) σ H (.list ds.reverse) := fun M2 H1 g Q q =>
  ha M2 H1 g _ fun v H2 e2 d2 => by
    have t2 := (g.same e2).tr
    cases d2 with
    | @lst a xs _ hs hx => exact ⟨a, xs, rfl, SqL.of (mn_same _ _ hs), fun p hp => q _ _ (e2.trans (same_new hp)) (dm_newL t2 hp hx.reverse)⟩
theorem ev_cat (ha : Ev K M ta σ H (.list ds)) (hb : Ev K M tb σ H (.list es)) (hz : ds.length + es.length ≤ sizeLine) : Ev K M (tOp rCat ta tb) σ H (.list (ds ++ es)) :=
  ev_op ha hb fun M2 H1 x y gg dx dy Q q => by
    cases dx with
    | @lst a xs _ hs hx =>
      cases dy with
      | @lst b ys _ ks ky => exact ⟨a, b, xs, ys, rfl, rfl, mn_same _ _ hs, mn_same _ _ ks, by rw [hx.length, ky.length]; exact hz, fun p hp => q _ _ (same_new hp) (dm_newL gg.tr hp (hx.append ky))⟩
theorem ev_catT (ha : Ev K M ta σ H (.tuple ds)) (hb : Ev K M tb σ H (.tuple es)) (hz : ds.length + es.length ≤ sizeLine) : Ev K M (tOp (rCatA K) ta tb) σ H (.tuple (ds ++ es)) :=
  ev_op ha hb fun M2 H1 x y gg dx dy Q q => by
    cases dx with
    | @tup a xs _ hs hx =>
      cases dy with
      | @tup b ys _ ks ky =>
        refine ⟨a, b, xs, ys, rfl, rfl, same_sqt mn_same hs, same_sqt mn_same ks, by rw [hx.length, ky.length]; exact hz, fun z => ?_, fun z z2 => ?_, fun z z2 p hp => q _ _ (same_new hp) (dm_newT gg.tr hp (hx.append ky))⟩
        · subst z
          cases hx
          exact q _ _ (Same.refl _) (.tup ks ky)
        · subst z2
          cases ky
          rw [List.append_nil] at q
          exact q _ _ (Same.refl _) (.tup hs hx)
def repD (ds : List PyData) (k : Nat) : List PyData := (List.replicate k ds).flatten
theorem ev_inD (ha : Ev K M ta σ H d) (hb : Ev K M tb σ H (.list ds)) (sd : SeqAt.shaped d = true) (se : SeqAt.shaped (.list ds) = true) : Ev K M (tOp (rInD K) ta tb) σ H (.bool (ds.any fun z => PyData.eqv z d)) :=
  ev_op ha hb fun M2 H1 x y gg dx dy Q q => ⟨d, ds, Da.dp _ _ (dm_h dx), Da.dp _ _ (dm_h dy), sd, se, q _ _ (Same.refl _) (.bl _)⟩
theorem ev_notInD (ha : Ev K M ta σ H d) (hb : Ev K M tb σ H (.list ds)) (sd : SeqAt.shaped d = true) (se : SeqAt.shaped (.list ds) = true) : Ev K M (tOp (rNotInD K) ta tb) σ H (.bool (!ds.any fun z => PyData.eqv z d)) :=
  ev_op ha hb fun M2 H1 x y gg dx dy Q q => ⟨d, ds, Da.dp _ _ (dm_h dx), Da.dp _ _ (dm_h dy), sd, se, q _ _ (Same.refl _) (.bl _)⟩
end
end Dq

/-! walks, comprehensions, statements, draws, calls -/
namespace Dq
open PySem PySem.Spec PyProof.Rows L2 Gd

/-! ### what is walked -/
def Wk (K : PySem.W.Frag) (M : List Addr) (wi : TI) (σ : S) (H : Hp) (n : Nat) (it : Nat → PyData) : Prop :=
  ∀ M' H1, Go M H M' H1 → ∀ R : It → Hp → Prop, (∀ J H2 G Y, Same H1 H2 → Walk J n G Y → (∀ M3 H3, Go M' H2 M3 H3 → G H3) →
    (∀ M3 i H3 x H4, Go M' H2 M3 H3 → i < n → Y i H3 x H4 → Same H3 H4 ∧ Dm K M3 H4 x (it i)) → R J H2) → wi σ H1 R
def at0 (ds : List PyData) (i : Nat) : PyData := ds.getD i .none
theorem at0_get {ds : List PyData} {i : Nat} (h : i < ds.length) : ds[i]? = some (at0 ds i) := by
  unfold at0
  rw [List.getD_eq_getElem?_getD, List.getElem?_eq_getElem h]
  rfl
section
variable {K : PySem.W.Frag} {M M' : List Addr} {σ : S} {H H' : Hp} {ta tb te tc : TE} {tt tu : TT} {as : TA} {d e f : PyData} {ds es : List PyData} {r : R2} {x y : V} {wi : TI}
theorem wk_list (h : Ev K M te σ H (.list ds)) : Wk K M (iList K te) σ H ds.length (at0 ds) := fun M2 H1 g R k =>
  h M2 H1 g _ fun v H2 e2 d2 => by
    cases d2 with
    | @lst a xs _ hs hx =>
      refine ⟨a, rfl, ⟨xs, SqL.of (mn_same _ _ hs)⟩, ?_⟩
      have w := walk_list (K := K) (a := a) (xs := xs)
      rw [hx.length] at w
      refine k _ _ _ _ e2 w (fun M3 H3 g3 => SqL.of (mn_same _ _ (g3.mn _ _ hs))) fun M3 i H3 z H4 g3 hi hy => ?_
      obtain ⟨rfl, ez⟩ := hy
      obtain ⟨d, e5, e6⟩ := hx.getV ez
      rw [at0_get hi] at e5
      cases e5
      exact ⟨Same.refl _, Da.same g3.mn _ _ e6⟩
theorem wk_tup (h : Ev K M te σ H (.tuple ds)) : Wk K M (iTup K te) σ H ds.length (at0 ds) := fun M2 H1 g R k =>
  h M2 H1 g _ fun v H2 e2 d2 => by
    cases d2 with
    | @tup a xs _ hs hx =>
      refine ⟨a, rfl, ⟨xs, same_sqt mn_same hs⟩, ?_⟩
      have w := walk_tup (K := K) (a := a) (xs := xs)
      rw [hx.length] at w
      refine k _ _ _ _ e2 w (fun M3 H3 g3 => same_sqt mn_same (same_sqt g3.mn hs)) fun M3 i H3 z H4 g3 hi hy => ?_
      obtain ⟨rfl, ez⟩ := hy
      obtain ⟨d, e5, e6⟩ := hx.getV ez
      rw [at0_get hi] at e5
      cases e5
      exact ⟨Same.refl _, Da.same g3.mn _ _ e6⟩
theorem wk_rng1 {n : Int} (h : Ea K M as σ H [.int n]) (h1 : -(2 ^ 62) ≤ n) (h2 : n < 2 ^ 62) : Wk K M (iRng1 as) σ H n.toNat (fun i => .int (i : Nat)) := fun M2 H1 g R k =>
  h M2 H1 g _ fun vs H2 e2 d2 => by
    cases d2 with
    | cons a b =>
      cases a
      cases b
      refine ⟨n, rfl, h1, h2, ?_⟩
      refine k _ _ _ _ e2 walk_range (fun M3 H3 g3 => trivial) fun M3 i H3 z H4 g3 hi hy => ?_
      obtain ⟨rfl, ez⟩ := hy
      refine ⟨Same.refl _, ?_⟩
      rw [ez]
      show Dm K M3 H4 (.int (0 + (i : Nat))) (.int (i : Nat))
      rw [Int.zero_add]
      exact .int _
theorem wk_rng2 {a b : Int} (h : Ea K M as σ H [.int a, .int b]) (h1 : -(2 ^ 62) ≤ a ∧ a < 2 ^ 62 ∧ -(2 ^ 62) ≤ b ∧ b < 2 ^ 62) : Wk K M (iRng2 as) σ H (b - a).toNat (fun i => .int (a + (i : Nat))) := fun M2 H1 g R k =>
  h M2 H1 g _ fun vs H2 e2 d2 => by
    cases d2 with
    | cons p q =>
      cases p
      cases q with
      | cons p q =>
        cases p
        cases q
        refine ⟨a, b, rfl, h1, ?_⟩
        refine k _ _ _ _ e2 walk_range (fun M3 H3 g3 => trivial) fun M3 i H3 z H4 g3 hi hy => ?_
        obtain ⟨rfl, ez⟩ := hy
        refine ⟨Same.refl _, ?_⟩
        rw [ez]
        exact .int _
theorem wk_zip (h : Ea K M as σ H [.list ds, .list es]) : Wk K M (iZip K as) σ H (min ds.length es.length) (fun i => .tuple [at0 ds i, at0 es i]) := fun M2 H1 g R k =>
  h M2 H1 g _ fun vs H2 e2 d2 => by
    cases d2 with
    | cons p q =>
      cases q with
      | cons q q2 =>
        cases q2
        cases p with
        | @lst a xs _ hs hx =>
          cases q with
          | @lst b ys _ ks ky =>
            refine ⟨a, b, xs, ys, rfl, SqL.of (mn_same _ _ hs), SqL.of (mn_same _ _ ks), ?_⟩
            have w := walk_zip (K := K) (a := a) (b := b) (xs := xs) (ys := ys) rfl
            rw [hx.length, ky.length] at w
            refine k _ _ _ _ e2 w (fun M3 H3 g3 => ⟨SqL.of (mn_same _ _ (g3.mn _ _ hs)), SqL.of (mn_same _ _ (g3.mn _ _ ks))⟩) fun M3 i H3 z H4 g3 hi hy => ?_
            obtain ⟨T, u, w, rfl, hT, rfl, e5, e6⟩ := hy
            refine ⟨same_new hT, dm_newT g3.tr hT ?_⟩
            obtain ⟨d1, q1, q2⟩ := hx.getV e5
            obtain ⟨d2, q3, q4⟩ := ky.getV e6
            rw [at0_get (by omega)] at q1 q3
            cases q1
            cases q3
            exact .cons (Da.same g3.mn _ _ q2) (.cons (Da.same g3.mn _ _ q4) .nil)
theorem wk_enum (h : Ea K M as σ H [.list ds]) : Wk K M (iEnum K as) σ H ds.length (fun i => .tuple [.int (i : Nat), at0 ds i]) := fun M2 H1 g R k =>
  h M2 H1 g _ fun vs H2 e2 d2 => by
    cases d2 with
    | cons p q =>
      cases q
      cases p with
      | @lst a xs _ hs hx =>
        refine ⟨a, xs, rfl, SqL.of (mn_same _ _ hs), ?_⟩
        have w := walk_enum (K := K) (a := a) (xs := xs)
        rw [hx.length] at w
        refine k _ _ _ _ e2 w (fun M3 H3 g3 => SqL.of (mn_same _ _ (g3.mn _ _ hs))) fun M3 i H3 z H4 g3 hi hy => ?_
        obtain ⟨T, u, w, rfl, hT, rfl, e5, e6⟩ := hy
        cases e5
        refine ⟨same_new hT, dm_newT g3.tr hT ?_⟩
        obtain ⟨d2, q3, q4⟩ := hx.getV e6
        rw [at0_get hi] at q3
        cases q3
        exact .cons (.int _) (.cons (Da.same g3.mn _ _ q4) .nil)

/-! ### targets -/
/-- how a target takes a thing -/
def Tk (g : TG) (x : V) (σ0 : S) (H : Hp) (σ2 : S) : Prop := ∀ Q : S → Hp → Prop, Q σ2 H → g x σ0 H Q
theorem tk_name {i : Nat} {σ0 : S} : Tk (gName i) x σ0 H (σ0.set i (some x)) := fun Q q => q
theorem tk_pair {i j : Nat} {σ0 : S} {d1 d2 : PyData} (h : Dm K M H x (.tuple [d1, d2])) : ∃ v1 v2, Tk (gTup K 2 (gCons (gName i) (gCons (gName j) gNil))) x σ0 H ((σ0.set i (some v1)).set j (some v2)) ∧ Dm K M H v1 d1 ∧ Dm K M H v2 d2 := by
  cases h with
  | @tup a xs _ hs hx =>
    cases hx with
    | cons h1 h2 =>
      cases h2 with
      | cons h2 h3 =>
        cases h3
        exact ⟨_, _, fun Q q => ⟨a, _, rfl, same_sqt mn_same hs, rfl, _, _, rfl, _, _, rfl, rfl, q⟩, h1, h2⟩

/-! ### comprehensions -/
def given (n : Nat) (f : Nat → Bool) (e : Nat → PyData) : List PyData := ((List.range n).filter f).map e
theorem given_yes {n : Nat} {f : Nat → Bool} {e : Nat → PyData} (h : f n = true) : given (n + 1) f e = given n f e ++ [e n] := by
  unfold given
  rw [List.range_succ, List.filter_append, List.map_append]
  simp [h]
theorem given_no {n : Nat} {f : Nat → Bool} {e : Nat → PyData} (h : f n = false) : given (n + 1) f e = given n f e := by
  unfold given
  rw [List.range_succ, List.filter_append, List.map_append]
  simp [h]
theorem given_le (n : Nat) (f : Nat → Bool) (e : Nat → PyData) : (given n f e).length ≤ n := by
  unfold given
  rw [List.length_map]
  have := List.length_filter_le f (List.range n)
  rw [List.length_range] at this
  exact this
theorem ev_lc {g : TG} {vs : List Nat} {n : Nat} {it : Nat → PyData} (f : Nat → Bool) (el : Nat → PyData) (w : Wk K M wi σ H n it) (hn : n ≤ 1000000)
    (hs : ∀ M' H' i x, Go M H M' H' → i < n → Dm K M' H' x (it i) → ∃ σ2, Tk g x (wipe σ vs) H' σ2 ∧ wipe σ2 vs = wipe σ vs ∧ Eb M' tt σ2 H' (f i) ∧ (f i = true → Ev K M' te σ2 H' (el i))) :
    Ev K M (tLc wi g tt te vs) σ H (.list (given n f el)) := fun M2 H1 g1 Q q =>
  w M2 H1 g1 _ fun J H2 G Y e2 wk hG hY D hD => by
    have g2 : Go M H M2 H2 := g1.same e2
    have DM : D ∉ M2 := fun z => g2.tr D z hD
    have g3 : Go M2 H2 (D :: M2) (upd H2 D (.lst [])) := go_mut g2.tr hD
    refine lc_it wk (fun i H' => Go M2 H2 (D :: M2) H' ∧ Same H2 H' ∧ ∃ acc, H' D = some (.lst acc) ∧ Dms K (D :: M2) H' acc (given i f el) ∧ acc.length ≤ i)
      ⟨g3, same_new hD, [], upd_same, .nil, Nat.le_refl _⟩ (fun i H' _ p => hG _ _ p.1) (fun i z H' H4 hi p hy => ?_) (fun H' p => ?_)
    · obtain ⟨p1, ps, acc, p2, p3, p4⟩ := p
      obtain ⟨e4, d4⟩ := hY _ i H' z H4 p1 hi hy
      have g4 := p1.same e4
      obtain ⟨σ2, t1, t2, t3, t4⟩ := hs _ H4 i z (g2.trans g4) hi d4
      refine t1 _ ⟨t2, t3 _ H4 (Go.refl g4.tr) _ fun H5 e5 => ?_⟩
      have g5 := g4.same e5
      cases hf : f i with
      | true =>
        show te σ2 H5 _
        refine t4 hf _ H5 ((Go.refl g4.tr).same e5) _ fun v H6 e6 d6 => ?_
        have g6 := g5.same e6
        have s6 := (e4.trans e5).trans e6
        have a6 : H6 D = some (.lst acc) := s6 _ _ p2
        refine ⟨acc, a6, Nat.lt_of_le_of_lt p4 (by rw [sizeLine_eq]; omega), ?_⟩
        have g7 : Go M2 H2 (D :: M2) (upd H6 D (.lst (acc ++ [v]))) := g6.trans (go_set g6.tr (List.mem_cons_self ..))
        refine ⟨g7, fun b o hb => ?_, acc ++ [v], upd_same, ?_, ?_⟩
        · rw [upd_ne (ne_of_none hb hD)]
          exact s6 _ _ (ps _ _ hb)
        · rw [given_yes hf]
          have k := go_set (o := .lst (acc ++ [v])) g6.tr (List.mem_cons_self (a := D) (l := M2))
          exact (dms_go p3 (((Go.refl p1.tr).same s6).trans k)).append (.cons (dm_go d6 k) .nil)
        · rw [List.length_append]
          show acc.length + 1 ≤ i + 1
          omega
      | false =>
        show Go M2 H2 (D :: M2) H5 ∧ _
        have s5 := e4.trans e5
        refine ⟨g5, ps.trans s5, acc, s5 _ _ p2, ?_, by omega⟩
        rw [given_no hf]
        exact dms_go p3 ((Go.refl p1.tr).same s5)
    · obtain ⟨p1, ps, acc, p2, p3, p4⟩ := p
      refine q _ _ (e2.trans ps) (.lst (xs := acc) ?_ ?_)
      · rw [mn_out DM]
        exact p2
      · refine Das.same (fun b o hb => ?_) _ _ p3
        obtain ⟨h1, h2⟩ := mn_some hb
        rw [mn_out (fun z => h1 (List.mem_cons_of_mem _ z))]
        exact h2
end

/-! ### statements -/
section
variable {K : PySem.W.Frag} {M M' : List Addr} {σ : S} {H H' : Hp} {te : TE} {tt : TT} {as : TA} {d e : PyData} {ds es : List PyData} {x y : V} {wi : TI} {D : Ends} {t u : TS}
theorem q_asg {i : Nat} (tr : Tr M H) (h : Ev K M te σ H d) (k : ∀ v H1, Same H H1 → Tr M H1 → Dm K M H1 v d → u D (σ.set i (some v)) H1) : tSeq (tAsg te (gName i)) u D σ H :=
  h M H (Go.refl tr) _ fun v H1 e1 d1 => k v H1 e1 (tr.same e1) d1
theorem q_unp {i j : Nat} {d1 d2 : PyData} (tr : Tr M H) (h : Ev K M te σ H (.tuple [d1, d2])) (k : ∀ v w H1, Same H H1 → Tr M H1 → Dm K M H1 v d1 → Dm K M H1 w d2 → u D ((σ.set i (some v)).set j (some w)) H1) :
    tSeq (tAsg te (gTup K 2 (gCons (gName i) (gCons (gName j) gNil)))) u D σ H :=
  h M H (Go.refl tr) _ fun v H1 e1 d1 => by
    obtain ⟨v1, v2, t1, t2, t3⟩ := tk_pair (i := i) (j := j) (σ0 := σ) d1
    exact t1 _ (k v1 v2 H1 e1 (tr.same e1) t2 t3)
theorem q_par {i j : Nat} {d1 d2 : PyData} (tr : Tr M H) (h : Ea K M as σ H [d1, d2]) (k : ∀ v w H1, Same H H1 → Tr M H1 → Dm K M H1 v d1 → Dm K M H1 w d2 → u D ((σ.set i (some v)).set j (some w)) H1) :
    tSeq (tPar i j as) u D σ H :=
  h M H (Go.refl tr) _ fun vs H1 e1 d1 => by
    cases d1 with
    | cons h1 h2 =>
      cases h2 with
      | cons h2 h3 =>
        cases h3
        exact ⟨_, _, rfl, k _ _ H1 e1 (tr.same e1) h1 h2⟩
theorem s_if {b : Bool} {v : TS} (tr : Tr M H) (h : Eb M tt σ H b) (h1 : b = true → ∀ H1, Same H H1 → Tr M H1 → t D σ H1) (h2 : b = false → ∀ H1, Same H H1 → Tr M H1 → v D σ H1) : tIfS tt t v D σ H :=
  h M H (Go.refl tr) _ fun H1 e1 => by
    cases b with
    | true => exact h1 rfl H1 e1 (tr.same e1)
    | false => exact h2 rfl H1 e1 (tr.same e1)
theorem q_if {b : Bool} {v : TS} (tr : Tr M H) (h : Eb M tt σ H b) (h1 : b = true → ∀ H1, Same H H1 → Tr M H1 → t { D with nx := u D } σ H1) (h2 : b = false → ∀ H1, Same H H1 → Tr M H1 → v { D with nx := u D } σ H1) : tSeq (tIfS tt t v) u D σ H :=
  s_if (D := { D with nx := u D }) tr h h1 h2
theorem s_ret (tr : Tr M H) (h : Ev K M te σ H d) (k : ∀ v H1, Same H H1 → Tr M H1 → Dm K M H1 v d → D.rt v H1) : tRet te D σ H :=
  h M H (Go.refl tr) _ fun v H1 e1 d1 => k v H1 e1 (tr.same e1) d1
theorem q_drop (tr : Tr M H) (h : Ev K M te σ H d) (k : ∀ H1, Same H H1 → Tr M H1 → u D σ H1) : tSeq (tDrop te) u D σ H :=
  h M H (Go.refl tr) _ fun v H1 e1 d1 => k H1 e1 (tr.same e1)
/-- a for: the invariant by the heap ahead of it, the turn, the slots and the heap -/
theorem s_for {g : TG} {tb : TS} {n : Nat} {it : Nat → PyData} (tr : Tr M H) (w : Wk K M wi σ H n it) (Pv : Hp → Nat → S → Hp → Prop) (h0 : ∀ H1, Same H H1 → Tr M H1 → Pv H1 0 σ H1) (hG : ∀ H1 i σ' H', Same H H1 → Pv H1 i σ' H' → Go M H1 M H')
    (hs : ∀ H1 i σ' H' x H4, Same H H1 → i < n → Pv H1 i σ' H' → Same H' H4 → Dm K M H4 x (it i) → g x σ' H4 fun σ2 H2 => tb { D with nx := Pv H1 (i + 1), ct := Pv H1 (i + 1), bk := D.nx } σ2 H2)
    (hd : ∀ H1 σ' H', Same H H1 → Pv H1 n σ' H' → D.nx σ' H') : tFor wi g tb D σ H :=
  w M H (Go.refl tr) _ fun J H2 G Y e2 wk hG2 hY => by
    refine for_it wk (Pv H2) (h0 H2 e2 (tr.same e2)) (fun i σ' H' _ p => hG2 _ _ (hG H2 i σ' H' e2 p)) (fun i x σ' H' H4 hi p hy => ?_) (fun σ' H' p => hd H2 σ' H' e2 p)
    obtain ⟨e4, d4⟩ := hY M i H' x H4 (hG H2 i σ' H' e2 p) hi hy
    exact hs H2 i σ' H' x H4 e2 hi p e4 d4
theorem q_for {g : TG} {tb : TS} {n : Nat} {it : Nat → PyData} (tr : Tr M H) (w : Wk K M wi σ H n it) (Pv : Hp → Nat → S → Hp → Prop) (h0 : ∀ H1, Same H H1 → Tr M H1 → Pv H1 0 σ H1) (hG : ∀ H1 i σ' H', Same H H1 → Pv H1 i σ' H' → Go M H1 M H')
    (hs : ∀ H1 i σ' H' x H4, Same H H1 → i < n → Pv H1 i σ' H' → Same H' H4 → Dm K M H4 x (it i) → g x σ' H4 fun σ2 H2 => tb { D with nx := Pv H1 (i + 1), ct := Pv H1 (i + 1), bk := u D } σ2 H2)
    (hd : ∀ H1 σ' H', Same H H1 → Pv H1 n σ' H' → u D σ' H') : tSeq (tFor wi g tb) u D σ H :=
  s_for (D := { D with nx := u D }) tr w Pv h0 hG hs hd
end

/-! ### calls of defs that change nothing: R tells of arguments and answer -/
def spPure (K : PySem.W.Frag) (n : Nat) (R : List PyData → PyData → Prop) : Sp := fun vs H Q _ =>
  ∃ M ds d, Tr M H ∧ Dms K M H vs ds ∧ ds.length = n ∧ R ds d ∧ ∀ v H', Same H H' → Dm K M H' v d → Q v H'
theorem spPure_len {K : PySem.W.Frag} {n : Nat} {R : List PyData → PyData → Prop} : ∀ vs H Q E, spPure K n R vs H Q E → vs.length = n := by
  rintro vs H Q E ⟨M, ds, d, _, h, hl, _⟩
  rw [h.length, hl]
section
variable {K : PySem.W.Frag} {M M' : List Addr} {σ : S} {H H' : Hp} {as : TA} {ds : List PyData} {d : PyData}
theorem ev_val {v : V} (h : Dm K M H v d) : Ev K M (tC v) σ H d := fun M2 H1 g Q q => q v _ (Same.refl _) (dm_go h g)
theorem ev_call {n : Nat} {R : List PyData → PyData → Prop} {E : XK} (h : Ea K M as σ H ds) (hl : ds.length = n) (hp : R ds d) : Ev K M (tCall (spPure K n R) [] E as) σ H d := fun M2 H1 g Q q =>
  h M2 H1 g _ fun vs H2 e2 d2 => by
    rw [List.append_nil]
    exact ⟨M2, ds, d, (g.same e2).tr, d2, hl, hp, fun v H3 e3 d3 => q v H3 (e2.trans e3) d3⟩
end

/-! ### draws: the source's dict at s and its cells at c may change -/
def Kp (s c : Addr) (H H' : Hp) : Prop := ∀ b o, b ≠ s → b ≠ c → H b = some o → H' b = some o
def srcK (c : Addr) (left mixed turn : Int) : List (Key × V) := [(.inr "cells", .ref c), (.inr "left", .int left), (.inr "mixed", .int mixed), (.inr "turn", .int turn)]
def Src (s c : Addr) (H : Hp) : Prop := s ≠ c ∧ ∃ (cells : List Int) (left mixed turn : Int), H s = some (.dK (srcK c left mixed turn)) ∧ H c = some (.lst (cells.map V.int)) ∧ cells.length ≤ 63
theorem Kp.refl {s c : Addr} (H : Hp) : Kp s c H H := fun _ _ _ _ h => h
theorem Kp.trans {s c : Addr} {H H1 H2 : Hp} (a : Kp s c H H1) (b : Kp s c H1 H2) : Kp s c H H2 := fun p o h1 h2 h => b p o h1 h2 (a p o h1 h2 h)
theorem Kp.of {s c : Addr} {H H' : Hp} (e : Same H H') : Kp s c H H' := fun p o _ _ h => e p o h
theorem Src.same {s c : Addr} {H H' : Hp} (h : Src s c H) (e : Same H H') : Src s c H' := by
  obtain ⟨h0, cells, l, m, t, h1, h2, h3⟩ := h
  exact ⟨h0, cells, l, m, t, e _ _ h1, e _ _ h2, h3⟩
theorem Src.nn {s c : Addr} {H : Hp} (h : Src s c H) : H s ≠ none ∧ H c ≠ none := by
  obtain ⟨h0, cells, l, m, t, h1, h2, h3⟩ := h
  refine ⟨fun z => ?_, fun z => ?_⟩
  · rw [h1] at z; cases z
  · rw [h2] at z; cases z
theorem go_kp {M : List Addr} {s c : Addr} {H H' : Hp} (hs : s ∈ M) (hc : c ∈ M) (t : Tr M H) (k : Kp s c H H') (hS : Src s c H') : Go M H M H' where
  sub := fun _ h => h
  new := fun _ h => .inl h
  le := fun b o hb e => k b o (fun z => hb (z ▸ hs)) (fun z => hb (z ▸ hc)) e
  tr := fun b hb => by
    by_cases h1 : b = s
    · rw [h1]; exact hS.nn.1
    · by_cases h2 : b = c
      · rw [h2]; exact hS.nn.2
      · cases q : H b with
        | none => exact absurd q (t b hb)
        | some o => rw [k b o h1 h2 q]; intro z; cases z
def spDraw (K : PySem.W.Frag) (n : Nat) (pre : List PyData → Prop) (post : List PyData → PyData → Prop) : Sp := fun vs H Q _ =>
  ∃ M s c ws ds, vs = .ref s :: ws ∧ s ∈ M ∧ c ∈ M ∧ Src s c H ∧ Tr M H ∧ Dms K M H ws ds ∧ ds.length = n ∧ pre ds ∧
    ∀ v d H', Kp s c H H' → Src s c H' → Dm K M H' v d → post ds d → Q v H'
theorem spDraw_len {K : PySem.W.Frag} {n : Nat} {pre : List PyData → Prop} {post : List PyData → PyData → Prop} : ∀ vs H Q E, spDraw K n pre post vs H Q E → vs.length = n + 1 := by
  rintro vs H Q E ⟨M, s, c, ws, ds, rfl, _, _, _, _, h, hl, _⟩
  rw [List.length_cons, h.length, hl]
/-- an expression that may draw -/
def Dr (K : PySem.W.Frag) (s c : Addr) (M : List Addr) (te : TE) (σ : S) (H : Hp) (P : PyData → Prop) : Prop :=
  ∀ M' H1, Go M H M' H1 → Src s c H1 → ∀ Q : VK, (∀ v d H2, Kp s c H1 H2 → Src s c H2 → Dm K M' H2 v d → P d → Q v H2) → te σ H1 Q
section
variable {K : PySem.W.Frag} {M M' : List Addr} {s c : Addr} {σ : S} {H H' : Hp} {te ta tb : TE} {as : TA} {ds : List PyData} {d : PyData} {P P1 P2 : PyData → Prop} {tt : TT}
theorem dr_ev (h : Ev K M te σ H d) (hp : P d) : Dr K s c M te σ H P := fun M2 H1 g hS Q q => h M2 H1 g _ fun v H2 e2 d2 => q v d H2 (Kp.of e2) (hS.same e2) d2 hp
theorem Dr.imp (h : Dr K s c M te σ H P1) (i : ∀ d, P1 d → P d) : Dr K s c M te σ H P := fun M2 H1 g hS Q q => h M2 H1 g hS _ fun v d H2 k2 s2 d2 p => q v d H2 k2 s2 d2 (i d p)
theorem Dr.mono (h : Dr K s c M te σ H P) (g : Go M H M' H') : Dr K s c M' te σ H' P := fun M2 H1 k => h M2 H1 (g.trans k)
theorem dr_call {n i : Nat} {pre : List PyData → Prop} {post : List PyData → PyData → Prop} {E : XK} (hs : s ∈ M) (hc : c ∈ M) (hv : σ[i]? = some (some (.ref s))) (h : Ea K M as σ H ds) (hl : ds.length = n) (hp : pre ds) :
    Dr K s c M (tCall (spDraw K n pre post) [] E (tCons (tVar i) as)) σ H (post ds) := fun M2 H1 g hS Q q =>
  ⟨.ref s, hv, h M2 H1 g _ fun vs H2 e2 d2 => by
    show spDraw K n pre post ((V.ref s :: vs) ++ []) H2 Q E
    rw [List.append_nil]
    exact ⟨M2, s, c, vs, ds, rfl, g.sub s hs, g.sub c hc, hS.same e2, (g.same e2).tr, d2, hl, hp, fun v d H3 k3 s3 d3 p => q v d H3 ((Kp.of e2).trans k3) s3 d3 p⟩⟩
/-- first one thing is drawn, then what stands around it -/
theorem dr_bind {C : TE → TE} (hs : s ∈ M) (hc : c ∈ M) (hC : ∀ H1 Q, (ta σ H1 fun x H2 => C (tC x) σ H2 Q) → C ta σ H1 Q) (h : Dr K s c M ta σ H P1)
    (k : ∀ M' H' x d, Go M H M' H' → Src s c H' → Dm K M' H' x d → P1 d → Dr K s c M' (C (tC x)) σ H' P) : Dr K s c M (C ta) σ H P := fun M2 H1 g hS Q q =>
  hC H1 Q (h M2 H1 g hS _ fun x d H2 k2 s2 d2 p => by
    have g2 : Go M H M2 H2 := g.trans (go_kp (g.sub s hs) (g.sub c hc) g.tr k2 s2)
    exact k M2 H2 x d g2 s2 d2 p M2 H2 (Go.refl g2.tr) s2 Q fun v e H3 k3 s3 d3 p3 => q v e H3 (k2.trans k3) s3 d3 p3)
theorem dr_opl {r : R2} (hs : s ∈ M) (hc : c ∈ M) (h : Dr K s c M ta σ H P1) (k : ∀ M' H' x d, Go M H M' H' → Src s c H' → Dm K M' H' x d → P1 d → Dr K s c M' (tOp r (tC x) tb) σ H' P) : Dr K s c M (tOp r ta tb) σ H P :=
  dr_bind (C := fun t => tOp r t tb) hs hc (fun _ _ q => q) h k
theorem dr_opr {r : R2} {x : V} (hs : s ∈ M) (hc : c ∈ M) (h : Dr K s c M tb σ H P1) (k : ∀ M' H' y d, Go M H M' H' → Src s c H' → Dm K M' H' y d → P1 d → Dr K s c M' (tOp r (tC x) (tC y)) σ H' P) : Dr K s c M (tOp r (tC x) tb) σ H P :=
  dr_bind (C := fun t => tOp r (tC x) t) hs hc (fun _ _ q => q) h k
theorem dr_cb {r : List V → Hp → VK → Prop} (hs : s ∈ M) (hc : c ∈ M) (h : Dr K s c M ta σ H P1) (k : ∀ M' H' x d, Go M H M' H' → Src s c H' → Dm K M' H' x d → P1 d → Dr K s c M' (tCB r (tCons (tC x) tNil)) σ H' P) : Dr K s c M (tCB r (tCons ta tNil)) σ H P :=
  dr_bind (C := fun t => tCB r (tCons t tNil)) hs hc (fun _ _ q => q) h k
theorem dr_sl {r : V → Option Int → Option Int → Hp → VK → Prop} {tl th : TO} (hs : s ∈ M) (hc : c ∈ M) (h : Dr K s c M ta σ H P1) (k : ∀ M' H' x d, Go M H M' H' → Src s c H' → Dm K M' H' x d → P1 d → Dr K s c M' (tSl r (tC x) tl th) σ H' P) : Dr K s c M (tSl r ta tl th) σ H P :=
  dr_bind (C := fun t => tSl r t tl th) hs hc (fun _ _ q => q) h k
end
end Dq

/-! enumerate(tuple), tuple[::-1] -/
namespace PySem
open Sem (wp)
abbrev enumObj (a : Addr) : Obj := { cls := .type "enumerate", data := .fields #[.none, .bool false, .ref a, rawInt 0, .none, .none] }
abbrev tupIt (t : Addr) : Obj := { cls := .type "tuple_iterator", data := .fields #[.ref t, .int 0 0] }
theorem meets_enum_tup1 {v : Value} {o : Obj} {Hq : Heap → Prop} (B : Begins v o Hq) :
    Meets (Builtin.«enumerate.__new__» ⟨[.type "enumerate", v], []⟩) (fun _ R s => Hq s.heap ∧
      R (.ok (.ret (.ref (s.heap.push o).objs.size))) { s with heap := (s.heap.push o).push (enumObj s.heap.objs.size) }) :=
  .of_wp fun prog w A R s h => by
    obtain ⟨hp, g, d, tk, os⟩ := s
    obtain ⟨h1, h⟩ := h
    have hsub := sub_enumerate
    have q1 : ∀ {A' : Around} {E : Value → Shared → Prop} {Q : Value → Shared → Prop},
        Q (.ref hp.objs.size) ⟨hp.push o, g, d, tk, os⟩ → wpAny (model prog w) A' (pyIter v) Q E ⟨hp, g, d, tk, os⟩ :=
      fun q => B.iter prog w _ _ ⟨hp, g, d, tk, os⟩ _ h1 q
    wp_walk using q1
    refine wpAny_stack_any fun st => wpAny_pure ?_
    split
    · rename_i c _ _ _ _ _
      by_cases hcl : (c == Value.type "enumerate") = true
      all_goals
        first
          | (wp_walk using q1
             exact ⟨_, rfl, h⟩)
          | (cases (c == Value.type "enumerate")
             · wp_walk using q1
               exact ⟨_, rfl, h⟩
             · wp_walk using q1
               exact ⟨_, rfl, h⟩)
    · wp_walk using q1
      exact ⟨_, rfl, h⟩
section
variable {prog : Program} {w : World} {A : Around} {E : Value → Shared → Prop} {s : Shared}
theorem call_enum_tup {t : Addr} {items : Array Value} {Q : Value → Shared → Prop} (ht : s.heap.IsTuple t items)
    (h : ∀ h', IsEnum h' (s.heap.objs.size + 1) s.heap.objs.size 0 .none → h'.IsTupleIter s.heap.objs.size t 0 → h'.objs.size = s.heap.objs.size + 2 →
      (∀ b o, s.heap.get? b = some o → h'.get? b = some o) → Q (.ref (s.heap.objs.size + 1)) { s with heap := h' }) :
    wpAny (model prog w) A (call (.type "enumerate") [.ref t]) Q E s := by
  refine callType_new F.called_enumerate (by decide) (F.typeCall_enumerate_1 _) (F.newCall_enumerate_1 _) (fun obj => F.args_object_init_2 obj _)
    F.entry_enumerate_new (meets_enum_tup1 (begins_tuple t items)) ⟨ht, ?_⟩
  have hz : (s.heap.push (tupIt t)).objs.size = s.heap.objs.size + 1 := Heap.size_push ..
  have he : ((s.heap.push (tupIt t)).push (enumObj s.heap.objs.size)).get? (s.heap.objs.size + 1) = some (enumObj s.heap.objs.size) := by
    have hq := Heap.get?_push_size (s.heap.push (tupIt t)) (o := enumObj s.heap.objs.size) rfl
    rw [hz] at hq
    exact hq
  show _ ∧ _
  rw [hz]
  refine ⟨⟨_, he, rfl⟩, h _ he ⟨tupIt t, Heap.get?_push_of_some _ (Heap.get?_push_size _ rfl), rfl, rfl⟩ ?_ ?_⟩
  · rw [Heap.size_push, hz]
  · intro b u x
    exact Heap.get?_push_of_some _ (Heap.get?_push_of_some _ x)
end
end PySem

namespace Dq
open PySem PySem.Spec PyProof.Rows L2 Gd
def ItEt (K : PySem.W.Frag) (a : Addr) : It :=
  ⟨fun i H => ∃ (xs : List V) (x : V), SqT K H a xs ∧ xs[i]? = some x,
   fun i H v H' => ∃ T x, v = .ref T ∧ H T = none ∧ H' = upd H T (.tup [.int (i : Nat), x]) ∧ ∀ xs, SqT K H a xs → xs[i]? = some x,
   fun i H => ∃ xs : List V, SqT K H a xs ∧ xs.length ≤ i⟩
theorem turn_enumT {P : Program} {w : World} {K : PySem.W.Frag} {elts : List Expr} {kk : Nat} {tpos : Pos} (a e it : Addr) :
    Turn P w K (.Tuple elts kk tpos) (ItEt K a) [e, it] e (fun i h => (∃ old, IsEnum h e it ((i : Nat) : Int) old) ∧ h.IsTupleIter it a i ∧ e ≠ it) where
  mem := List.mem_cons_self ..
  obj := fun i h st b hb => by
    obtain ⟨⟨old, he⟩, ⟨o, ho, hc, hd⟩, _⟩ := st
    rcases List.mem_cons.mp hb with z | z
    · rw [z]; exact ⟨_, he, fun v q => nomatch q⟩
    · rw [List.mem_singleton.mp z]; exact ⟨o, ho, fun v q => by rw [hd] at q; cases q⟩
  keep := fun i h h' st k => by
    obtain ⟨⟨old, he⟩, hi, hne⟩ := st
    exact ⟨⟨old, k e (by simp) _ he⟩, hi.at fun o q => k it (by simp) o q, hne⟩
  item := by
    intro X hP hw hK hc i pins s σ H E I hf st hg
    subst hP hw hK
    obtain ⟨⟨old, he⟩, hit, hne⟩ := st
    obtain ⟨xs, x, hq, hx⟩ := hg
    obtain ⟨its, rv, p, hz⟩ := I.tuple hq
    obtain ⟨u, hu, ru⟩ := rv.get hx
    have hel : e < s.heap.objs.size := Heap.lt_size he
    have hil : it < s.heap.objs.size := by obtain ⟨_, q, _⟩ := hit; exact Heap.lt_size q
    have hat : a ≠ it := by
      intro z
      obtain ⟨o1, g1, c1, _⟩ := hit
      obtain ⟨o2, g2, c2, _⟩ := p
      rw [← z, g2] at g1
      cases g1
      rw [c2] at c1
      exact absurd (Value.type.inj c1) (by decide)
    have hae : e ≠ a := by
      intro z
      obtain ⟨o2, g2, c2, _⟩ := p
      have he2 : s.heap.get? e = some _ := he
      rw [z, g2] at he2
      cases he2
      exact absurd (Value.type.inj c2) (by decide)
    have D := Draws.tuple (prog := X.prog) (w := X.w) (A := X.A.in1) (I.ok.hd hc) it a hat its.toArray
    refine wpAny_pyNext_enum_itemD D he ⟨hit, p⟩ (show i < its.toArray.size by rw [List.size_toArray]; exact (List.getElem?_eq_some_iff.mp hu).1) hne
      (by simp only [List.mem_cons, List.not_mem_nil, or_false]; exact fun z => z.elim hne hae) fun y h' tk hy ho hst' hT hsz hk => ?_
    have hyu : y = u := by
      rw [List.getElem?_toArray, hu] at hy
      exact (Option.some.inj hy).symm
    subst hyu
    refine ⟨_, rfl, wpAny_letOwnedTupleGo_enum (s := { s with heap := h', toks := tk + 1 }) ho fun h2 he' sb => ?_⟩
    have hT2 : h2.get? s.heap.objs.size = some { cls := .type "tuple", data := .seq #[.int i tk, y] } := (sb.2 _ (Nat.ne_of_gt hel)).trans hT
    have new : ObjOk X.prog X.w (upd H s.heap.objs.size (.tup [.int (i : Nat), x])) h2 s.heap.objs.size (.tup [.int (i : Nat), x]) :=
      ⟨(by show 2 ≤ sizeLine; decide), [.int i tk, y], .cons ⟨_, rfl⟩ (.cons ru .nil), ⟨_, hT2, rfl, _, rfl⟩⟩
    have I1 : Inv X pins σ (upd H s.heap.objs.size (.tup [.int (i : Nat), x])) { s with heap := h2, toks := tk + 1 } :=
      I.turnedNew (ch := [e, it]) (fun b ob hb q => (sb.2 b (fun z => hb (by simp [z]))).trans
        (hk b ob (fun z => hb (by simp [z])) (fun z => hb (by simp [z])) q)) hf (Nat.le_refl _) new
    refine ⟨.ref s.heap.objs.size, _, I1, rfl, ⟨_, x, rfl, I.hok.fresh (Nat.le_refl _), rfl, fun ys hy => by rw [I.tuple_inj hy hq]; exact hx⟩,
      ⟨⟨y, ?_⟩, hst'.1.at fun o q => (sb.2 it (Ne.symm hne)).trans q, hne⟩, fun b hb => ?_⟩
    · have e1 : ((i + 1 : Nat) : Int) = (i : Int) + 1 := by omega
      rw [e1]
      exact he'
    · have hb2 : b < s.heap.objs.size := by
        rcases List.mem_cons.mp hb with z | z
        · rw [z]; exact hel
        · rw [List.mem_singleton.mp z]; exact hil
      rw [upd_ne (Nat.ne_of_lt hb2)]
      exact (hf b hb).1
  done := by
    intro X hP hw hK hc i pins s σ H E I hf st hg
    subst hP hw hK
    obtain ⟨⟨old, he⟩, hit, hne⟩ := st
    obtain ⟨xs, hq, hx⟩ := hg
    obtain ⟨its, rv, p, hz⟩ := I.tuple hq
    obtain ⟨f0, f1, f2, f3, f4, f5⟩ := hf it (by simp)
    have hl := rv.length
    have hT : s.TypeIs (.ref e) "enumerate" := ⟨_, he, rfl⟩
    unfold pyNext
    refine wpAny_bind (wpAny_attempt (wpAny_callSpecial?_slot (name := Str.ofString "__next__") hT F.slot_enumerate_next
      (wpAny_call_entry F.slot_enumerate_next hT F.entry_enumerate_next ?_ (F.args_enumerate_next_1 _))))
    show wpAny _ _ (field (.ref e) 2 >>= _) _ _ _
    refine wpAny_bind (wpAny_field he rfl (x := .ref it) rfl ?_)
    refine wpAny_bind (wpAny_nextOf_tuple_end (I.ok.hd hc) hit (show s.heap.IsTuple a its.toArray from p) (by simp; omega) fun h' x he2 hx2 => ?_)
    obtain ⟨o, ho, hc2⟩ := hx2
    refine wpAny_bind (wpAny_isInstance (T := "StopIteration") (b := true) ⟨o, ho, hc2⟩ isSubtype_stop ?_)
    exact wpAny_pure ⟨rfl, I.turned (t' := s.toks) (fun b o hb q => he2 b o hb q) f0 f1 f3 f4 f5⟩
  self := fun A i s Q E st h => by
    obtain ⟨⟨_, he⟩, _⟩ := st
    exact wpAny_pyIter_enum he h
def iEnumT (K : PySem.W.Frag) (ta : TA) : TI := fun σ H R => ta σ H fun vs H1 => ∃ a xs, vs = [.ref a] ∧ SqT K H1 a xs ∧ R (ItEt K a) H1
theorem pi_enumT {X : Cx} {e : Expr} {ta : TA} {p pos tpos : Pos} {elts : List Expr} {kk : Nat} (hg : Gl X "enumerate") (hm : X.mg "enumerate" = none) (ha : PA X [e] ta)
    (hs : starEach [e] X.env = [(false, eval e X.env)] := by rfl) : PI X (.Tuple elts kk tpos) (.Call (.Name "enumerate" p) [e] [] pos) (iEnumT X.K ta) := by
  constructor
  intro pins s σ H R I h
  refine Call_ (ld_blt I hg hm boot_enumerate (PyProof.Rows.callWith_type1 (thn (ha.run pos pins s σ H _ I h) ?_) hs rfl))
  rintro us s1 ⟨vs, H1, I1, r1, a, xs, rfl, hq, q⟩
  cases r1 with
  | cons r rr =>
    cases rr
    cases r
    obtain ⟨its, rv, p2, hz⟩ := I1.tuple hq
    refine call_enum_tup (show s1.heap.IsTuple a its.toArray from p2) fun h' he hit hsz hk => wpAny_pyIter_enum he ?_
    have I2 : Inv X pins σ H1 { s1 with heap := h' } := I1.kept (t' := s1.toks) hk
    refine ⟨s1.heap.objs.size + 1, [s1.heap.objs.size + 1, s1.heap.objs.size], _, _, H1, rfl, I2, turn_enumT a _ s1.heap.objs.size, ⟨⟨.none, he⟩, hit, Nat.succ_ne_self _⟩, fun b hb => ?_, q⟩
    have hle : s1.heap.objs.size ≤ b := by
      rcases List.mem_cons.mp hb with z | z
      · rw [z]; exact Nat.le_add_right _ _
      · rw [List.mem_singleton.mp z]; exact Nat.le_refl _
    exact I1.fpOk hle (I1.hok.fresh hle)
theorem walk_enumT {K : PySem.W.Frag} {a : Addr} {xs : List V} : Walk (ItEt K a) xs.length (fun H => SqT K H a xs) (YPair (fun i => some (.int (i : Nat))) (fun i => xs[i]?)) := by
  refine ⟨fun i _ hi q => ⟨xs, xs[i], q, by simp [hi]⟩, fun _ q => ⟨xs, q, Nat.le_refl _⟩, fun i H v H' _ q y => ?_⟩
  obtain ⟨T, x, h1, h2, h3, h4⟩ := y
  exact ⟨T, .int (i : Nat), x, h1, h2, h3, rfl, h4 xs q⟩
theorem wk_enumT {K : PySem.W.Frag} {M : List Addr} {σ : S} {H : Hp} {as : TA} {ds : List PyData} (h : Ea K M as σ H [.tuple ds]) : Wk K M (iEnumT K as) σ H ds.length (fun i => .tuple [.int (i : Nat), at0 ds i]) := fun M2 H1 g R k =>
  h M2 H1 g _ fun vs H2 e2 d2 => by
    cases d2 with
    | cons p q =>
      cases q
      cases p with
      | @tup a xs _ hs hx =>
        refine ⟨a, xs, rfl, same_sqt mn_same hs, ?_⟩
        have w := walk_enumT (K := K) (a := a) (xs := xs)
        rw [hx.length] at w
        refine k _ _ _ _ e2 w (fun M3 H3 g3 => same_sqt mn_same (same_sqt g3.mn hs)) fun M3 i H3 z H4 g3 hi hy => ?_
        obtain ⟨T, u, w, rfl, hT, rfl, e5, e6⟩ := hy
        cases e5
        refine ⟨same_new hT, dm_newT g3.tr hT ?_⟩
        obtain ⟨d2, q3, q4⟩ := hx.getV e6
        rw [at0_get hi] at q3
        cases q3
        exact .cons (.int _) (.cons (Da.same g3.mn _ _ q4) .nil)

/-! ### t[::-1] -/
theorem back_places (n : Nat) : Builtin.Slice.slicePlaces ((n : Int) - 1) (-1) (-1) = n := by
  unfold Builtin.Slice.slicePlaces
  rw [if_neg (by decide)]
  by_cases h : (n : Int) - 1 > -1
  · rw [if_pos h, show (-(-1 : Int)) = 1 from rfl, Int.ediv_one]
    omega
  · rw [if_neg h]
    omega
theorem fm_congr {α β : Type} {f g : α → Option β} : ∀ (l : List α), (∀ m ∈ l, f m = g m) → l.filterMap f = l.filterMap g
  | [], _ => rfl
  | x :: l, h => by
    rw [List.filterMap_cons, List.filterMap_cons, h x (List.mem_cons_self ..), fm_congr l fun m hm => h m (List.mem_cons_of_mem _ hm)]
theorem back_pick (xs : List Value) : ((List.range xs.length).filterMap fun (m : Nat) => xs.toArray[(((xs.length : Int) - 1) + (m : Int) * (-1)).toNat]?) = xs.reverse := by
  have e1 : ∀ m ∈ List.range xs.length, xs.toArray[(((xs.length : Int) - 1) + (m : Int) * (-1)).toNat]? = xs.reverse[m]? := by
    intro m hm
    have hm := List.mem_range.mp hm
    rw [List.getElem?_toArray, List.getElem?_reverse hm]
    congr 1
    omega
  have e2 : ((List.range xs.length).filterMap fun (m : Nat) => xs.toArray[(((xs.length : Int) - 1) + (m : Int) * (-1)).toNat]?) = (List.range xs.length).filterMap fun m => xs.reverse[m]? := by
    exact fm_congr _ e1
  rw [e2]
  have h := PySem.W.krv_all xs.reverse.toArray
  simpa using h
section
variable {prog : Program} {w : World} {A : Around} {E : Value → Shared → Prop} {s : Shared}
theorem getItem_tuple_back {t sl : Addr} {items : List Value} {vk : Value} {Q : Value → Shared → Prop} (ht : IsTup s.heap t items.toArray)
    (hs : s.heap.IsSliceOf sl .none .none vk) (pk : IsPart vk (some (-1))) (h : Q (.ref s.heap.objs.size) { s with heap := s.heap.push { cls := .type "tuple", data := .seq items.reverse.toArray } })
    (hsz : items.length ≤ sizeLine) : wpAny (model prog w) A (getItem (.ref t) (.ref sl)) Q E s := by
  have hok : sizeOk (.seq items.reverse.toArray) := by
    show items.reverse.toArray.size ≤ sizeLine
    rw [List.size_toArray, List.length_reverse]
    exact hsz
  obtain ⟨os, hos, hcs, hds⟩ := id hs
  have hTs : s.TypeIs (.ref sl) "slice" := ⟨os, hos, hcs⟩
  unfold getItem
  try with_reducible refine wpAny_holding ?_
  first | refine wpAny_bind (wpAny_pure ?_) | skip
  refine wpAny_bind (wpAny_sequenceKey ht.typeIs (by decide) ?_)
  refine wpAny_bind (wpAny_callSpecial?_slot (name := Str.ofString "__getitem__") ht.typeIs PyProof.Rows.slot_tuple_getitem
    (wpAny_call_entry PyProof.Rows.slot_tuple_getitem ht.typeIs entry_tuple_getitem ?_ (args_tuple_getitem _ _)))
  show wpAny _ _ (Builtin.Tuple.tupleItemsOf (.ref t) >>= _) _ _ s
  refine wpAny_bind (tupleItemsOf_ ht ?_)
  refine wpAny_bind (wpAny_typeOf hTs ?_)
  rw [if_pos (by decide)]
  rw [List.size_toArray]
  have app : ∀ Q : Int × Int × Nat → Shared → Prop, Q ((items.length : Int) - 1, -1, items.length) s → wpAny (model prog w) A.in1 (Builtin.Slice.sliceApplied (.ref sl) (pure (items.length : Int))) Q E s := by
    intro Q hQ
    unfold Builtin.Slice.sliceApplied Builtin.Slice.sliceFields
    refine wpAny_bind (wpAny_bind (wpAny_field hos hds (x := .none) rfl (wpAny_bind (wpAny_field hos hds (x := .none) rfl (wpAny_bind (wpAny_field hos hds (x := vk) rfl (wpAny_pure ?_)))))))
    refine wpAny_bind (HT.slicePart_ pk ?_)
    show wpAny _ _ (if ((-1 : Int) == 0) = true then _ else _) _ _ s
    rw [if_neg (by decide)]
    refine wpAny_bind (HT.slicePart_ .none (wpAny_bind (HT.slicePart_ .none (wpAny_bind (wpAny_pure ?_)))))
    show wpAny _ _ (pure (((items.length : Int) - 1), (-1 : Int), Builtin.Slice.slicePlaces ((items.length : Int) - 1) (-1) (-1))) _ _ s
    rw [back_places]
    exact wpAny_pure hQ
  refine wpAny_bind (app _ ?_)
  show wpAny _ _ (if (((items.length : Int) - 1) == 0 && (-1 : Int) == 1 && items.length == items.length) = true then _ else _) _ _ s
  rw [if_neg (by simp)]
  rw [back_pick]
  first
    | exact wpAny_bind (m := Builtin.Tuple.tupleExact _) (wpAny_newObj_type (wpAny_pure ⟨_, rfl, wpAny_pure h⟩) hok)
    | exact wpAny_bind (m := Builtin.Tuple.tupleExact _) (wpAny_newObj_type (wpAny_bind (wpAny_pure (wpAny_pure ⟨_, rfl, wpAny_pure h⟩))) hok)
    | exact wpAny_bind (wpAny_bind (m := Builtin.Tuple.tupleExact _) (wpAny_newObj_type (wpAny_pure (wpAny_pure ⟨_, rfl, wpAny_pure h⟩)) hok))
    | exact wpAny_bind (wpAny_bind (m := Builtin.Tuple.tupleExact _) (wpAny_newObj_type (wpAny_pure ⟨_, rfl, wpAny_pure h⟩) hok))
end
def tRevT (K : PySem.W.Frag) (te : TE) : TE := fun σ H Q => te σ H fun x H1 => ∃ a xs, x = .ref a ∧ SqT K H1 a xs ∧ ∀ p, H1 p = none → Q (.ref p) (upd H1 p (.tup xs.reverse))
theorem pe_revT {X : Cx} {e : Expr} {te : TE} {k : Nat} {p1 p2 p3 pos : Pos} (he : PE X e te) : PE X (.Subscript e (.Slice none none (some (.UnaryOp .USub (.Constant (.int 1) k p1) p2)) p3) pos) (tRevT X.K te) := by
  constructor
  intro pins s σ H Q I h
  refine Subscript_ (thn (he.run pins s σ H _ I h) ?_)
  rintro v s1 ⟨x, H1, I1, r1, a, xs, rfl, hx, q⟩
  cases r1
  have part : PO X (some (.UnaryOp .USub (.Constant (.int 1) k p1) p2)) (tPart (tUn (rU fun i => .int (-i)) (tC (.int 1)))) := po_some (pe_un un_neg pe_int)
  refine wpAny_Slice (thn (po_none.run pins s1 σ H1 (fun o H2 => o = none ∧ H2 = H1) I1 ⟨rfl, rfl⟩) ?_)
  rintro vl s2 ⟨l, H2, I2, pl, rfl, rfl⟩
  refine thn (po_none.run pins s2 σ _ (fun o H3 => o = none ∧ H3 = H2) I2 ⟨rfl, rfl⟩) ?_
  rintro vu s3 ⟨u, H3, I3, pu, rfl, rfl⟩
  refine thn (part.run pins s3 σ _ (fun o H4 => o = some (-1) ∧ H4 = H3) I3 ⟨1, rfl, -1, rfl, rfl, rfl⟩) ?_
  rintro vs s4 ⟨o, H4, I4, ps, rfl, rfl⟩
  cases pl
  cases pu
  have I5 : Inv X pins σ H4 { s4 with heap := s4.heap.push { cls := .type "slice", data := .fields #[.none, .none, vs] } } := I4.kept (t' := s4.toks) fun b ob q => Heap.get?_push_of_some _ q
  obtain ⟨its, r, ht, hz⟩ := I5.tuple hx
  show wpAny (model X.prog X.w) X.A (subscriptTail e (.Slice none none (some (.UnaryOp .USub (.Constant (.int 1) k p1) p2)) p3) (.ref a) (.ref s4.heap.objs.size)) (EP X pins σ Q) X.xe _
  refine tail_any (ops := [.ref a, .ref s4.heap.objs.size]) ht.typeIs PyProof.Rows.slot_tuple_getitem.lookup ?_ (by with_unfolding_all rfl)
  refine getItem_tuple_back ht (Heap.IsSliceOf.new _ .none .none vs) ps ?_ (by rw [← r.length]; exact hz)
  refine ⟨.ref _, _, I5.laid (t' := s4.toks) (o := .tup xs.reverse) (fun b ob q => Heap.get?_push_of_some _ q) (Nat.le_refl _) ?_, rfl, q _ (I5.hok.fresh (Nat.le_refl _))⟩
  exact ⟨(by rw [List.length_reverse]; exact hz), _, r.reverse, IsTup.new _ _⟩
section
variable {K : PySem.W.Frag} {M : List Addr} {σ : S} {H : Hp} {te : TE} {ds : List PyData}
theorem ev_revT (ha : Ev K M te σ H (.tuple ds)) : Ev K M (tRevT K te) σ H (.tuple ds.reverse) := fun M2 H1 g Q q =>
  ha M2 H1 g _ fun v H2 e2 d2 => by
    have t2 := (g.same e2).tr
    cases d2 with
    | @tup a xs _ hs hx => exact ⟨a, xs, rfl, same_sqt mn_same hs, fun p hp => q _ _ (e2.trans (same_new hp)) (dm_newT t2 hp hx.reverse)⟩
end
end Dq

/-! the rules with the written part named -/
namespace Dq
open PySem PySem.Spec PyProof.Rows L2 Gd
abbrev rLenQ (K : PySem.W.Frag) : List V → Hp → VK → Prop := fun xs H Q => ∃ p ys, xs = [V.ref p] ∧ (SqL K H p ys ∨ SqT K H p ys) ∧ Q (.int ys.length) H
abbrev rListQ (K : PySem.W.Frag) : List V → Hp → VK → Prop := fun xs H Q => ∃ p ys, xs = [V.ref p] ∧ (SqL K H p ys ∨ SqT K H p ys) ∧ ∀ l, H l = none → Q (.ref l) (upd H l (.lst ys))
abbrev rTupQ (K : PySem.W.Frag) : List V → Hp → VK → Prop := fun xs H Q => ∃ p ys, xs = [V.ref p] ∧ ((SqL K H p ys ∧ ∀ l, H l = none → Q (.ref l) (upd H l (.tup ys))) ∨ (SqT K H p ys ∧ Q (.ref p) H))
section
variable {X : Cx} {K : PySem.W.Frag}
theorem ix_tup_k (h : X.K = K) : IxR X (rIxT K) := h ▸ ix_tup
theorem ix_list_k (h : X.K = K) : IxR X (rIxL K) := h ▸ ix_list
theorem sl_list_k (h : X.K = K) : SlR X (rSlL K) := h ▸ sl_list
theorem sl_tup_k (h : X.K = K) : SlR X (rSlA K) := h ▸ sl_tupA
theorem op_eq_k (h : X.K = K) (hu : X.A.units + 64 < cLine) : OpR X (compareOp .Eq) (rEqD K) := h ▸ op_eqD hu
theorem op_ne_k (h : X.K = K) (hu : X.A.units + 64 < cLine) : OpR X (compareOp .NotEq) (rNeD K) := h ▸ op_neD hu
theorem op_in_k (h : X.K = K) (hu : X.A.units + 65 < cLine) : OpR X (compareOp .In) (rInD K) := h ▸ op_inD hu
theorem op_notIn_k (h : X.K = K) (hu : X.A.units + 65 < cLine) : OpR X (compareOp .NotIn) (rNotInD K) := h ▸ op_notInD hu
theorem op_inq_k (h : X.K = K) : OpR X (compareOp .In) (rIn K false) := h ▸ op_in_seq
theorem op_notInq_k (h : X.K = K) : OpR X (compareOp .NotIn) (rIn K true) := h ▸ op_notIn_seq
theorem op_catT_k (h : X.K = K) : OpR X (binaryOp .Add) (rCatA K) := h ▸ op_catA
theorem call_len_k (h : X.K = K) : CallR X (.builtin "len") (rLenQ K) := h ▸ call_len_seq
theorem call_list_k (h : X.K = K) : CallR X (.type "list") (rListQ K) := h ▸ call_list_of
theorem call_tup_k (h : X.K = K) : CallR X (.type "tuple") (rTupQ K) := h ▸ call_tuple_of
theorem call_repr_k (h : X.K = K) (hg : X.A.guards = some []) (hu : X.A.units + 64 < cLine) : CallR X (.builtin "repr") (rReprD K) := h ▸ call_reprD hg hu
theorem cr_sorted_k (h : X.K = K) : CallR X (.builtin "sorted") (rSorted K) := h ▸ cr_sorted
theorem cr_sortedP_k (h : X.K = K) : CallR X (.builtin "sorted") (rSortedP K) := h ▸ cr_sortedP
theorem pi_list_k {tg l : Expr} {tl : TE} (h : X.K = K) (hl : PE X l tl) : PI X tg l (iList K tl) := h ▸ pi_list hl
theorem pi_tup_k {tg l : Expr} {tl : TE} (h : X.K = K) (hl : PE X l tl) : PI X tg l (iTup K tl) := h ▸ pi_tup hl
theorem pe_revL_k {e : Expr} {te : TE} {k : Nat} {p1 p2 p3 pos : Pos} (h : X.K = K) (he : PE X e te) : PE X (.Subscript e (.Slice none none (some (.UnaryOp .USub (.Constant (.int 1) k p1) p2)) p3) pos) (tRevL K te) := h ▸ pe_revL he
theorem pe_revT_k {e : Expr} {te : TE} {k : Nat} {p1 p2 p3 pos : Pos} (h : X.K = K) (he : PE X e te) : PE X (.Subscript e (.Slice none none (some (.UnaryOp .USub (.Constant (.int 1) k p1) p2)) p3) pos) (tRevT K te) := h ▸ pe_revT he
theorem pi_zip_k {e e2 : Expr} {ta : TA} {p pos tpos : Pos} {elts : List Expr} {kk : Nat} (h : X.K = K) (hg : Gl X "zip") (hm : X.mg "zip" = none) (ha : PA X [e, e2] ta)
    (h2 : PI X (.Tuple elts kk tpos) (.Call (.Name "zip" p) [e, e2] [] pos) (iZip X.K ta)) : PI X (.Tuple elts kk tpos) (.Call (.Name "zip" p) [e, e2] [] pos) (iZip K ta) := h ▸ h2
theorem pi_k {tg it : Expr} {f : PySem.W.Frag → TI} (h : X.K = K) (h2 : PI X tg it (f X.K)) : PI X tg it (f K) := h ▸ h2
theorem pe_k {e : Expr} {f : PySem.W.Frag → TE} (h : X.K = K) (h2 : PE X e (f X.K)) : PE X e (f K) := h ▸ h2
end
end Dq

/-! sizes of data; typed walks -/
namespace Dq
open PySem PySem.Spec PyProof.Rows L2 Gd

structure Fit (n k : Nat) (d : PyData) : Prop where
  short : d.leavesShort 60 = true
  shw : d.showable = true
  nod : d.hasDict = false
  lay : d.canLay0 = true
  dep : d.depth ≤ n
  wt : d.weight ≤ k
theorem Fit.mono {n k m l : Nat} {d : PyData} (h : Fit n k d) (a : n ≤ m) (b : k ≤ l) : Fit m l d := ⟨h.short, h.shw, h.nod, h.lay, Nat.le_trans h.dep a, Nat.le_trans h.wt b⟩
theorem Fit.non : Fit 0 0 .none := ⟨rfl, rfl, rfl, rfl, Nat.le_refl _, Nat.le_refl _⟩
theorem Fit.bl (b : Bool) : Fit 0 0 (.bool b) := ⟨rfl, rfl, rfl, rfl, Nat.le_refl _, Nat.le_refl _⟩
theorem log2_lt {n k : Nat} (hk : 0 < k) (h : n < 2 ^ k) : n.log2 < k := by
  by_cases h0 : n = 0
  · rw [h0]
    simpa using hk
  · exact (Nat.log2_lt h0).mpr h
theorem Fit.int {i : Int} (k : Nat) (hk : 0 < k) (hk2 : k ≤ 190) (h : i.natAbs < 2 ^ k) : Fit 0 k (.int i) := by
  have hl := log2_lt hk h
  refine ⟨?_, ?_, rfl, rfl, Nat.le_refl _, ?_⟩
  · unfold PyData.leavesShort
    refine decide_eq_true ?_
    show (PyData.shown (.int i)).length ≤ 60
    unfold PyData.shown
    show (Str.ofString (toString i)).length ≤ 60
    rw [PySem.ofString_length]
    have h2 : i.natAbs < 10 ^ 59 := Nat.lt_of_lt_of_le h (Nat.le_trans (Nat.pow_le_pow_right (by decide) hk2) (by decide +kernel))
    exact int_text_length_le10 (k := 59) (by decide) h2
  · unfold PyData.showable
    exact decide_eq_true (by omega)
  · unfold PyData.weight
    split
    · exact Nat.zero_le _
    · omega
theorem Fit.nat {i : Int} (h0 : 0 ≤ i) (h : i < 1048576) : Fit 0 20 (.int i) := Fit.int 20 (by decide) (by decide) (by omega)
section
variable {n k : Nat}
theorem fit_all : ∀ {ds : List PyData}, (∀ d ∈ ds, Fit n k d) → PyData.leavesShortAll 60 ds = true ∧ PyData.showableAll ds = true ∧ PyData.hasDictAll ds = false ∧ PyData.canLayAll0 ds = true ∧ PyData.depthAll ds ≤ n ∧ PyData.weightAll ds ≤ ds.length * (k + 1)
  | [], _ => ⟨rfl, rfl, rfl, rfl, Nat.zero_le _, Nat.zero_le _⟩
  | d :: ds, h => by
    obtain ⟨h1, h2, h3, h4, h5, h6⟩ := fit_all (ds := ds) fun e he => h e (List.mem_cons_of_mem _ he)
    have g := h d (List.mem_cons_self ..)
    refine ⟨?_, ?_, ?_, ?_, ?_, ?_⟩
    · unfold PyData.leavesShortAll; rw [g.short, h1]; rfl
    · unfold PyData.showableAll; rw [g.shw, h2]; rfl
    · unfold PyData.hasDictAll; rw [g.nod, h3]; rfl
    · unfold PyData.canLayAll0; rw [g.lay, h4]; rfl
    · unfold PyData.depthAll; exact Nat.max_le.mpr ⟨g.dep, h5⟩
    · unfold PyData.weightAll
      rw [List.length_cons, Nat.succ_mul]
      have := g.wt
      omega
theorem Fit.tuple {ds : List PyData} (h : ∀ d ∈ ds, Fit n k d) : Fit (n + 1) (ds.length * (k + 1)) (.tuple ds) := by
  obtain ⟨h1, h2, h3, h4, h5, h6⟩ := fit_all h
  exact ⟨by unfold PyData.leavesShort; exact h1, by unfold PyData.showable; exact h2, by unfold PyData.hasDict; exact h3, by unfold PyData.canLay0; exact h4, by unfold PyData.depth; omega, by unfold PyData.weight; exact h6⟩
theorem Fit.list {ds : List PyData} (h : ∀ d ∈ ds, Fit n k d) : Fit (n + 1) (ds.length * (k + 1)) (.list ds) := by
  obtain ⟨h1, h2, h3, h4, h5, h6⟩ := fit_all h
  exact ⟨by unfold PyData.leavesShort; exact h1, by unfold PyData.showable; exact h2, by unfold PyData.hasDict; exact h3, by unfold PyData.canLay0; exact h4, by unfold PyData.depth; omega, by unfold PyData.weight; exact h6⟩
theorem Fit.shaped {d : PyData} (h : Fit n k d) (hn : n ≤ 64) : SeqAt.shaped d = true := by
  unfold SeqAt.shaped
  rw [h.lay, decide_eq_true (Nat.le_trans h.dep hn)]
  rfl
theorem Fit.size {d : PyData} (h : Fit n k d) (hk : k ≤ 270000) : d.shown.length ≤ sizeLine := by
  have := PyData.shown_le 60 (by decide) d h.short
  have h2 := h.wt
  rw [sizeLine_eq]
  omega
end
theorem sz (n : Nat) (h : n ≤ 1000 := by decide) : n ≤ sizeLine := by rw [sizeLine_eq]; omega
section
variable {K : PySem.W.Frag} {M M' : List Addr} {σ : S} {H H' : Hp} {ta tb te tc : TE} {tt tu : TT} {as : TA} {d e f : PyData} {ds es : List PyData} {r : R2} {x y : V} {wi : TI}
theorem ev_reprF {n k : Nat} (ha : Ev K M ta σ H d) (hd : (∃ ds, d = .list ds) ∨ (∃ ds, d = .tuple ds)) (h : Fit n k d) (hn : n ≤ 60) (hk : k ≤ 270000) : Ev K M (tCB (rReprD K) (tCons ta tNil)) σ H (.str d.shown) :=
  ev_repr ha hd h.shw h.nod (Nat.le_trans h.dep hn) (h.size hk)
theorem ev_eqS {a b : Str} (ha : Ev K M ta σ H (.str a)) (hb : Ev K M tb σ H (.str b)) : Ev K M (tOp rEq ta tb) σ H (.bool (decide (a = b))) :=
  ev_op ha hb fun M2 H1 x y gg dx dy Q q => by
    cases dx
    cases dy
    refine ⟨rfl, ?_⟩
    have e : decide (V.str a = V.str b) = decide (a = b) := by
      by_cases h : a = b
      · rw [h]; simp
      · rw [decide_eq_false h, decide_eq_false (fun z => h (V.str.inj z))]
    rw [e]
    exact q _ _ (Same.refl _) (.bl _)
theorem ev_neS {a b : Str} (ha : Ev K M ta σ H (.str a)) (hb : Ev K M tb σ H (.str b)) : Ev K M (tOp rNe ta tb) σ H (.bool (!decide (a = b))) :=
  ev_op ha hb fun M2 H1 x y gg dx dy Q q => by
    cases dx
    cases dy
    refine ⟨rfl, ?_⟩
    have e : decide (V.str a = V.str b) = decide (a = b) := by
      by_cases h : a = b
      · rw [h]; simp
      · rw [decide_eq_false h, decide_eq_false (fun z => h (V.str.inj z))]
    rw [e]
    exact q _ _ (Same.refl _) (.bl _)

/-! ### typed walks -/
theorem at0_map {α : Type} {f : α → PyData} {xs : List α} {i : Nat} (h : i < xs.length) : at0 (xs.map f) i = f xs[i] := by
  unfold at0
  rw [List.getD_eq_getElem?_getD, List.getElem?_map, List.getElem?_eq_getElem h]
  rfl
theorem given_map {α : Type} (p : α → Bool) (g : α → PyData) : ∀ xs : List α, given xs.length (fun i => match xs[i]? with | some a => p a | none => false) (fun i => match xs[i]? with | some a => g a | none => .none) = (xs.filter p).map g
  | [] => rfl
  | x :: xs => by
    have ih := given_map p g xs
    unfold given at ih ⊢
    rw [List.length_cons, List.range_succ_eq_map, List.filter_cons, List.filter_map]
    rw [List.filter_cons]
    by_cases h : p x = true
    · rw [if_pos (show (match (x :: xs)[0]? with | some a => p a | none => false) = true from h), if_pos h, List.map_cons, List.map_cons, List.map_map]
      exact congrArg (g x :: ·) ih
    · rw [if_neg (show ¬ (match (x :: xs)[0]? with | some a => p a | none => false) = true from h), if_neg h, List.map_map]
      exact ih
theorem ev_lcT {α : Type} {g : TG} {vs : List Nat} {xs : List α} {enc : α → PyData} (p : α → Bool) (el : α → PyData) (w : Wk K M wi σ H xs.length (at0 (xs.map enc))) (hn : xs.length ≤ 1000000)
    (hs : ∀ M' H' a x, Go M H M' H' → a ∈ xs → Dm K M' H' x (enc a) → ∃ σ2, Tk g x (wipe σ vs) H' σ2 ∧ wipe σ2 vs = wipe σ vs ∧ Eb M' tt σ2 H' (p a) ∧ (p a = true → Ev K M' te σ2 H' (el a))) :
    Ev K M (tLc wi g tt te vs) σ H (.list ((xs.filter p).map el)) := by
  rw [← given_map p el xs]
  refine ev_lc _ _ w hn fun M' H' i z g3 hi dz => ?_
  rw [at0_map hi] at dz
  obtain ⟨σ2, h1, h2, h3, h4⟩ := hs M' H' xs[i] z g3 (List.getElem_mem hi) dz
  have e : xs[i]? = some xs[i] := List.getElem?_eq_getElem hi
  refine ⟨σ2, h1, h2, ?_, ?_⟩
  · rw [e]; exact h3
  · rw [e]; exact h4
/-- all of them -/
theorem ev_lcA {α : Type} {g : TG} {vs : List Nat} {xs : List α} {enc : α → PyData} (el : α → PyData) (w : Wk K M wi σ H xs.length (at0 (xs.map enc))) (hn : xs.length ≤ 1000000)
    (hs : ∀ M' H' a x, Go M H M' H' → a ∈ xs → Dm K M' H' x (enc a) → ∃ σ2, Tk g x (wipe σ vs) H' σ2 ∧ wipe σ2 vs = wipe σ vs ∧ Ev K M' te σ2 H' (el a)) :
    Ev K M (tLc wi g tYes te vs) σ H (.list (xs.map el)) := by
  have h := ev_lcT (tt := tYes) (te := te) (g := g) (vs := vs) (fun _ => true) el w hn fun M' H' a x g3 ha dx => by
    obtain ⟨σ2, h1, h2, h3⟩ := hs M' H' a x g3 ha dx
    exact ⟨σ2, h1, h2, eb_yes, fun _ => h3⟩
  rwa [List.filter_eq_self.mpr (fun _ _ => rfl)] at h
theorem ev_lcR {g : TG} {vs : List Nat} {n : Nat} {it : Nat → PyData} (el : Nat → PyData) (w : Wk K M wi σ H n it) (hn : n ≤ 1000000)
    (hs : ∀ M' H' i x, Go M H M' H' → i < n → Dm K M' H' x (it i) → ∃ σ2, Tk g x (wipe σ vs) H' σ2 ∧ wipe σ2 vs = wipe σ vs ∧ Ev K M' te σ2 H' (el i)) :
    Ev K M (tLc wi g tYes te vs) σ H (.list ((List.range n).map el)) := by
  have h := ev_lc (tt := tYes) (te := te) (g := g) (vs := vs) (fun _ => true) el w hn fun M' H' i x g3 hi dx => by
    obtain ⟨σ2, h1, h2, h3⟩ := hs M' H' i x g3 hi dx
    exact ⟨σ2, h1, h2, eb_yes, fun _ => h3⟩
  unfold given at h
  rwa [List.filter_eq_self.mpr (fun _ _ => rfl)] at h
theorem wk_tupT {α : Type} {xs : List α} {enc : α → PyData} (h : Ev K M te σ H (.tuple (xs.map enc))) : Wk K M (iTup K te) σ H xs.length (at0 (xs.map enc)) := by
  have w := wk_tup h
  rwa [List.length_map] at w
theorem wk_listT {α : Type} {xs : List α} {enc : α → PyData} (h : Ev K M te σ H (.list (xs.map enc))) : Wk K M (iList K te) σ H xs.length (at0 (xs.map enc)) := by
  have w := wk_list h
  rwa [List.length_map] at w
theorem at0_range {α : Type} {n : Nat} {f : Nat → PyData} : True := trivial
theorem ev_ofL (h : Ev K M (tCB (fun xs H Q => ∃ p ys, xs = [V.ref p] ∧ ((SqL K H p ys ∧ ∀ l, H l = none → Q (.ref l) (upd H l (.tup ys))) ∨ (SqT K H p ys ∧ Q (.ref p) H))) (tCons ta tNil)) σ H d) : Ev K M (tCB (fun xs H Q => ∃ p ys, xs = [V.ref p] ∧ ((SqL K H p ys ∧ ∀ l, H l = none → Q (.ref l) (upd H l (.tup ys))) ∨ (SqT K H p ys ∧ Q (.ref p) H))) (tCons ta tNil)) σ H d := h
end
end Dq

/-! the source's dict -/
namespace Dq
open PySem PySem.Spec PyProof.Rows L2 Gd
section
variable {c : Addr} {l m t x : Int}
theorem src_cells : valV (srcK c l m t) (.inr "cells") = some (.ref c) := by rfl
theorem src_left : valV (srcK c l m t) (.inr "left") = some (.int l) := by rfl
theorem src_mixed : valV (srcK c l m t) (.inr "mixed") = some (.int m) := by rfl
theorem src_turn : valV (srcK c l m t) (.inr "turn") = some (.int t) := by rfl
theorem put_left : putK (srcK c l m t) (.inr "left") (.int x) = srcK c x m t := by rfl
theorem put_mixed : putK (srcK c l m t) (.inr "mixed") (.int x) = srcK c l x t := by rfl
theorem put_turn : putK (srcK c l m t) (.inr "turn") (.int x) = srcK c l m x := by rfl
theorem src_merge : mergeK [] (srcK c l m t) = srcK c l m t := by rfl
theorem src_len : (srcK c l m t).length < sizeLine := by show 4 < sizeLine; decide
end
structure SrcX (s c : Addr) (H : Hp) (cells : List Int) (l m t : Int) : Prop where
  ne : s ≠ c
  d : H s = some (.dK (srcK c l m t))
  cs : H c = some (.lst (cells.map V.int))
  len : cells.length ≤ 63
theorem SrcX.src {s c : Addr} {H : Hp} {cells : List Int} {l m t : Int} (h : SrcX s c H cells l m t) : Src s c H := ⟨h.ne, cells, l, m, t, h.d, h.cs, h.len⟩
theorem Src.x {s c : Addr} {H : Hp} (h : Src s c H) : ∃ cells l m t, SrcX s c H cells l m t := by
  obtain ⟨h0, cells, l, m, t, h1, h2, h3⟩ := h
  exact ⟨cells, l, m, t, h0, h1, h2, h3⟩
section
variable {s c : Addr} {H : Hp} {cells : List Int} {l m t : Int}
theorem SrcX.gLeft (h : SrcX s c H cells l m t) : DGet H s (.str "left") (some (.int l)) := by
  have := DGet.k (k := Sum.inr "left") h.d
  rwa [src_left] at this
theorem SrcX.gCells (h : SrcX s c H cells l m t) : DGet H s (.str "cells") (some (.ref c)) := by
  have := DGet.k (k := Sum.inr "cells") h.d
  rwa [src_cells] at this
theorem SrcX.gMixed (h : SrcX s c H cells l m t) : DGet H s (.str "mixed") (some (.int m)) := by
  have := DGet.k (k := Sum.inr "mixed") h.d
  rwa [src_mixed] at this
theorem SrcX.gTurn (h : SrcX s c H cells l m t) : DGet H s (.str "turn") (some (.int t)) := by
  have := DGet.k (k := Sum.inr "turn") h.d
  rwa [src_turn] at this
theorem SrcX.pLeft (h : SrcX s c H cells l m t) (x : Int) : ∃ H', DPut H s (.str "left") (.int x) H' ∧ SrcX s c H' cells x m t ∧ Kp s c H H' := by
  refine ⟨_, DPut.k (k := Sum.inr "left") h.d src_len, ⟨h.ne, ?_, ?_, h.len⟩, fun b o h1 h2 e => ?_⟩
  · rw [upd_same, put_left]
  · rw [upd_ne h.ne.symm]; exact h.cs
  · rw [upd_ne h1]; exact e
theorem SrcX.pMixed (h : SrcX s c H cells l m t) (x : Int) : ∃ H', DPut H s (.str "mixed") (.int x) H' ∧ SrcX s c H' cells l x t ∧ Kp s c H H' := by
  refine ⟨_, DPut.k (k := Sum.inr "mixed") h.d src_len, ⟨h.ne, ?_, ?_, h.len⟩, fun b o h1 h2 e => ?_⟩
  · rw [upd_same, put_mixed]
  · rw [upd_ne h.ne.symm]; exact h.cs
  · rw [upd_ne h1]; exact e
theorem SrcX.pTurn (h : SrcX s c H cells l m t) (x : Int) : ∃ H', DPut H s (.str "turn") (.int x) H' ∧ SrcX s c H' cells l m x ∧ Kp s c H H' := by
  refine ⟨_, DPut.k (k := Sum.inr "turn") h.d src_len, ⟨h.ne, ?_, ?_, h.len⟩, fun b o h1 h2 e => ?_⟩
  · rw [upd_same, put_turn]
  · rw [upd_ne h.ne.symm]; exact h.cs
  · rw [upd_ne h1]; exact e
theorem SrcX.drop (h : SrcX s c H cells l m t) : SrcX s c (upd H c (.lst ((cells.map V.int).dropLast))) cells.dropLast l m t := by
  refine ⟨h.ne, ?_, ?_, ?_⟩
  · rw [upd_ne h.ne]; exact h.d
  · rw [upd_same, List.map_dropLast]
  · rw [List.length_dropLast]
    have := h.len
    omega
theorem Kp.set (s c : Addr) (H : Hp) (o : HO) : Kp s c H (upd H c o) := fun b u h1 h2 e => by
  rw [upd_ne h2]
  exact e
end
theorem das_ints {K : PySem.W.Frag} {H : Hp} : ∀ {ns : List Int} {vs : List V}, Das K H vs (ns.map PyData.int) → vs = ns.map V.int
  | [], _, h => by cases h; rfl
  | n :: ns, _, h => by
    cases h with
    | cons h1 h2 =>
      cases h1
      rw [das_ints h2]
      rfl
theorem ev_use {K : PySem.W.Frag} {M : List Addr} {σ : S} {H : Hp} {te : TE} {d : PyData} {Q : VK} (tr : Tr M H) (h : Ev K M te σ H d) (k : ∀ v H2, Same H H2 → Tr M H2 → Dm K M H2 v d → Q v H2) : te σ H Q :=
  h M H (Go.refl tr) Q fun v H2 e2 d2 => k v H2 e2 (tr.same e2) d2
/-- a drawn thing -/
theorem dr_use {K : PySem.W.Frag} {M : List Addr} {s c : Addr} {σ : S} {H : Hp} {te : TE} {P : PyData → Prop} {Q : VK} (hs : s ∈ M) (hc : c ∈ M) (tr : Tr M H) (hS : Src s c H) (h : Dr K s c M te σ H P)
    (k : ∀ v d H2, Kp s c H H2 → Src s c H2 → Go M H M H2 → Dm K M H2 v d → P d → Q v H2) : te σ H Q :=
  h M H (Go.refl tr) hS Q fun v d H2 k2 s2 d2 p => k v d H2 k2 s2 (go_kp hs hc tr k2 s2) d2 p
theorem pairs_c {v : V} {tv : TE} {r : List (TE × TE)} {σ : S} {H : Hp} {Q : List (V × V) → Hp → Prop} (h : tv σ H fun y H2 => tPairs r σ H2 fun ps H3 => Q ((v, y) :: ps) H3) : tPairs ((tC v, tv) :: r) σ H Q := h
theorem pairs_cc {v w : V} {r : List (TE × TE)} {σ : S} {H : Hp} {Q : List (V × V) → Hp → Prop} (h : tPairs r σ H fun ps H3 => Q ((v, w) :: ps) H3) : tPairs ((tC v, tC w) :: r) σ H Q := h
theorem pairs_cv {v x : V} {i : Nat} {r : List (TE × TE)} {σ : S} {H : Hp} {Q : List (V × V) → Hp → Prop} (hx : σ[i]? = some (some x)) (h : tPairs r σ H fun ps H3 => Q ((v, x) :: ps) H3) : tPairs ((tC v, tVar i) :: r) σ H Q := ⟨x, hx, h⟩
theorem revL_new {K : PySem.W.Frag} {M : List Addr} {σ : S} {H : Hp} {te : TE} {ds : List PyData} {Q : VK} (tr : Tr M H) (h : Ev K M te σ H (.list ds))
    (k : ∀ p vs H1, Same H H1 → Tr M H1 → H1 p = none → Dms K M H1 vs ds.reverse → Q (.ref p) (upd H1 p (.lst vs))) : tRevL K te σ H Q :=
  h M H (Go.refl tr) _ fun v H1 e1 d1 => by
    have t1 := tr.same e1
    cases d1 with
    | @lst a xs _ hs hx => exact ⟨a, xs, rfl, SqL.of (mn_same _ _ hs), fun p hp => k p _ H1 e1 t1 hp hx.reverse⟩
theorem listOf_new {K : PySem.W.Frag} {M : List Addr} {σ : S} {H : Hp} {ta : TE} {d : PyData} {ds : List PyData} {Q : VK} (tr : Tr M H) (h : Ev K M ta σ H d) (hd : d = .list ds ∨ d = .tuple ds)
    (k : ∀ p vs H1, Same H H1 → Tr M H1 → H1 p = none → Dms K M H1 vs ds → Q (.ref p) (upd H1 p (.lst vs))) :
    tCB (fun xs H Q => ∃ p ys, xs = [V.ref p] ∧ (SqL K H p ys ∨ SqT K H p ys) ∧ ∀ l, H l = none → Q (.ref l) (upd H l (.lst ys))) (tCons ta tNil) σ H Q :=
  h M H (Go.refl tr) _ fun v H1 e1 d1 => by
    have t1 := tr.same e1
    rcases hd with rfl | rfl
    · cases d1 with
      | @lst a xs _ hs hx => exact ⟨a, xs, rfl, .inl (SqL.of (mn_same _ _ hs)), fun p hp => k p _ H1 e1 t1 hp hx⟩
    · cases d1 with
      | @tup a xs _ hs hx => exact ⟨a, xs, rfl, .inr (same_sqt mn_same hs), fun p hp => k p _ H1 e1 t1 hp hx⟩
theorem q_asg0 {te : TE} {i : Nat} {u : TS} {D : Ends} {σ : S} {H : Hp} (h : te σ H fun x H1 => u D (σ.set i (some x)) H1) : tSeq (tAsg te (gName i)) u D σ H := h
theorem s_asg0 {te : TE} {i : Nat} {D : Ends} {σ : S} {H : Hp} (h : te σ H fun x H1 => D.nx (σ.set i (some x)) H1) : tAsg te (gName i) D σ H := h
theorem pairs_n {σ : S} {H : Hp} {Q : List (V × V) → Hp → Prop} (h : Q [] H) : tPairs [] σ H Q := h
/-- the script, walked -/
theorem wk_sq {K : PySem.W.Frag} {M : List Addr} {σ : S} {H : Hp} {te : TE} {a : Addr} {ns : List Int} (hS : SqL K (mn M H) a (ns.map V.int))
    (h : ∀ H1 (Q : VK), Q (.ref a) H1 → te σ H1 Q) : Wk K M (iList K te) σ H ns.length (at0 (ns.map PyData.int)) := fun M2 H1 g R k =>
  h H1 _ (by
    have h1 : SqL K (mn M2 H1) a (ns.map V.int) := (Same.seq (K := K) g.mn hS)
    refine ⟨a, rfl, ⟨_, Same.seq (K := K) mn_same h1⟩, ?_⟩
    have w := walk_list (K := K) (a := a) (xs := ns.map V.int)
    rw [List.length_map] at w
    refine k _ _ _ _ (Same.refl _) w (fun M3 H3 g3 => Same.seq (K := K) mn_same (Same.seq (K := K) g3.mn h1)) fun M3 i H3 z H4 g3 hi hy => ?_
    obtain ⟨rfl, ez⟩ := hy
    rw [List.getElem?_map, List.getElem?_eq_getElem hi] at ez
    cases ez
    rw [at0_map hi]
    exact ⟨Same.refl _, .int _⟩)
end Dq

/-! draws: arguments, tests, comprehensions; sorted pairs -/
namespace Dq
open PySem PySem.Spec PyProof.Rows L2 Gd

def Dra (K : PySem.W.Frag) (s c : Addr) (M : List Addr) (ta : TA) (σ : S) (H : Hp) (P : List PyData → Prop) : Prop :=
  ∀ M' H1, Go M H M' H1 → Src s c H1 → ∀ Q : List V → Hp → Prop, (∀ vs ds H2, Kp s c H1 H2 → Src s c H2 → Dms K M' H2 vs ds → P ds → Q vs H2) → ta σ H1 Q
def Drb (s c : Addr) (M : List Addr) (tt : TT) (σ : S) (H : Hp) (P : Bool → Prop) : Prop :=
  ∀ M' H1, Go M H M' H1 → Src s c H1 → ∀ Q : Bool → Hp → Prop, (∀ b H2, Kp s c H1 H2 → Src s c H2 → P b → Q b H2) → tt σ H1 Q
section
variable {K : PySem.W.Frag} {M M' : List Addr} {s c : Addr} {σ : S} {H H' : Hp} {te ta tb : TE} {as : TA} {ds : List PyData} {d : PyData} {P P1 P2 : PyData → Prop} {PL PL1 : List PyData → Prop} {PB : Bool → Prop} {tt : TT} {wi : TI} {D : Ends} {u : TS}
theorem go_k (hs : s ∈ M) (hc : c ∈ M) {M1 : List Addr} {H1 H2 : Hp} (g : Go M H M1 H1) (k : Kp s c H1 H2) (S2 : Src s c H2) : Go M H M1 H2 := g.trans (go_kp (g.sub s hs) (g.sub c hc) g.tr k S2)
theorem dra_nil (h : PL []) : Dra K s c M tNil σ H PL := fun M1 H1 g hS Q q => q [] [] H1 (Kp.refl _) hS .nil h
theorem dra_cons (hs : s ∈ M) (hc : c ∈ M) (h : Dr K s c M te σ H P1) (k : ∀ d M' H', Go M H M' H' → P1 d → Dra K s c M' as σ H' fun ds => PL (d :: ds)) : Dra K s c M (tCons te as) σ H PL := fun M1 H1 g hS Q q =>
  h M1 H1 g hS _ fun v d H2 k2 S2 d2 p2 => by
    have g2 := go_k hs hc g k2 S2
    refine k d M1 H2 g2 p2 M1 H2 (Go.refl g2.tr) S2 _ fun vs ds H3 k3 S3 d3 p3 => ?_
    exact q _ _ H3 (k2.trans k3) S3 (.cons (dm_go d2 (go_kp (g.sub s hs) (g.sub c hc) g2.tr k3 S3)) d3) p3
theorem dra_ea (h : Ea K M as σ H ds) (hp : PL ds) : Dra K s c M as σ H PL := fun M1 H1 g hS Q q => h M1 H1 g _ fun vs H2 e2 d2 => q vs ds H2 (Kp.of e2) (hS.same e2) d2 hp
theorem Dra.mono (h : Dra K s c M as σ H PL) (g : Go M H M' H') : Dra K s c M' as σ H' PL := fun M2 H1 k => h M2 H1 (g.trans k)
theorem dr_tup (hs : s ∈ M) (hc : c ∈ M) (h : Dra K s c M as σ H PL) (hz : ∀ ds, PL ds → ds.length ≤ 1000) (hp : ∀ ds, PL ds → P (.tuple ds)) : Dr K s c M (tTup as) σ H P := fun M1 H1 g hS Q q =>
  h M1 H1 g hS _ fun vs ds H2 k2 S2 d2 p2 => ⟨by rw [d2.length]; exact sz _ (hz ds p2), fun p hn => q _ _ _ (k2.trans (Kp.of (same_new hn))) (S2.same (same_new hn)) (dm_newT (go_k hs hc g k2 S2).tr hn d2) (hp ds p2)⟩
theorem dr_lst (hs : s ∈ M) (hc : c ∈ M) (h : Dra K s c M as σ H PL) (hz : ∀ ds, PL ds → ds.length ≤ 1000) (hp : ∀ ds, PL ds → P (.list ds)) : Dr K s c M (tLst as) σ H P := fun M1 H1 g hS Q q =>
  h M1 H1 g hS _ fun vs ds H2 k2 S2 d2 p2 => ⟨by rw [d2.length]; exact sz _ (hz ds p2), fun p hn => q _ _ _ (k2.trans (Kp.of (same_new hn))) (S2.same (same_new hn)) (dm_newL (go_k hs hc g k2 S2).tr hn d2) (hp ds p2)⟩
/-- a call whose arguments draw, too -/
theorem dr_callA {n i : Nat} {pre : List PyData → Prop} {post : List PyData → PyData → Prop} {E : XK} (hs : s ∈ M) (hc : c ∈ M) (hv : σ[i]? = some (some (.ref s))) (h : Dra K s c M as σ H PL) (hl : ∀ ds, PL ds → ds.length = n ∧ pre ds) (hp : ∀ ds d, PL ds → post ds d → P d) :
    Dr K s c M (tCall (spDraw K n pre post) [] E (tCons (tVar i) as)) σ H P := fun M2 H1 g hS Q q =>
  ⟨.ref s, hv, h M2 H1 g hS _ fun vs ds H2 k2 S2 d2 p2 => by
    show spDraw K n pre post ((V.ref s :: vs) ++ []) H2 Q E
    rw [List.append_nil]
    exact ⟨M2, s, c, vs, ds, rfl, g.sub s hs, g.sub c hc, S2, (go_k hs hc g k2 S2).tr, d2, (hl ds p2).1, (hl ds p2).2, fun v d H3 k3 s3 d3 p => q v d H3 (k2.trans k3) s3 d3 (hp ds d p2 p)⟩⟩
theorem drb_test (h : Dr K s c M te σ H P1) (hb : ∀ d, P1 d → ∃ b, d = .bool b ∧ PB b) : Drb s c M (tTest te) σ H PB := fun M1 H1 g hS Q q =>
  h M1 H1 g hS _ fun v d H2 k2 S2 d2 p2 => by
    obtain ⟨b, rfl, pb⟩ := hb d p2
    exact ⟨b, d2.blV, q b H2 k2 S2 pb⟩
theorem dr_if (hs : s ∈ M) (hc : c ∈ M) (h : Drb s c M tt σ H PB) (h1 : ∀ M' H', Go M H M' H' → PB true → Dr K s c M' ta σ H' P) (h2 : ∀ M' H', Go M H M' H' → PB false → Dr K s c M' tb σ H' P) : Dr K s c M (tIf tt ta tb) σ H P := fun M1 H1 g hS Q q =>
  h M1 H1 g hS _ fun b H2 k2 S2 pb => by
    have g2 := go_k hs hc g k2 S2
    cases b with
    | true => exact h1 M1 H2 g2 pb M1 H2 (Go.refl g2.tr) S2 Q fun v d H3 k3 S3 d3 p3 => q v d H3 (k2.trans k3) S3 d3 p3
    | false => exact h2 M1 H2 g2 pb M1 H2 (Go.refl g2.tr) S2 Q fun v d H3 k3 S3 d3 p3 => q v d H3 (k2.trans k3) S3 d3 p3
/-! statements -/
theorem d_asg {i : Nat} (hs : s ∈ M) (hc : c ∈ M) (tr : Tr M H) (hS : Src s c H) (h : Dr K s c M te σ H P) (k : ∀ v d H1, Kp s c H H1 → Src s c H1 → Go M H M H1 → Dm K M H1 v d → P d → u D (σ.set i (some v)) H1) : tSeq (tAsg te (gName i)) u D σ H :=
  h M H (Go.refl tr) hS _ fun v d H1 k1 S1 d1 p1 => k v d H1 k1 S1 (go_kp hs hc tr k1 S1) d1 p1
theorem d_ret (hs : s ∈ M) (hc : c ∈ M) (tr : Tr M H) (hS : Src s c H) (h : Dr K s c M te σ H P) (k : ∀ v d H1, Kp s c H H1 → Src s c H1 → Go M H M H1 → Dm K M H1 v d → P d → D.rt v H1) : tRet te D σ H :=
  h M H (Go.refl tr) hS _ fun v d H1 k1 S1 d1 p1 => k v d H1 k1 S1 (go_kp hs hc tr k1 S1) d1 p1
theorem d_par {i j : Nat} (hs : s ∈ M) (hc : c ∈ M) (tr : Tr M H) (hS : Src s c H) (h : Dra K s c M as σ H PL) (hl : ∀ ds, PL ds → ∃ d1 d2, ds = [d1, d2])
    (k : ∀ v w d1 d2 H1, Kp s c H H1 → Src s c H1 → Go M H M H1 → Dm K M H1 v d1 → Dm K M H1 w d2 → PL [d1, d2] → u D ((σ.set i (some v)).set j (some w)) H1) : tSeq (tPar i j as) u D σ H :=
  h M H (Go.refl tr) hS _ fun vs ds H1 k1 S1 d1 p1 => by
    obtain ⟨a, b, rfl⟩ := hl ds p1
    cases d1 with
    | cons q1 q2 =>
      cases q2 with
      | cons q2 q3 =>
        cases q3
        exact ⟨_, _, rfl, k _ _ a b H1 k1 S1 (go_kp hs hc tr k1 S1) q1 q2 p1⟩
/-- a for over a range whose end is drawn -/
theorem d_for {g : TG} {tb : TS} (hs : s ∈ M) (hc : c ∈ M) (tr : Tr M H) (hS : Src s c H) (h : Dra K s c M as σ H PL) (hj : ∀ ds, PL ds → ∃ j : Int, ds = [.int j] ∧ 0 ≤ j ∧ j ≤ 100000) (Pv : Int → Nat → S → Hp → Prop)
    (h0 : ∀ j H1, Kp s c H H1 → Src s c H1 → Go M H M H1 → PL [.int j] → Pv j 0 σ H1)
    (hst : ∀ (j : Int) (i : Nat) σ' H', PL [.int j] → (i : Int) < j → Pv j i σ' H' → g (.int (i : Nat)) σ' H' fun σ2 H2 => tb { D with nx := Pv j (i + 1), ct := Pv j (i + 1), bk := D.nx } σ2 H2)
    (hd : ∀ (j : Int) σ' H', PL [.int j] → Pv j j.toNat σ' H' → D.nx σ' H') : tFor (iRng1 as) g tb D σ H :=
  h M H (Go.refl tr) hS _ fun vs ds H1 k1 S1 d1 p1 => by
    obtain ⟨j, rfl, hj0, hj1⟩ := hj ds p1
    cases d1 with
    | cons a b =>
      cases a
      cases b
      refine ⟨j, rfl, by omega, by omega, ?_⟩
      refine for_range (Pv j) (h0 j H1 k1 S1 (go_kp hs hc tr k1 S1) p1) (fun i σ' H' hi p => ?_) (fun σ' H' p => hd j σ' H' p1 p)
      have := hst j i σ' H' p1 (by omega) p
      rw [Int.zero_add]
      exact this
theorem dq_for {g : TG} {tb : TS} (hs : s ∈ M) (hc : c ∈ M) (tr : Tr M H) (hS : Src s c H) (h : Dra K s c M as σ H PL) (hj : ∀ ds, PL ds → ∃ j : Int, ds = [.int j] ∧ 0 ≤ j ∧ j ≤ 100000) (Pv : Int → Nat → S → Hp → Prop)
    (h0 : ∀ j H1, Kp s c H H1 → Src s c H1 → Go M H M H1 → PL [.int j] → Pv j 0 σ H1)
    (hst : ∀ (j : Int) (i : Nat) σ' H', PL [.int j] → (i : Int) < j → Pv j i σ' H' → g (.int (i : Nat)) σ' H' fun σ2 H2 => tb { D with nx := Pv j (i + 1), ct := Pv j (i + 1), bk := u D } σ2 H2)
    (hd : ∀ (j : Int) σ' H', PL [.int j] → Pv j j.toNat σ' H' → u D σ' H') : tSeq (tFor (iRng1 as) g tb) u D σ H :=
  d_for (D := { D with nx := u D }) hs hc tr hS h hj Pv h0 hst hd
theorem par3_0 {i j l : Nat} {ta : TA} (h : ta σ H fun vs H1 => ∃ x y z, vs = [x, y, z] ∧ u D (((σ.set i (some x)).set j (some y)).set l (some z)) H1) : tSeq (tPar3 i j l ta) u D σ H := h
theorem cons_0 {Q : List V → Hp → Prop} (h : te σ H fun x H1 => as σ H1 fun xs H2 => Q (x :: xs) H2) : tCons te as σ H Q := h
theorem nil_0 {Q : List V → Hp → Prop} (h : Q [] H) : tNil σ H Q := h
theorem lst_0 {Q : VK} (h : ∀ p, H p = none → Q (.ref p) (upd H p (.lst []))) : tLst tNil σ H Q := ⟨Nat.zero_le _, h⟩
theorem go_drop {p : Addr} (g : Go M H (p :: M) H') (hp : H p = none) : Go M H M H' where
  sub := fun _ h => h
  new := fun _ h => .inl h
  le := fun b o hb e => g.le b o (fun z => by
    rcases List.mem_cons.mp z with z | z
    · rw [z, hp] at e
      cases e
    · exact hb z) e
  tr := fun b hb => g.tr b (List.mem_cons_of_mem _ hb)
/-- what is no longer changed -/
theorem dm_freeze {p : Addr} {vs : List V} (hp : p ∉ M) (e : H' p = some (.lst vs)) (h : Dms K (p :: M) H' vs ds) : Dm K M H' (.ref p) (.list ds) := by
  refine .lst (xs := vs) ?_ ?_
  · rw [mn_out hp]
    exact e
  · refine Das.same (fun b o hb => ?_) _ _ h
    obtain ⟨h1, h2⟩ := mn_some hb
    rw [mn_out (fun z => h1 (List.mem_cons_of_mem _ z))]
    exact h2
/-- e appended to what may be changed -/
theorem s_app {i : Nat} {p : Addr} {vs : List V} (tr : Tr M H) (hi : σ[i]? = some (some (.ref p))) (hp : H p = some (.lst vs)) (hM : p ∈ M) (h : Ev K M te σ H d) (hz : vs.length ≤ 1000)
    (k : ∀ v H1, Same H H1 → Tr M H1 → Dm K M H1 v d → Go M H1 M (upd H1 p (.lst (vs ++ [v]))) → D.nx σ (upd H1 p (.lst (vs ++ [v])))) : tDrop (tBM K "list" rAppend (tVar i) (tCons te tNil)) D σ H :=
  ⟨.ref p, hi, .inl ⟨rfl, _, SqL.of hp⟩, h M H (Go.refl tr) _ fun v H1 e1 d1 => ⟨p, vs, v, rfl, rfl, e1 _ _ hp, by rw [sizeLine_eq]; omega, k v H1 e1 (tr.same e1) d1 (go_set (tr.same e1) hM)⟩⟩
theorem src_set {p : Addr} {o : HO} (h : Src s c H) (h1 : p ≠ s) (h2 : p ≠ c) : Src s c (upd H p o) := by
  obtain ⟨h0, cl, l, mm, tt, q1, q2, q3⟩ := h
  exact ⟨h0, cl, l, mm, tt, by rw [upd_ne (Ne.symm h1)]; exact q1, by rw [upd_ne (Ne.symm h2)]; exact q2, q3⟩
theorem cut_take {hi : Option Int} : cutPd ds none hi = ds.take (HT.sIx ds.length ds.length hi) := by
  unfold cutPd
  rw [HT.sIx_none, List.drop_zero, Nat.sub_zero]
/-! comprehensions -/
theorem dr_lc {g : TG} {vs : List Nat} {n : Nat} {it : Nat → PyData} (Pe : Nat → PyData → Prop) (hs : s ∈ M) (hc : c ∈ M) (w : Wk K M wi σ H n it) (hn : n ≤ 1000000)
    (h : ∀ M' H' i x, Go M H M' H' → i < n → Dm K M' H' x (it i) → ∃ σ2, Tk g x (wipe σ vs) H' σ2 ∧ wipe σ2 vs = wipe σ vs ∧ Dr K s c M' te σ2 H' (Pe i)) :
    Dr K s c M (tLc wi g tYes te vs) σ H fun d => ∃ ds, d = .list ds ∧ ds.length = n ∧ ∀ i e, ds[i]? = some e → Pe i e := fun M2 H1 g1 hS Q q =>
  w M2 H1 g1 _ fun J H2 G Y e2 wk hG hY D hD => by
    have g2 : Go M H M2 H2 := g1.same e2
    have S2 : Src s c H2 := hS.same e2
    have DM : D ∉ M2 := fun z => g2.tr D z hD
    have hDs : D ≠ s := fun z => DM (z ▸ g1.sub s hs)
    have hDc : D ≠ c := fun z => DM (z ▸ g1.sub c hc)
    have g3 : Go M2 H2 (D :: M2) (upd H2 D (.lst [])) := go_mut g2.tr hD
    refine lc_it wk (fun i H' => Go M2 H2 (D :: M2) H' ∧ Src s c H' ∧ Kp s c H2 H' ∧ ∃ acc ds, H' D = some (.lst acc) ∧ Dms K (D :: M2) H' acc ds ∧ ds.length = i ∧ ∀ j e, ds[j]? = some e → Pe j e)
      ⟨g3, S2.same (same_new hD), Kp.of (same_new hD), [], [], upd_same, .nil, rfl, fun j e z => by simp at z⟩ (fun i H' _ p => hG _ _ p.1) (fun i z H' H4 hi p hy => ?_) (fun H' p => ?_)
    · obtain ⟨p1, pS, ps, acc, ds, p2, p3, p4, p5⟩ := p
      obtain ⟨e4, d4⟩ := hY _ i H' z H4 p1 hi hy
      have g4 := p1.same e4
      obtain ⟨σ2, t1, t2, t4⟩ := h _ H4 i z (g2.trans g4) hi d4
      refine t1 _ ⟨t2, ?_⟩
      dsimp only [tYes]
      refine iteT ?_
      refine t4 _ H4 (Go.refl g4.tr) (pS.same e4) _ fun v d H6 k6 S6 d6 pd => ?_
      have s6 : Kp s c H' H6 := (Kp.of e4).trans k6
      have g6 := go_k (M := M2) (H := H2) (g1.sub s hs) (g1.sub c hc) g4 k6 S6
      have g46 : Go (D :: M2) H' (D :: M2) H6 := go_kp (List.mem_cons_of_mem _ (g1.sub s hs)) (List.mem_cons_of_mem _ (g1.sub c hc)) p1.tr s6 S6
      have a6 : H6 D = some (.lst acc) := s6 _ _ hDs hDc p2
      have hal := p3.length
      refine ⟨acc, a6, by rw [sizeLine_eq]; omega, ?_⟩
      have gs := go_set (o := .lst (acc ++ [v])) g6.tr (List.mem_cons_self (a := D) (l := M2))
      refine ⟨g6.trans gs, ?_, fun b o h1 h2 hb => ?_, acc ++ [v], ds ++ [d], upd_same, (dms_go p3 (g46.trans gs)).append (.cons (dm_go d6 gs) .nil), by rw [List.length_append, p4]; rfl, fun j e hj => ?_⟩
      · obtain ⟨h0, cl, l, mm, tt, q1, q2, q3⟩ := S6
        exact ⟨h0, cl, l, mm, tt, by rw [upd_ne (Ne.symm hDs)]; exact q1, by rw [upd_ne (Ne.symm hDc)]; exact q2, q3⟩
      · rw [upd_ne (ne_of_none hb hD)]
        exact s6 _ _ h1 h2 (ps _ _ h1 h2 hb)
      · by_cases hjl : j < ds.length
        · rw [List.getElem?_append_left hjl] at hj
          exact p5 j e hj
        · rw [List.getElem?_append_right (by omega)] at hj
          have hj0 : j - ds.length = 0 := by
            have := (List.getElem?_eq_some_iff.mp hj).1
            simp at this
            omega
          rw [hj0] at hj
          cases hj
          have : j = i := by omega
          subst this
          exact pd
    · obtain ⟨p1, pS, ps, acc, ds, p2, p3, p4, p5⟩ := p
      refine q _ (.list ds) _ ((Kp.of e2).trans ps) pS (.lst (xs := acc) ?_ ?_) ⟨ds, rfl, p4, p5⟩
      · rw [mn_out DM]
        exact p2
      · refine Das.same (fun b o hb => ?_) _ _ p3
        obtain ⟨h1, h2⟩ := mn_some hb
        rw [mn_out (fun z => h1 (List.mem_cons_of_mem _ z))]
        exact h2
end

/-! ### sorted of pairs, of ints -/
def rSortedQ (K : PySem.W.Frag) : List V → Hp → VK → Prop := fun vs H Q => ∃ a xs, vs = [V.ref a] ∧ SqL K H a xs ∧ (∀ x ∈ xs, ∃ t i j, x = V.ref t ∧ SqT K H t [.int i, .int j]) ∧
  ∀ ys p, ys.Perm xs → H p = none → Q (.ref p) (upd H p (.lst ys))
theorem cr_sortedQ {X : Cx} {K : PySem.W.Frag} (hK : X.K = K) : CallR X (.builtin "sorted") (rSortedQ K) := by
  subst hK
  intro pins s σ H vs us Q I r h
  obtain ⟨a, xs, rfl, hs, hx, q⟩ := h
  obtain ⟨its, rv, hl, hz⟩ := I.list hs
  obtain ⟨u, rfl, ru⟩ := vals1 r
  cases ru
  have refs : ∀ x ∈ xs, ∃ t, x = V.ref t := fun x m => let ⟨t, _, _, e, _⟩ := hx x m; ⟨t, e⟩
  obtain ⟨e1, e2⟩ := refs_back rv refs
  have len : its.length = xs.length := rv.length.symm
  refine Srt.sorted_pairs hl.isList (by rw [len]; exact hz) ?_ ?_
  · intro v hv
    obtain ⟨t, rfl⟩ := e2 v hv
    have hm : V.ref t ∈ xs := by
      rw [e1]
      exact List.mem_map.mpr ⟨_, hv, rfl⟩
    obtain ⟨t2, i, j, et, ht⟩ := hx _ hm
    cases et
    obtain ⟨its2, r2, ⟨o, ho, hc, n, hd⟩, _⟩ := I.tuple ht
    obtain ⟨u1, u2, rfl, ri, rj⟩ := vals2 r2
    obtain ⟨t1, rfl⟩ := ri
    obtain ⟨t2, rfl⟩ := rj
    exact ⟨i, j, t, o, t1, t2, n, rfl, ho, hc, hd⟩
  · intro h' d out hp k hd hn
    have h3 : ∀ u ∈ out, ∃ a, u = Value.ref a := fun u hu => e2 u (hp.mem_iff.mp hu)
    obtain ⟨n, hn⟩ := hn
    have lo : (out.map backV).length ≤ sizeLine := by
      rw [List.length_map, hp.length_eq, len]
      exact hz
    refine ⟨.ref d, upd H d (.lst (out.map backV)), I.laid (t' := s.toks) k hd ⟨lo, out, n, vals_back h3, hn⟩, rfl, q _ d ?_ (I.hok.fresh hd)⟩
    rw [e1]
    exact hp.map backV
section
variable {K : PySem.W.Frag} {M : List Addr} {σ : S} {H : Hp} {te ta : TE} {ds : List PyData} {s c : Addr}
theorem perm_map {α β : Type} {f : α → β} {es fs : List β} (h : es.Perm fs) : ∀ ps : List α, ps.map f = fs → ∃ qs : List α, qs.Perm ps ∧ es = qs.map f := by
  induction h with
  | nil => exact fun ps e => ⟨ps, List.Perm.refl _, e.symm⟩
  | @cons x l1 l2 hp ih =>
    intro ps e
    cases ps with
    | nil => cases e
    | cons p ps =>
      cases e
      obtain ⟨qs, h1, rfl⟩ := ih ps rfl
      exact ⟨p :: qs, h1.cons p, rfl⟩
  | swap x y l =>
    intro ps e
    cases ps with
    | nil => cases e
    | cons p ps =>
      cases ps with
      | nil => cases e
      | cons p2 ps =>
        cases e
        exact ⟨p2 :: p :: ps, List.Perm.swap _ _ _, rfl⟩
  | trans h1 h2 ih1 ih2 =>
    intro ps e
    obtain ⟨qs, q1, rfl⟩ := ih2 ps e
    obtain ⟨rs, q2, rfl⟩ := ih1 qs rfl
    exact ⟨rs, q2.trans q1, rfl⟩
/-- some arrangement of the pairs -/
theorem dr_sortedQ {f : Int × Int → PyData} {ps : List (Int × Int)} (hf : ∀ p, f p = .tuple [.int p.1, .int p.2]) (ha : Ev K M ta σ H (.list (ps.map f))) :
    Dr K s c M (tCB (rSortedQ K) (tCons ta tNil)) σ H fun d => ∃ qs : List (Int × Int), qs.Perm ps ∧ d = .list (qs.map f) := fun M1 H1 g hS Q q =>
  ha M1 H1 g _ fun v H2 e2 d2 => by
    have t2 := (g.same e2).tr
    cases d2 with
    | @lst a xs _ hs hx =>
      refine ⟨a, xs, rfl, SqL.of (mn_same _ _ hs), fun x hm => ?_, fun ys p hp hn => ?_⟩
      · obtain ⟨i, hi, rfl⟩ := List.getElem_of_mem hm
        obtain ⟨d, e5, e6⟩ := hx.getV (List.getElem?_eq_getElem hi)
        rw [List.getElem?_map] at e5
        cases hq : ps[i]? with
        | none => rw [hq] at e5; cases e5
        | some p =>
          rw [hq] at e5
          have : d = f p := (Option.some.inj e5).symm
          rw [this, hf] at e6
          generalize xs[i] = x at e6
          cases e6 with
          | @tup b zs _ ht hz =>
            cases hz with
            | cons z1 z2 =>
              cases z2 with
              | cons z2 z3 =>
                cases z3
                cases z1
                cases z2
                exact ⟨b, p.1, p.2, rfl, same_sqt mn_same ht⟩
      · obtain ⟨es, hes, hd⟩ := Das.perm hx hp
        obtain ⟨qs, q1, rfl⟩ := perm_map hes ps rfl
        exact q _ _ _ ((Kp.of e2).trans (Kp.of (same_new hn))) ((hS.same e2).same (same_new hn)) (dm_newL t2 hn hd) ⟨qs, q1, rfl⟩
theorem dr_sortedI {ns : List Int} (ha : Ev K M ta σ H (.list (ns.map PyData.int))) (hl : ns.length < 64) :
    Dr K s c M (tCB (rSorted K) (tCons ta tNil)) σ H fun d => ∃ ms : List Int, ms.Perm ns ∧ ms.Pairwise (· ≤ ·) ∧ d = .list (ms.map PyData.int) := fun M1 H1 g hS Q q =>
  ha M1 H1 g _ fun v H2 e2 d2 => by
    have t2 := (g.same e2).tr
    cases d2 with
    | @lst a xs _ hs hx =>
      have hv := das_ints hx
      subst hv
      refine ⟨a, ns, rfl, SqL.of (mn_same _ _ hs), hl, fun ms p h1 h2 hn => ?_⟩
      exact q _ _ _ ((Kp.of e2).trans (Kp.of (same_new hn))) ((hS.same e2).same (same_new hn)) (dm_newL t2 hn (Das.ints ms)) ⟨ms, h1, h2, rfl⟩
theorem ev_rep {es : List PyData} {tb : TE} {k : Int} (ha : Ev K M ta σ H (.list es)) (hb : Ev K M tb σ H (.int k)) (h0 : 0 ≤ k) (h1 : k ≤ 100) (h2 : es.length ≤ 1000) : Ev K M (tOp rRep ta tb) σ H (.list (List.replicate k.toNat es).flatten) :=
  ev_op ha hb fun M2 H1 x y gg dx dy Q q => by
    cases dx with
    | @lst a xs _ hs hx =>
      have hlen := hx.length
      refine ⟨a, k, xs, rfl, dy.intV, mn_same _ _ hs, by omega, by omega, ?_, fun p hp => ?_⟩
      · rw [sizeLine_eq]
        have : xs.length * k.toNat ≤ 1000 * 100 := Nat.mul_le_mul (by omega) (by omega)
        omega
      · refine q _ _ (same_new hp) (dm_newL gg.tr hp ?_)
        generalize k.toNat = m
        induction m with
        | zero => exact .nil
        | succ m ih =>
          rw [List.replicate_succ, List.replicate_succ, List.flatten_cons, List.flatten_cons]
          exact hx.append ih
def rgD (n : Int) : List PyData := (List.range n.toNat).map fun i => PyData.int (i : Nat)
theorem ev_listRg {n : Int} (ha : Ev K M ta σ H (.int n)) (h0 : 0 ≤ n) (h1 : n ≤ 1000) : Ev K M (tLstRg (tRg1 ta)) σ H (.list (rgD n)) := fun M2 H1 g Q q =>
  ha M2 H1 g _ fun v H2 e2 d2 => by
    refine ⟨n, d2.intV, ⟨by omega, by omega, by omega, by omega, by omega⟩, fun p hp => q _ _ (e2.trans (same_new hp)) (dm_newL (g.same e2).tr hp ?_)⟩
    have e : rgV 0 n = ((List.range n.toNat).map fun i : Nat => (i : Int)).map V.int := by
      unfold rgV
      rw [List.map_map, Int.sub_zero]
      refine List.map_congr_left fun i _ => ?_
      show V.int (0 + (i : Nat)) = V.int (i : Nat)
      rw [Int.zero_add]
    have e3 : rgD n = ((List.range n.toNat).map fun i : Nat => (i : Int)).map PyData.int := by
      unfold rgD
      rw [List.map_map]
      rfl
    rw [e, e3]
    exact Das.ints _
end
end Dq

/-! repr of a bool; a list made and changed; two names given what is drawn -/
namespace Dq
open PySem PySem.Spec PyProof.Rows L2 Gd
section
variable {X : Cx}
def rReprA (K : PySem.W.Frag) : List V → Hp → VK → Prop := fun xs H Q =>
  rReprD K xs H Q ∨ ∃ b, xs = [V.bl b] ∧ Q (.str (PyData.shown (.bool b))) H
theorem call_reprA (hg : X.A.guards = some []) (hu : X.A.units + 64 < cLine) : CallR X (.builtin "repr") (rReprA X.K) := by
  intro pins s σ H xs us Q I r h
  rcases h with h | ⟨b, rfl, q⟩
  · exact call_reprD hg hu pins s σ H xs us Q I r h
  · obtain ⟨u, rfl, ru⟩ := vals1 r
    cases ru
    refine PySem.P.repr_of_bool ?_
    refine ⟨.str (PyData.shown (.bool b)), H, I.kept (h' := s.heap) fun _ _ e => e, ⟨s.toks, ?_⟩, q⟩
    cases b <;> (unfold PyData.shown; rfl)
theorem call_reprA_k {K : PySem.W.Frag} (h : X.K = K) (hg : X.A.guards = some []) (hu : X.A.units + 64 < cLine) : CallR X (.builtin "repr") (rReprA K) := h ▸ call_reprA hg hu
end
section
variable {K : PySem.W.Frag} {M M' : List Addr} {σ : S} {H H' : Hp} {ta tb te tc : TE} {tt tu : TT} {as : TA} {d e f : PyData} {ds es : List PyData} {r : R2} {x y : V} {wi : TI} {D : Ends} {t u : TS} {s c : Addr} {P P1 : PyData → Prop}
theorem ev_reprA {n k : Nat} (ha : Ev K M ta σ H d) (hd : (∃ ds, d = .list ds) ∨ (∃ ds, d = .tuple ds)) (h : Fit n k d) (hn : n ≤ 60) (hk : k ≤ 270000) : Ev K M (tCB (rReprA K) (tCons ta tNil)) σ H (.str d.shown) :=
  fun M2 H1 g Q q => ev_reprF ha hd h hn hk M2 H1 g Q q |> fun z => by
    refine ha M2 H1 g _ fun v H2 e2 dv => ?_
    have hv : ∃ a, v = V.ref a := by
      rcases hd with ⟨ds, rfl⟩ | ⟨ds, rfl⟩
      · cases dv; exact ⟨_, rfl⟩
      · cases dv; exact ⟨_, rfl⟩
    obtain ⟨a, rfl⟩ := hv
    exact .inl ⟨a, d, rfl, Da.dp _ _ (dm_h dv), h.shw, h.nod, Nat.le_trans h.dep hn, h.size hk, q _ _ e2 (.str _)⟩
theorem ev_reprB {b : Bool} (ha : Ev K M ta σ H (.bool b)) : Ev K M (tCB (rReprA K) (tCons ta tNil)) σ H (.str (PyData.shown (.bool b))) :=
  fun M2 H1 g Q q => ha M2 H1 g _ fun v H2 e2 dv => .inr ⟨b, by rw [dv.blV], q _ _ e2 (.str _)⟩
/-- a list of shown things, made where it may be changed -/
theorem lst_new {Q : VK} (tr : Tr M H) (h : Ea K M as σ H ds) (hz : ds.length ≤ 1000)
    (k : ∀ p vs H1, Same H H1 → Tr M H1 → H1 p = none → Dms K M H1 vs ds → Q (.ref p) (upd H1 p (.lst vs))) : tLst as σ H Q :=
  h M H (Go.refl tr) _ fun vs H1 e1 d1 => ⟨by rw [d1.length, sizeLine_eq]; omega, fun p hp => k p vs H1 e1 (tr.same e1) hp d1⟩
theorem q_app {i : Nat} {p : Addr} {vs : List V} (tr : Tr M H) (hi : σ[i]? = some (some (.ref p))) (hp : H p = some (.lst vs)) (hM : p ∈ M) (h : Ev K M te σ H d) (hz : vs.length ≤ 1000)
    (k : ∀ v H1, Same H H1 → Tr M H1 → Dm K M H1 v d → Go M H1 M (upd H1 p (.lst (vs ++ [v]))) → u D σ (upd H1 p (.lst (vs ++ [v])))) : tSeq (tDrop (tBM K "list" rAppend (tVar i) (tCons te tNil))) u D σ H :=
  s_app (D := { D with nx := u D }) tr hi hp hM h hz k
theorem d_unp {i j : Nat} (hs : s ∈ M) (hc : c ∈ M) (tr : Tr M H) (hS : Src s c H) (h : Dr K s c M te σ H P) (hP : ∀ d, P d → ∃ d1 d2, d = .tuple [d1, d2])
    (k : ∀ v w d1 d2 H1, Kp s c H H1 → Src s c H1 → Go M H M H1 → Dm K M H1 v d1 → Dm K M H1 w d2 → P (.tuple [d1, d2]) → u D ((σ.set i (some v)).set j (some w)) H1) :
    tSeq (tAsg te (gTup K 2 (gCons (gName i) (gCons (gName j) gNil)))) u D σ H :=
  h M H (Go.refl tr) hS _ fun v d H1 k1 S1 dv p1 => by
    obtain ⟨d1, d2, rfl⟩ := hP _ p1
    obtain ⟨v1, v2, t1, t2, t3⟩ := tk_pair (i := i) (j := j) (σ0 := σ) dv
    exact t1 _ (k v1 v2 d1 d2 H1 k1 S1 (go_kp hs hc tr k1 S1) t2 t3 p1)
end
end Dq

/-! sorted(set(t)) of ints; a dict made by a comprehension; list.index of ints -/
namespace Dq
open PySem PySem.Spec PyProof.Rows L2 Gd
/-! the levels of some ints -/
def ins (x : Int) : List Int → List Int
  | [] => [x]
  | y :: ys => if x < y then x :: y :: ys else if x = y then y :: ys else y :: ins x ys
def lvl (xs : List Int) : List Int := xs.foldr ins []
theorem mem_ins {x k : Int} : ∀ {ys : List Int}, k ∈ ins x ys ↔ k = x ∨ k ∈ ys
  | [] => by unfold ins; simp
  | y :: ys => by
    unfold ins
    split
    · simp
    · split
      · rename_i h
        subst h
        simp
      · rw [List.mem_cons, mem_ins, List.mem_cons]
        constructor
        · rintro (h | h | h)
          · exact .inr (.inl h)
          · exact .inl h
          · exact .inr (.inr h)
        · rintro (h | h | h)
          · exact .inr (.inl h)
          · exact .inl h
          · exact .inr (.inr h)
theorem pw_ins {x : Int} : ∀ {ys : List Int}, ys.Pairwise (· < ·) → (ins x ys).Pairwise (· < ·)
  | [], _ => by unfold ins; simp
  | y :: ys, h => by
    obtain ⟨h1, h2⟩ := List.pairwise_cons.mp h
    unfold ins
    split
    · rename_i hx
      refine List.pairwise_cons.mpr ⟨fun z hz => ?_, h⟩
      rcases List.mem_cons.mp hz with rfl | hz
      · exact hx
      · exact Int.lt_trans hx (h1 z hz)
    · split
      · exact h
      · refine List.pairwise_cons.mpr ⟨fun z hz => ?_, pw_ins h2⟩
        rcases mem_ins.mp hz with rfl | hz
        · omega
        · exact h1 z hz
theorem mem_lvl {k : Int} : ∀ {xs : List Int}, k ∈ lvl xs ↔ k ∈ xs
  | [] => Iff.rfl
  | x :: xs => by
    show k ∈ ins x (lvl xs) ↔ _
    rw [mem_ins, mem_lvl, List.mem_cons]
theorem pw_lvl : ∀ xs : List Int, (lvl xs).Pairwise (· < ·)
  | [] => .nil
  | x :: xs => pw_ins (pw_lvl xs)
theorem ins_len {x : Int} : ∀ ys : List Int, (ins x ys).length ≤ ys.length + 1
  | [] => Nat.le_refl _
  | y :: ys => by
    unfold ins
    split
    · exact Nat.le_refl _
    · split
      · exact Nat.le_succ _
      · exact Nat.succ_le_succ (ins_len ys)
theorem lvl_len : ∀ xs : List Int, (lvl xs).length ≤ xs.length
  | [] => Nat.le_refl _
  | x :: xs => Nat.le_trans (ins_len _) (Nat.succ_le_succ (lvl_len xs))
theorem pw_eq : ∀ {xs ys : List Int}, xs.Pairwise (· < ·) → ys.Pairwise (· < ·) → (∀ k, k ∈ xs ↔ k ∈ ys) → xs = ys
  | [], [], _, _, _ => rfl
  | [], y :: ys, _, _, h => nomatch (h y).mpr (List.mem_cons_self ..)
  | x :: xs, [], _, _, h => nomatch (h x).mp (List.mem_cons_self ..)
  | x :: xs, y :: ys, hx, hy, h => by
    obtain ⟨x1, x2⟩ := List.pairwise_cons.mp hx
    obtain ⟨y1, y2⟩ := List.pairwise_cons.mp hy
    have e : x = y := by
      rcases List.mem_cons.mp ((h x).mp (List.mem_cons_self ..)) with e | a
      · exact e
      · rcases List.mem_cons.mp ((h y).mpr (List.mem_cons_self ..)) with e | b
        · exact e.symm
        · have := x1 y b
          have := y1 x a
          omega
    subst e
    rw [pw_eq x2 y2 fun k => ⟨fun a => ?_, fun a => ?_⟩]
    · rcases List.mem_cons.mp ((h k).mp (List.mem_cons_of_mem _ a)) with e | b
      · have := x1 k a
        omega
      · exact b
    · rcases List.mem_cons.mp ((h k).mpr (List.mem_cons_of_mem _ a)) with e | b
      · have := y1 k a
        omega
      · exact b
/-- its place among the levels -/
def rank (xs : List Int) (x : Int) : Int := ((lvl xs).idxOf x : Nat)
/-! set(t), t a tuple of ints -/
def rSetI (K : PySem.W.Frag) (w : World) : List V → Hp → VK → Prop := fun vs H Q => ∃ (a : Addr) (ns : List Int), vs = [V.ref a] ∧ SqT K H a (ns.map V.int) ∧ ns.length ≤ 60 ∧
  ∀ q c, H q = none → c ≤ ns.length → Q (.ref q) (upd H q (SetO w q (fun j => decide (j ∈ ns)) c))
theorem cr_setI {X : Cx} {K : PySem.W.Frag} {w : World} (hc : X.calm = true) (hK : X.K = K) (hw : X.w = w) : CallR X (.type "set") (rSetI K w) := by
  subst hK
  subst hw
  intro pins s σ H vs us Q I r h
  obtain ⟨a, ns, rfl, hs, hz, q⟩ := h
  obtain ⟨its, rv, ht, _⟩ := I.tuple hs
  rw [Vals.ref1 r]
  refine call_set_tupI ns (I.ok.hd hc) ht ?_ (by show ns.length + 1 < 4096; omega) fun h' tk c R hcn kp => ?_
  · exact Vals.ints (by simpa using rv)
  · exact ⟨.ref _, upd H s.heap.objs.size (SetO X.w s.heap.objs.size (fun j => decide (j ∈ ns)) c), I.laid (t' := tk) kp (Nat.le_refl _) (setO_new R), rfl, q _ _ (I.hok.fresh (Nat.le_refl _)) hcn⟩
theorem cr_sortedSet_k {X : Cx} {w : World} (hc : X.calm = true) (hw : X.w = w) : CallR X (.builtin "sorted") (rSortedSet w) := hw ▸ cr_sortedSet hc
theorem mt_index_k {X : Cx} {K : PySem.W.Frag} (hK : X.K = K) : MtR X "list.index" (rIndex K) := hK ▸ mt_index
section
variable {K : PySem.W.Frag} {M M' : List Addr} {σ : S} {H H' : Hp} {ta tb te tk tv : TE} {tt : TT} {as : TA} {d e : PyData} {ds : List PyData} {wi : TI} {w : World}
theorem ev_lvl {xs : List Int} (ha : Ev K M ta σ H (.tuple (xs.map PyData.int))) (hz : xs.length ≤ 60) : Ev K M (tCB (rSortedSet w) (tCons (tCB (rSetI K w) (tCons ta tNil)) tNil)) σ H (.list ((lvl xs).map PyData.int)) := fun M2 H1 g Q q =>
  ha M2 H1 g _ fun v H2 e2 dv => by
    have t2 := (g.same e2).tr
    cases dv with
    | @tup a vs _ hs hx =>
      have hvs : vs = xs.map V.int := das_ints hx
      subst hvs
      refine ⟨a, xs, rfl, same_sqt mn_same hs, hz, fun s0 c hs0 hc => ?_⟩
      refine ⟨s0, _, c, rfl, upd_same, by omega, fun ns p hp hm hl hp0 => ?_⟩
      have e3 : Same H2 (upd H2 s0 (SetO w s0 (fun j => decide (j ∈ xs)) c)) := same_new hs0
      have hn : ns = lvl xs := pw_eq hp (pw_lvl xs) fun k => by
        rw [hm, mem_lvl]
        exact decide_eq_true_iff
      subst hn
      exact q _ _ ((e2.trans e3).trans (same_new hp0)) (dm_newL (Tr.same t2 e3) hp0 (Das.ints _))
/-- d[k] where d stands in a slot -/
theorem ev_dget {i : Nat} {D : Addr} {kvs : List (Key × V)} {k r : Int} (hi : σ[i]? = some (some (.ref D))) (hD : mn M H D = some (.dK kvs)) (hv : valV kvs (.inl k) = some (.int r)) (hb : Ev K M tb σ H (.int k)) : Ev K M (tDGet (tVar i) tb) σ H (.int r) := fun M2 H1 g Q q =>
  ⟨.ref D, hi, hb M2 H1 g _ fun v H2 e2 dv => by
    cases dv
    have h2 : H2 D = some (.dK kvs) := mn_same _ _ ((g.same e2).mn _ _ hD)
    refine ⟨D, .int r, rfl, ?_, q _ _ e2 (.int r)⟩
    rw [← hv]
    exact DGet.k (k := .inl k) h2⟩
theorem ev_index {xs : List Int} {y : Int} {i : Nat} {p : V} (hi : σ[i]? = some (some p)) (hd : Dm K M H p (.list (xs.map PyData.int))) (hb : Ev K M tb σ H (.int y)) (hm : y ∈ xs) :
    Ev K M (tBM K "list" (rIndex K) (tVar i) (tCons tb tNil)) σ H (.int (xs.idxOf y : Nat)) := fun M2 H1 g Q q =>
  ⟨p, hi, by
    have h0 := dm_go hd g
    cases h0 with
    | @lst a vs _ hs hx =>
      have hvs : vs = xs.map V.int := das_ints hx
      subst hvs
      refine ⟨.inl ⟨rfl, _, SqL.of (mn_same _ _ hs)⟩, hb M2 H1 g _ fun v H2 e2 dv => ?_⟩
      cases dv
      have hl : xs.idxOf y < xs.length := List.idxOf_lt_length_of_mem hm
      have gi : ∀ m (h : m < xs.length), (xs.map V.int)[m]? = some (.int xs[m]) := fun m h => by rw [List.getElem?_map, List.getElem?_eq_getElem h]; rfl
      have e1 : xs[xs.idxOf y] = y := List.getElem_idxOf hl
      refine ⟨a, _, .int y, xs.idxOf y, .int y, rfl, rfl, SqL.of (e2 _ _ (mn_same _ _ hs)), rfl, ?_, ?_, ?_, ?_, q _ _ e2 (.int _)⟩
      · exact List.all_eq_true.mpr fun z hz => by
          obtain ⟨n, _, rfl⟩ := List.mem_map.mp hz
          rfl
      · rw [gi _ hl, e1]
      · show (y == y) = true
        exact beq_self_eq_true y
      · intro m z hm2 hz
        have h1 : m < xs.length := by omega
        rw [gi m h1] at hz
        cases hz
        have := List.not_of_lt_findIdx (p := (· == y)) (xs := xs) hm2
        exact this⟩
/-- {key: value for .. in ..}, the keys ints, no two the same -/
theorem dc_new {g : TG} {vs : List Nat} {n : Nat} {it : Nat → PyData} {Q : VK} (ky vl : Nat → Int) (tr : Tr M H) (w : Wk K M wi σ H n it) (hn : n ≤ 1000) (hd : ∀ i j, i < j → j < n → ky i ≠ ky j)
    (hs : ∀ M' H' i x, Go M H M' H' → i < n → Dm K M' H' x (it i) → ∃ σ2, Tk g x (wipe σ vs) H' σ2 ∧ wipe σ2 vs = wipe σ vs ∧ Ev K M' tk σ2 H' (.int (ky i)) ∧ Ev K M' tv σ2 H' (.int (vl i)))
    (k : ∀ D H' kvs, Same H H' → Tr M H' → D ∉ M → H D = none → H' D = some (.dK kvs) → (∀ i, i < n → valV kvs (.inl (ky i)) = some (.int (vl i))) → Q (.ref D) H') : tDc wi g tYes tk tv vs σ H Q :=
  w M H (Go.refl tr) _ fun J H2 G Y e2 wk hG hY D hD => by
    have tr2 : Tr M H2 := Tr.same tr e2
    have g2 : Go M H M H2 := (Go.refl tr).same e2
    have DM : D ∉ M := fun z => tr2 D z hD
    let Pv : Nat → Hp → Prop := fun i H' => Go M H2 (D :: M) H' ∧ Same H2 H' ∧ ∃ kvs : List (Key × V), H' D = some (.dK kvs) ∧ kvs.length ≤ i ∧ (∀ j, j < i → valV kvs (.inl (ky j)) = some (.int (vl j)))
    have P0 : Pv 0 (upd H2 D (.dK [])) := ⟨go_mut tr2 hD, same_new hD, [], upd_same, Nat.le_refl _, fun j hj => absurd hj (Nat.not_lt_zero j)⟩
    refine ⟨fun i m H' => i + m = n ∧ Pv i H', ⟨n, Nat.zero_add n, P0⟩, fun i m H' hp => ?_⟩
    obtain ⟨him, p1, ps, kvs, p2, p3, p4⟩ := hp
    by_cases hlt : i < n
    · refine .inr ⟨wk.goes _ _ hlt (hG _ _ p1), Pv (i + 1), fun H9 p9 => ⟨m - 1, by omega, by omega, p9⟩, fun z H4 hz => ?_⟩
      obtain ⟨e4, d4⟩ := hY _ i H' z H4 p1 hlt (wk.yields _ _ _ _ hlt (hG _ _ p1) hz)
      have g4 := p1.same e4
      obtain ⟨σ2, t1, t2, t3, t4⟩ := hs _ H4 i z (g2.trans g4) hlt d4
      refine t1 _ ⟨t2, ?_⟩
      show tk σ2 H4 _
      refine t3 _ H4 (Go.refl g4.tr) _ fun y H5 e5 d5 => t4 _ H5 ((Go.refl g4.tr).same e5) _ fun u H6 e6 d6 => ?_
      cases d5
      cases d6
      have s6 := (e4.trans e5).trans e6
      have g6 : Go M H2 (D :: M) H6 := (g4.same e5).same e6
      refine ⟨kvs, .inl (ky i), rfl, s6 _ _ p2, by rw [sizeLine_eq]; omega, g6.trans (go_set g6.tr (List.mem_cons_self ..)), fun b o hb => ?_, _, upd_same, Nat.le_trans (length_putK ..) (Nat.succ_le_succ p3), fun j hj => ?_⟩
      · rw [upd_ne (ne_of_none hb hD)]
        exact s6 _ _ (ps _ _ hb)
      · rw [valV_put]
        by_cases hji : j = i
        · subst hji
          exact if_pos rfl
        · have hlt2 : j < i := by omega
          rw [if_neg (fun z => hd j i hlt2 hlt (Sum.inl.inj z))]
          exact p4 j hlt2
    · have hi : i = n := by omega
      subst hi
      exact .inl ⟨wk.stops _ (hG _ _ p1), k D H' kvs (e2.trans ps) (fun b hb => p1.tr b (List.mem_cons_of_mem _ hb)) DM (e2.free hD) p2 p4⟩
end
end Dq

/-! calls whose answer is a new list; a drawn test; the first of the given ones -/
namespace Dq
open PySem PySem.Spec PyProof.Rows L2 Gd
/-- changes nothing, and answers with a new list -/
def spNew (K : PySem.W.Frag) (n : Nat) (R : List PyData → PyData → Prop) : Sp := fun vs H Q _ =>
  ∃ M ds d, Tr M H ∧ Dms K M H vs ds ∧ ds.length = n ∧ R ds d ∧ ∀ l H', H l = none → Same H H' → Dm K M H' (.ref l) d → Q (.ref l) H'
theorem spNew_len {K : PySem.W.Frag} {n : Nat} {R : List PyData → PyData → Prop} : ∀ vs H Q E, spNew K n R vs H Q E → vs.length = n := by
  rintro vs H Q E ⟨M, ds, d, _, h, hl, _⟩
  rw [h.length, hl]
section
variable {K : PySem.W.Frag} {M M' : List Addr} {σ : S} {H H' : Hp} {ta tb te : TE} {tt : TT} {as : TA} {d e : PyData} {ds : List PyData} {wi : TI} {D : Ends} {t u v : TS} {s c : Addr} {PB : Bool → Prop}
theorem ev_callN {n : Nat} {R : List PyData → PyData → Prop} {E : XK} (h : Ea K M as σ H ds) (hl : ds.length = n) (hp : R ds d) : Ev K M (tCall (spNew K n R) [] E as) σ H d := fun M2 H1 g Q q =>
  h M2 H1 g _ fun vs H2 e2 d2 => by
    show spNew K n R (vs ++ []) H2 Q E
    rw [List.append_nil]
    exact ⟨M2, ds, d, (g.same e2).tr, d2, hl, hp, fun l H3 _ e3 d3 => q _ H3 (e2.trans e3) d3⟩
/-- the new list itself -/
theorem call_new {n : Nat} {R : List PyData → PyData → Prop} {E : XK} {Q : VK} (tr : Tr M H) (h : Ea K M as σ H ds) (hl : ds.length = n) (hp : R ds d)
    (k : ∀ l H1, H l = none → Same H H1 → Tr M H1 → Dm K M H1 (.ref l) d → Q (.ref l) H1) : tCall (spNew K n R) [] E as σ H Q :=
  h M H (Go.refl tr) _ fun vs H2 e2 d2 => by
    show spNew K n R (vs ++ []) H2 Q E
    rw [List.append_nil]
    exact ⟨M, ds, d, Tr.same tr e2, d2, hl, hp, fun l H3 hl3 e3 d3 => k l H3 (e2.free hl3) (e2.trans e3) (Tr.same (Tr.same tr e2) e3) d3⟩
theorem lc_new {g : TG} {vs : List Nat} {n : Nat} {it : Nat → PyData} {Q : VK} (f : Nat → Bool) (el : Nat → PyData) (tr : Tr M H) (w : Wk K M wi σ H n it) (hn : n ≤ 1000000)
    (hs : ∀ M' H' i x, Go M H M' H' → i < n → Dm K M' H' x (it i) → ∃ σ2, Tk g x (wipe σ vs) H' σ2 ∧ wipe σ2 vs = wipe σ vs ∧ Eb M' tt σ2 H' (f i) ∧ (f i = true → Ev K M' te σ2 H' (el i)))
    (k : ∀ l H1, H l = none → Same H H1 → Tr M H1 → Dm K M H1 (.ref l) (.list (given n f el)) → Q (.ref l) H1) : tLc wi g tt te vs σ H Q := by
  have g1 : Go M H M H := Go.refl tr
  refine w M H g1 _ fun J H2 G Y e2 wk hG hY D hD => ?_
  have g2 : Go M H M H2 := g1.same e2
  have DM : D ∉ M := fun z => g2.tr D z hD
  have g3 : Go M H2 (D :: M) (upd H2 D (.lst [])) := go_mut g2.tr hD
  refine lc_it wk (fun i H' => Go M H2 (D :: M) H' ∧ Same H2 H' ∧ ∃ acc, H' D = some (.lst acc) ∧ Dms K (D :: M) H' acc (given i f el) ∧ acc.length ≤ i)
    ⟨g3, same_new hD, [], upd_same, .nil, Nat.le_refl _⟩ (fun i H' _ p => hG _ _ p.1) (fun i z H' H4 hi p hy => ?_) (fun H' p => ?_)
  · obtain ⟨p1, ps, acc, p2, p3, p4⟩ := p
    obtain ⟨e4, d4⟩ := hY _ i H' z H4 p1 hi hy
    have g4 := p1.same e4
    obtain ⟨σ2, t1, t2, t3, t4⟩ := hs _ H4 i z (g2.trans g4) hi d4
    refine t1 _ ⟨t2, t3 _ H4 (Go.refl g4.tr) _ fun H5 e5 => ?_⟩
    have g5 := g4.same e5
    cases hf : f i with
    | true =>
      show te σ2 H5 _
      refine t4 hf _ H5 ((Go.refl g4.tr).same e5) _ fun v H6 e6 d6 => ?_
      have g6 := g5.same e6
      have s6 := (e4.trans e5).trans e6
      have a6 : H6 D = some (.lst acc) := s6 _ _ p2
      refine ⟨acc, a6, Nat.lt_of_le_of_lt p4 (by rw [sizeLine_eq]; omega), ?_⟩
      have g7 : Go M H2 (D :: M) (upd H6 D (.lst (acc ++ [v]))) := g6.trans (go_set g6.tr (List.mem_cons_self ..))
      refine ⟨g7, fun b o hb => ?_, acc ++ [v], upd_same, ?_, ?_⟩
      · rw [upd_ne (ne_of_none hb hD)]
        exact s6 _ _ (ps _ _ hb)
      · rw [given_yes hf]
        have k := go_set (o := .lst (acc ++ [v])) g6.tr (List.mem_cons_self (a := D) (l := M))
        exact (dms_go p3 (((Go.refl p1.tr).same s6).trans k)).append (.cons (dm_go d6 k) .nil)
      · rw [List.length_append]
        show acc.length + 1 ≤ i + 1
        omega
    | false =>
      show Go M H2 (D :: M) H5 ∧ _
      have s5 := e4.trans e5
      refine ⟨g5, ps.trans s5, acc, s5 _ _ p2, ?_, by omega⟩
      rw [given_no hf]
      exact dms_go p3 ((Go.refl p1.tr).same s5)
  · obtain ⟨p1, ps, acc, p2, p3, p4⟩ := p
    exact k D H' (e2.free hD) (e2.trans ps) (fun b hb => p1.tr b (List.mem_cons_of_mem _ hb)) (dm_freeze DM p2 p3)
/-- what was not there before may be changed -/
theorem go_take {l : Addr} (tr : Tr M H) (e : Same H H') (hl : H l = none) (h2 : H' l ≠ none) : Go M H (l :: M) H' where
  sub := fun _ h => List.mem_cons_of_mem _ h
  new := fun b h => by
    rcases List.mem_cons.mp h with h | h
    · exact .inr (h ▸ hl)
    · exact .inl h
  le := fun b o _ q => e b o q
  tr := fun b h => by
    rcases List.mem_cons.mp h with h | h
    · rw [h]; exact h2
    · exact Tr.same tr e b h
/-- an if whose test is drawn -/
theorem dq_if (hs : s ∈ M) (hc : c ∈ M) (tr : Tr M H) (hS : Src s c H) (h : Drb s c M tt σ H PB) (h1 : ∀ H1, PB true → Kp s c H H1 → Src s c H1 → Go M H M H1 → t D σ H1) (h2 : ∀ H1, PB false → Kp s c H H1 → Src s c H1 → Go M H M H1 → v D σ H1) : tIfS tt t v D σ H :=
  h M H (Go.refl tr) hS _ fun b H1 k1 S1 p1 => by
    have g := go_kp hs hc tr k1 S1
    cases b with
    | true => exact h1 H1 p1 k1 S1 g
    | false => exact h2 H1 p1 k1 S1 g
end
theorem given_none {f : Nat → Bool} {el : Nat → PyData} : ∀ {n : Nat}, (∀ j, j < n → f j = false) → given n f el = []
  | 0, _ => rfl
  | n + 1, h => by rw [given_no (h n (Nat.lt_succ_self n)), given_none fun j hj => h j (Nat.lt_succ_of_lt hj)]
theorem given_first {f : Nat → Bool} {el : Nat → PyData} {i : Nat} (h : ∀ j, j < i → f j = false) (hi : f i = true) : ∀ {n : Nat}, i < n → ∃ r, given n f el = el i :: r
  | 0, z => absurd z (Nat.not_lt_zero i)
  | n + 1, z => by
    by_cases e : i = n
    · subst e
      exact ⟨[], by rw [given_yes hi, given_none h]; rfl⟩
    · obtain ⟨r, hr⟩ := given_first h hi (n := n) (by omega)
      cases hn : f n with
      | true => exact ⟨r ++ [el n], by rw [given_yes hn, hr]; rfl⟩
      | false => exact ⟨r, by rw [given_no hn, hr]⟩
theorem all_of {α : Type} {f : α → PyData} {p : α → Prop} : ∀ {ds : List PyData}, (∀ d ∈ ds, ∃ a, d = f a ∧ p a) → ∃ xs : List α, ds = xs.map f ∧ ∀ x ∈ xs, p x
  | [], _ => ⟨[], rfl, fun x hx => nomatch hx⟩
  | d :: ds, h => by
    obtain ⟨a, e, ha⟩ := h d (List.mem_cons_self ..)
    obtain ⟨xs, e2, hx⟩ := all_of (ds := ds) fun z hz => h z (List.mem_cons_of_mem _ hz)
    exact ⟨a :: xs, by rw [e, e2]; rfl, fun x hm => by
      rcases List.mem_cons.mp hm with rfl | hm
      · exact ha
      · exact hx x hm⟩
end Dq

/-! sorted of pairs of ints, the order told -/
namespace Dq
open PySem PySem.Spec PyProof.Rows L2 Gd
/-- q doesn't stand before p -/
def le2 (p q : Int × Int) : Prop := p.1 < q.1 ∨ (p.1 = q.1 ∧ p.2 ≤ q.2)
instance (p q : Int × Int) : Decidable (le2 p q) := by unfold le2; exact inferInstance
def insP (p : Int × Int) : List (Int × Int) → List (Int × Int)
  | [] => [p]
  | q :: r => if le2 p q then p :: q :: r else q :: insP p r
def sortP (ps : List (Int × Int)) : List (Int × Int) := ps.foldr insP []
theorem insP_perm {p : Int × Int} : ∀ l : List (Int × Int), (insP p l).Perm (p :: l)
  | [] => List.Perm.refl _
  | q :: r => by
    unfold insP
    split
    · exact List.Perm.refl _
    · exact ((insP_perm r).cons q).trans (List.Perm.swap p q r)
theorem sortP_perm : ∀ l : List (Int × Int), (sortP l).Perm l
  | [] => List.Perm.refl _
  | p :: l => (insP_perm _).trans ((sortP_perm l).cons p)
theorem insP_pw {p : Int × Int} : ∀ {l : List (Int × Int)}, l.Pairwise le2 → (insP p l).Pairwise le2
  | [], _ => List.pairwise_singleton _ _
  | q :: r, h => by
    obtain ⟨h1, h2⟩ := List.pairwise_cons.mp h
    unfold insP
    split
    · rename_i hpq
      refine List.pairwise_cons.mpr ⟨fun z hz => ?_, h⟩
      rcases List.mem_cons.mp hz with rfl | hz
      · exact hpq
      · have := h1 z hz
        unfold le2 at *
        omega
    · rename_i hpq
      refine List.pairwise_cons.mpr ⟨fun z hz => ?_, insP_pw h2⟩
      rcases List.mem_cons.mp ((insP_perm r).mem_iff.mp hz) with rfl | hz
      · unfold le2 at *
        omega
      · exact h1 z hz
theorem sortP_pw : ∀ l : List (Int × Int), (sortP l).Pairwise le2
  | [] => .nil
  | p :: l => insP_pw (sortP_pw l)
theorem pw2_eq : ∀ {l m : List (Int × Int)}, l.Pairwise le2 → m.Pairwise le2 → l.Perm m → l = m
  | [], m, _, _, h => (List.Perm.nil_eq h)
  | x :: l, [], _, _, h => absurd h.length_eq (by simp)
  | x :: l, y :: m, hl, hm, h => by
    obtain ⟨x1, x2⟩ := List.pairwise_cons.mp hl
    obtain ⟨y1, y2⟩ := List.pairwise_cons.mp hm
    have e : x = y := by
      rcases List.mem_cons.mp (h.mem_iff.mp (List.mem_cons_self ..)) with e | a
      · exact e
      · rcases List.mem_cons.mp (h.mem_iff.mpr (List.mem_cons_self ..)) with e | b
        · exact e.symm
        · have h1 := x1 y b
          have h2 := y1 x a
          unfold le2 at h1 h2
          exact Prod.ext (by omega) (by omega)
    subst e
    rw [pw2_eq x2 y2 h.cons_inv]
theorem sortP_of {l m : List (Int × Int)} (h : l.Perm m) (hl : l.Pairwise le2) : l = sortP m := pw2_eq hl (sortP_pw m) (h.trans (sortP_perm m).symm)
theorem sortP_congr {l m : List (Int × Int)} (h : l.Perm m) : sortP l = sortP m := pw2_eq (sortP_pw l) (sortP_pw m) ((sortP_perm l).trans (h.trans (sortP_perm m).symm))
/-! the rule -/
def rSortedV (K : PySem.W.Frag) : List V → Hp → VK → Prop := fun vs H Q => ∃ a xs, vs = [V.ref a] ∧ SqL K H a xs ∧ (∀ x ∈ xs, ∃ t i j, x = V.ref t ∧ SqT K H t [.int i, .int j]) ∧
  ∀ ys p, ys.Perm xs → (ys.Pairwise fun x y => ∀ t u i j k l, x = V.ref t → SqT K H t [.int i, .int j] → y = V.ref u → SqT K H u [.int k, .int l] → le2 (i, j) (k, l)) → H p = none → Q (.ref p) (upd H p (.lst ys))
theorem pair_uniq {h : Heap} {v : Value} {a b c d : Int} (p : Srt.IsPair h v a b) (q : Srt.IsPair h v c d) : a = c ∧ b = d := by
  obtain ⟨t, o, t1, t2, n, rfl, ho, hc, hd⟩ := p
  obtain ⟨t', o', t1', t2', n', e, ho', hc', hd'⟩ := q
  cases e
  rw [ho] at ho'
  cases ho'
  rw [hd] at hd'
  cases hd'
  exact ⟨rfl, rfl⟩
open Classical in
noncomputable def pairAt (h : Heap) (v : Value) : Int × Int := if e : ∃ p : Int × Int, Srt.IsPair h v p.1 p.2 then e.choose else (0, 0)
theorem pairAt_is {h : Heap} {v : Value} {a b : Int} (p : Srt.IsPair h v a b) : pairAt h v = (a, b) := by
  have e : ∃ p : Int × Int, Srt.IsPair h v p.1 p.2 := ⟨(a, b), p⟩
  unfold pairAt
  rw [dif_pos e]
  obtain ⟨h1, h2⟩ := pair_uniq e.choose_spec p
  exact Prod.ext h1 h2
theorem cr_sortedV {X : Cx} {K : PySem.W.Frag} (hK : X.K = K) : CallR X (.builtin "sorted") (rSortedV K) := by
  subst hK
  intro pins s σ H vs us Q I r h
  obtain ⟨a, xs, rfl, hs, hx, q⟩ := h
  obtain ⟨its, rv, hl, hz⟩ := I.list hs
  obtain ⟨u, rfl, ru⟩ := vals1 r
  cases ru
  have refs : ∀ x ∈ xs, ∃ t, x = V.ref t := fun x m => let ⟨t, _, _, e, _⟩ := hx x m; ⟨t, e⟩
  obtain ⟨e1, e2⟩ := refs_back rv refs
  have len : its.length = xs.length := rv.length.symm
  have pairs : ∀ {t : Addr} {i j : Int}, SqT X.K H t [.int i, .int j] → Srt.IsPair s.heap (.ref t) i j := fun {t i j} ht => by
    obtain ⟨its2, r2, ⟨o, ho, hc, n, hd⟩, _⟩ := I.tuple ht
    obtain ⟨u1, u2, rfl, ri, rj⟩ := vals2 r2
    obtain ⟨t1, rfl⟩ := ri
    obtain ⟨t2, rfl⟩ := rj
    exact ⟨t, o, t1, t2, n, rfl, ho, hc, hd⟩
  refine SrtO.sorted_pairsO (k := pairAt s.heap) hl.isList (by rw [len]; exact hz) ?_ ?_
  · intro v hv
    obtain ⟨t, rfl⟩ := e2 v hv
    have hm : V.ref t ∈ xs := by
      rw [e1]
      exact List.mem_map.mpr ⟨_, hv, rfl⟩
    obtain ⟨t2, i, j, et, ht⟩ := hx _ hm
    cases et
    have hp := pairs ht
    rw [pairAt_is hp]
    exact hp
  · intro h' d out hso hst k hd hn
    have hp : out.Perm its := hst.perm
    have h3 : ∀ u ∈ out, ∃ a, u = Value.ref a := fun u hu => e2 u (hp.mem_iff.mp hu)
    obtain ⟨n, hn⟩ := hn
    have lo : (out.map backV).length ≤ sizeLine := by
      rw [List.length_map, hp.length_eq, len]
      exact hz
    refine ⟨.ref d, upd H d (.lst (out.map backV)), I.laid (t' := s.toks) k hd ⟨lo, out, n, vals_back h3, hn⟩, rfl, q _ d ?_ ?_ (I.hok.fresh hd)⟩
    · rw [e1]
      exact hp.map backV
    · refine List.pairwise_map.mpr (List.Pairwise.imp_of_mem (fun {v u} hv hu hvu => ?_) hso)
      rintro t t2 i j k2 l2 q1 q2 q3 q4
      obtain ⟨b, rfl⟩ := h3 v hv
      obtain ⟨b2, rfl⟩ := h3 u hu
      cases q1
      cases q3
      have := SrtO.lexB_no.mp hvu
      rw [pairAt_is (pairs q2), pairAt_is (pairs q4)] at this
      unfold le2
      simp only at this
      omega
section
variable {K : PySem.W.Frag} {M : List Addr} {σ : S} {H : Hp} {te ta : TE} {ds : List PyData}
theorem ev_sortedV {f : Int × Int → PyData} {ps : List (Int × Int)} (hf : ∀ p, f p = .tuple [.int p.1, .int p.2]) (ha : Ev K M ta σ H (.list (ps.map f))) :
    Ev K M (tCB (rSortedV K) (tCons ta tNil)) σ H (.list ((sortP ps).map f)) := fun M1 H1 g Q q =>
  ha M1 H1 g _ fun v H2 e2 d2 => by
    have t2 := (g.same e2).tr
    have at2 : ∀ {x : V} {p : Int × Int}, Da K (mn M1 H2) x (f p) → ∃ b, x = V.ref b ∧ SqT K H2 b [.int p.1, .int p.2] := fun {x p} e6 => by
      rw [hf] at e6
      cases e6 with
      | @tup b zs _ ht hz =>
        cases hz with
        | cons z1 z2 =>
          cases z2 with
          | cons z2 z3 =>
            cases z3
            cases z1
            cases z2
            exact ⟨b, rfl, same_sqt mn_same ht⟩
    cases d2 with
    | @lst a xs _ hs hx =>
      refine ⟨a, xs, rfl, SqL.of (mn_same _ _ hs), fun x hm => ?_, fun ys p hp hpw hn => ?_⟩
      · obtain ⟨i, hi, rfl⟩ := List.getElem_of_mem hm
        obtain ⟨d, e5, e6⟩ := hx.getV (List.getElem?_eq_getElem hi)
        rw [List.getElem?_map] at e5
        cases hq : ps[i]? with
        | none => rw [hq] at e5; cases e5
        | some p =>
          rw [hq] at e5
          have : d = f p := (Option.some.inj e5).symm
          rw [this] at e6
          obtain ⟨b, h1, h2⟩ := at2 e6
          exact ⟨b, p.1, p.2, h1, h2⟩
      · obtain ⟨es, hes, hd⟩ := Das.perm hx hp
        obtain ⟨qs, q1, rfl⟩ := perm_map hes ps rfl
        have hlen := hd.length
        rw [List.length_map] at hlen
        have hqs : qs = sortP ps := sortP_of q1 (List.pairwise_iff_getElem.mpr fun i j hi hj hij => by
          have := List.pairwise_iff_getElem.mp hpw i j (by omega) (by omega) hij
          obtain ⟨d, e5, e6⟩ := hd.getV (List.getElem?_eq_getElem (i := i) (by omega))
          obtain ⟨d', e7, e8⟩ := hd.getV (List.getElem?_eq_getElem (i := j) (by omega))
          rw [List.getElem?_map, List.getElem?_eq_getElem hi] at e5
          rw [List.getElem?_map, List.getElem?_eq_getElem hj] at e7
          cases e5
          cases e7
          obtain ⟨b1, h1, h2⟩ := at2 e6
          obtain ⟨b2, h3, h4⟩ := at2 e8
          exact this _ _ _ _ _ _ h1 h2 h3 h4)
        subst hqs
        exact q _ _ (e2.trans (same_new hn)) (dm_newL t2 hn hd)
end
end Dq

/-! min and max of a tuple of two ints; places in a list or a tuple; tuple(range) -/
namespace Dq
open PySem PySem.Spec PyProof.Rows L2 Gd
theorem ix_any {X : Cx} {K : PySem.W.Frag} (hK : X.K = K) : IxR X (fun x y H Q => rIxT K x y H Q ∨ rIxL K x y H Q) := by
  subst hK
  intro value slice pins s σ H x y v u Q I rx ry h hs
  rcases h with h | h
  · exact ix_tup value slice pins s σ H x y v u Q I rx ry h hs
  · exact ix_list value slice pins s σ H x y v u Q I rx ry h hs
section
variable {K : PySem.W.Frag} {M : List Addr} {σ : S} {H : Hp} {te ta tb : TE} {ds : List PyData} {d : PyData}
theorem ev_ixA {i : Int} (ha : Ev K M ta σ H (.tuple ds) ∨ Ev K M ta σ H (.list ds)) (hb : Ev K M tb σ H (.int i)) (hi : L2.atI ds i = some d) : Ev K M (tOp (fun x y H Q => rIxT K x y H Q ∨ rIxL K x y H Q) ta tb) σ H d := by
  rcases ha with ha | ha
  · intro M2 H1 g Q q
    have := ev_ixT ha hb hi M2 H1 g Q q
    refine ha M2 H1 g _ fun x H2 e2 dx => hb M2 H2 (g.same e2) _ fun y H3 e3 dy => .inl ?_
    have dx3 := dm_same dx (g.same e2).tr e3
    cases dx3 with
    | @tup a xs _ hs hx =>
      obtain ⟨v, h1, h2⟩ := Das.atI hx hi
      cases dy
      exact ⟨a, xs, i, v, rfl, rfl, same_sqt mn_same hs, h1, q _ _ (e2.trans e3) h2⟩
  · intro M2 H1 g Q q
    refine ha M2 H1 g _ fun x H2 e2 dx => hb M2 H2 (g.same e2) _ fun y H3 e3 dy => .inr ?_
    have dx3 := dm_same dx (g.same e2).tr e3
    cases dx3 with
    | @lst a xs _ hs hx =>
      obtain ⟨v, h1, h2⟩ := Das.atI hx hi
      cases dy
      exact ⟨a, xs, i, v, rfl, rfl, SqL.of (mn_same _ _ hs), h1, q _ _ (e2.trans e3) h2⟩
end
/-! min(t), max(t) of a tuple of two ints -/
def rMinT (K : PySem.W.Frag) : List V → Hp → VK → Prop := fun vs H Q => ∃ a i j, vs = [V.ref a] ∧ SqT K H a [.int i, .int j] ∧ Q (.int (min i j)) H
def rMaxT (K : PySem.W.Frag) : List V → Hp → VK → Prop := fun vs H Q => ∃ a i j, vs = [V.ref a] ∧ SqT K H a [.int i, .int j] ∧ Q (.int (max i j)) H
theorem alike2 (i j : Int) : PySem.W.AlikeAll [.int i, .int j] := by
  refine ⟨fun x hx y hy => ?_, fun x hx => ?_⟩
  · simp only [List.mem_cons, List.not_mem_nil, or_false] at hx hy
    rcases hx with rfl | rfl <;> rcases hy with rfl | rfl <;> rfl
  · simp only [List.mem_cons, List.not_mem_nil, or_false] at hx
    rcases hx with rfl | rfl <;> exact PyData.noConfusion
theorem cr_minT {X : Cx} {K : PySem.W.Frag} (hc : X.calm = true) (hK : X.K = K) (hu : X.A.units + 65 < cLine) : CallR X (.builtin "min") (rMinT K) := by
  subst hK
  intro pins s σ H vs us Q I r h
  obtain ⟨a, i, j, rfl, hs, q⟩ := h
  obtain ⟨its, rv, ht, _⟩ := I.tuple hs
  rw [Vals.ref1 r]
  obtain ⟨u1, u2, rfl, ⟨t1, rfl⟩, ⟨t2, rfl⟩⟩ := vals2 rv
  refine PySem.W.min_tuple_data (I.ok.hd hc) ht (.cons (.int i t1) (.cons (.int j t2) .nil)) (alike2 i j) (by show X.A.units + 1 + 0 < cLine; omega) fun m v h' tk bs _ rd kp => ?_
  have e : PySem.W.minD (.int i) [.int j] = .int (min i j) := PySem.W.minD_ints i [j]
  rw [e] at rd
  cases rd
  exact ⟨.int _, H, I.kept kp, ⟨_, rfl⟩, q⟩
theorem cr_maxT {X : Cx} {K : PySem.W.Frag} (hc : X.calm = true) (hK : X.K = K) (hu : X.A.units + 65 < cLine) : CallR X (.builtin "max") (rMaxT K) := by
  subst hK
  intro pins s σ H vs us Q I r h
  obtain ⟨a, i, j, rfl, hs, q⟩ := h
  obtain ⟨its, rv, ht, _⟩ := I.tuple hs
  rw [Vals.ref1 r]
  obtain ⟨u1, u2, rfl, ⟨t1, rfl⟩, ⟨t2, rfl⟩⟩ := vals2 rv
  refine PySem.W.max_tuple_data (I.ok.hd hc) ht (.cons (.int i t1) (.cons (.int j t2) .nil)) (alike2 i j) (by show X.A.units + 1 + 0 < cLine; omega) fun m v h' tk bs _ rd kp => ?_
  have e : PySem.W.maxD (.int i) [.int j] = .int (max i j) := PySem.W.maxD_ints i [j]
  rw [e] at rd
  cases rd
  exact ⟨.int _, H, I.kept kp, ⟨_, rfl⟩, q⟩
section
variable {K : PySem.W.Frag} {M : List Addr} {σ : S} {H : Hp} {ta : TE} {i j : Int}
theorem pair_of {v : V} (h : Da K H v (.tuple [.int i, .int j])) : ∃ a, v = V.ref a ∧ SqT K H a [.int i, .int j] := by
  cases h with
  | @tup a zs _ ht hz =>
    cases hz with
    | cons z1 z2 =>
      cases z2 with
      | cons z2 z3 =>
        cases z3
        cases z1
        cases z2
        exact ⟨a, rfl, ht⟩
theorem ev_minT (ha : Ev K M ta σ H (.tuple [.int i, .int j])) : Ev K M (tCB (rMinT K) (tCons ta tNil)) σ H (.int (min i j)) := fun M2 H1 g Q q =>
  ha M2 H1 g _ fun v H2 e2 dv => by
    obtain ⟨a, rfl, hs⟩ := pair_of (dm_h dv)
    exact ⟨a, i, j, rfl, hs, q _ _ e2 (.int _)⟩
theorem ev_maxT (ha : Ev K M ta σ H (.tuple [.int i, .int j])) : Ev K M (tCB (rMaxT K) (tCons ta tNil)) σ H (.int (max i j)) := fun M2 H1 g Q q =>
  ha M2 H1 g _ fun v H2 e2 dv => by
    obtain ⟨a, rfl, hs⟩ := pair_of (dm_h dv)
    exact ⟨a, i, j, rfl, hs, q _ _ e2 (.int _)⟩
end
end Dq

/-! set(xs) of a list of ints; isinstance; three names at once; a chain of two comparisons -/
namespace Dq
open PySem PySem.Spec PyProof.Rows L2 Gd
/-- the empty set as it is laid -/
abbrev oSet (w : World) : Obj := ⟨.type "set", none, .set #[] 0 (.fresh 0 0 (!w.params.followText "set-order")), #[]⟩
section
variable {P : Program} {w : World} {A : Around} {E : Value → Shared → Prop} {s : Shared}
theorem laid_set_of_list {l : Addr} {items : Array Value} (ns : List Int) {Q : Value → Shared → Prop} (hh : A.handled = none) (hl : s.heap.IsList l items) (hit : IntsAre items.toList ns) (hb : ns.length + 1 < scanBound)
    (out : ∀ (g : Heap) (tk c : Nat), SetR w g s.heap.objs.size (fun j => decide (j ∈ ns)) c → c ≤ ns.length → (∀ b o, s.heap.get? b = some o → g.get? b = some o) → Q (.ref s.heap.objs.size) { s with heap := g, toks := tk }) :
    wpAny (model P w) A (call (.type "set") [.ref l]) Q E s := by
  have hsz : items.size = ns.length := by
    have q := IntsAre.length hit
    rwa [Array.length_toList] at q
  obtain ⟨_, _, hmro⟩ := F.called_set.mro
  have ⟨hmade, hsub⟩ := (⟨F.called_set.made, F.called_set.sub⟩ : _ ∧ _)
  refine wpAny_call (codeAny_of_tree (?_ : wpAny _ _ (callAny (.type "set") _) _ _ _))
  refine wpAny_pure ⟨Code.quiet_builtin _ (by decide +kernel), codeAny_builtin F.entry_type_call (?_)⟩
  rw [Around.under_plain (weight_type_call_type "set" [.ref l] []) rfl]
  have ⟨q1, q2⟩ := (⟨F.called_set.notType, F.called_set.canCreate⟩ : _ ∧ _)
  have q3 := F.typeCall_set_1 (.ref l)
  repeat (any_goals (first | assumption | wp_step))
  refine codeAny_mono (code_set_led1 (.ref l) (E := E) (Q₁ := fun o t => o = .ref s.heap.objs.size ∧ t = { s with heap := s.heap.push (oSet w) }) ⟨rfl, rfl⟩) fun r t hr => ?_
  rcases r with er | fl
  · exact hr
  · cases fl with
    | ret ob =>
      obtain ⟨rfl, rfl⟩ := hr
      have at0 : (s.heap.push (oSet w)).get? s.heap.objs.size = some (oSet w) := Heap.get?_push_size _ rfl
      have ty0 : Shared.TypeIs { s with heap := s.heap.push (oSet w) } (.ref s.heap.objs.size) "set" := ⟨_, at0, rfl⟩
      have ⟨i1, i2⟩ := (⟨F.called_set.init.lookup, F.called_set.init.bind (.ref s.heap.objs.size)⟩ : _ ∧ _)
      repeat (any_goals (first | assumption | wp_step))
      refine codeAny_mono (codeAny_call_builtin (R := wants (fun r t => r = .none ∧ ∃ g tk c, t = { s with heap := g, toks := tk } ∧ SetR w g s.heap.objs.size (fun j => decide (j ∈ ns)) c ∧ c ≤ ns.length ∧ ∀ b o, s.heap.get? b = some o → g.get? b = some o) E) F.called_set.init.plain F.entry_set_init (check_set_init_1 ty0 ?_)) fun r t hr => ?_
      · obtain ⟨⟨oc, od, odt, os⟩, ho, hc, nl, hd⟩ := hl
        simp only at hc hd
        subst hc; subst hd
        have ho1 : (s.heap.push (oSet w)).get? l = some ⟨.type "list", od, .seq items nl, os⟩ := Heap.get?_push_of_some _ ho
        have ⟨b1, b2⟩ := (⟨F.sub_list_set, F.sub_list_frozenset⟩ : _ ∧ _)
        have b3 : (Value.type "list" == Value.type "dict") = false := by decide
        have il : (s.heap.push (oSet w)).IsList l items := ⟨_, ho1, rfl, nl, rfl⟩
        unfold Builtin.«set.__init__» noKeywords Builtin.Frozenset.updateFrom
        generalize eP : pyIter = pI
        wp_walk
        subst eP
        refine wpAny_pyIter_list il (wpAny_bind (wpAny_runValue ?_))
        have lt := Heap.lt_size ho
        have h3 : A.in1.in1.in1.handled = none := by simp [hh]
        have ne1 : l ≠ (s.heap.push (oSet w)).objs.size := by rw [Heap.size_push]; exact Nat.ne_of_lt (Nat.lt_succ_of_lt lt)
        have ne2 : s.heap.objs.size ∉ [(s.heap.push (oSet w)).objs.size, l] := by
          rw [Heap.size_push]
          simp only [List.mem_cons, List.not_mem_nil, or_false, not_or]
          exact ⟨Nat.ne_of_lt (Nat.lt_succ_self _), Nat.ne_of_gt lt⟩
        have at1 : ((s.heap.push (oSet w)).push { cls := .type "list_iterator", data := .fields #[.ref l, .int 0 0] }).get? s.heap.objs.size = some (oSet w) := Heap.get?_push_of_some _ at0
        refine set_update_ints ((Walks.list h3 _ l ne1 items).toS) s.heap.objs.size ne2 ns hsz hb (fun i v hv => ?_) (items.size - 0) 0 _ (by omega) (Nat.zero_le _) ⟨⟨_, Heap.get?_push_size _ rfl, rfl, rfl⟩, il.push _⟩ ⟨0, Nat.le_refl 0, setR_new_at at1⟩ (fun s' c hm hc hS => ?_)
        · have hi : i < ns.length := by rw [← hsz]; exact (Array.getElem?_eq_some_iff.mp hv).1
          obtain ⟨t, e⟩ := IntsAre.int_at hit i v (by rw [Array.getElem?_toList]; exact hv)
          exact ⟨ns[i], t, List.getElem?_eq_getElem hi, by rw [e, List.getD_eq_getElem?_getD, List.getElem?_eq_getElem hi]; rfl⟩
        · obtain ⟨g, g2, d2, tk, o2⟩ := s'
          obtain ⟨e1, e2, e3⟩ := (⟨hm.gens, hm.drawn, hm.os⟩ : g2 = s.gens ∧ d2 = s.drawn ∧ o2 = s.os)
          subst e1; subst e2; subst e3
          refine (wpAny_pure (?_) : wpAny _ _ _ _ _ _)
          show wpAny _ _ (ret Value.none) _ _ _
          refine wpAny_pure ⟨rfl, g, tk, c, rfl, hS, by omega, fun b o e => ?_⟩
          have hb0 := Heap.lt_size e
          refine hm.heap b o ?_ (Heap.get?_push_of_some _ (Heap.get?_push_of_some _ e))
          rw [Heap.size_push]
          simp only [List.mem_cons, List.not_mem_nil, or_false, not_or]
          exact ⟨Nat.ne_of_lt hb0, Nat.ne_of_lt (Nat.lt_succ_of_lt hb0)⟩
      · rcases r with er | fl
        · exact hr
        · cases fl with
          | ret r =>
            obtain ⟨rfl, g, tk, c, rfl, a1, a2, a3⟩ := hr
            repeat (any_goals (first | assumption | wp_step))
            exact out _ _ _ a1 a2 a3
          | _ => exact hr.elim
    | _ => exact hr.elim
end

end Dq

namespace Dq
open PySem PySem.Spec PyProof.Rows L2 Gd
section
variable {X : Cx}
/-- set(xs), xs a list of ints -/
def rSetL (K : PySem.W.Frag) (w : World) : List V → Hp → VK → Prop := fun vs H Q => ∃ (a : Addr) (ns : List Int), vs = [V.ref a] ∧ SqL K H a (ns.map V.int) ∧ ns.length ≤ 4000 ∧
  ∀ q, H q = none → Q (.ref q) (upd H q (SetO w q (fun j => decide (j ∈ ns)) (lvl ns).length))
theorem card_set {w : World} {h : Heap} {a : Addr} {ns : List Int} {c : Nat} (R : SetR w h a (fun j => decide (j ∈ ns)) c) : c = (lvl ns).length := by
  obtain ⟨o, es, ep, t, _, _, _, _, hnd, hm, _, _, hsz, _⟩ := R
  have hp : (es.toList.map keyOf).Perm (lvl ns) := (List.perm_ext_iff_of_nodup hnd ((pw_lvl ns).imp fun h => Int.ne_of_lt h)).2 fun k => by
    rw [mem_lvl, ← hm k]
    exact decide_eq_true_iff
  rw [← hp.length_eq, List.length_map, Array.length_toList, hsz]
theorem cr_setL {K : PySem.W.Frag} {w : World} (hc : X.calm = true) (hK : X.K = K) (hw : X.w = w) : CallR X (.type "set") (rSetL K w) := by
  subst hK
  subst hw
  intro pins s σ H vs us Q I r h
  obtain ⟨a, ns, rfl, hs, hz, q⟩ := h
  obtain ⟨its, rv, pl, _⟩ := I.list hs
  rw [Vals.ref1 r]
  refine laid_set_of_list ns (I.ok.hd hc) pl.isList ?_ (by show ns.length + 1 < 4096; omega) fun h' tk c R hcn kp => ?_
  · exact Vals.ints (by simpa using rv)
  · have hcc := card_set R
    subst hcc
    exact ⟨.ref _, upd H s.heap.objs.size (SetO X.w s.heap.objs.size (fun j => decide (j ∈ ns)) (lvl ns).length), I.laid (t' := tk) kp (Nat.le_refl _) (setO_new R), rfl, q _ (I.hok.fresh (Nat.le_refl _))⟩
theorem call_isi_k {K : PySem.W.Frag} (hK : X.K = K) : CallR X (.builtin "isinstance") (rIsi K) := hK ▸ call_isi
end
section
variable {K : PySem.W.Frag} {M M' : List Addr} {σ : S} {H H' : Hp} {ta tb te tc : TE} {tt tu : TT} {as : TA} {d e f : PyData} {ds es : List PyData} {r : R2} {x y : V} {wi : TI} {D : Ends} {t u : TS} {s c : Addr} {P P1 : PyData → Prop} {w : World}
/-- its members, rising, at most 63 of them -/
theorem ev_lvlL {xs : List Int} (ha : Ev K M ta σ H (.list (xs.map PyData.int))) (hz : xs.length ≤ 4000) (hl : (lvl xs).length < 64) : Ev K M (tCB (rSortedSet w) (tCons (tCB (rSetL K w) (tCons ta tNil)) tNil)) σ H (.list ((lvl xs).map PyData.int)) := fun M2 H1 g Q q =>
  ha M2 H1 g _ fun v H2 e2 dv => by
    have t2 := (g.same e2).tr
    cases dv with
    | @lst a vs _ hs hx =>
      have hvs : vs = xs.map V.int := das_ints hx
      subst hvs
      refine ⟨a, xs, rfl, SqL.of (mn_same _ _ hs), hz, fun s0 hs0 => ?_⟩
      refine ⟨s0, _, _, rfl, upd_same, hl, fun ns p hp hm _ hp0 => ?_⟩
      have e3 : Same H2 (upd H2 s0 (SetO w s0 (fun j => decide (j ∈ xs)) (lvl xs).length)) := same_new hs0
      have hn : ns = lvl xs := pw_eq hp (pw_lvl xs) fun k => by
        rw [hm, mem_lvl]
        exact decide_eq_true_iff
      subst hn
      exact q _ _ ((e2.trans e3).trans (same_new hp0)) (dm_newL (Tr.same t2 e3) hp0 (Das.ints _))
theorem tyx_tup {v : V} (h : Da K H v (.tuple ds)) : TyX K H v (.type "tuple") := by
  cases h with
  | tup hs _ =>
    rcases hs with hs | ⟨o, its, n, hk, hc, _⟩
    · rcases hs with hs | ⟨o, hs⟩
      · exact .base (.tup hs)
      · exact .fTuple hs
    · exact .kTuple hk hc
theorem tyx_lst {v : V} (h : Da K H v (.list ds)) : TyX K H v (.type "list") := by
  cases h with
  | lst hs _ => exact .base (.lst hs)
theorem tyx_int {v : V} {i : Int} (h : Da K H v (.int i)) : TyX K H v (.type "int") := by
  cases h
  exact .base (.int i)
theorem tyx_bl {v : V} {b : Bool} (h : Da K H v (.bool b)) : TyX K H v (.type "bool") := by
  cases h
  exact .base (.bl b)
theorem tyx_str {v : V} {z : Str} (h : Da K H v (.str z)) : TyX K H v (.type "str") := by
  cases h
  exact .base (.str z)
theorem tyx_non {v : V} (h : Da K H v .none) : TyX K H v (.type "NoneType") := by
  cases h
  exact .base .non
theorem ev_isi {a b : String} {k : Bool} (ha : Ev K M ta σ H d) (ht : ∀ {H : Hp} {v : V}, Da K H v d → TyX K H v (.type a)) (hk : kitB a b = some k) : Ev K M (tCB (rIsi K) (tCons ta (tCons (tC (.ty b)) tNil))) σ H (.bool k) := fun M2 H1 g Q q =>
  ha M2 H1 g _ fun v H2 e2 dv => ⟨v, .ty b, .type a, .type b, k, rfl, .ty b, ht (dm_h dv), kit_ty hk, q _ _ e2 (.bl k)⟩
theorem ev_chain {g1 g2 : Int → Int → Bool} {i j k : Int} (ha : Ev K M ta σ H (.int i)) (hb : Ev K M tb σ H (.int j)) (hc : Ev K M tc σ H (.int k)) :
    Ev K M (tChain (rI0 fun i j => .bl (g1 i j)) (rI0 fun i j => .bl (g2 i j)) ta tb tc) σ H (.bool (g1 i j && g2 j k)) := fun M2 H1 g Q q =>
  ha M2 H1 g _ fun x H2 e2 dx => hb M2 H2 (g.same e2) _ fun y H3 e3 dy => by
    cases dx
    cases dy
    refine ⟨i, j, rfl, rfl, _, rfl, ?_⟩
    cases h : g1 i j with
    | false => exact iteF (q _ _ (e2.trans e3) (by rw [h]; exact .bl false))
    | true =>
      refine iteT (hc M2 H3 ((g.same e2).same e3) _ fun z H4 e4 dz => ?_)
      cases dz
      exact ⟨j, k, rfl, rfl, q _ _ ((e2.trans e3).trans e4) (by rw [h]; exact .bl _)⟩
theorem tk_three {i j l : Nat} {σ0 : S} {v1 v2 v3 : V} {p : Addr} (h : SqT K H p [v1, v2, v3]) : Tk (gTup K 3 (gCons (gName i) (gCons (gName j) (gCons (gName l) gNil)))) (.ref p) σ0 H (((σ0.set i (some v1)).set j (some v2)).set l (some v3)) :=
  fun Q q => ⟨p, _, rfl, h, rfl, _, _, rfl, _, _, rfl, _, _, rfl, rfl, q⟩
/-- a, b, c = .., three values, none of them drawn -/
theorem q_par3 {i j l : Nat} {d1 d2 d3 : PyData} (tr : Tr M H) (h : Ea K M as σ H [d1, d2, d3]) (k : ∀ v w z H1, Same H H1 → Tr M H1 → Dm K M H1 v d1 → Dm K M H1 w d2 → Dm K M H1 z d3 → u D (((σ.set i (some v)).set j (some w)).set l (some z)) H1) :
    tSeq (tPar3 i j l as) u D σ H := h M H (Go.refl tr) _ fun vs H1 e1 d1 => by
  cases d1 with
  | cons a1 r1 =>
    cases r1 with
    | cons a2 r2 =>
      cases r2 with
      | cons a3 r3 =>
        cases r3
        exact ⟨_, _, _, rfl, k _ _ _ H1 e1 (tr.same e1) a1 a2 a3⟩
end
end Dq

/-! repr of None and of an int, too; equal rows of ints -/
namespace Dq
open PySem PySem.Spec PyProof.Rows L2 Gd
section
variable {X : Cx}
def rReprZ (K : PySem.W.Frag) : List V → Hp → VK → Prop := fun xs H Q =>
  rReprA K xs H Q ∨ (xs = [V.non] ∧ Q (.str (PyData.shown .none)) H) ∨ ∃ i : Int, xs = [V.int i] ∧ i.natAbs.log2 < 1920 ∧ Q (.str (PyData.shown (.int i))) H
theorem call_reprZ (hg : X.A.guards = some []) (hu : X.A.units + 64 < cLine) : CallR X (.builtin "repr") (rReprZ X.K) := by
  intro pins s σ H xs us Q I r h
  rcases h with h | ⟨rfl, q⟩ | ⟨i, rfl, hi, q⟩
  · exact call_reprA hg hu pins s σ H xs us Q I r h
  · obtain ⟨u, rfl, ru⟩ := vals1 r
    cases ru
    refine PySem.P.repr_of_none ?_
    refine ⟨.str (PyData.shown .none), H, I.kept (h' := s.heap) fun _ _ e => e, ⟨s.toks, ?_⟩, q⟩
    unfold PyData.shown
    rfl
  · obtain ⟨u, rfl, ru⟩ := vals1 r
    obtain ⟨t, rfl⟩ := ru
    refine PySem.P.repr_of_int hi ?_
    refine ⟨.str (PyData.shown (.int i)), H, I.kept (h' := s.heap) fun _ _ e => e, ⟨s.toks, ?_⟩, q⟩
    unfold PyData.shown
    rfl
theorem call_reprZ_k {K : PySem.W.Frag} (h : X.K = K) (hg : X.A.guards = some []) (hu : X.A.units + 64 < cLine) : CallR X (.builtin "repr") (rReprZ K) := h ▸ call_reprZ hg hu
end
section
variable {K : PySem.W.Frag} {M M' : List Addr} {σ : S} {H H' : Hp} {ta tb te tc : TE} {tt tu : TT} {as : TA} {d e f : PyData} {ds es : List PyData} {r : R2} {x y : V} {wi : TI} {D : Ends} {t u : TS} {s c : Addr} {P P1 : PyData → Prop} {w : World}
/-- lists, tuples, bools, None -/
def plainD : PyData → Bool
  | .list _ => true
  | .tuple _ => true
  | .bool _ => true
  | .none => true
  | _ => false
theorem ev_reprZ {n k : Nat} (ha : Ev K M ta σ H d) (hd : plainD d = true) (h : Fit n k d) (hn : n ≤ 60) (hk : k ≤ 270000) : Ev K M (tCB (rReprZ K) (tCons ta tNil)) σ H (.str d.shown) := fun M2 H1 g Q q => by
  cases d with
  | list ds =>
    refine ha M2 H1 g _ fun v H2 e2 dv => ?_
    cases dv with
    | lst hs hx => exact .inl (.inl ⟨_, .list ds, rfl, Da.dp _ _ (dm_h (.lst hs hx)), h.shw, h.nod, Nat.le_trans h.dep hn, h.size hk, q _ _ e2 (.str _)⟩)
  | tuple ds =>
    refine ha M2 H1 g _ fun v H2 e2 dv => ?_
    cases dv with
    | tup hs hx => exact .inl (.inl ⟨_, .tuple ds, rfl, Da.dp _ _ (dm_h (.tup hs hx)), h.shw, h.nod, Nat.le_trans h.dep hn, h.size hk, q _ _ e2 (.str _)⟩)
  | bool b => exact ha M2 H1 g _ fun v H2 e2 dv => .inl (.inr ⟨b, by rw [dv.blV], q _ _ e2 (.str _)⟩)
  | none => exact ha M2 H1 g _ fun v H2 e2 dv => .inr (.inl ⟨by rw [dv.nonV], q _ _ e2 (.str _)⟩)
  | _ => cases hd
theorem ev_reprZi {i : Int} (ha : Ev K M ta σ H (.int i)) (hi : i.natAbs.log2 < 1920) : Ev K M (tCB (rReprZ K) (tCons ta tNil)) σ H (.str (PyData.shown (.int i))) :=
  fun M2 H1 g Q q => ha M2 H1 g _ fun v H2 e2 dv => .inr (.inr ⟨i, by rw [dv.intV], hi, q _ _ e2 (.str _)⟩)
end
theorem eqv_ints : ∀ xs ys : List Int, PyData.eqvAll (xs.map PyData.int) (ys.map PyData.int) = decide (xs = ys)
  | [], [] => by unfold PyData.eqvAll; rfl
  | [], y :: ys => by unfold PyData.eqvAll; rfl
  | x :: xs, [] => by unfold PyData.eqvAll; rfl
  | x :: xs, y :: ys => by
    have ih := eqv_ints xs ys
    rw [List.map_cons, List.map_cons]
    unfold PyData.eqvAll
    rw [ih]
    have e : PyData.eqv (.int x) (.int y) = (x == y) := by unfold PyData.eqv; rfl
    rw [e, Bool.eq_iff_iff, Bool.and_eq_true, beq_iff_eq, decide_eq_true_iff, decide_eq_true_iff, List.cons.injEq]
theorem eqv_tupI (xs ys : List Int) : PyData.eqv (.tuple (xs.map PyData.int)) (.tuple (ys.map PyData.int)) = decide (xs = ys) := by
  unfold PyData.eqv
  exact eqv_ints xs ys
theorem eqv_lstI (xs ys : List Int) : PyData.eqv (.list (xs.map PyData.int)) (.list (ys.map PyData.int)) = decide (xs = ys) := by
  unfold PyData.eqv
  exact eqv_ints xs ys
end Dq

/-! constants of the top: nested tuples, read off the written part -/
namespace Dq
open PySem PySem.Spec PyProof.Rows L2 Gd
def vOf : Value → V
  | .bool b => .bl b
  | .int i _ => .int i
  | .str x _ => .str x
  | .ref a => .ref a
  | _ => .non
def readL (f : Value → Option PyData) : List Value → Option (List PyData)
  | [] => some []
  | v :: r => match f v with
    | none => none
    | some d => match readL f r with
      | none => none
      | some ds => some (d :: ds)
/-- what a written value is, tuples down to a depth -/
def readV (K : PySem.W.Frag) : Nat → Value → Option PyData
  | _, .none => some .none
  | _, .bool b => some (.bool b)
  | _, .int i _ => some (.int i)
  | _, .str x _ => some (.str x)
  | n + 1, .ref a => match K.lookup a with
    | some ⟨.type t, none, .seq its _, _⟩ => if t = "tuple" then (if its.size ≤ 1000 then (readL (readV K n) its.toList).map PyData.tuple else none) else none
    | _ => none
  | _, _ => none
theorem readL_das {K : PySem.W.Frag} {H : Hp} {f : Value → Option PyData} (hf : ∀ v d, f v = some d → RelV (vOf v) v ∧ Da K H (vOf v) d) : ∀ (vs : List Value) (ds : List PyData), readL f vs = some ds → Vals (vs.map vOf) vs ∧ Das K H (vs.map vOf) ds
  | [], ds, h => by
    cases h
    exact ⟨.nil, .nil⟩
  | v :: r, ds, h => by
    unfold readL at h
    cases h1 : f v with
    | none => rw [h1] at h; cases h
    | some d =>
      rw [h1] at h
      cases h2 : readL f r with
      | none => rw [h2] at h; cases h
      | some es =>
        rw [h2] at h
        cases h
        obtain ⟨a, b⟩ := hf v d h1
        obtain ⟨x, y⟩ := readL_das hf r es h2
        exact ⟨.cons a x, .cons b y⟩
theorem readV_da {K : PySem.W.Frag} {H : Hp} : ∀ (n : Nat) (v : Value) (d : PyData), readV K n v = some d → RelV (vOf v) v ∧ Da K H (vOf v) d
  | n, .none, d, h => by
    unfold readV at h
    cases h
    exact ⟨rfl, .non⟩
  | n, .bool b, d, h => by
    unfold readV at h
    cases h
    exact ⟨rfl, .bl b⟩
  | n, .int i t, d, h => by
    unfold readV at h
    cases h
    exact ⟨⟨t, rfl⟩, .int i⟩
  | n, .str x t, d, h => by
    unfold readV at h
    cases h
    exact ⟨⟨t, rfl⟩, .str x⟩
  | n + 1, .ref a, d, h => by
    unfold readV at h
    split at h
    · next t its m _ hk =>
      split at h
      · next ht =>
        subst ht
        split at h
        · next hz =>
          cases hr : readL (readV K n) its.toList with
          | none => rw [hr] at h; cases h
          | some ds =>
            rw [hr] at h
            cases h
            obtain ⟨x, y⟩ := readL_das (K := K) (H := H) (readV_da n) its.toList ds hr
            exact ⟨rfl, .tup (.inr ⟨_, its, m, hk, rfl, rfl, by rw [sizeLine_eq]; omega, x⟩) y⟩
        · cases h
      · cases h
    · cases h
  | 0, .ref a, d, h => by
    unfold readV at h
    cases h
  | n, .bytes b t, d, h => by unfold readV at h; cases h
  | n, .float b t, d, h => by unfold readV at h; cases h
  | n, .type t, d, h => by unfold readV at h; cases h
  | n, .builtin t, d, h => by unfold readV at h; cases h
  | n, .ellipsis, d, h => by unfold readV at h; cases h
  | n, .notImplemented, d, h => by unfold readV at h; cases h
theorem readV_ty {K : PySem.W.Frag} {n : Nat} {a : Addr} {d : PyData} (h : readV K n (.ref a) = some d) : ∃ o, K.lookup a = some o ∧ o.cls = .type "tuple" ∧ o.dict = none := by
  cases n with
  | zero =>
    unfold readV at h
    cases h
  | succ n =>
    unfold readV at h
    split at h
    · next t its m _ hk =>
      split at h
      · next ht =>
        subst ht
        exact ⟨_, hk, rfl, rfl⟩
      · cases h
    · cases h
section
variable {K : PySem.W.Frag} {M M' : List Addr} {σ : S} {H H' : Hp}
/-- a constant -/
theorem ev_const {a : Addr} {n : Nat} {d : PyData} (h : readV K n (.ref a) = some d) : Ev K M (tC (.ref a)) σ H d := fun M2 H1 g Q q => q _ _ (Same.refl _) (readV_da n _ d h).2
end
end Dq

/-! t.index(y), t a tuple of data -/
namespace Dq
open PySem PySem.Spec PyProof.Rows L2 Gd
section
variable {X : Cx}
def rIndexT (K : PySem.W.Frag) : V → List V → Hp → VK → Prop := fun x xs H Q => ∃ (a : Addr) (y : V) (d : PyData) (ds : List PyData) (j : Nat) (z : PyData), x = V.ref a ∧ xs = [y] ∧ Dp K H (V.ref a) (.tuple ds) ∧ Dp K H y d ∧
  SeqAt.shaped (.tuple ds) = true ∧ SeqAt.shaped d = true ∧ ds[j]? = some z ∧ PyData.eqv z d = true ∧ (∀ (m : Nat) (z' : PyData), m < j → ds[m]? = some z' → PyData.eqv z' d = false) ∧ Q (.int (j : Nat)) H
theorem mt_indexT (hu : X.A.units + 65 < cLine) : MtR X "tuple.index" (rIndexT X.K) := by
  intro pins s σ H x xs v us Q I rx rxs h
  obtain ⟨a, y, d, ds, j, z, rfl, rfl, hl, hy, sl, sd, hz, hzj, hno, q⟩ := h
  cases rx
  cases rxs with
  | cons ry rt =>
    rename_i uy ut
    cases rt
    obtain ⟨bs, r1⟩ := Dp.reads I d y uy hy ry
    have lay : PyData.canLayAll0 ds = true := SeqAt.canLay_of_shaped sl
    have room : X.A.units + 1 + min (PyData.depthAll ds) d.depth < cLine := room_in_shaped sd hu
    cases hl with
    | tup hs ha =>
      obtain ⟨its, rv, ⟨⟨oc, od, odt, osl⟩, ho, hc, n, hdt⟩, hlen⟩ := I.tuple hs
      simp only at hc hdt
      subst hc hdt
      obtain ⟨as, h4⟩ := Dp.readsAll I ds _ its ha rv
      have n1 : its.length = ds.length := SeqAt.ReadsAll.length ds its as h4
      have hmap : its.map (SeqAt.readOf s.heap) = ds := SeqAt.readsAll_map ds its as lay h4
      obtain ⟨hjd, _⟩ := List.getElem?_eq_some_iff.mp hz
      have hj : j < its.toArray.size := by
        rw [List.size_toArray]
        omega
      have reads : ∀ (m : Nat) (hm : m < its.toArray.size) (z' : PyData), ds[m]? = some z' → SeqAt.readOf s.heap its.toArray[m] = z' := fun m hm z' hz' => by
        have hml : m < its.length := by rwa [List.size_toArray] at hm
        rw [← hmap, List.getElem?_map, List.getElem?_eq_getElem hml] at hz'
        simpa using Option.some.inj hz'
      refine call_meets PySem.F.slot_tuple_index ⟨_, ho, rfl⟩ PySem.F.entry_tuple_index (PySem.F.args_tuple_index_2 _ _)
        (TI.tuple_indexAt a its.toArray n od osl uy (fun u => PyData.eqv (SeqAt.readOf s.heap u) d) j hj ?_ ?_) ⟨ho, SeqAt.items_eqAt (vs := its.toArray) (show ReadsAll s.heap its.toArray.toList ds as from h4) r1 lay (SeqAt.canLay_of_shaped sd) room, .int (j : Nat), H, I.tok _, ⟨_, rfl⟩, q⟩
      · show PyData.eqv (SeqAt.readOf s.heap its.toArray[j]) d = true
        rw [reads j hj z hz, hzj]
      · intro m hm hmj
        show PyData.eqv (SeqAt.readOf s.heap its.toArray[m]) d = false
        have hmd : m < ds.length := by omega
        have e : ds[m]? = some ds[m] := List.getElem?_eq_getElem hmd
        rw [reads m hm _ e, hno m _ hmj e]
theorem mt_indexT_k {K : PySem.W.Frag} (hK : X.K = K) (hu : X.A.units + 65 < cLine) : MtR X "tuple.index" (rIndexT K) := hK ▸ mt_indexT hu
end
section
variable {K : PySem.W.Frag} {M M' : List Addr} {σ : S} {H H' : Hp} {ta tb te tc : TE} {d e : PyData} {ds es : List PyData}
theorem ev_indexT {a : Addr} {k j : Nat} {z : PyData} (hr : readV K k (.ref a) = some (.tuple ds)) (hb : Ev K M tb σ H d) (sl : SeqAt.shaped (.tuple ds) = true) (sd : SeqAt.shaped d = true) (hz : ds[j]? = some z) (he : PyData.eqv z d = true) (hno : ∀ (m : Nat) (z' : PyData), m < j → ds[m]? = some z' → PyData.eqv z' d = false) :
    Ev K M (tBM K "tuple" (rIndexT K) (tC (.ref a)) (tCons tb tNil)) σ H (.int (j : Nat)) := fun M2 H1 g Q q =>
  ⟨.inr (.inl ⟨rfl, readV_ty hr⟩), hb M2 H1 g _ fun y H3 e3 dy => ⟨_, _, d, ds, j, z, rfl, rfl, Da.dp _ _ (readV_da k _ _ hr).2, Da.dp _ _ (dm_h dy), sl, sd, hz, he, hno, q _ _ e3 (.int _)⟩⟩
end
end Dq

/-! list comprehensions of three clauses -/
namespace Dq
open PySem PySem.Spec PyProof.Rows L2 Gd
/-- a clause's tests -/
abbrev testsAt (ifs : List Expr) (env : Env) : Sem Bool := forIn ifs true fun c r => if r = true then (isTrue c env (eval c env) >>= fun ok => pure (ForInStep.yield ok)) else pure (ForInStep.yield r)
/-- what comes of a raise within -/
abbrev errIn (prog : Program) (w : World) (A : Around) (env : Env) (R : Result → Shared → Prop) : Value → Shared → Prop := notedBy (model prog w) A env fun x t => R (.error x) t
abbrev e3 (elt t0 i0 t1 i1 t2 i2 : Expr) (f0 f1 f2 : List Expr) (sc : Scope) (pos : Pos) : Expr := .ListComp elt [⟨t0, i0, f0, 0⟩, ⟨t1, i1, f1, 0⟩, ⟨t2, i2, f2, 0⟩] sc pos
section
variable {elt t0 i0 t1 i1 t2 i2 : Expr} {f0 f1 f2 : List Expr} {sc : Scope} {pos : Pos} {it acc : Value} {env : Env}
theorem turn3_0 : compTurn (e3 elt t0 i0 t1 i1 t2 i2 f0 f1 f2 sc pos) 0 it acc env = (do
    standAt i0.pos
    match ← pyNext it with
    | none => pure (.done .next)
    | some v =>
      letOwnedTupleGo t0 it v
      assign t0 env v
      let mut ok := true
      for q in f0 do
        if ok then ok ← isTrue q env (eval q env)
      if ok then
        let y ← eval i1 env
        standAt i1.pos
        let y ← foldedSetIterable i1 env y
        let _ ← runOwn (.compStart (e3 elt t0 i0 t1 i1 t2 i2 f0 f1 f2 sc pos) 1 (← holding [y] (pyIter y)) acc env) env
      again (.compLoop (e3 elt t0 i0 t1 i1 t2 i2 f0 f1 f2 sc pos) 0 it acc env)) := by rfl
theorem turn3_1 : compTurn (e3 elt t0 i0 t1 i1 t2 i2 f0 f1 f2 sc pos) 1 it acc env = (do
    standAt i1.pos
    match ← pyNext it with
    | none => pure (.done .next)
    | some v =>
      letOwnedTupleGo t1 it v
      assign t1 env v
      let mut ok := true
      for q in f1 do
        if ok then ok ← isTrue q env (eval q env)
      if ok then
        let y ← eval i2 env
        standAt i2.pos
        let y ← foldedSetIterable i2 env y
        let _ ← runOwn (.compStart (e3 elt t0 i0 t1 i1 t2 i2 f0 f1 f2 sc pos) 2 (← holding [y] (pyIter y)) acc env) env
      again (.compLoop (e3 elt t0 i0 t1 i1 t2 i2 f0 f1 f2 sc pos) 1 it acc env)) := by rfl
theorem turn3_2 : compTurn (e3 elt t0 i0 t1 i1 t2 i2 f0 f1 f2 sc pos) 2 it acc env = (do
    standAt i2.pos
    match ← pyNext it with
    | none => pure (.done .next)
    | some v =>
      letOwnedTupleGo t2 it v
      assign t2 env v
      let mut ok := true
      for q in f2 do
        if ok then ok ← isTrue q env (eval q env)
      if ok then
        (do let _ ← call (.builtin "list.append") [acc, ← eval elt env])
      again (.compLoop (e3 elt t0 i0 t1 i1 t2 i2 f0 f1 f2 sc pos) 2 it acc env)) := by rfl
end
section
variable {prog : Program} {w : World} {A : Around} {R : Result → Shared → Prop} {s : Shared} {tg nx elt el0 : Expr} {gs : List Comprehension} {sc : Scope} {ps : Pos} {fs : List Expr} {d : Nat} {it acc : Value} {env : Env}
/-- one turn of a clause: L is what its tests let by -/
def TurnP (prog : Program) (w : World) (A : Around) (env : Env) (R : Result → Shared → Prop) (tg : Expr) (fs : List Expr) (it : Value) (L : (Shared → Prop) → Shared → Prop) (n : Nat) (I : Nat → Shared → Prop) (s : Shared) : Prop :=
  wpAny (model prog w) A (pyNext it) (fun r s1 => match r with
    | none => R (.ok .next) s1
    | some v => wpAny (model prog w) A (letOwnedTupleGo tg it v) (fun _ s2 => wpAny (model prog w) A (assign tg env v) (fun _ s3 =>
        wpAny (model prog w) A (testsAt fs env) (fun ok s4 => if ok = true then L (fun s5 => ∃ m, m < n ∧ I m s5) s4 else ∃ m, m < n ∧ I m s4) (errIn prog w A env R) s3) (errIn prog w A env R) s2) (errIn prog w A env R) s1) (errIn prog w A env R) s
/-- the next clause's whole loop -/
def NextL (prog : Program) (w : World) (A : Around) (env : Env) (R : Result → Shared → Prop) (e nx : Expr) (d : Nat) (acc : Value) (Q : Shared → Prop) (s : Shared) : Prop :=
  wpAny (model prog w) A (eval nx env) (fun y s1 => wpAny (model prog w) A (pyIter y) (fun j s2 => codeAny (model prog w) A (.compStart e d j acc env) (fun r t => match r with
    | .ok _ => Q t
    | .error _ => False) s2) (errIn prog w A env R) s1) (errIn prog w A env R) s
/-- the item, put in -/
def PutL (prog : Program) (w : World) (A : Around) (env : Env) (R : Result → Shared → Prop) (elt : Expr) (acc : Value) (Q : Shared → Prop) (s : Shared) : Prop :=
  wpAny (model prog w) A (eval elt env) (fun y s1 => wpAny (model prog w) A (call (.builtin "list.append") [acc, y]) (fun _ s2 => Q s2) (errIn prog w A env R) s1) (errIn prog w A env R) s
theorem loop_mid (hs : ∀ y, foldedSetIterable nx env y = pure y) {ip : Pos} (ht : compTurn (.ListComp el0 gs sc ps) d it acc env = (do
    standAt ip
    match ← pyNext it with
    | none => pure (.done .next)
    | some v =>
      letOwnedTupleGo tg it v
      assign tg env v
      let mut ok := true
      for q in fs do
        if ok then ok ← isTrue q env (eval q env)
      if ok then
        let y ← eval nx env
        standAt nx.pos
        let y ← foldedSetIterable nx env y
        let _ ← runOwn (.compStart (.ListComp el0 gs sc ps) (d + 1) (← holding [y] (pyIter y)) acc env) env
      again (.compLoop (.ListComp el0 gs sc ps) d it acc env))) (I : Nat → Shared → Prop)
    (turn : ∀ n s, I n s → TurnP prog w A env R tg fs it (NextL prog w A env R (.ListComp el0 gs sc ps) nx (d + 1) acc) n I s) (n : Nat) (h : I n s) : codeAny (model prog w) A (.compLoop (.ListComp el0 gs sc ps) d it acc env) R s := by
  refine codeAny_loop rfl I (fun n s hI => ?_) n h
  show wpAny _ A ((compTurn (.ListComp el0 gs sc ps) d it acc env).onRaise (fun y => do noteFrame y env; theTreesLotGoes y)) _ _ s
  refine wpAny_noted ?_
  rw [ht]
  refine wpAny_bind (wpAny_standAt (wpAny_bind (wpAny_mono (turn n s hI) (fun r s1 q1 => ?_) fun _ _ z => z)))
  cases r with
  | none => exact wpAny_pure q1
  | some v =>
    refine wpAny_bind (wpAny_mono q1 (fun _ s2 q2 => wpAny_bind (wpAny_mono q2 (fun _ s3 q3 => wpAny_bind (wpAny_mono q3 (fun ok s4 q4 => ?_) fun _ _ z => z)) fun _ _ z => z)) fun _ _ z => z)
    cases ok with
    | false => exact wpAny_pure ⟨rfl, q4⟩
    | true =>
      refine wpAny_bind (wpAny_mono q4 (fun y s5 q5 => wpAny_bind (wpAny_standAt (wpAny_bind (wpAny_of_eq (hs y) (wpAny_bind (wpAny_holding (wpAny_mono q5 (fun j s6 q6 => ?_) fun _ _ z => z))))))) fun _ _ z => z)
      refine wpAny_bind (wpAny_runOwn ?_)
      rw [Around.mark_none]
      refine codeAny_mono q6 fun r t hr => ?_
      cases r with
      | error x => exact hr.elim
      | ok f => first | exact wpAny_pure ⟨rfl, hr⟩ | exact wpAny_bind (wpAny_pure (wpAny_pure ⟨rfl, hr⟩))
theorem loop_last {ip : Pos} (ht : compTurn (.ListComp el0 gs sc ps) d it acc env = (do
    standAt ip
    match ← pyNext it with
    | none => pure (.done .next)
    | some v =>
      letOwnedTupleGo tg it v
      assign tg env v
      let mut ok := true
      for q in fs do
        if ok then ok ← isTrue q env (eval q env)
      if ok then
        (do let _ ← call (.builtin "list.append") [acc, ← eval elt env])
      again (.compLoop (.ListComp el0 gs sc ps) d it acc env))) (I : Nat → Shared → Prop)
    (turn : ∀ n s, I n s → TurnP prog w A env R tg fs it (PutL prog w A env R elt acc) n I s) (n : Nat) (h : I n s) : codeAny (model prog w) A (.compLoop (.ListComp el0 gs sc ps) d it acc env) R s := by
  refine codeAny_loop rfl I (fun n s hI => ?_) n h
  show wpAny _ A ((compTurn (.ListComp el0 gs sc ps) d it acc env).onRaise (fun y => do noteFrame y env; theTreesLotGoes y)) _ _ s
  refine wpAny_noted ?_
  rw [ht]
  refine wpAny_bind (wpAny_standAt (wpAny_bind (wpAny_mono (turn n s hI) (fun r s1 q1 => ?_) fun _ _ z => z)))
  cases r with
  | none => exact wpAny_pure q1
  | some v =>
    refine wpAny_bind (wpAny_mono q1 (fun _ s2 q2 => wpAny_bind (wpAny_mono q2 (fun _ s3 q3 => wpAny_bind (wpAny_mono q3 (fun ok s4 q4 => ?_) fun _ _ z => z)) fun _ _ z => z)) fun _ _ z => z)
    cases ok with
    | false => exact wpAny_pure ⟨rfl, q4⟩
    | true => exact wpAny_bind (wpAny_bind (wpAny_mono q4 (fun y s5 q5 => wpAny_bind (wpAny_mono q5 (fun _ s6 q6 => wpAny_pure (wpAny_pure ⟨rfl, q6⟩)) fun _ _ z => z)) fun _ _ z => z))
theorem start_at {c : Comprehension} (hc : (clausesOf (.ListComp el0 gs sc ps))[d]? = some c) (ha : (c.is_async != 0) = false) (h0 : codeAny (model prog w) A (.compLoop (.ListComp el0 gs sc ps) d it acc env) R s)
    (h : wpAny (model prog w) A (pyIter it) (fun j t => codeAny (model prog w) A (.compLoop (.ListComp el0 gs sc ps) d j acc env) R t) (errIn prog w A env R) s) : codeAny (model prog w) A (.compStart (.ListComp el0 gs sc ps) d it acc env) R s := by
  refine codeAny_of_tree ?_
  show wpAny _ A ((compStart (.ListComp el0 gs sc ps) d it acc env).onRaise (fun y => do noteFrame y env; standAt theWindowsPlace)) _ _ s
  refine wpAny_notedAt ?_
  unfold compStart
  rw [hc]
  simp only [Option.elim, ha]
  show wpAny _ _ (ask >>= _) _ _ s
  refine wpAny_bind (wpAny_askSetting (wpAny_ite ?_))
  split
  · first
      | exact wpAny_bind (wpAny_pure (wpAny_pure ⟨rfl, h0⟩))
      | exact wpAny_pure ⟨rfl, h0⟩
  · refine wpAny_bind (wpAny_rule ?_)
    first
      | exact wpAny_bind (wpAny_standAt (wpAny_bind (wpAny_mono h (fun j t q => wpAny_pure ⟨rfl, q⟩) fun _ _ z => z)))
      | (show wpAny _ _ (standAt c.iter.pos >>= _) _ _ s; exact wpAny_bind (wpAny_standAt (wpAny_bind (wpAny_mono h (fun j t q => wpAny_pure ⟨rfl, q⟩) fun _ _ z => z))))
end
/-! their readings -/
/-- the item goes to the list at D -/
def tPut (te : TE) (D : Addr) : L2.St → Hp → (Hp → Prop) → Prop := fun σ H Nx => te σ H fun y H1 => ∃ acc, H1 D = some (.lst acc) ∧ acc.length < sizeLine ∧ Nx (upd H1 D (.lst (acc ++ [y])))
/-- a clause within: T is what stands in it -/
def tNest (wi : TI) (g : TG) (tt : TT) (vs : List Nat) (T : L2.St → Hp → (Hp → Prop) → Prop) : L2.St → Hp → (Hp → Prop) → Prop := fun σ H Nx => wi σ H fun J H1 => ∃ W : Nat → Nat → Hp → Prop, (∃ m, W 0 m H1) ∧ ∀ j k H, W j k H →
  (J.stop j H ∧ Nx H) ∨ (J.go j H ∧ ∃ Ny : Hp → Prop, (∀ H', Ny H' → ∃ k', k' < k ∧ W (j + 1) k' H') ∧ ∀ x H', J.yld j H x H' → g x (wipe σ vs) H' fun σ2 H2 => wipe σ2 vs = wipe σ vs ∧ tt σ2 H2 fun b H3 => if b = true then T σ2 H3 Ny else Ny H3)
/-- the whole: own are the block's slots -/
def tLcT (wi : TI) (g : TG) (tt : TT) (own : List Nat) (T : Addr → L2.St → Hp → (Hp → Prop) → Prop) : TE := fun σ H Q => wi σ H fun J H1 => ∀ D, H1 D = none → ∃ W : Nat → Nat → Hp → Prop, (∃ m, W 0 m (upd H1 D (.lst []))) ∧ ∀ j k H, W j k H →
  (J.stop j H ∧ Q (.ref D) H) ∨ (J.go j H ∧ ∃ Ny : Hp → Prop, (∀ H', Ny H' → ∃ k', k' < k ∧ W (j + 1) k' H') ∧ ∀ x H', J.yld j H x H' → g x (wipe σ own) H' fun σ2 H2 => wipe σ2 own = wipe σ own ∧ tt σ2 H2 fun b H3 => if b = true then T D σ2 H3 Ny else Ny H3)
def Post (Y : Cx) (pins : List (Addr × Obj)) (σ : L2.St) (vs : List Nat) (Nx : Hp → Prop) (s : Shared) : Prop :=
  ∃ σ' H', Inv Y pins σ' H' s ∧ σ'.length = σ.length ∧ (∀ (j : Nat) v, j ∉ vs → σ[j]? = some (some v) → σ'[j]? = some (some v)) ∧ Nx H'
/-- a piece of the run does as its reading says -/
def Does (Y : Cx) (L : (Shared → Prop) → Shared → Prop) (T : L2.St → Hp → (Hp → Prop) → Prop) (vs : List Nat) : Prop :=
  ∀ (pins : List (Addr × Obj)) (s : Shared) (σ : L2.St) (H : Hp) (Nx : Hp → Prop) (Q : Shared → Prop), Inv Y pins σ H s → T σ H Nx → (∀ t, Post Y pins σ vs Nx t → Q t) → L Q s
section
variable {Y : Cx} {elt tg nx e : Expr} {fs : List Expr} {te : TE} {wi : TI} {g : TG} {tt : TT} {D : Addr} {R : Result → Shared → Prop} {T : L2.St → Hp → (Hp → Prop) → Prop} {vs vs' : List Nat} {d : Nat}
theorem thnY {α : Type} {t : Sem α} {Q Q' : α → Shared → Prop} {E : Value → Shared → Prop} {s : Shared} (hY : Y.xe = fun _ _ => False) (h : wpAny (model Y.prog Y.w) Y.A t Q Y.xe s) (hQ : ∀ a t, Q a t → Q' a t) : wpAny (model Y.prog Y.w) Y.A t Q' E s := by
  rw [hY] at h
  exact thnF h hQ
theorem put_does (hY : Y.xe = fun _ _ => False) (pe : PE Y elt te) : Does Y (PutL Y.prog Y.w Y.A Y.env R elt (.ref D)) (tPut te D) [] := fun pins s σ H Nx Q I h hQ =>
  thnY hY (pe.run pins s σ H _ I h) fun z s1 ⟨yv, H1, I1, r1, acc, hD, hz, nx⟩ => app_ok I1 hD hz r1 fun s2 I2 => hQ s2 ⟨σ, _, I2, rfl, fun _ _ _ e => e, nx⟩
theorem nest_does (hY : Y.xe = fun _ _ => False) (hc : Y.calm = true) (pi : PI Y tg nx wi) (pg : PG Y tg g) (pt : PTs Y fs tt) {L : (Result → Shared → Prop) → (Shared → Prop) → Shared → Prop} (hin : ∀ R, Does Y (L R) T vs') (hvs : ∀ i ∈ vs', i ∈ vs)
    (hloop : ∀ (it : Value) (R : Result → Shared → Prop) (I : Nat → Shared → Prop), (∀ n s, I n s → TurnP Y.prog Y.w Y.A Y.env R tg fs it (L R) n I s) → ∀ n s, I n s → codeAny (model Y.prog Y.w) Y.A (.compLoop e d it (.ref D) Y.env) R s)
    (hst : ∀ (it : Value) (R : Result → Shared → Prop) (s : Shared), codeAny (model Y.prog Y.w) Y.A (.compLoop e d it (.ref D) Y.env) R s → wpAny (model Y.prog Y.w) Y.A (pyIter it) (fun j t => codeAny (model Y.prog Y.w) Y.A (.compLoop e d j (.ref D) Y.env) R t) (errIn Y.prog Y.w Y.A Y.env R) s →
      codeAny (model Y.prog Y.w) Y.A (.compStart e d it (.ref D) Y.env) R s) :
    Does Y (NextL Y.prog Y.w Y.A Y.env R e nx d (.ref D)) (tNest wi g tt vs T) vs := by
  intro pins s σ H Nx Q I h hQ
  refine thnY hY (pi.run pins s σ H _ I h) fun y s1 hx => thnY hY hx fun j s2 h2 => ?_
  obtain ⟨it, fp, tn, J, H2, e1, I2, Tn, st2, f2, W, ⟨m0, w0⟩, turn⟩ := h2
  subst e1
  have stat : ∀ {H' : Hp}, (∀ b ∈ fp, H' b = none) → ∀ b ∈ fp, FpOk Y pins H' b := fun hn b hb => ⟨hn b hb, (f2 b hb).2⟩
  have go : codeAny (model Y.prog Y.w) Y.A (.compLoop e d (.ref it) (.ref D) Y.env) (fun r t => match r with
      | .ok _ => Q t
      | .error _ => False) s2 := by
    refine hloop (.ref it) _ (fun k t => ∃ j H', Inv Y pins (wipe σ vs) H' t ∧ tn j t.heap ∧ (∀ b ∈ fp, H' b = none) ∧ W j k H') ?_ m0 s2 ⟨0, H2, I2.weak (wipe_length _ _) (fun j v z => (wipe_some z).1), st2, fun b hb => (f2 b hb).1, w0⟩
    rintro k s3 ⟨j, H3, I3, st3, n3, w3⟩
    unfold TurnP
    rcases turn j k H3 w3 with ⟨stop, nx1⟩ | ⟨gon, Ny, hNy, step⟩
    · refine thnF (Tn.done Y rfl rfl rfl hc j _ s3 (wipe σ vs) H3 (fun _ _ => False) I3 (stat n3) st3 stop) fun r s4 ⟨hr, I4⟩ => ?_
      subst hr
      exact hQ s4 ⟨_, H3, I4, wipe_length _ _, fun j v hj z => by rw [wipe_out hj]; exact z, nx1⟩
    · refine thnF (Tn.item Y rfl rfl rfl hc j _ s3 (wipe σ vs) H3 (fun _ _ => False) I3 (stat n3) st3 gon) fun r s4 ⟨u, hr, h4⟩ => ?_
      subst hr
      refine thnF h4 fun _ s5 ⟨x, H5, I5, r5, y5, st5, n5⟩ => ?_
      have I6 := I5.pinned (stat n5) (Tn.obj _ _ st5)
      refine thnY hY (pg.run _ s5 (wipe σ vs) H5 x u _ I6 r5 (step x H5 y5)) fun _ s7 ⟨σ7, H7, I7, hw, q7⟩ => ?_
      have hl7 : (wipe σ vs).length = σ7.length := by rw [← hw, wipe_length]
      have hk7 : ∀ (j : Nat) v, (wipe σ vs)[j]? = some (some v) → j ∉ vs' ∧ σ7[j]? = some (some v) := fun j v z => by
        rw [← hw] at z
        obtain ⟨a, b⟩ := wipe_some z
        exact ⟨fun q => b (hvs j q), a⟩
      have fin : ∀ {σ' : L2.St} {t : Shared} {H' : Hp}, Inv Y (pins ++ pinsAt fp s5.heap) σ' H' t → σ'.length = σ7.length → (∀ (j : Nat) v, j ∉ vs' → σ7[j]? = some (some v) → σ'[j]? = some (some v)) → Ny H' → ∃ m, m < k ∧ ∃ j H', Inv Y pins (wipe σ vs) H' t ∧ tn j t.heap ∧ (∀ b ∈ fp, H' b = none) ∧ W j m H' := fun {σ' t H'} I' hl hk ny => by
        obtain ⟨m, hm, w'⟩ := hNy H' ny
        have pin : ∀ b ∈ fp, ∀ o, s5.heap.get? b = some o → t.heap.get? b = some o ∧ H' b = none := fun b hb o z =>
          let q := I'.pin (b, o) (List.mem_append_right _ (List.mem_append_right _ (mem_pinsAt hb z)))
          ⟨q.1, q.2.1⟩
        refine ⟨m, hm, j + 1, H', I'.unpinned.weak (hl7.trans hl.symm) (fun j v z => hk j v (hk7 j v z).1 (hk7 j v z).2), Tn.keep _ _ _ st5 fun b hb o z => (pin b hb o z).1, fun b hb => ?_, w'⟩
        obtain ⟨o, z, _⟩ := Tn.obj _ _ st5 b hb
        exact (pin b hb o z).2
      refine thnY hY (pt.run _ s7 σ7 H7 _ I7 q7) fun b s8 ⟨H8, I8, q8⟩ => ?_
      cases b with
      | false => exact fin I8 rfl (fun _ _ _ z => z) q8
      | true => exact hin _ _ s8 σ7 H8 Ny _ I8 q8 fun t ⟨σ', H', I', hl, hk, ny⟩ => fin I' hl hk ny
  exact hst _ _ s2 go (Tn.self Y.A 0 _ _ _ st2 go)
end
end Dq

namespace Dq
open PySem PySem.Spec PyProof.Rows L2 Gd
section
variable {X : Cx} {elt t0 i0 t1 i1 t2 i2 : Expr} {f0 f1 f2 : List Expr} {sc : Scope} {pos : Pos} {own : List (Str × Nat)} {vs1 vs2 : List Nat} {wi0 wi1 wi2 : TI} {g0 g1 g2 : TG} {tt0 tt1 tt2 : TT} {te : TE}
abbrev blkX (X : Cx) (sc : Scope) (s : Shared) (H : Hp) (C : Addr) (cl : List (Str × Addr)) (fp : List Addr) : Cx := X.blk s H sc (compEnvC sc cl C X.env) fp
theorem pe_lc3 (hc : X.calm = true) (hN : X.N.Nodup) (hi : PI X t0 i0 wi0) (ok : BlkOk X.N X.env.scope sc own) (hv1 : ∀ i ∈ vs1, i ∈ own.map (·.2)) (hv2 : ∀ i ∈ vs2, i ∈ vs1)
    (pg0 : ∀ s H C cl fp, PG (blkX X sc s H C cl fp) t0 g0) (pt0 : ∀ s H C cl fp, PTs (blkX X sc s H C cl fp) f0 tt0)
    (pi1 : ∀ s H C cl fp, PI (blkX X sc s H C cl fp) t1 i1 wi1) (pg1 : ∀ s H C cl fp, PG (blkX X sc s H C cl fp) t1 g1) (pt1 : ∀ s H C cl fp, PTs (blkX X sc s H C cl fp) f1 tt1)
    (pi2 : ∀ s H C cl fp, PI (blkX X sc s H C cl fp) t2 i2 wi2) (pg2 : ∀ s H C cl fp, PG (blkX X sc s H C cl fp) t2 g2) (pt2 : ∀ s H C cl fp, PTs (blkX X sc s H C cl fp) f2 tt2)
    (pe : ∀ s H C cl fp, PE (blkX X sc s H C cl fp) elt te)
    (hs0 : ∀ x, foldedSetIterable i0 X.env x = pure x := by intro _; rfl) (hs1 : ∀ env x, foldedSetIterable i1 env x = pure x := by intro _ _; rfl) (hs2 : ∀ env x, foldedSetIterable i2 env x = pure x := by intro _ _; rfl) :
    PE X (e3 elt t0 i0 t1 i1 t2 i2 f0 f1 f2 sc pos) (tLcT wi0 g0 tt0 (own.map (·.2)) fun D => tNest wi1 g1 tt1 vs1 (tNest wi2 g2 tt2 vs2 (tPut te D))) := by
  refine ⟨fun pins s σ H Q I h => ?_⟩
  rw [eval_ListComp]
  have fr : ∀ y ∈ sc.names, y.2 = .free → ∃ c, X.env.cells.lookup y.1 = some c := fun y hy z => (ok.free y hy z).elim (fun q => I.ok.has _ (.inl q)) fun q => I.ok.has _ (.inr q)
  refine wpAny_comprehension_free rfl hs0 (closure_ok fr) ok.kind (fun y hy z => by rw [ok.uniq y hy, z]) (thn (hi.run pins s σ H _ I h) fun _ s1 h1 => thn h1 fun _ s2 h2 => ?_)
  obtain ⟨it, fp, tn, J, H2, e1, I2, Tn, st2, f2', q⟩ := h2
  subst e1
  refine wpAny_newObj_type (newEnv_comp ?_) (by show 0 ≤ sizeLine; decide)
  obtain ⟨W, ⟨m0, w0⟩, turn⟩ := q _ (I2.hok.fresh (Nat.le_refl s2.heap.objs.size))
  generalize hs3 : ({ s2 with heap := s2.heap.push { cls := .type "list", data := .seq ([] : List Value).toArray } } : Shared) = s3
  have push : s3.heap = s2.heap.push { cls := .type "list", data := .seq ([] : List Value).toArray } := by rw [← hs3]
  have I3 : Inv X pins σ (upd H2 s2.heap.objs.size (.lst [])) s3 := by
    rw [← hs3]
    exact I2.laid (t' := s2.toks) (fun b o z => Heap.get?_push_of_some _ z) (Nat.le_refl _) ⟨Nat.zero_le _, [], 0, .nil, Heap.get?_push_size _ rfl⟩
  have st3 : tn 0 s3.heap := Tn.keep _ _ _ st2 fun b _ o z => by rw [push]; exact Heap.get?_push_of_some _ z
  have lt3 : ∀ b ∈ fp, FpOk X pins (upd H2 s2.heap.objs.size (.lst [])) b ∧ b < s3.heap.objs.size := fun b hb => by
    obtain ⟨o, z, _⟩ := Tn.obj _ _ st2 b hb
    have hlt := Heap.lt_size z
    refine ⟨⟨?_, (f2' b hb).2⟩, by rw [push, Heap.size_push]; exact Nat.lt_succ_of_lt hlt⟩
    rw [upd_ne (Nat.ne_of_lt hlt)]
    exact (f2' b hb).1
  generalize s2.heap.objs.size = D at turn w0 I3 lt3
  generalize upd H2 D (.lst []) = H3 at w0 I3 lt3
  have I4 := block_start I3 ok hN lt3
  have kp4 : ∀ b o, s3.heap.get? b = some o → (pushCells (s3.heap.push { cls := .type "dict", data := .dict #[] }) sc.names).get? b = some o := fun b o z => pushCells_keeps _ _ _ _ (Heap.get?_push_of_some _ z)
  have a0 := pg0 s3 H3 s3.heap.objs.size (cellsFrom (s3.heap.objs.size + 1) sc.names (cloFrom X.env.cells sc.names [])) fp
  have b0 := pt0 s3 H3 s3.heap.objs.size (cellsFrom (s3.heap.objs.size + 1) sc.names (cloFrom X.env.cells sc.names [])) fp
  have c1 := pi1 s3 H3 s3.heap.objs.size (cellsFrom (s3.heap.objs.size + 1) sc.names (cloFrom X.env.cells sc.names [])) fp
  have a1 := pg1 s3 H3 s3.heap.objs.size (cellsFrom (s3.heap.objs.size + 1) sc.names (cloFrom X.env.cells sc.names [])) fp
  have b1 := pt1 s3 H3 s3.heap.objs.size (cellsFrom (s3.heap.objs.size + 1) sc.names (cloFrom X.env.cells sc.names [])) fp
  have c2 := pi2 s3 H3 s3.heap.objs.size (cellsFrom (s3.heap.objs.size + 1) sc.names (cloFrom X.env.cells sc.names [])) fp
  have a2 := pg2 s3 H3 s3.heap.objs.size (cellsFrom (s3.heap.objs.size + 1) sc.names (cloFrom X.env.cells sc.names [])) fp
  have b2 := pt2 s3 H3 s3.heap.objs.size (cellsFrom (s3.heap.objs.size + 1) sc.names (cloFrom X.env.cells sc.names [])) fp
  have z2 := pe s3 H3 s3.heap.objs.size (cellsFrom (s3.heap.objs.size + 1) sc.names (cloFrom X.env.cells sc.names [])) fp
  generalize hY : blkX X sc s3 H3 s3.heap.objs.size (cellsFrom (s3.heap.objs.size + 1) sc.names (cloFrom X.env.cells sc.names [])) fp = Y at a0 b0 c1 a1 b1 c2 a2 b2 z2
  have I4 : Inv Y [] (wipe σ (own.map (·.2))) H3 { s3 with heap := pushCells (s3.heap.push { cls := .type "dict", data := .dict #[] }) sc.names } := by rw [← hY]; exact I4
  have yx : Y.xe = fun _ _ => False := by cases hY; rfl
  have yp : Y.prog = X.prog := by cases hY; rfl
  have yw : Y.w = X.w := by cases hY; rfl
  have yk : Y.K = X.K := by cases hY; rfl
  have ya : Y.A = X.A := by cases hY; rfl
  have yc : Y.calm = true := by cases hY; exact hc
  have yl : Y.env.locals = s3.heap.objs.size := by cases hY; rfl
  have ye : Y.ex = fp := by cases hY; rfl
  have ypn : Y.pn = [] := by cases hY; rfl
  have key : codeAny (model Y.prog Y.w) Y.A (.compStart (e3 elt t0 i0 t1 i1 t2 i2 f0 f1 f2 sc pos) 0 (.ref it) (.ref D) Y.env) (compPost (model X.prog X.w) X.A X.xe none (EP X pins σ Q) (.ref D) s3.heap.objs.size) { s3 with heap := pushCells (s3.heap.push { cls := .type "dict", data := .dict #[] }) sc.names } := by
    have st4 : tn 0 (pushCells (s3.heap.push { cls := .type "dict", data := .dict #[] }) sc.names) := Tn.keep _ _ _ st3 fun b _ o z => kp4 b o z
    have stat : ∀ {σ' : L2.St} {H' : Hp} {t : Shared}, Inv Y [] σ' H' t → (∀ b ∈ fp, H' b = none) → ∀ b ∈ fp, FpOk Y [] H' b := fun {σ' H' t} I' hn b hb =>
      have hb' : b ∈ Y.ex := by rw [ye]; exact hb
      ⟨hn b hb, (I'.ok.exf b hb').1, I'.ok.exfs b hb', .inl hb', fun x c z => (I'.ok.exf b hb').2 x c z, fun p hp => by rw [ypn] at hp; exact absurd hp (by simp)⟩
    have inner2 : ∀ R, Does Y (PutL Y.prog Y.w Y.A Y.env R elt (.ref D)) (tPut te D) [] := fun R => put_does yx z2
    have inner1 : ∀ R, Does Y (NextL Y.prog Y.w Y.A Y.env R (e3 elt t0 i0 t1 i1 t2 i2 f0 f1 f2 sc pos) i2 2 (.ref D)) (tNest wi2 g2 tt2 vs2 (tPut te D)) vs2 := fun R =>
      nest_does yx yc c2 a2 b2 inner2 (fun i hi => absurd hi List.not_mem_nil) (fun j R I tn n s h => loop_last turn3_2 I tn n h) (fun j R s h0 h => start_at (c := ⟨t2, i2, f2, 0⟩) rfl rfl h0 h)
    have inner0 : ∀ R, Does Y (NextL Y.prog Y.w Y.A Y.env R (e3 elt t0 i0 t1 i1 t2 i2 f0 f1 f2 sc pos) i1 1 (.ref D)) (tNest wi1 g1 tt1 vs1 (tNest wi2 g2 tt2 vs2 (tPut te D))) vs1 := fun R =>
      nest_does yx yc c1 a1 b1 inner1 hv2 (fun j R I tn n s h => loop_mid (hs2 _) turn3_1 I tn n h) (fun j R s h0 h => start_at (c := ⟨t1, i1, f1, 0⟩) rfl rfl h0 h)
    have loop : codeAny (model Y.prog Y.w) Y.A (.compLoop (e3 elt t0 i0 t1 i1 t2 i2 f0 f1 f2 sc pos) 0 (.ref it) (.ref D) Y.env) (compPost (model X.prog X.w) X.A X.xe none (EP X pins σ Q) (.ref D) s3.heap.objs.size) { s3 with heap := pushCells (s3.heap.push { cls := .type "dict", data := .dict #[] }) sc.names } := by
      have Ty : Turn Y.prog Y.w Y.K t0 J fp it tn := by rw [yp, yw, yk]; exact Tn
      refine loop_mid (hs1 _) turn3_0 (fun k t => ∃ j H', Inv Y [] (wipe σ (own.map (·.2))) H' t ∧ tn j t.heap ∧ (∀ b ∈ fp, H' b = none) ∧ W j k H') ?_ m0 ⟨0, H3, I4, st4, fun b hb => (lt3 b hb).1.1, w0⟩
      rintro k s5 ⟨j, H5, I5, st5, n5, w5⟩
      unfold TurnP
      rcases turn j k H5 w5 with ⟨stop, qq⟩ | ⟨gon, Ny, hNy, step⟩
      · refine thnF (Ty.done Y rfl rfl rfl yc j [] s5 _ H5 (fun _ _ => False) I5 (stat I5 n5) st5 stop) fun r s6 ⟨hr, I6⟩ => ?_
        subst hr
        obtain ⟨m, hn, _⟩ := I6.loc
        have hn : s6.heap.Ns s3.heap.objs.size m := by rw [← yl]; exact hn
        have nC : H5 s3.heap.objs.size = none := by rw [← yl]; exact I6.free
        subst hY
        have I7 : Inv X pins σ H5 s6 := I3.call' (ch := fp) I6.os I6.base I6.hok I6.bare fun b hb => ⟨(lt3 b hb).1.2.2.2.1, (lt3 b hb).1.2.1, (lt3 b hb).1.2.2.2.2.1, (lt3 b hb).1.2.2.2.2.2⟩
        obtain ⟨q0, q1, q2, q3, q4, q5⟩ := I3.fpOk (Nat.le_refl _) nC
        exact ⟨m, hn, fun h' sb => ⟨.ref D, H5, I7.turned (t' := s6.toks) (fun b o hb z => (sb.2 b hb).trans z) q0 q1 q3 q4 q5, rfl, qq⟩⟩
      · refine thnF (Ty.item Y rfl rfl rfl yc j [] s5 _ H5 (fun _ _ => False) I5 (stat I5 n5) st5 gon) fun r s6 ⟨u, hr, h6⟩ => ?_
        subst hr
        refine thnF h6 fun _ s7 ⟨x, H7, I7, r7, y7, st7, n7⟩ => ?_
        have I8 := I7.pinned (stat I7 n7) (Ty.obj _ _ st7)
        refine thnY yx (a0.run _ s7 _ H7 x u _ I8 r7 (step x H7 y7)) fun _ s9 ⟨σ9, H9, I9, hw, q9⟩ => ?_
        have hl9 : (wipe σ (own.map (·.2))).length = σ9.length := by rw [← hw, wipe_length]
        have hk9 : ∀ (j : Nat) v, (wipe σ (own.map (·.2)))[j]? = some (some v) → j ∉ vs1 ∧ σ9[j]? = some (some v) := fun j v z => by
          rw [← hw] at z
          obtain ⟨a, b⟩ := wipe_some z
          exact ⟨fun q => b (hv1 j q), a⟩
        have fin : ∀ {σ' : L2.St} {t : Shared} {H' : Hp}, Inv Y ([] ++ pinsAt fp s7.heap) σ' H' t → σ'.length = σ9.length → (∀ (j : Nat) v, j ∉ vs1 → σ9[j]? = some (some v) → σ'[j]? = some (some v)) → Ny H' → ∃ m, m < k ∧ ∃ j H', Inv Y [] (wipe σ (own.map (·.2))) H' t ∧ tn j t.heap ∧ (∀ b ∈ fp, H' b = none) ∧ W j m H' := fun {σ' t H'} I' hl hk ny => by
          obtain ⟨m, hm, w'⟩ := hNy H' ny
          have pin : ∀ b ∈ fp, ∀ o, s7.heap.get? b = some o → t.heap.get? b = some o ∧ H' b = none := fun b hb o z =>
            let q := I'.pin (b, o) (List.mem_append_right _ (List.mem_append_right _ (mem_pinsAt hb z)))
            ⟨q.1, q.2.1⟩
          refine ⟨m, hm, j + 1, H', (I'.unpinned (pins := [])).weak (hl9.trans hl.symm) (fun j v z => hk j v (hk9 j v z).1 (hk9 j v z).2), Ty.keep _ _ _ st7 fun b hb o z => (pin b hb o z).1, fun b hb => ?_, w'⟩
          obtain ⟨o, z, _⟩ := Ty.obj _ _ st7 b hb
          exact (pin b hb o z).2
        refine thnY yx (b0.run _ s9 σ9 H9 _ I9 q9) fun b s10 ⟨H10, I10, q10⟩ => ?_
        cases b with
        | false => exact fin I10 rfl (fun _ _ _ z => z) q10
        | true => exact inner0 _ _ s10 σ9 H10 Ny _ I10 q10 fun t ⟨σ', H', I', hl, hk, ny⟩ => fin I' hl hk ny
    exact start_at (c := ⟨t0, i0, f0, 0⟩) rfl rfl loop (by
      rw [yp, yw]
      exact Tn.self Y.A 0 _ _ _ st4 (by rw [yp, yw] at loop; exact loop))
  rw [yp, yw, ya] at key
  rw [← hY] at key
  exact key
end
end Dq

/-! what comprehensions of two and three clauses are worth -/
namespace Dq
open PySem PySem.Spec PyProof.Rows L2 Gd
def flatN (n : Nat) (el : Nat → List PyData) : List PyData := (List.range n).flatMap el
theorem flatN_succ {n : Nat} {el : Nat → List PyData} : flatN (n + 1) el = flatN n el ++ el n := by
  unfold flatN
  rw [List.range_succ, List.flatMap_append]
  simp
theorem flatN_le {el : Nat → List PyData} : ∀ {n j : Nat}, j ≤ n → (flatN j el).length ≤ (flatN n el).length
  | 0, j, h => by
    have e : j = 0 := by omega
    rw [e]
    exact Nat.le_refl _
  | n + 1, j, h => by
    by_cases c : j = n + 1
    · rw [c]
      exact Nat.le_refl _
    · have := flatN_le (el := el) (show j ≤ n by omega)
      rw [flatN_succ, List.length_append]
      omega
theorem flatN_map {α : Type} (el : α → List PyData) : ∀ xs : List α, flatN xs.length (fun i => match xs[i]? with | some a => el a | none => []) = xs.flatMap el := by
  intro xs
  have key : ∀ n, n ≤ xs.length → flatN n (fun i => match xs[i]? with | some a => el a | none => []) = (xs.take n).flatMap el := by
    intro n
    induction n with
    | zero => intro _; rfl
    | succ n ih =>
      intro h
      have hn : n < xs.length := by omega
      rw [flatN_succ, ih (by omega), List.take_succ_eq_append_getElem hn, List.flatMap_append, List.getElem?_eq_getElem hn]
      simp
  have := key xs.length (Nat.le_refl _)
  rwa [List.take_length] at this
def Nst (K : PySem.W.Frag) (M : List Addr) (D : Addr) (T : L2.St → Hp → (Hp → Prop) → Prop) (σ : S) (H : Hp) (ds : List PyData) : Prop :=
  ∀ M' H1 acc, Go M H M' H1 → D ∈ M' → H1 D = some (.lst acc) → acc.length + ds.length ≤ 1000000 → ∀ Nx : Hp → Prop,
    (∀ H2 vs, Go M' H1 M' H2 → (∀ b o, b ≠ D → H1 b = some o → H2 b = some o) → H2 D = some (.lst (acc ++ vs)) → Dms K M' H2 vs ds → Nx H2) → T σ H1 Nx
section
variable {K : PySem.W.Frag} {M M' : List Addr} {σ : S} {H H' : Hp} {te : TE} {tt : TT} {d : PyData} {wi : TI} {g : TG} {vs : List Nat} {D : Addr} {T : L2.St → Hp → (Hp → Prop) → Prop}
theorem nst_put (h : Ev K M te σ H d) : Nst K M D (tPut te D) σ H [d] := fun M1 H1 acc go hD hl hz Nx k =>
  h M1 H1 go _ fun v H2 e2 d2 => by
    have g2 := (Go.refl go.tr).same e2
    have g3 : Go M1 H2 M1 (upd H2 D (.lst (acc ++ [v]))) := go_set g2.tr hD
    have hz : acc.length + 1 ≤ 1000000 := hz
    exact ⟨acc, e2 _ _ hl, Nat.lt_of_lt_of_le (Nat.lt_succ_self _) (by rw [sizeLine_eq]; omega), k _ [v] (g2.trans g3) (fun b o hb e => by rw [upd_ne hb]; exact e2 _ _ e) upd_same (.cons (dm_go d2 g3) .nil)⟩
theorem nst_nest {n : Nat} {it : Nat → PyData} (el : Nat → List PyData) (w : Wk K M wi σ H n it)
    (hs : ∀ M' H' i x, Go M H M' H' → i < n → Dm K M' H' x (it i) → ∃ σ2 b, Tk g x (wipe σ vs) H' σ2 ∧ wipe σ2 vs = wipe σ vs ∧ Eb M' tt σ2 H' b ∧ (b = true → Nst K M' D T σ2 H' (el i)) ∧ (b = false → el i = [])) :
    Nst K M D (tNest wi g tt vs T) σ H (flatN n el) := fun M1 H1 acc go hD hl hz Nx k =>
  w M1 H1 go _ fun J H2 G Y e2 wk hG hY => by
    have g2 : Go M H M1 H2 := go.same e2
    let Pv : Nat → Hp → Prop := fun j H' => Go M1 H2 M1 H' ∧ (∀ b o, b ≠ D → H2 b = some o → H' b = some o) ∧ ∃ ws, H' D = some (.lst (acc ++ ws)) ∧ Dms K M1 H' ws (flatN j el)
    refine ⟨fun j m H' => m = n - j ∧ j ≤ n ∧ Pv j H', ⟨n, by simp, Nat.zero_le _, Go.refl g2.tr, fun b o _ e => e, [], by rw [List.append_nil]; exact e2 _ _ hl, .nil⟩, ?_⟩
    rintro j m H3 ⟨rfl, hj, p1, p2, ws, p3, p4⟩
    have q := hG _ _ p1
    by_cases hlt : j < n
    · refine .inr ⟨wk.goes j H3 hlt q, Pv (j + 1), fun H' p' => ⟨n - (j + 1), by omega, rfl, hlt, p'⟩, fun x H4 y => ?_⟩
      obtain ⟨e4, d4⟩ := hY _ j H3 x H4 p1 hlt (wk.yields j H3 x H4 hlt q y)
      have g4 := p1.same e4
      obtain ⟨σ2, b, t1, t2, t3, t4, t5⟩ := hs _ H4 j x (g2.trans g4) hlt d4
      refine t1 _ ⟨t2, t3 _ H4 (Go.refl g4.tr) _ fun H5 e5 => ?_⟩
      have g5 := g4.same e5
      have s5 := e4.trans e5
      have a5 : H5 D = some (.lst (acc ++ ws)) := s5 _ _ p3
      cases b with
      | true =>
        refine iteT (t4 rfl _ H5 (acc ++ ws) ((Go.refl g4.tr).same e5) hD a5 ?_ _ fun H6 us k1 k2 k3 k4 => ?_)
        · have h1 := flatN_le (el := el) (show j + 1 ≤ n from hlt)
          have h2 := p4.length
          rw [flatN_succ, List.length_append] at h1
          rw [List.length_append]
          omega
        · refine ⟨g5.trans k1, fun b o hb e => k2 _ _ hb (s5 _ _ (p2 _ _ hb e)), ws ++ us, by rw [← List.append_assoc]; exact k3, ?_⟩
          rw [flatN_succ]
          exact (dms_go p4 (((Go.refl p1.tr).same s5).trans k1)).append k4
      | false =>
        refine iteF ⟨g5, fun b o hb e => s5 _ _ (p2 _ _ hb e), ws, a5, ?_⟩
        rw [flatN_succ, t5 rfl, List.append_nil]
        exact dms_go p4 ((Go.refl p1.tr).same s5)
    · have e : j = n := by omega
      subst e
      exact .inl ⟨wk.stops H3 q, k H3 ws (((Go.refl go.tr).same e2).trans p1) (fun b o hb e => p2 _ _ hb (e2 _ _ e)) p3 p4⟩
theorem nst_nestA {α : Type} {xs : List α} {enc : α → PyData} (el : α → List PyData) (w : Wk K M wi σ H xs.length (at0 (xs.map enc)))
    (hs : ∀ M' H' a x, Go M H M' H' → a ∈ xs → Dm K M' H' x (enc a) → ∃ σ2 b, Tk g x (wipe σ vs) H' σ2 ∧ wipe σ2 vs = wipe σ vs ∧ Eb M' tt σ2 H' b ∧ (b = true → Nst K M' D T σ2 H' (el a)) ∧ (b = false → el a = [])) :
    Nst K M D (tNest wi g tt vs T) σ H (xs.flatMap el) := by
  rw [← flatN_map]
  refine nst_nest _ w fun M' H' i x g hi dx => ?_
  rw [at0_map hi] at dx
  rw [List.getElem?_eq_getElem hi]
  exact hs M' H' xs[i] x g (List.getElem_mem hi) dx
/-- the whole -/
theorem ev_lcN {n : Nat} {it : Nat → PyData} {T : Addr → L2.St → Hp → (Hp → Prop) → Prop} (el : Nat → List PyData) (w : Wk K M wi σ H n it) (hz : (flatN n el).length ≤ 1000000)
    (hs : ∀ M' H' i x D, Go M H M' H' → i < n → Dm K M' H' x (it i) → ∃ σ2 b, Tk g x (wipe σ vs) H' σ2 ∧ wipe σ2 vs = wipe σ vs ∧ Eb M' tt σ2 H' b ∧ (b = true → Nst K M' D (T D) σ2 H' (el i)) ∧ (b = false → el i = [])) :
    Ev K M (tLcT wi g tt vs T) σ H (.list (flatN n el)) := fun M1 H1 go Q q =>
  w M1 H1 go _ fun J H2 G Y e2 wk hG hY D hD => by
    have g2 : Go M H M1 H2 := go.same e2
    have DM : D ∉ M1 := fun z => g2.tr D z hD
    have g3 : Go M1 H2 (D :: M1) (upd H2 D (.lst [])) := go_mut g2.tr hD
    let Pv : Nat → Hp → Prop := fun j H' => Go M1 H2 (D :: M1) H' ∧ Same H2 H' ∧ ∃ ws, H' D = some (.lst ws) ∧ Dms K (D :: M1) H' ws (flatN j el)
    refine ⟨fun j m H' => m = n - j ∧ j ≤ n ∧ Pv j H', ⟨n, by simp, Nat.zero_le _, g3, same_new hD, [], upd_same, .nil⟩, ?_⟩
    rintro j m H3 ⟨rfl, hj, p1, p2, ws, p3, p4⟩
    have q1 := hG _ _ p1
    by_cases hlt : j < n
    · refine .inr ⟨wk.goes j H3 hlt q1, Pv (j + 1), fun H' p' => ⟨n - (j + 1), by omega, rfl, hlt, p'⟩, fun x H4 y => ?_⟩
      obtain ⟨e4, d4⟩ := hY _ j H3 x H4 p1 hlt (wk.yields j H3 x H4 hlt q1 y)
      have g4 := p1.same e4
      obtain ⟨σ2, b, t1, t2, t3, t4, t5⟩ := hs _ H4 j x D (g2.trans g4) hlt d4
      refine t1 _ ⟨t2, t3 _ H4 (Go.refl g4.tr) _ fun H5 e5 => ?_⟩
      have g5 := g4.same e5
      have s5 := e4.trans e5
      have a5 : H5 D = some (.lst ws) := s5 _ _ p3
      cases b with
      | true =>
        refine iteT (t4 rfl _ H5 ws ((Go.refl g4.tr).same e5) (List.mem_cons_self ..) a5 ?_ _ fun H6 us k1 k2 k3 k4 => ?_)
        · have h1 := flatN_le (el := el) (show j + 1 ≤ n from hlt)
          have h2 := p4.length
          rw [flatN_succ, List.length_append] at h1
          omega
        · refine ⟨g5.trans k1, fun b o hb => k2 _ _ (fun z => by rw [z, hD] at hb; cases hb) (s5 _ _ (p2 _ _ hb)), ws ++ us, k3, ?_⟩
          rw [flatN_succ]
          exact (dms_go p4 (((Go.refl p1.tr).same s5).trans k1)).append k4
      | false =>
        refine iteF ⟨g5, p2.trans s5, ws, a5, ?_⟩
        rw [flatN_succ, t5 rfl, List.append_nil]
        exact dms_go p4 ((Go.refl p1.tr).same s5)
    · have e : j = n := by omega
      subst e
      refine .inl ⟨wk.stops H3 q1, q _ _ (e2.trans p2) (.lst (xs := ws) ?_ ?_)⟩
      · rw [mn_out DM]
        exact p3
      · refine Das.same (fun b o hb => ?_) _ _ p4
        obtain ⟨h1, h2⟩ := mn_some hb
        rw [mn_out (fun z => h1 (List.mem_cons_of_mem _ z))]
        exact h2
theorem ev_lcNA {α : Type} {xs : List α} {enc : α → PyData} {T : Addr → L2.St → Hp → (Hp → Prop) → Prop} (el : α → List PyData) (w : Wk K M wi σ H xs.length (at0 (xs.map enc))) (hz : (xs.flatMap el).length ≤ 1000000)
    (hs : ∀ M' H' a x D, Go M H M' H' → a ∈ xs → Dm K M' H' x (enc a) → ∃ σ2 b, Tk g x (wipe σ vs) H' σ2 ∧ wipe σ2 vs = wipe σ vs ∧ Eb M' tt σ2 H' b ∧ (b = true → Nst K M' D (T D) σ2 H' (el a)) ∧ (b = false → el a = [])) :
    Ev K M (tLcT wi g tt vs T) σ H (.list (xs.flatMap el)) := by
  rw [← flatN_map] at hz ⊢
  refine ev_lcN _ w hz fun M' H' i x D g hi dx => ?_
  rw [at0_map hi] at dx
  rw [List.getElem?_eq_getElem hi]
  exact hs M' H' xs[i] x D g (List.getElem_mem hi) dx
theorem lc2_is {wi1 : TI} {g1 : TG} {tt1 : TT} {vs1 : List Nat} : tLc2 wi g tt wi1 g1 tt1 te vs vs1 = tLcT wi g tt vs fun D => tNest wi1 g1 tt1 vs1 (tPut te D) := rfl
end
end Dq

/-! in of tuples of data; sorted ints; stars; more targets -/
namespace Dq
open PySem PySem.Spec PyProof.Rows L2 Gd
section
variable {X : Cx}
def rInT (K : PySem.W.Frag) : R2 := fun x y H Q => ∃ d ds, Dp K H x d ∧ Dp K H y (.tuple ds) ∧ SeqAt.shaped d = true ∧ SeqAt.shaped (.tuple ds) = true ∧ Q (.bl (ds.any fun z => PyData.eqv z d)) H
def rNotInT (K : PySem.W.Frag) : R2 := fun x y H Q => ∃ d ds, Dp K H x d ∧ Dp K H y (.tuple ds) ∧ SeqAt.shaped d = true ∧ SeqAt.shaped (.tuple ds) = true ∧ Q (.bl (!ds.any fun z => PyData.eqv z d)) H
theorem op_inT {K : PySem.W.Frag} (hK : X.K = K) (hu : X.A.units + 65 < cLine) : OpR X (compareOp .In) (rInT K) := by
  subst hK
  intro pins s σ H x y v u Q I rx ry h
  obtain ⟨d, ds, hd, he, sd, se, q⟩ := h
  obtain ⟨_, r1⟩ := Dp.reads I d x v hd rx
  obtain ⟨_, r2⟩ := Dp.reads I (.tuple ds) y u he ry
  exact SeqAt.in_tuple_reads r2 r1 (SeqAt.canLay_of_shaped se) (SeqAt.canLay_of_shaped sd) (room_in_shaped sd hu) ⟨.bl _, H, I, rfl, q⟩
theorem op_notInT {K : PySem.W.Frag} (hK : X.K = K) (hu : X.A.units + 65 < cLine) : OpR X (compareOp .NotIn) (rNotInT K) := by
  subst hK
  intro pins s σ H x y v u Q I rx ry h
  obtain ⟨d, ds, hd, he, sd, se, q⟩ := h
  obtain ⟨_, r1⟩ := Dp.reads I d x v hd rx
  obtain ⟨_, r2⟩ := Dp.reads I (.tuple ds) y u he ry
  exact SeqAt.notIn_tuple_reads r2 r1 (SeqAt.canLay_of_shaped se) (SeqAt.canLay_of_shaped sd) (room_in_shaped sd hu) ⟨.bl _, H, I, rfl, q⟩
theorem pe_const {x : Str} {a : Addr} {pos : Pos} (hg : Gl X x) (hm : X.mg x = some (.ref a)) (hd : (x == ("__debug__" : Str)) = false := by decide) : PE X (.Name x pos) (tC (.ref a)) := pe_glob (v := .ref a) hg hm rfl hd
theorem lc2_k {e : Expr} {wi wi1 : TI} {g g1 : TG} {tt tt1 : TT} {te : TE} {vs vs1 : List Nat} (h : PE X e (tLc2 wi g tt wi1 g1 tt1 te vs vs1)) : PE X e (tLcT wi g tt vs fun D => tNest wi1 g1 tt1 vs1 (tPut te D)) := h
theorem pg_unl_k {K : PySem.W.Frag} {es : List Expr} {k : Nat} {pos : Pos} {t : TGs} {n : Nat} (hK : X.K = K) (hc : X.calm = true) (h : PGs X es t)
    (hn : (assignEach es X.env).length = n := by rfl) (hst : (assignEach es X.env).findIdx? (·.1) = none := by rfl) : PG X (.Tuple es k pos) (gUnl K n t) := hK ▸ pg_unl hc h hn hst
theorem pa_star_k {K : PySem.W.Frag} {e : Expr} {p : Pos} {es : List Expr} {te : TE} {t : TA} (hK : X.K = K) (he : PE X e te) (hr : PA X es t) (hs : starEach (.Starred e p :: es) X.env = (true, eval e X.env) :: starEach es X.env := by rfl) : PA X (.Starred e p :: es) (StX.tStar K te t) := hK ▸ StX.pa_star he hr hs
end
theorem flat_congr {α β : Type} {f g : α → List β} : ∀ {l : List α}, (∀ a ∈ l, f a = g a) → l.flatMap f = l.flatMap g
  | [], _ => rfl
  | a :: l, h => by
    rw [List.flatMap_cons, List.flatMap_cons, h a (List.mem_cons_self ..), flat_congr (l := l) fun b hb => h b (List.mem_cons_of_mem _ hb)]
/-- ints, in order -/
def insI (x : Int) : List Int → List Int
  | [] => [x]
  | y :: ys => if x ≤ y then x :: y :: ys else y :: insI x ys
def srtI (xs : List Int) : List Int := xs.foldr insI []
theorem insI_perm {x : Int} : ∀ l : List Int, (insI x l).Perm (x :: l)
  | [] => List.Perm.refl _
  | y :: ys => by
    unfold insI
    split
    · exact List.Perm.refl _
    · exact ((insI_perm ys).cons y).trans (List.Perm.swap x y ys)
theorem srtI_perm : ∀ l : List Int, (srtI l).Perm l
  | [] => List.Perm.refl _
  | x :: l => (insI_perm _).trans ((srtI_perm l).cons x)
theorem insI_pw {x : Int} : ∀ {l : List Int}, l.Pairwise (· ≤ ·) → (insI x l).Pairwise (· ≤ ·)
  | [], _ => List.pairwise_singleton _ _
  | y :: ys, h => by
    have h1 := List.pairwise_cons.mp h
    unfold insI
    split
    · next c => exact List.pairwise_cons.mpr ⟨fun z hz => by
        rcases List.mem_cons.mp hz with rfl | hz
        · exact c
        · exact Int.le_trans c (h1.1 z hz), h⟩
    · next c => exact List.pairwise_cons.mpr ⟨fun z hz => by
        rcases List.mem_cons.mp ((insI_perm ys).mem_iff.mp hz) with rfl | hz
        · omega
        · exact h1.1 z hz, insI_pw h1.2⟩
theorem srtI_pw : ∀ l : List Int, (srtI l).Pairwise (· ≤ ·)
  | [] => .nil
  | _ :: l => insI_pw (srtI_pw l)
theorem pwI_eq : ∀ {l m : List Int}, l.Pairwise (· ≤ ·) → m.Pairwise (· ≤ ·) → l.Perm m → l = m
  | [], m, _, _, p => (List.Perm.nil_eq p)
  | x :: l, [], _, _, p => (List.Perm.eq_nil p)
  | x :: l, y :: m, h1, h2, p => by
    have a1 := List.pairwise_cons.mp h1
    have a2 := List.pairwise_cons.mp h2
    have e : x = y := by
      have m1 : x ∈ y :: m := p.mem_iff.mp (List.mem_cons_self ..)
      have m2 : y ∈ x :: l := p.mem_iff.mpr (List.mem_cons_self ..)
      rcases List.mem_cons.mp m1 with q | q
      · exact q
      · rcases List.mem_cons.mp m2 with r | r
        · exact r.symm
        · have := a1.1 y r
          have := a2.1 x q
          omega
    subst e
    rw [pwI_eq a1.2 a2.2 ((List.perm_cons x).mp p)]
section
variable {K : PySem.W.Frag} {M M' : List Addr} {σ : S} {H H' : Hp} {ta tb te tc : TE} {tt tu : TT} {as : TA} {d e f : PyData} {ds es : List PyData} {r : R2} {x y : V} {wi : TI} {D : Ends} {t u : TS} {s c : Addr} {P P1 : PyData → Prop} {w : World}
theorem ev_srt {xs : List Int} (ha : Ev K M ta σ H (.list (xs.map PyData.int))) (hl : xs.length < 64) : Ev K M (tCB (rSorted K) (tCons ta tNil)) σ H (.list ((srtI xs).map PyData.int)) := fun M2 H1 g Q q =>
  ha M2 H1 g _ fun v H2 e2 d2 => by
    have t2 := (g.same e2).tr
    cases d2 with
    | @lst a vs _ hs hx =>
      have hv := das_ints hx
      subst hv
      refine ⟨a, xs, rfl, SqL.of (mn_same _ _ hs), hl, fun ms p h1 h2 hn => ?_⟩
      have em : ms = srtI xs := pwI_eq h2 (srtI_pw xs) (h1.trans (srtI_perm xs).symm)
      subst em
      exact q _ _ (e2.trans (same_new hn)) (dm_newL t2 hn (Das.ints _))
theorem ev_inT (ha : Ev K M ta σ H d) (hb : Ev K M tb σ H (.tuple ds)) (sd : SeqAt.shaped d = true) (se : SeqAt.shaped (.tuple ds) = true) : Ev K M (tOp (rInT K) ta tb) σ H (.bool (ds.any fun z => PyData.eqv z d)) :=
  ev_op ha hb fun M2 H1 x y gg dx dy Q q => ⟨d, ds, Da.dp _ _ (dm_h dx), Da.dp _ _ (dm_h dy), sd, se, q _ _ (Same.refl _) (.bl _)⟩
theorem ev_notInT (ha : Ev K M ta σ H d) (hb : Ev K M tb σ H (.tuple ds)) (sd : SeqAt.shaped d = true) (se : SeqAt.shaped (.tuple ds) = true) : Ev K M (tOp (rNotInT K) ta tb) σ H (.bool (!ds.any fun z => PyData.eqv z d)) :=
  ev_op ha hb fun M2 H1 x y gg dx dy Q q => ⟨d, ds, Da.dp _ _ (dm_h dx), Da.dp _ _ (dm_h dy), sd, se, q _ _ (Same.refl _) (.bl _)⟩
theorem any_int (xs : List Int) (k : Int) : ((xs.map PyData.int).any fun z => PyData.eqv z (.int k)) = decide (k ∈ xs) := by
  rw [List.any_map, Bool.eq_iff_iff, List.any_eq_true, decide_eq_true_iff]
  have e : ∀ z : Int, PyData.eqv (.int z) (.int k) = (z == k) := fun z => by unfold PyData.eqv; rfl
  constructor
  · rintro ⟨z, hz, h⟩
    have h : PyData.eqv (.int z) (.int k) = true := h
    rw [e, beq_iff_eq] at h
    exact h ▸ hz
  · intro h
    refine ⟨k, h, ?_⟩
    show PyData.eqv (.int k) (.int k) = true
    rw [e, beq_self_eq_true]
theorem ea_star (ha : Ev K M te σ H d) (hd : d = .tuple ds ∨ d = .list ds) (k : Ea K M as σ H es) : Ea K M (StX.tStar K te as) σ H (ds ++ es) := fun M2 H1 g Q q =>
  ha M2 H1 g _ fun v H2 e2 dv => by
    rcases hd with rfl | rfl
    · cases dv with
      | @tup p xs _ hs hx => exact ⟨p, xs, rfl, .inl (same_sqt mn_same hs), k M2 H2 (g.same e2) _ fun vs H3 e3 d3 => q _ _ (e2.trans e3) ((dms_go hx ((Go.refl (g.same e2).tr).same e3)).append d3)⟩
    · cases dv with
      | @lst p xs _ hs hx => exact ⟨p, xs, rfl, .inr (SqL.of (mn_same _ _ hs)), k M2 H2 (g.same e2) _ fun vs H3 e3 d3 => q _ _ (e2.trans e3) ((dms_go hx ((Go.refl (g.same e2).tr).same e3)).append d3)⟩
theorem tk_four {i j k l : Nat} {σ0 : S} {d1 d2 d3 d4 : PyData} (h : Dm K M H x (.tuple [d1, d2, d3, d4])) : ∃ v1 v2 v3 v4, Tk (gTup K 4 (gCons (gName i) (gCons (gName j) (gCons (gName k) (gCons (gName l) gNil))))) x σ0 H ((((σ0.set i (some v1)).set j (some v2)).set k (some v3)).set l (some v4)) ∧ Dm K M H v1 d1 ∧ Dm K M H v2 d2 ∧ Dm K M H v3 d3 ∧ Dm K M H v4 d4 := by
  cases h with
  | @tup a xs _ hs hx =>
    cases hx with
    | cons h1 hx =>
      cases hx with
      | cons h2 hx =>
        cases hx with
        | cons h3 hx =>
          cases hx with
          | cons h4 hx =>
            cases hx
            exact ⟨_, _, _, _, fun Q q => ⟨a, _, rfl, same_sqt mn_same hs, rfl, _, _, rfl, _, _, rfl, _, _, rfl, _, _, rfl, rfl, q⟩, h1, h2, h3, h4⟩
theorem tk_threeT {i j k : Nat} {σ0 : S} {d1 d2 d3 : PyData} (h : Dm K M H x (.tuple [d1, d2, d3])) : ∃ v1 v2 v3, Tk (gTup K 3 (gCons (gName i) (gCons (gName j) (gCons (gName k) gNil)))) x σ0 H (((σ0.set i (some v1)).set j (some v2)).set k (some v3)) ∧ Dm K M H v1 d1 ∧ Dm K M H v2 d2 ∧ Dm K M H v3 d3 := by
  cases h with
  | @tup a xs _ hs hx =>
    cases hx with
    | cons h1 hx =>
      cases hx with
      | cons h2 hx =>
        cases hx with
        | cons h3 hx =>
          cases hx
          exact ⟨_, _, _, fun Q q => ⟨a, _, rfl, same_sqt mn_same hs, rfl, _, _, rfl, _, _, rfl, _, _, rfl, rfl, q⟩, h1, h2, h3⟩
theorem tk_threeL {i j k : Nat} {σ0 : S} {d1 d2 d3 : PyData} (h : Dm K M H x (.list [d1, d2, d3])) : ∃ v1 v2 v3, Tk (gUnl K 3 (gCons (gName i) (gCons (gName j) (gCons (gName k) gNil)))) x σ0 H (((σ0.set i (some v1)).set j (some v2)).set k (some v3)) ∧ Dm K M H v1 d1 ∧ Dm K M H v2 d2 ∧ Dm K M H v3 d3 := by
  cases h with
  | @lst a xs _ hs hx =>
    cases hx with
    | cons h1 hx =>
      cases hx with
      | cons h2 hx =>
        cases hx with
        | cons h3 hx =>
          cases hx
          exact ⟨_, _, _, fun Q q => ⟨a, _, rfl, SqL.of (mn_same _ _ hs), rfl, _, _, rfl, _, _, rfl, _, _, rfl, rfl, q⟩, h1, h2, h3⟩
end
end Dq

/-! comprehensions whose tests draw; more targets -/
namespace Dq
open PySem PySem.Spec PyProof.Rows L2 Gd
theorem given_congr {f f' : Nat → Bool} {el : Nat → PyData} : ∀ {n : Nat}, (∀ j, j < n → f j = f' j) → given n f el = given n f' el
  | 0, _ => rfl
  | n + 1, h => by
    have ih := given_congr (f := f) (f' := f') (el := el) (n := n) fun j hj => h j (by omega)
    cases q : f n with
    | true => rw [given_yes q, given_yes (by rw [← h n (by omega)]; exact q), ih]
    | false => rw [given_no q, given_no (by rw [← h n (by omega)]; exact q), ih]
section
variable {K : PySem.W.Frag} {M M' : List Addr} {σ : S} {H H' : Hp} {ta tb te tc : TE} {tt tu : TT} {as : TA} {d e f : PyData} {ds es : List PyData} {r : R2} {x y : V} {wi : TI} {D : Ends} {t u : TS} {s c : Addr} {P P1 : PyData → Prop} {PB : Bool → Prop} {w : World}
theorem drb_and {a : Bool} (h1 : Eb M tt σ H a) (h2 : a = true → Drb s c M tu σ H PB) (h0 : a = false → PB false) : Drb s c M (tAnd tt tu) σ H PB := fun M1 H1 g hS Q q => h1 M1 H1 g _ fun H2 e2 => by
  cases a with
  | false => exact iteF (q false H2 (Kp.of e2) (hS.same e2) (h0 rfl))
  | true => exact iteT (h2 rfl M1 H2 (g.same e2) (hS.same e2) Q fun b H3 k3 S3 p3 => q b H3 ((Kp.of e2).trans k3) S3 p3)
theorem drb_eb {a : Bool} (h1 : Eb M tt σ H a) (h2 : PB a) : Drb s c M tt σ H PB := fun M1 H1 g hS Q q => h1 M1 H1 g _ fun H2 e2 => q a H2 (Kp.of e2) (hS.same e2) h2
theorem dr_lcC {g : TG} {vs : List Nat} {n : Nat} {it : Nat → PyData} (el : Nat → PyData) (hs : s ∈ M) (hc : c ∈ M) (w : Wk K M wi σ H n it) (hn : n ≤ 1000000)
    (h : ∀ M' H' i x, Go M H M' H' → i < n → Dm K M' H' x (it i) → ∃ σ2, Tk g x (wipe σ vs) H' σ2 ∧ wipe σ2 vs = wipe σ vs ∧ Drb s c M' tt σ2 H' (fun _ => True) ∧ Ev K M' te σ2 H' (el i)) :
    Dr K s c M (tLc wi g tt te vs) σ H fun d => ∃ f : Nat → Bool, d = .list (given n f el) := fun M2 H1 g1 hS Q q =>
  w M2 H1 g1 _ fun J H2 G Y e2 wk hG hY D hD => by
    have g2 : Go M H M2 H2 := g1.same e2
    have DM : D ∉ M2 := fun z => g2.tr D z hD
    have hDs : D ≠ s := fun z => DM (z ▸ g1.sub s hs)
    have hDc : D ≠ c := fun z => DM (z ▸ g1.sub c hc)
    have g3 : Go M2 H2 (D :: M2) (upd H2 D (.lst [])) := go_mut g2.tr hD
    refine lc_it wk (fun i H' => Go M2 H2 (D :: M2) H' ∧ Src s c H' ∧ Kp s c H2 H' ∧ ∃ acc f, H' D = some (.lst acc) ∧ Dms K (D :: M2) H' acc (given i f el))
      ⟨g3, (hS.same e2).same (same_new hD), Kp.of (same_new hD), [], fun _ => false, upd_same, .nil⟩ (fun i H' _ p => hG _ _ p.1) (fun i z H' H4 hi p hy => ?_) (fun H' p => ?_)
    · obtain ⟨p1, pS, ps, acc, f, p2, p3⟩ := p
      obtain ⟨e4, d4⟩ := hY _ i H' z H4 p1 hi hy
      have g4 := p1.same e4
      obtain ⟨σ2, t1, t2, t4, t5⟩ := h _ H4 i z (g2.trans g4) hi d4
      refine t1 _ ⟨t2, t4 _ H4 (Go.refl g4.tr) (pS.same e4) _ fun b H6 k6 S6 _ => ?_⟩
      have s6 : Kp s c H' H6 := (Kp.of e4).trans k6
      have g6 := go_k (M := M2) (H := H2) (g1.sub s hs) (g1.sub c hc) g4 k6 S6
      have g46 : Go (D :: M2) H' (D :: M2) H6 := go_kp (List.mem_cons_of_mem _ (g1.sub s hs)) (List.mem_cons_of_mem _ (g1.sub c hc)) p1.tr s6 S6
      have g44 : Go (D :: M2) H4 (D :: M2) H6 := go_kp (List.mem_cons_of_mem _ (g1.sub s hs)) (List.mem_cons_of_mem _ (g1.sub c hc)) g4.tr k6 S6
      have a6 : H6 D = some (.lst acc) := s6 _ _ hDs hDc p2
      let f' : Nat → Bool := fun j => if j = i then b else f j
      have ef : given i f el = given i f' el := given_congr fun j hj => by
        show f j = if j = i then b else f j
        rw [if_neg (by omega)]
      have fi : f' i = b := if_pos rfl
      have hal := p3.length
      have hgl := given_le i f el
      cases b with
      | true =>
        refine iteT (t5 _ H6 g44 _ fun v H7 e7 d7 => ?_)
        have gs := go_set (o := .lst (acc ++ [v])) (g6.same e7).tr (List.mem_cons_self (a := D) (l := M2))
        refine ⟨acc, e7 _ _ a6, by rw [sizeLine_eq]; omega, (g6.same e7).trans gs, ?_, fun b o h1 h2 hb => ?_, acc ++ [v], f', upd_same, ?_⟩
        · obtain ⟨h0, cl, l, mm, tt, q1, q2, q3⟩ := S6.same e7
          exact ⟨h0, cl, l, mm, tt, by rw [upd_ne (Ne.symm hDs)]; exact q1, by rw [upd_ne (Ne.symm hDc)]; exact q2, q3⟩
        · rw [upd_ne (ne_of_none hb hD)]
          exact e7 _ _ (s6 _ _ h1 h2 (ps _ _ h1 h2 hb))
        · rw [given_yes fi, ← ef]
          exact (dms_go p3 ((g46.same e7).trans gs)).append (.cons (dm_go d7 gs) .nil)
      | false =>
        refine iteF ⟨g6, S6, fun b o h1 h2 hb => s6 _ _ h1 h2 (ps _ _ h1 h2 hb), acc, f', a6, ?_⟩
        rw [given_no fi, ← ef]
        exact dms_go p3 g46
    · obtain ⟨p1, pS, ps, acc, f, p2, p3⟩ := p
      refine q _ (.list (given n f el)) _ ((Kp.of e2).trans ps) pS (.lst (xs := acc) ?_ ?_) ⟨f, rfl⟩
      · rw [mn_out DM]
        exact p2
      · refine Das.same (fun b o hb => ?_) _ _ p3
        obtain ⟨h1, h2⟩ := mn_some hb
        rw [mn_out (fun z => h1 (List.mem_cons_of_mem _ z))]
        exact h2
/-- a, b, c = [..], drawn -/
theorem d_unl3 {i j l : Nat} (hs : s ∈ M) (hc : c ∈ M) (tr : Tr M H) (hS : Src s c H) (h : Dr K s c M te σ H P) (hP : ∀ d, P d → ∃ d1 d2 d3, d = .list [d1, d2, d3])
    (k : ∀ v w z d1 d2 d3 H1, Kp s c H H1 → Src s c H1 → Go M H M H1 → Dm K M H1 v d1 → Dm K M H1 w d2 → Dm K M H1 z d3 → P (.list [d1, d2, d3]) → u D (((σ.set i (some v)).set j (some w)).set l (some z)) H1) :
    tSeq (tAsg te (gUnl K 3 (gCons (gName i) (gCons (gName j) (gCons (gName l) gNil))))) u D σ H :=
  h M H (Go.refl tr) hS _ fun v d H1 k1 S1 dv p1 => by
    obtain ⟨d1, d2, d3, rfl⟩ := hP _ p1
    obtain ⟨v1, v2, v3, t1, t2, t3, t4⟩ := tk_threeL (i := i) (j := j) (k := l) (σ0 := σ) dv
    exact t1 _ (k v1 v2 v3 d1 d2 d3 H1 k1 S1 (go_kp hs hc tr k1 S1) t2 t3 t4 p1)
theorem q_unp3 {i j l : Nat} {d1 d2 d3 : PyData} (tr : Tr M H) (h : Ev K M te σ H (.tuple [d1, d2, d3])) (k : ∀ v w z H1, Same H H1 → Tr M H1 → Dm K M H1 v d1 → Dm K M H1 w d2 → Dm K M H1 z d3 → u D (((σ.set i (some v)).set j (some w)).set l (some z)) H1) :
    tSeq (tAsg te (gTup K 3 (gCons (gName i) (gCons (gName j) (gCons (gName l) gNil))))) u D σ H :=
  h M H (Go.refl tr) _ fun v H1 e1 dv => by
    obtain ⟨v1, v2, v3, t1, t2, t3, t4⟩ := tk_threeT (i := i) (j := j) (k := l) (σ0 := σ) dv
    exact t1 _ (k v1 v2 v3 H1 e1 (tr.same e1) t2 t3 t4)
theorem q_unp4 {i j l m : Nat} {d1 d2 d3 d4 : PyData} (tr : Tr M H) (h : Ev K M te σ H (.tuple [d1, d2, d3, d4])) (k : ∀ v w z q H1, Same H H1 → Tr M H1 → Dm K M H1 v d1 → Dm K M H1 w d2 → Dm K M H1 z d3 → Dm K M H1 q d4 → u D ((((σ.set i (some v)).set j (some w)).set l (some z)).set m (some q)) H1) :
    tSeq (tAsg te (gTup K 4 (gCons (gName i) (gCons (gName j) (gCons (gName l) (gCons (gName m) gNil)))))) u D σ H :=
  h M H (Go.refl tr) _ fun v H1 e1 dv => by
    obtain ⟨v1, v2, v3, v4, t1, t2, t3, t4, t5⟩ := tk_four (i := i) (j := j) (k := l) (l := m) (σ0 := σ) dv
    exact t1 _ (k v1 v2 v3 v4 H1 e1 (tr.same e1) t2 t3 t4 t5)
end
/-- a cut, of anything -/
def cutG {α : Type} (xs : List α) (lo hi : Option Int) : List α := (xs.drop (HT.sIx xs.length 0 lo)).take (HT.sIx xs.length xs.length hi - HT.sIx xs.length 0 lo)
theorem cut_map {α : Type} {f : α → PyData} {xs : List α} {lo hi : Option Int} : cutPd (xs.map f) lo hi = (cutG xs lo hi).map f := by
  unfold cutPd cutG
  rw [List.length_map, ← List.map_drop, ← List.map_take]
theorem cutG_sub {α : Type} {xs : List α} {lo hi : Option Int} : (cutG xs lo hi).Sublist xs := (List.take_sublist _ _).trans (List.drop_sublist _ _)
end Dq

/-! sorted of tuples of ints, any number of them; max of a list, of a tuple with a default; tuples compared; how many a set has -/
namespace Dq
open PySem PySem.Spec PyProof.Rows L2 Gd
def tI (xs : List Int) : PyData := .tuple (xs.map .int)
/-! the order of rows of ints -/
def ltL : List Int → List Int → Bool
  | _, [] => false
  | [], _ :: _ => true
  | x :: xs, y :: ys => if x = y then ltL xs ys else decide (x < y)
theorem ltL_as : ∀ a b : List Int, ltL a b = true → ltL b a = false
  | a, [], h => by cases a <;> cases h
  | [], _ :: _, _ => rfl
  | x :: xs, y :: ys, h => by
    unfold ltL at h ⊢
    by_cases e : x = y
    · rw [if_pos e] at h
      rw [if_pos e.symm]
      exact ltL_as xs ys h
    · rw [if_neg e, decide_eq_true_iff] at h
      rw [if_neg (Ne.symm e)]
      exact decide_eq_false (by omega)
theorem ltL_an : ∀ a b : List Int, ltL a b = false → ltL b a = false → a = b
  | [], [], _, _ => rfl
  | x :: xs, [], _, h => by cases h
  | [], y :: ys, h, _ => by cases h
  | x :: xs, y :: ys, h, g => by
    unfold ltL at h g
    by_cases e : x = y
    · rw [if_pos e] at h
      rw [if_pos e.symm] at g
      rw [e, ltL_an xs ys h g]
    · rw [if_neg e, decide_eq_false_iff_not] at h
      rw [if_neg (Ne.symm e), decide_eq_false_iff_not] at g
      exact absurd e (by omega)
theorem ltL_nt : ∀ a b c : List Int, ltL b a = false → ltL c b = false → ltL c a = false
  | [], b, c, _, _ => by cases c <;> rfl
  | x :: xs, [], _, h, _ => by cases h
  | x :: xs, y :: ys, [], _, g => by cases g
  | x :: xs, y :: ys, z :: zs, h, g => by
    unfold ltL at h g ⊢
    by_cases e : y = x
    · rw [if_pos e] at h
      by_cases e2 : z = y
      · rw [if_pos e2] at g
        rw [if_pos (e2.trans e)]
        exact ltL_nt xs ys zs h g
      · rw [if_neg e2, decide_eq_false_iff_not] at g
        rw [if_neg (by omega)]
        exact decide_eq_false (by omega)
    · rw [if_neg e, decide_eq_false_iff_not] at h
      by_cases e2 : z = y
      · rw [if_neg (by omega)]
        exact decide_eq_false (by omega)
      · rw [if_neg e2, decide_eq_false_iff_not] at g
        rw [if_neg (by omega)]
        exact decide_eq_false (by omega)
theorem ltL_is : ∀ a b : List Int, decide (a < b) = ltL a b
  | [], [] => by rfl
  | x :: xs, [] => by rfl
  | [], y :: ys => by
    unfold ltL
    exact decide_eq_true (List.nil_lt_cons y ys)
  | x :: xs, y :: ys => by
    have ih := ltL_is xs ys
    unfold ltL
    rw [Bool.eq_iff_iff, decide_eq_true_iff, List.cons_lt_cons_iff]
    by_cases e : x = y
    · rw [if_pos e, ← ih, decide_eq_true_iff]
      exact ⟨fun h => by
        rcases h with h | h
        · omega
        · exact h.2, fun h => .inr ⟨e, h⟩⟩
    · rw [if_neg e, decide_eq_true_iff]
      exact ⟨fun h => by
        rcases h with h | h
        · exact h
        · exact absurd h.1 e, fun h => .inl h⟩
theorem ltL_data (a b : List Int) : PySem.W.dataLt (tI a) (tI b) = ltL a b := (PySem.W.dataLt_tuple _ _).trans ((PySem.W.dataLt_ints a b).trans (ltL_is a b))
/-! a sort that reckons -/
section
variable {α : Type}
def mrgI (le : α → α → Bool) (x : α) (rec : List α → List α) : List α → List α
  | [] => x :: rec []
  | y :: ys => if le x y then x :: rec (y :: ys) else y :: mrgI le x rec ys
def mrg (le : α → α → Bool) : List α → List α → List α
  | [] => fun ys => ys
  | x :: xs => mrgI le x (mrg le xs)
def mprs (le : α → α → Bool) : List (List α) → List (List α)
  | a :: b :: r => mrg le a b :: mprs le r
  | r => r
def mall (le : α → α → Bool) : Nat → List (List α) → List α
  | 0, _ => []
  | n + 1, ls => match ls with
    | [] => []
    | [a] => a
    | ls => mall le n (mprs le ls)
def msrt (le : α → α → Bool) (l : List α) : List α := mall le (l.length + 1) (l.map fun x => [x])
variable {le : α → α → Bool}
theorem mrgI_perm {x : α} {xs : List α} {rec : List α → List α} (h : ∀ zs, (rec zs).Perm (xs ++ zs)) : ∀ ys, (mrgI le x rec ys).Perm (x :: xs ++ ys)
  | [] => (h []).cons x
  | y :: ys => by
    unfold mrgI
    split
    · exact (h _).cons x
    · exact ((mrgI_perm h ys).cons y).trans (List.perm_middle (l₁ := x :: xs)).symm
theorem mrg_perm : ∀ xs ys : List α, (mrg le xs ys).Perm (xs ++ ys)
  | [], _ => List.Perm.refl _
  | _ :: xs, ys => mrgI_perm (mrg_perm xs) ys
theorem mprs_perm : ∀ ls : List (List α), (mprs le ls).flatten.Perm ls.flatten
  | [] => List.Perm.refl _
  | [a] => List.Perm.refl _
  | a :: b :: r => by
    unfold mprs
    rw [List.flatten_cons, List.flatten_cons, List.flatten_cons, ← List.append_assoc]
    exact (mrg_perm a b).append (mprs_perm r)
theorem mprs_len : ∀ ls : List (List α), (mprs le ls).length ≤ ls.length ∧ (2 ≤ ls.length → (mprs le ls).length < ls.length)
  | [] => ⟨Nat.le_refl _, fun h => absurd h (by simp)⟩
  | [a] => ⟨Nat.le_refl _, fun h => absurd h (by simp)⟩
  | a :: b :: r => by
    have := (mprs_len r).1
    unfold mprs
    simp only [List.length_cons]
    omega
theorem mall_perm : ∀ (n : Nat) (ls : List (List α)), ls.length < n → (mall le n ls).Perm ls.flatten
  | 0, _, h => absurd h (Nat.not_lt_zero _)
  | n + 1, [], _ => List.Perm.refl _
  | n + 1, [a], _ => by
    show a.Perm [a].flatten
    rw [List.flatten_cons, List.flatten_nil, List.append_nil]
  | n + 1, a :: b :: r, h => by
    have h2 := (mprs_len (le := le) (a :: b :: r)).2 (by simp)
    exact (mall_perm n _ (by omega)).trans (mprs_perm _)
theorem flat_one (l : List α) : (l.map fun x => [x]).flatten = l := by
  induction l with
  | nil => rfl
  | cons x l ih => rw [List.map_cons, List.flatten_cons, ih]; rfl
theorem msrt_perm (l : List α) : (msrt le l).Perm l := by
  have h := mall_perm (le := le) (l.length + 1) (l.map fun x => [x]) (by rw [List.length_map]; omega)
  rw [flat_one] at h
  exact h
theorem mrgI_pw (tot : ∀ a b, le a b = false → le b a = true) (tr : ∀ a b c, le a b = true → le b c = true → le a c = true) {x : α} {xs : List α} {rec : List α → List α} (hp : ∀ zs, (rec zs).Perm (xs ++ zs)) (hr : ∀ zs, zs.Pairwise (fun a b => le a b = true) → (rec zs).Pairwise fun a b => le a b = true) (hx : ∀ z ∈ xs, le x z = true) :
    ∀ ys, ys.Pairwise (fun a b => le a b = true) → (mrgI le x rec ys).Pairwise fun a b => le a b = true
  | [], _ => List.pairwise_cons.mpr ⟨fun z hz => by
      have := (hp []).mem_iff.mp hz
      rw [List.append_nil] at this
      exact hx z this, hr [] .nil⟩
  | y :: ys, h => by
    obtain ⟨h1, h2⟩ := List.pairwise_cons.mp h
    unfold mrgI
    split
    · next c => exact List.pairwise_cons.mpr ⟨fun z hz => by
        rcases List.mem_append.mp ((hp _).mem_iff.mp hz) with hz | hz
        · exact hx z hz
        · rcases List.mem_cons.mp hz with rfl | hz
          · exact c
          · exact tr _ _ _ c (h1 z hz), hr _ h⟩
    · next c =>
      have c := tot _ _ (Bool.not_eq_true _ ▸ c)
      exact List.pairwise_cons.mpr ⟨fun z hz => by
        rcases List.mem_append.mp ((mrgI_perm hp ys).mem_iff.mp hz) with hz | hz
        · rcases List.mem_cons.mp hz with rfl | hz
          · exact c
          · exact tr _ _ _ c (hx z hz)
        · exact h1 z hz, mrgI_pw tot tr hp hr hx ys h2⟩
theorem mrg_pw (tot : ∀ a b, le a b = false → le b a = true) (tr : ∀ a b c, le a b = true → le b c = true → le a c = true) : ∀ xs ys : List α, xs.Pairwise (fun a b => le a b = true) → ys.Pairwise (fun a b => le a b = true) → (mrg le xs ys).Pairwise fun a b => le a b = true
  | [], ys, _, h => h
  | x :: xs, ys, h1, h2 => mrgI_pw tot tr (mrg_perm xs) (fun zs hz => mrg_pw tot tr xs zs (List.pairwise_cons.mp h1).2 hz) (List.pairwise_cons.mp h1).1 ys h2
theorem mprs_pw (tot : ∀ a b, le a b = false → le b a = true) (tr : ∀ a b c, le a b = true → le b c = true → le a c = true) : ∀ ls : List (List α), (∀ l ∈ ls, l.Pairwise fun a b => le a b = true) → ∀ l ∈ mprs le ls, l.Pairwise fun a b => le a b = true
  | [], h, l, hl => h l hl
  | [a], h, l, hl => h l hl
  | a :: b :: r, h, l, hl => by
    unfold mprs at hl
    rcases List.mem_cons.mp hl with rfl | hl
    · exact mrg_pw tot tr a b (h a (List.mem_cons_self ..)) (h b (List.mem_cons_of_mem _ (List.mem_cons_self ..)))
    · exact mprs_pw tot tr r (fun l hl => h l (List.mem_cons_of_mem _ (List.mem_cons_of_mem _ hl))) l hl
theorem mall_pw (tot : ∀ a b, le a b = false → le b a = true) (tr : ∀ a b c, le a b = true → le b c = true → le a c = true) : ∀ (n : Nat) (ls : List (List α)), (∀ l ∈ ls, l.Pairwise fun a b => le a b = true) → (mall le n ls).Pairwise fun a b => le a b = true
  | 0, _, _ => .nil
  | n + 1, [], _ => .nil
  | n + 1, [a], h => h a (List.mem_cons_self ..)
  | n + 1, a :: b :: r, h => mall_pw tot tr n _ (mprs_pw tot tr _ h)
theorem msrt_pw (tot : ∀ a b, le a b = false → le b a = true) (tr : ∀ a b c, le a b = true → le b c = true → le a c = true) (l : List α) : (msrt le l).Pairwise fun a b => le a b = true :=
  mall_pw tot tr _ _ fun m hm => by
    obtain ⟨x, _, rfl⟩ := List.mem_map.mp hm
    exact List.pairwise_singleton _ _
theorem srt_eq (an : ∀ a b, le a b = true → le b a = true → a = b) : ∀ {l m : List α}, l.Pairwise (fun a b => le a b = true) → m.Pairwise (fun a b => le a b = true) → l.Perm m → l = m
  | [], m, _, _, p => (List.Perm.nil_eq p)
  | x :: l, [], _, _, p => (List.Perm.eq_nil p)
  | x :: l, y :: m, h1, h2, p => by
    have a1 := List.pairwise_cons.mp h1
    have a2 := List.pairwise_cons.mp h2
    have e : x = y := by
      rcases List.mem_cons.mp (p.mem_iff.mp (List.mem_cons_self ..)) with q | q
      · exact q
      · rcases List.mem_cons.mp (p.mem_iff.mpr (List.mem_cons_self ..)) with r | r
        · exact r.symm
        · exact an _ _ (a1.1 y r) (a2.1 x q)
    subst e
    rw [srt_eq an a1.2 a2.2 ((List.perm_cons x).mp p)]
end
def leL (a b : List Int) : Bool := !ltL b a
theorem leL_tot (a b : List Int) (h : leL a b = false) : leL b a = true := by
  unfold leL at h ⊢
  rw [ltL_as b a (by cases q : ltL b a with | true => rfl | false => rw [q] at h; cases h)]
  rfl
theorem leL_no {a b : List Int} : leL a b = true ↔ ltL b a = false := by
  unfold leL
  cases ltL b a <;> simp
theorem leL_tr (a b c : List Int) (h : leL a b = true) (g : leL b c = true) : leL a c = true := leL_no.mpr (ltL_nt a b c (leL_no.mp h) (leL_no.mp g))
theorem leL_an (a b : List Int) (h : leL a b = true) (g : leL b a = true) : a = b := ltL_an a b (leL_no.mp g) (leL_no.mp h)
def srtL (l : List (List Int)) : List (List Int) := msrt leL l
theorem srtL_perm (l : List (List Int)) : (srtL l).Perm l := msrt_perm l
theorem srtL_pw (l : List (List Int)) : (srtL l).Pairwise fun a b => leL a b = true := msrt_pw leL_tot leL_tr l
theorem srtL_of {l m : List (List Int)} (h : l.Pairwise fun a b => leL a b = true) (p : l.Perm m) : l = srtL m := srt_eq leL_an h (srtL_pw m) (p.trans (srtL_perm m).symm)
theorem srtL_congr {l m : List (List Int)} (p : l.Perm m) : srtL l = srtL m := srtL_of (srtL_pw l) ((srtL_perm l).trans p)
end Dq

/-! the rules -/
namespace Dq
open PySem PySem.Spec PyProof.Rows L2 Gd
open Classical in
noncomputable def rowAt (h : Heap) (v : Value) : List Int := if e : ∃ is : List Int, ∃ as, Reads h v (tI is) as then e.choose else []
theorem alike_rows (a b : List Int) : PySem.W.alike (tI a) (tI b) = true := by
  unfold tI PySem.W.alike
  exact PySem.W.alike_ints a b
theorem tI_inj {a b : List Int} (h : tI a = tI b) : a = b := by
  unfold tI at h
  have h := PyData.tuple.inj h
  exact (List.map_inj_right fun x y e => PyData.int.inj e).mp h
theorem rowAt_is {h : Heap} {v : Value} {is : List Int} {as : List Addr} (r : Reads h v (tI is) as) : rowAt h v = is := by
  have e : ∃ is : List Int, ∃ as, Reads h v (tI is) as := ⟨is, as, r⟩
  unfold rowAt
  rw [dif_pos e]
  obtain ⟨as', q⟩ := e.choose_spec
  exact tI_inj (PySem.W.alike_unique _ _ _ _ _ (alike_rows _ _) q r)
theorem depth_row (a : List Int) : (tI a).depth = 1 := by
  unfold tI PyData.depth
  rw [PySem.W.depth_ints]
theorem each_same {α : Type} {R : α → α → Prop} : ∀ {l : List α}, (∀ a ∈ l, R a a) → PySem.W.EachIs R l l
  | [], _ => .nil
  | a :: l, h => .cons (h a (List.mem_cons_self ..)) (each_same fun b hb => h b (List.mem_cons_of_mem _ hb))
theorem each_eq {α : Type} : ∀ {l m : List α}, PySem.W.EachIs (fun a b => a = b) l m → l = m
  | _, _, .nil => rfl
  | _, _, .cons h t => by rw [h, each_eq t]
def rSortedL (K : PySem.W.Frag) : List V → Hp → VK → Prop := fun vs H Q => ∃ a xs, vs = [V.ref a] ∧ SqL K H a xs ∧ (∀ x ∈ xs, ∃ is : List Int, Da K H x (tI is) ∧ (is = [] → xs.length ≤ 1)) ∧
  ∀ ys p, ys.Perm xs → (ys.Pairwise fun x y => ∀ is js : List Int, Da K H x (tI is) → Da K H y (tI js) → leL is js = true) → H p = none → Q (.ref p) (upd H p (.lst ys))
theorem cr_sortedL {X : Cx} {K : PySem.W.Frag} (hK : X.K = K) (hu : X.A.units + 65 < cLine) : CallR X (.builtin "sorted") (rSortedL K) := by
  subst hK
  intro pins s σ H vs us Q I r h
  obtain ⟨a, xs, rfl, hs, hx, q⟩ := h
  obtain ⟨its, rv, hl, hz⟩ := I.list hs
  obtain ⟨u, rfl, ru⟩ := vals1 r
  cases ru
  have refs : ∀ x ∈ xs, ∃ t, x = V.ref t := fun x m => by
    obtain ⟨is, hd, _⟩ := hx x m
    cases hd with
    | tup ht hz => exact ⟨_, rfl⟩
  obtain ⟨e1, e2⟩ := refs_back rv refs
  have len : its.length = xs.length := rv.length.symm
  have rd : ∀ v ∈ its, ∃ as, Reads s.heap v (tI (rowAt s.heap v)) as := fun v hv => by
    obtain ⟨t, rfl⟩ := e2 v hv
    have hm : V.ref t ∈ xs := by
      rw [e1]
      exact List.mem_map.mpr ⟨_, hv, rfl⟩
    obtain ⟨is, hd, _⟩ := hx _ hm
    obtain ⟨as, hr⟩ := Dp.reads I _ _ _ (Da.dp _ _ hd) (show RelV (V.ref t) (Value.ref t) from rfl)
    exact ⟨as, by rw [rowAt_is hr]; exact hr⟩
  have fin : ∀ out : List Value, out.Perm its → (out.Pairwise fun u v => leL (rowAt s.heap u) (rowAt s.heap v) = true) → ∀ (h' : Heap) (d : Addr), (∀ b o, s.heap.get? b = some o → h'.get? b = some o) → s.heap.objs.size ≤ d → (∃ n, h'.get? d = some (seqObj "list" out.toArray n)) → EP X pins σ Q (.ref d) { s with heap := h' } := fun out hp hso h' d k hd ⟨n, hn⟩ => by
    have h3 : ∀ u ∈ out, ∃ a, u = Value.ref a := fun u hu => e2 u (hp.mem_iff.mp hu)
    have lo : (out.map backV).length ≤ sizeLine := by
      rw [List.length_map, hp.length_eq, len]
      exact hz
    refine ⟨.ref d, upd H d (.lst (out.map backV)), I.laid (t' := s.toks) k hd ⟨lo, out, n, vals_back h3, hn⟩, rfl, q _ d ?_ ?_ (I.hok.fresh hd)⟩
    · rw [e1]
      exact hp.map backV
    · refine List.pairwise_map.mpr (List.Pairwise.imp_of_mem (fun {v u} hv hu hvu => ?_) hso)
      intro is js d1 d2
      obtain ⟨b, rfl⟩ := h3 v hv
      obtain ⟨b2, rfl⟩ := h3 u hu
      obtain ⟨_, r1⟩ := Dp.reads I _ _ _ (Da.dp _ _ d1) (show RelV (V.ref b) (Value.ref b) from rfl)
      obtain ⟨_, r2⟩ := Dp.reads I _ _ _ (Da.dp _ _ d2) (show RelV (V.ref b2) (Value.ref b2) from rfl)
      rw [rowAt_is r1, rowAt_is r2] at hvu
      exact hvu
  by_cases h1 : its.length ≤ 1
  · refine SrtO.sorted_ord (ltv := fun _ _ => false) ⟨fun _ _ _ => rfl, fun _ _ _ _ _ => rfl⟩ hl.isList (by rw [len]; exact hz) (fun h2 => absurd h2 (by omega)) fun out hs hb => ?_
    have hp : out.Perm its := hb.perm
    refine fin out hp ?_ _ _ (fun b o e => sortedAll_old e) (Nat.le_succ _) (sortedAll_at s.heap its out.toArray)
    have hl : out.length ≤ 1 := by
      rw [hp.length_eq]
      exact h1
    match out, hl with
    | [], _ => exact .nil
    | [v], _ => exact List.pairwise_singleton _ _
  · refine PySem.W.sorted_data (R := fun v b => v = b) (bs := its) (enc := fun v => tI (rowAt s.heap v)) hl.isList (each_same fun _ _ => rfl) (each_same fun v hv => rd v hv) (fun d hd d' hd' => ?_) (.inl fun d hd => ?_) (by rw [len]; exact hz) (fun b hb => ?_) fun out ho eo => ?_
    · obtain ⟨v, _, rfl⟩ := List.mem_map.mp hd
      obtain ⟨v', _, rfl⟩ := List.mem_map.mp hd'
      exact alike_rows _ _
    · obtain ⟨v, hv, rfl⟩ := List.mem_map.mp hd
      obtain ⟨t, rfl⟩ := e2 v hv
      have hm : V.ref t ∈ xs := by
        rw [e1]
        exact List.mem_map.mpr ⟨_, hv, rfl⟩
      obtain ⟨is, hd, hne⟩ := hx _ hm
      obtain ⟨as, hr⟩ := Dp.reads I _ _ _ (Da.dp _ _ hd) (show RelV (V.ref t) (Value.ref t) from rfl)
      show ∃ x r, tI (rowAt s.heap (.ref t)) = .tuple (x :: r)
      rw [rowAt_is hr]
      cases is with
      | nil => exact absurd (hne rfl) (by omega)
      | cons i is => exact ⟨_, _, rfl⟩
    · show X.A.units + 2 + (tI _).depth < cLine
      rw [depth_row]
      omega
    · have eo := each_eq eo
      subst eo
      refine fin _ (List.mergeSort_perm _ _) ?_ _ _ (fun b o e => sortedAll_old e) (Nat.le_succ _) (sortedAll_at s.heap its _)
      refine (PySem.W.sort_pairwise (PySem.W.sortLe_total (listOrd itemOrd) false fun v => PySem.W.keyToks (tI (rowAt s.heap v))) its).imp fun {u v} huv => ?_
      have huv : (!PySem.W.dataLt (tI (rowAt s.heap v)) (tI (rowAt s.heap u))) = true := huv
      rw [ltL_data] at huv
      exact huv
section
variable {K : PySem.W.Frag} {M : List Addr} {σ : S} {H : Hp} {te ta tb : TE} {ds : List PyData} {d : PyData} {w : World}
theorem ev_sortedL {xs : List (List Int)} (ha : Ev K M ta σ H (.list (xs.map tI))) (hne : xs.length ≤ 1 ∨ [] ∉ xs) : Ev K M (tCB (rSortedL K) (tCons ta tNil)) σ H (.list ((srtL xs).map tI)) := fun M1 H1 g Q q =>
  ha M1 H1 g _ fun v H2 e2 d2 => by
    have t2 := (g.same e2).tr
    cases d2 with
    | @lst a vs _ hs hx =>
      have hlv := hx.length
      rw [List.length_map] at hlv
      refine ⟨a, vs, rfl, SqL.of (mn_same _ _ hs), fun x hm => ?_, fun ys p hp hpw hn => ?_⟩
      · obtain ⟨i, hi, rfl⟩ := List.getElem_of_mem hm
        obtain ⟨d, e5, e6⟩ := hx.getV (List.getElem?_eq_getElem hi)
        have hi' : i < xs.length := by omega
        rw [List.getElem?_map, List.getElem?_eq_getElem hi'] at e5
        cases e5
        refine ⟨xs[i], Da.same mn_same _ _ e6, fun e => ?_⟩
        rcases hne with h | h
        · omega
        · exact absurd (e ▸ List.getElem_mem hi') h
      · obtain ⟨es, hes, hd⟩ := Das.perm hx hp
        obtain ⟨qs, q1, rfl⟩ := perm_map hes xs rfl
        have hlen := hd.length
        rw [List.length_map] at hlen
        have hqs : qs = srtL xs := srtL_of (List.pairwise_iff_getElem.mpr fun i j hi hj hij => by
          have := List.pairwise_iff_getElem.mp hpw i j (by omega) (by omega) hij
          obtain ⟨d, e5, e6⟩ := hd.getV (List.getElem?_eq_getElem (i := i) (by omega))
          obtain ⟨d', e7, e8⟩ := hd.getV (List.getElem?_eq_getElem (i := j) (by omega))
          rw [List.getElem?_map, List.getElem?_eq_getElem hi] at e5
          rw [List.getElem?_map, List.getElem?_eq_getElem hj] at e7
          cases e5
          cases e7
          exact this _ _ (Da.same mn_same _ _ e6) (Da.same mn_same _ _ e8)) q1
        subst hqs
        exact q _ _ (e2.trans (same_new hn)) (dm_newL t2 hn hd)
theorem op_repT_k {X : Cx} {K : PySem.W.Frag} (hK : X.K = K) : OpR X (binaryOp .Mult) (rRepT K) := hK ▸ op_repT
theorem cr_max_k {X : Cx} {K : PySem.W.Frag} (hc : X.calm = true) (hK : X.K = K) : CallR X (.builtin "max") (rMax K) := hK ▸ cr_max hc
theorem ev_maxL {xs : List Int} {m : Int} (ha : Ev K M ta σ H (.list (xs.map PyData.int))) (hm : m ∈ xs) (hb : ∀ y ∈ xs, y ≤ m) : Ev K M (tCB (rMax K) (tCons ta tNil)) σ H (.int m) := fun M1 H1 g Q q =>
  ha M1 H1 g _ fun v H2 e2 d2 => by
    cases d2 with
    | @lst a vs _ hs hx =>
      have hv := das_ints hx
      subst hv
      refine ⟨a, xs, rfl, SqL.of (mn_same _ _ hs), List.length_pos_of_mem hm, fun m' h1 h2 => ?_⟩
      have e : m' = m := by
        have := h2 m hm
        have := hb m' h1
        omega
      subst e
      exact q _ _ e2 (.int _)
/-! max(t, default=-1) -/
def topI (xs : List Int) : Int := xs.foldl max (-1)
theorem top_from (xs : List Int) : ∀ a : Int, xs.foldl max a = max a (xs.foldl max a) := by
  induction xs with
  | nil => intro a; show a = max a a; omega
  | cons x xs ih =>
    intro a
    show xs.foldl max (max a x) = max a (xs.foldl max (max a x))
    have := ih (max a x)
    omega
theorem top_is (xs : List Int) : ∀ a : Int, (xs.foldl max a = a ∨ xs.foldl max a ∈ xs) ∧ ∀ y ∈ xs, y ≤ xs.foldl max a := by
  induction xs with
  | nil => intro a; exact ⟨.inl rfl, fun y hy => nomatch hy⟩
  | cons x xs ih =>
    intro a
    show (xs.foldl max (max a x) = a ∨ _) ∧ ∀ y ∈ x :: xs, y ≤ xs.foldl max (max a x)
    obtain ⟨h1, h2⟩ := ih (max a x)
    have h3 := top_from xs (max a x)
    refine ⟨?_, fun y hy => ?_⟩
    · show _ ∨ xs.foldl max (max a x) ∈ x :: xs
      rcases h1 with h | h
      · rw [h]
        by_cases c : x ≤ a
        · left; omega
        · right
          have e : max a x = x := by omega
          rw [e]
          exact List.mem_cons_self ..
      · exact .inr (List.mem_cons_of_mem _ h)
    · rcases List.mem_cons.mp hy with rfl | hy
      · omega
      · exact h2 y hy
def rMaxDT (K : PySem.W.Frag) : List V → List V → Hp → VK → Prop := fun vs zs H Q => ∃ (a : Addr) (ns : List Int), vs = [V.ref a] ∧ zs = [V.int (-1)] ∧ SqT K H a (ns.map V.int) ∧ (∀ n ∈ ns, -1 ≤ n) ∧ Q (.int (topI ns)) H
theorem alikes (ns : List Int) : PySem.W.AlikeAll (ns.map PyData.int) := by
  refine ⟨fun x hx y hy => ?_, fun x hx => ?_⟩
  · obtain ⟨i, _, rfl⟩ := List.mem_map.mp hx
    obtain ⟨j, _, rfl⟩ := List.mem_map.mp hy
    rfl
  · obtain ⟨i, _, rfl⟩ := List.mem_map.mp hx
    exact PyData.noConfusion
theorem cr_maxDT {X : Cx} {K : PySem.W.Frag} (hc : X.calm = true) (hK : X.K = K) (hu : X.A.units + 65 < cLine) : CallRK X (.builtin "max") [Str.ofString "default"] (rMaxDT K) := by
  subst hK
  intro pins s σ H vs zs us ws Q I r rz h
  obtain ⟨a, ns, rfl, rfl, hs, hb, q⟩ := h
  obtain ⟨its, rv, ht, _⟩ := I.tuple hs
  obtain rfl := Vals.ref1 r
  obtain ⟨w1, rfl, t1, rfl⟩ := vals1 rz
  obtain ⟨as, rd⟩ := Dp.readsAll I (ns.map PyData.int) _ its (Das.dp _ _ (Das.ints ns)) rv
  refine PySem.W.max_tuple_default (I.ok.hd hc) ht (by simpa using rd) (alikes ns) (by rw [PySem.W.depth_ints]; omega) (fun e h' tk kp => ?_) fun y ys i v h' tk bs e _ rd kp => ?_
  · have e : ns = [] := List.map_eq_nil_iff.mp e
    subst e
    exact ⟨.int _, H, I.kept kp, ⟨_, rfl⟩, q⟩
  · cases ns with
    | nil => cases e
    | cons n ns =>
      rw [List.map_cons] at e
      injection e with e3 e4
      subst e3
      subst e4
      rw [PySem.W.maxD_ints] at rd
      have e5 : ns.foldl max n = topI (n :: ns) := by
        show _ = ns.foldl max (max (-1) n)
        have := hb n (List.mem_cons_self ..)
        congr 1
        omega
      rw [e5] at rd
      cases rd
      exact ⟨.int _, H, I.kept kp, ⟨_, rfl⟩, q⟩
theorem ev_maxDT {xs : List Int} (ha : Ev K M ta σ H (.tuple (xs.map PyData.int))) (hk : Ev K M tb σ H (.int (-1))) (hb : ∀ n ∈ xs, -1 ≤ n) : Ev K M (tCKw (rMaxDT K) (tCons ta tNil) (tCons tb tNil)) σ H (.int (topI xs)) := fun M1 H1 g Q q =>
  ha M1 H1 g _ fun v H2 e2 d2 => by
    refine hk M1 H2 (g.same e2) _ fun v3 H3 e3 d3 => ?_
    have d2 := dm_same d2 (g.same e2).tr e3
    cases d2 with
    | @tup a vs _ hs hx =>
      have hv := das_ints hx
      subst hv
      cases d3
      exact ⟨a, xs, rfl, rfl, same_sqt mn_same hs, hb, q _ _ (e2.trans e3) (.int _)⟩
/-! tuples of ints compared -/
def rGeL (K : PySem.W.Frag) : R2 := fun x y H Q => ∃ a b : List Int, Da K H x (tI a) ∧ Da K H y (tI b) ∧ Q (.bl (!ltL a b)) H
theorem op_geL {X : Cx} {K : PySem.W.Frag} (hK : X.K = K) (hu : X.A.units + 65 < cLine) : OpR X (compareOp .GtE) (rGeL K) := by
  subst hK
  intro pins s σ H x y v u Q I rx ry h
  obtain ⟨a, b, hd, he, q⟩ := h
  obtain ⟨_, r1⟩ := Dp.reads I _ x v (Da.dp _ _ hd) rx
  obtain ⟨_, r2⟩ := Dp.reads I _ y u (Da.dp _ _ he) ry
  refine PySem.W.ge_data r1 r2 (alike_rows _ _) PyData.noConfusion (by rw [depth_row, depth_row]; omega) ?_
  rw [ltL_data]
  exact ⟨.bl _, H, I, rfl, q⟩
theorem ev_geL {a b : List Int} (ha : Ev K M ta σ H (tI a)) (hb : Ev K M tb σ H (tI b)) : Ev K M (tOp (rGeL K) ta tb) σ H (.bool (!ltL a b)) :=
  ev_op ha hb fun M2 H1 x y gg dx dy Q q => ⟨a, b, dm_h dx, dm_h dy, q _ _ (Same.refl _) (.bl _)⟩
/-! len(set(t)) -/
def rLenO (w : World) : List V → Hp → VK → Prop := fun vs H Q => ∃ (a : Addr) (S : Int → Bool) (n m : Nat), vs = [V.ref a] ∧ H a = some (SetO w a S n) ∧ (∀ ns : List Int, ns.Nodup → (∀ k, k ∈ ns ↔ S k = true) → ns.length = m) ∧ Q (.int m) H
theorem call_lenO {X : Cx} {w : World} (hw : X.w = w) : CallR X (.builtin "len") (rLenO w) := by
  subst hw
  intro pins s σ H vs us Q I r h
  obtain ⟨a, S, n, m, rfl, ha, hm, q⟩ := h
  obtain rfl := Vals.ref1 r
  obtain ⟨o, es, ep, t, ho, hex, hd, g, nd, hmem, hb, hf, hn, hr, hl⟩ := setO_get I ha
  have e := hm _ nd fun k => (hmem k).symm
  rw [List.length_map, Array.length_toList] at e
  have hb : es.size < 4096 := hb
  exact call_len_set ho hex hd hf (by omega) ⟨.int m, H, I.tok _, ⟨_, by rw [e]⟩, q⟩
theorem nd_len {a b : List Int} (ha : a.Nodup) (hb : b.Nodup) (h : ∀ k, k ∈ a ↔ k ∈ b) : a.length = b.length := ((List.perm_ext_iff_of_nodup ha hb).mpr h).length_eq
theorem ev_lenSet {xs : List Int} (ha : Ev K M ta σ H (.tuple (xs.map PyData.int))) (hz : xs.length ≤ 60) : Ev K M (tCB (rLenO w) (tCons (tCB (rSetI K w) (tCons ta tNil)) tNil)) σ H (.int ((lvl xs).length : Nat)) := fun M2 H1 g Q q =>
  ha M2 H1 g _ fun v H2 e2 dv => by
    cases dv with
    | @tup a vs _ hs hx =>
      have hvs : vs = xs.map V.int := das_ints hx
      subst hvs
      refine ⟨a, xs, rfl, same_sqt mn_same hs, hz, fun s0 c hs0 hc => ?_⟩
      have e3 : Same H2 (upd H2 s0 (SetO w s0 (fun j => decide (j ∈ xs)) c)) := same_new hs0
      refine ⟨s0, _, c, _, rfl, upd_same, fun ns hn hk => nd_len hn ((pw_lvl xs).imp fun h => Int.ne_of_lt h) fun k => by rw [hk, mem_lvl, decide_eq_true_iff], q _ _ (e2.trans e3) (.int _)⟩
theorem das_rep {K : PySem.W.Frag} {H : Hp} {xs : List V} {ds : List PyData} (hx : Das K H xs ds) : ∀ m : Nat, Das K H (List.replicate m xs).flatten (List.replicate m ds).flatten
  | 0 => .nil
  | m + 1 => by
    rw [List.replicate_succ, List.replicate_succ, List.flatten_cons, List.flatten_cons]
    exact hx.append (das_rep hx m)
theorem ev_repT {es : List PyData} {k : Int} (ha : Ev K M ta σ H (.tuple es)) (hb : Ev K M tb σ H (.int k)) (h0 : 2 ≤ k) (h1 : k ≤ 1000) (h2 : es.length ≤ 1000) (h3 : es ≠ []) : Ev K M (tOp (rRepT K) ta tb) σ H (.tuple (List.replicate k.toNat es).flatten) :=
  ev_op ha hb fun M2 H1 x y gg dx dy Q q => by
    cases dx with
    | @tup a xs _ hs hx =>
      cases dy
      have hl := hx.length
      refine ⟨a, k, xs, rfl, rfl, same_sqt mn_same hs, fun e => ?_, h0, h1, by omega, fun p hp => q _ _ (same_new hp) (dm_newT gg.tr hp (das_rep hx _))⟩
      subst e
      cases es with
      | nil => exact h3 rfl
      | cons d es => cases hl
end
end Dq

/-! new lists that are changed later -/
namespace Dq
open PySem PySem.Spec PyProof.Rows L2 Gd
section
variable {K : PySem.W.Frag} {M M' : List Addr} {σ : S} {H H' H0 : Hp} {ta tb te : TE} {tt : TT} {as : TA} {d e : PyData} {ds es : List PyData} {wi : TI} {D : Ends} {t u v : TS}
theorem same_upd {p : Addr} {o : HO} (h0 : H0 p = none) (e : Same H0 H') : Same H0 (upd H' p o) := fun b x hb => by
  rw [upd_ne (ne_of_none hb h0)]
  exact e _ _ hb
theorem given_all {n : Nat} {el : Nat → PyData} : given n (fun _ => true) el = (List.range n).map el := by
  unfold given
  rw [List.filter_eq_self.mpr fun _ _ => rfl]
theorem lc_mut {g : TG} {vs : List Nat} {n : Nat} {it : Nat → PyData} {Q : VK} (f : Nat → Bool) (el : Nat → PyData) (tr : Tr M H) (w : Wk K M wi σ H n it) (hn : n ≤ 1000000)
    (hs : ∀ M' H' i x, Go M H M' H' → i < n → Dm K M' H' x (it i) → ∃ σ2, Tk g x (wipe σ vs) H' σ2 ∧ wipe σ2 vs = wipe σ vs ∧ Eb M' tt σ2 H' (f i) ∧ (f i = true → Ev K M' te σ2 H' (el i)))
    (k : ∀ l acc H1, H l = none → Same H H1 → Go M H (l :: M) H1 → H1 l = some (.lst acc) → Dms K (l :: M) H1 acc (given n f el) → Q (.ref l) H1) : tLc wi g tt te vs σ H Q := by
  have g1 : Go M H M H := Go.refl tr
  refine w M H g1 _ fun J H2 G Y e2 wk hG hY D hD => ?_
  have g2 : Go M H M H2 := g1.same e2
  have DM : D ∉ M := fun z => g2.tr D z hD
  have g3 : Go M H2 (D :: M) (upd H2 D (.lst [])) := go_mut g2.tr hD
  refine lc_it wk (fun i H' => Go M H2 (D :: M) H' ∧ Same H2 H' ∧ ∃ acc, H' D = some (.lst acc) ∧ Dms K (D :: M) H' acc (given i f el) ∧ acc.length ≤ i)
    ⟨g3, same_new hD, [], upd_same, .nil, Nat.le_refl _⟩ (fun i H' _ p => hG _ _ p.1) (fun i z H' H4 hi p hy => ?_) (fun H' p => ?_)
  · obtain ⟨p1, ps, acc, p2, p3, p4⟩ := p
    obtain ⟨e4, d4⟩ := hY _ i H' z H4 p1 hi hy
    have g4 := p1.same e4
    obtain ⟨σ2, t1, t2, t3, t4⟩ := hs _ H4 i z (g2.trans g4) hi d4
    refine t1 _ ⟨t2, t3 _ H4 (Go.refl g4.tr) _ fun H5 e5 => ?_⟩
    have g5 := g4.same e5
    cases hf : f i with
    | true =>
      show te σ2 H5 _
      refine t4 hf _ H5 ((Go.refl g4.tr).same e5) _ fun v H6 e6 d6 => ?_
      have g6 := g5.same e6
      have s6 := (e4.trans e5).trans e6
      have a6 : H6 D = some (.lst acc) := s6 _ _ p2
      refine ⟨acc, a6, Nat.lt_of_le_of_lt p4 (by rw [sizeLine_eq]; omega), ?_⟩
      have g7 : Go M H2 (D :: M) (upd H6 D (.lst (acc ++ [v]))) := g6.trans (go_set g6.tr (List.mem_cons_self ..))
      refine ⟨g7, fun b o hb => ?_, acc ++ [v], upd_same, ?_, ?_⟩
      · rw [upd_ne (ne_of_none hb hD)]
        exact s6 _ _ (ps _ _ hb)
      · rw [given_yes hf]
        have k := go_set (o := .lst (acc ++ [v])) g6.tr (List.mem_cons_self (a := D) (l := M))
        exact (dms_go p3 (((Go.refl p1.tr).same s6).trans k)).append (.cons (dm_go d6 k) .nil)
      · rw [List.length_append]
        show acc.length + 1 ≤ i + 1
        omega
    | false =>
      show Go M H2 (D :: M) H5 ∧ _
      have s5 := e4.trans e5
      refine ⟨g5, ps.trans s5, acc, s5 _ _ p2, ?_, by omega⟩
      rw [given_no hf]
      exact dms_go p3 ((Go.refl p1.tr).same s5)
  · obtain ⟨p1, ps, acc, p2, p3, p4⟩ := p
    exact k D acc H' (e2.free hD) (e2.trans ps) (g2.trans p1) p2 p3
theorem cat_newM {Q : VK} (tr : Tr M H) (ha : Ev K M ta σ H (.list ds)) (hb : Ev K M tb σ H (.list es)) (hz : ds.length + es.length ≤ 1000000)
    (k : ∀ p vs H1, Same H H1 → Tr M H1 → H1 p = none → Dms K M H1 vs (ds ++ es) → Q (.ref p) (upd H1 p (.lst vs))) : tOp rCat ta tb σ H Q :=
  ha M H (Go.refl tr) _ fun x H1 e1 dx => hb M H1 ((Go.refl tr).same e1) _ fun y H2 e2 dy => by
    have dx2 := dm_same dx (Tr.same tr e1) e2
    have t2 := Tr.same tr (e1.trans e2)
    cases dx2 with
    | @lst a xs _ hs hx =>
      cases dy with
      | @lst b ys _ ks ky => exact ⟨a, b, xs, ys, rfl, rfl, mn_same _ _ hs, mn_same _ _ ks, by rw [hx.length, ky.length, sizeLine_eq]; omega, fun p hp => k p _ H2 (e1.trans e2) t2 hp (hx.append ky)⟩
theorem sort_new {xs : List (List Int)} {Q : VK} (tr : Tr M H) (ha : Ev K M ta σ H (.list (xs.map tI))) (hne : xs.length ≤ 1 ∨ [] ∉ xs)
    (k : ∀ l H1, H l = none → Same H H1 → Tr M H1 → Dm K M H1 (.ref l) (.list ((srtL xs).map tI)) → Q (.ref l) H1) : tCB (rSortedL K) (tCons ta tNil) σ H Q :=
  ha M H (Go.refl tr) _ fun v H2 e2 d2 => by
    have t2 := Tr.same tr e2
    cases d2 with
    | @lst a vs _ hs hx =>
      have hlv := hx.length
      rw [List.length_map] at hlv
      refine ⟨a, vs, rfl, SqL.of (mn_same _ _ hs), fun x hm => ?_, fun ys p hp hpw hn => ?_⟩
      · obtain ⟨i, hi, rfl⟩ := List.getElem_of_mem hm
        obtain ⟨d, e5, e6⟩ := hx.getV (List.getElem?_eq_getElem hi)
        have hi' : i < xs.length := by omega
        rw [List.getElem?_map, List.getElem?_eq_getElem hi'] at e5
        cases e5
        refine ⟨xs[i], Da.same mn_same _ _ e6, fun e => ?_⟩
        rcases hne with h | h
        · omega
        · exact absurd (e ▸ List.getElem_mem hi') h
      · obtain ⟨es, hes, hd⟩ := Das.perm hx hp
        obtain ⟨qs, q1, rfl⟩ := perm_map hes xs rfl
        have hlen := hd.length
        rw [List.length_map] at hlen
        have hqs : qs = srtL xs := srtL_of (List.pairwise_iff_getElem.mpr fun i j hi hj hij => by
          have := List.pairwise_iff_getElem.mp hpw i j (by omega) (by omega) hij
          obtain ⟨d, e5, e6⟩ := hd.getV (List.getElem?_eq_getElem (i := i) (by omega))
          obtain ⟨d', e7, e8⟩ := hd.getV (List.getElem?_eq_getElem (i := j) (by omega))
          rw [List.getElem?_map, List.getElem?_eq_getElem hi] at e5
          rw [List.getElem?_map, List.getElem?_eq_getElem hj] at e7
          cases e5
          cases e7
          exact this _ _ (Da.same mn_same _ _ e6) (Da.same mn_same _ _ e8)) q1
        subst hqs
        exact k p _ (e2.free hn) (e2.trans (same_new hn)) (Tr.same t2 (same_new hn)) (dm_newL t2 hn hd)
end
theorem ps_lc2k {X : Cx} {st : Stmt} {wi wi1 : TI} {g g1 gg : TG} {tt tt1 : TT} {te : TE} {vs vs1 : List Nat} (h : PS X st (tAsg (tLc2 wi g tt wi1 g1 tt1 te vs vs1) gg)) : PS X st (tAsg (tLcT wi g tt vs fun D => tNest wi1 g1 tt1 vs1 (tPut te D)) gg) := h
/-! orders, spread -/
def bmp (g x : Int) : Int := x + (if decide (x ≥ g) = true then 1 else 0)
def lv (r : List Int) : Nat := (topI r + 1).toNat
def widA (r : List Int) : List (List Int) := (List.range (lv r)).map fun l => r ++ [((l : Nat) : Int)]
def gapR (r : List Int) (g : Nat) : List Int := r.map (bmp (g : Nat)) ++ [((g : Nat) : Int)]
def wid (r : List Int) : List (List Int) := widA r ++ (List.range (lv r + 1)).map (gapR r)
theorem top_ge (r : List Int) : -1 ≤ topI r := by
  have := top_from r (-1)
  unfold topI
  omega
theorem lv_is (r : List Int) : ((lv r : Nat) : Int) = topI r + 1 := by
  have := top_ge r
  unfold lv
  omega
theorem wid_ne (r : List Int) : [] ∉ wid r := fun h => by
  rcases List.mem_append.mp h with h | h
  · obtain ⟨l, _, e⟩ := List.mem_map.mp h
    exact absurd e (by simp)
  · obtain ⟨l, _, e⟩ := List.mem_map.mp h
    unfold gapR at e
    exact absurd e (by simp)
theorem wid_len (r : List Int) : (wid r).length = 2 * lv r + 1 := by
  unfold wid widA
  rw [List.length_append, List.length_map, List.length_map, List.length_range, List.length_range]
  omega
end Dq

/-! two names at once, the second of them a new list; a slice to a drawn place -/
namespace Dq
open PySem PySem.Spec PyProof.Rows L2 Gd
section
variable {K : PySem.W.Frag} {M M' : List Addr} {σ : S} {H H' H1 H3 : Hp} {ta tb te : TE} {tt : TT} {as : TA} {d d1 e : PyData} {ds es : List PyData} {wi : TI} {D : Ends} {t u v : TS} {s c : Addr} {P P1 : PyData → Prop}
theorem dr_slR {r : V → Option Int → Option Int → Hp → VK → Prop} {x : V} (hs : s ∈ M) (hc : c ∈ M) (h : Dr K s c M te σ H P1) (k : ∀ M' H' y d, Go M H M' H' → Src s c H' → Dm K M' H' y d → P1 d → Dr K s c M' (tSl r (tC x) tNoPart (tPart (tC y))) σ H' P) : Dr K s c M (tSl r (tC x) tNoPart (tPart te)) σ H P :=
  dr_bind (C := fun t => tSl r (tC x) tNoPart (tPart t)) hs hc (fun _ _ q => q) h k
theorem q_parN {i j n : Nat} {R : List PyData → PyData → Prop} {E : XK} (tr : Tr M H) (h1 : Ev K M te σ H d1) (h2 : ∀ v H1, Same H H1 → Tr M H1 → Dm K M H1 v d1 → Ea K M as σ H1 ds) (hl : ds.length = n) (hp : R ds d)
    (k : ∀ v H1 l H2, Same H H1 → Tr M H1 → Dm K M H1 v d1 → H1 l = none → Same H1 H2 → Tr M H2 → Dm K M H2 (.ref l) d → u D ((σ.set i (some v)).set j (some (.ref l))) H2) :
    tSeq (tPar i j (tCons te (tCons (tCall (spNew K n R) [] E as) tNil))) u D σ H :=
  h1 M H (Go.refl tr) _ fun v H1 e1 dv => call_new (tr.same e1) (h2 v H1 e1 (tr.same e1) dv) hl hp fun l H2 hl2 e2 t2 dl => ⟨_, _, rfl, k v H1 l H2 e1 (tr.same e1) dv hl2 e2 t2 dl⟩
theorem q_parL {i j : Nat} (tr : Tr M H) (h1 : Ev K M te σ H d1)
    (k : ∀ v H1 p, Same H H1 → Tr M H1 → Dm K M H1 v d1 → H1 p = none → u D ((σ.set i (some v)).set j (some (.ref p))) (upd H1 p (.lst []))) :
    tSeq (tPar i j (tCons te (tCons (tLst tNil) tNil))) u D σ H :=
  h1 M H (Go.refl tr) _ fun v H1 e1 dv => lst_new (K := K) (ds := []) (tr.same e1) ea_nil (Nat.zero_le _) fun p vs H2 e2 t2 hp dvs => by
    cases dvs
    exact ⟨_, _, rfl, k v H2 p (e1.trans e2) t2 (dm_same dv (tr.same e1) e2) hp⟩
theorem q_appDrop {i : Nat} {l : Addr} (tr : Tr M H1) (hl : H1 l = none) (e : Same H1 H3) (d3 : Dm K M H3 (.ref l) (.list ds)) (hz : ds.length ≤ 1000) (hi : σ[i]? = some (some (.ref l))) (h : Ev K (l :: M) te σ H3 d)
    (k : ∀ H4 o, Same H3 H4 → Go M H1 M (upd H4 l o) → u D σ (upd H4 l o)) : tSeq (tDrop (tBM K "list" rAppend (tVar i) (tCons te tNil))) u D σ H3 := by
  cases d3 with
  | @lst a vs _ hs hx =>
    have h3 : H3 l = some (.lst vs) := mn_same _ _ hs
    have g := go_take tr e hl (by rw [h3]; exact fun z => nomatch z)
    refine q_app (K := K) (M := l :: M) g.tr hi h3 (List.mem_cons_self ..) h (by rw [hx.length]; exact hz) fun v H4 e4 t4 dv g4 => k H4 _ e4 (go_drop ((g.same e4).trans g4) hl)
end
end Dq

namespace Own
open PySem PySem.Spec PyProof.Rows L2 Gd Dq
def topS (i : Nat) : Stmt := PySem.Challenge.pw_soonerornot_k14_whole_lists_of_orders.main.body.getD i (.Pass ⟨0, 0, 0, 0⟩)
abbrev s_order_of : Stmt := topS 1
theorem sc_order_of : FnScope ["placing", "ranks", "rank", "number"] ["placing"] (defScope s_order_of) := ⟨rfl, rfl, rfl, by decide +kernel, rfl, by decide +kernel, by decide +kernel⟩
abbrev s_orders : Stmt := topS 3
theorem sc_orders : FnScope ["n", "rows", "_", "row", "wider"] ["n"] (defScope s_orders) := ⟨rfl, rfl, rfl, by decide +kernel, rfl, by decide +kernel, by decide +kernel⟩
abbrev s_left_of : Stmt := topS 4
theorem sc_left_of : FnScope ["placing", "moments", "moment"] ["placing", "moments"] (defScope s_left_of) := ⟨rfl, rfl, rfl, by decide +kernel, rfl, by decide +kernel, by decide +kernel⟩
abbrev s_left_order : Stmt := topS 5
theorem sc_left_order : FnScope ["order", "moments"] ["order", "moments"] (defScope s_left_order) := ⟨rfl, rfl, rfl, by decide +kernel, rfl, by decide +kernel, by decide +kernel⟩
abbrev s_spreads : Stmt := topS 6
theorem sc_spreads : FnScope ["order", "classes", "k", "rows", "moved", "number"] ["order"] (defScope s_spreads) := ⟨rfl, rfl, rfl, by decide +kernel, rfl, by decide +kernel, by decide +kernel⟩
abbrev s_lw_source : Stmt := topS 8
theorem sc_lw_source : FnScope ["script", "mixed", "cell"] ["script"] (defScope s_lw_source) := ⟨rfl, rfl, rfl, by decide +kernel, rfl, by decide +kernel, by decide +kernel⟩
abbrev s_lw_pick : Stmt := topS 9
theorem sc_lw_pick : FnScope ["source", "many", "left", "mixed"] ["source", "many"] (defScope s_lw_pick) := ⟨rfl, rfl, rfl, by decide +kernel, rfl, by decide +kernel, by decide +kernel⟩
abbrev s_lw_of : Stmt := topS 10
theorem sc_lw_of : FnScope ["source", "some"] ["source", "some"] (defScope s_lw_of) := ⟨rfl, rfl, rfl, by decide +kernel, rfl, by decide +kernel, by decide +kernel⟩
abbrev s_lw_mixed : Stmt := topS 11
theorem sc_lw_mixed : FnScope ["source", "things", "rest", "lap"] ["source", "things"] (defScope s_lw_mixed) := ⟨rfl, rfl, rfl, by decide +kernel, rfl, by decide +kernel, by decide +kernel⟩
abbrev s_lw_order_of : Stmt := topS 12
theorem sc_lw_order_of : FnScope ["placing", "levels", "one"] ["placing"] (defScope s_lw_order_of) := ⟨rfl, rfl, rfl, by decide +kernel, rfl, by decide +kernel, by decide +kernel⟩
abbrev s_lw_orders : Stmt := topS 13
theorem sc_lw_orders : FnScope ["n", "found", "lap", "later", "order", "levels", "gap", "level", "one"] ["n"] (defScope s_lw_orders) := ⟨rfl, rfl, rfl, by decide +kernel, rfl, by decide +kernel, by decide +kernel⟩
abbrev s_lw_draw_placing : Stmt := topS 14
theorem sc_lw_draw_placing : FnScope ["source", "n", "most", "moment"] ["source", "n"] (defScope s_lw_draw_placing) := ⟨rfl, rfl, rfl, by decide +kernel, rfl, by decide +kernel, by decide +kernel⟩
abbrev s_lw_count : Stmt := topS 15
theorem sc_lw_count : FnScope ["n", "found", "many", "total", "choices", "first"] ["n"] (defScope s_lw_count) := ⟨rfl, rfl, rfl, by decide +kernel, rfl, by decide +kernel, by decide +kernel⟩
abbrev s_law : Stmt := topS 16
theorem sc_law : FnScope ["script", "source", "n", "many", "due", "told", "lap", "order", "levels", "level", "gap", "kept", "placing", "moments", "some", "wide", "odd", "one", "moment", "a", "b"] ["script"] (defScope s_law) := ⟨rfl, rfl, rfl, by decide +kernel, rfl, by decide +kernel, by decide +kernel⟩
structure Ads where
  a_order_of : Addr
  d_order_of : FuncData
  a_orders : Addr
  d_orders : FuncData
  a_left_of : Addr
  d_left_of : FuncData
  a_left_order : Addr
  d_left_order : FuncData
  a_spreads : Addr
  d_spreads : FuncData
  a_lw_source : Addr
  d_lw_source : FuncData
  a_lw_pick : Addr
  d_lw_pick : FuncData
  a_lw_of : Addr
  d_lw_of : FuncData
  a_lw_mixed : Addr
  d_lw_mixed : FuncData
  a_lw_order_of : Addr
  d_lw_order_of : FuncData
  a_lw_orders : Addr
  d_lw_orders : FuncData
  a_lw_draw_placing : Addr
  d_lw_draw_placing : FuncData
  a_lw_count : Addr
  d_lw_count : FuncData
  a_law : Addr
  d_law : FuncData
structure Tp (K : PySem.W.Frag) (mg : Str → Option Value) (A : Ads) : Prop where
  F_order_of : Fun K "order_of" "order_of" s_order_of A.a_order_of A.d_order_of
  g_order_of : mg "order_of" = some (.ref A.a_order_of)
  b_order_of : Binds K A.d_order_of ["placing"] []
  F_orders : Fun K "orders" "orders" s_orders A.a_orders A.d_orders
  g_orders : mg "orders" = some (.ref A.a_orders)
  b_orders : Binds K A.d_orders ["n"] []
  F_left_of : Fun K "left_of" "left_of" s_left_of A.a_left_of A.d_left_of
  g_left_of : mg "left_of" = some (.ref A.a_left_of)
  b_left_of : Binds K A.d_left_of ["placing", "moments"] []
  F_left_order : Fun K "left_order" "left_order" s_left_order A.a_left_order A.d_left_order
  g_left_order : mg "left_order" = some (.ref A.a_left_order)
  b_left_order : Binds K A.d_left_order ["order", "moments"] []
  F_spreads : Fun K "spreads" "spreads" s_spreads A.a_spreads A.d_spreads
  g_spreads : mg "spreads" = some (.ref A.a_spreads)
  b_spreads : Binds K A.d_spreads ["order"] []
  F_lw_source : Fun K "_law_source" "_law_source" s_lw_source A.a_lw_source A.d_lw_source
  g_lw_source : mg "_law_source" = some (.ref A.a_lw_source)
  b_lw_source : Binds K A.d_lw_source ["script"] []
  F_lw_pick : Fun K "_law_pick" "_law_pick" s_lw_pick A.a_lw_pick A.d_lw_pick
  g_lw_pick : mg "_law_pick" = some (.ref A.a_lw_pick)
  b_lw_pick : Binds K A.d_lw_pick ["source", "many"] []
  F_lw_of : Fun K "_law_of" "_law_of" s_lw_of A.a_lw_of A.d_lw_of
  g_lw_of : mg "_law_of" = some (.ref A.a_lw_of)
  b_lw_of : Binds K A.d_lw_of ["source", "some"] []
  F_lw_mixed : Fun K "_law_mixed" "_law_mixed" s_lw_mixed A.a_lw_mixed A.d_lw_mixed
  g_lw_mixed : mg "_law_mixed" = some (.ref A.a_lw_mixed)
  b_lw_mixed : Binds K A.d_lw_mixed ["source", "things"] []
  F_lw_order_of : Fun K "_law_order_of" "_law_order_of" s_lw_order_of A.a_lw_order_of A.d_lw_order_of
  g_lw_order_of : mg "_law_order_of" = some (.ref A.a_lw_order_of)
  b_lw_order_of : Binds K A.d_lw_order_of ["placing"] []
  F_lw_orders : Fun K "_law_orders" "_law_orders" s_lw_orders A.a_lw_orders A.d_lw_orders
  g_lw_orders : mg "_law_orders" = some (.ref A.a_lw_orders)
  b_lw_orders : Binds K A.d_lw_orders ["n"] []
  F_lw_draw_placing : Fun K "_law_draw_placing" "_law_draw_placing" s_lw_draw_placing A.a_lw_draw_placing A.d_lw_draw_placing
  g_lw_draw_placing : mg "_law_draw_placing" = some (.ref A.a_lw_draw_placing)
  b_lw_draw_placing : Binds K A.d_lw_draw_placing ["source", "n"] []
  F_lw_count : Fun K "_law_count" "_law_count" s_lw_count A.a_lw_count A.d_lw_count
  g_lw_count : mg "_law_count" = some (.ref A.a_lw_count)
  b_lw_count : Binds K A.d_lw_count ["n"] []
  F_law : Fun K "law" "law" s_law A.a_law A.d_law
  g_law : mg "law" = some (.ref A.a_law)
  b_law : Binds K A.d_law ["script"] []
  z_abs : mg "abs" = none
  z_enumerate : mg "enumerate" = none
  z_int : mg "int" = none
  z_len : mg "len" = none
  z_list : mg "list" = none
  z_max : mg "max" = none
  z_range : mg "range" = none
  z_repr : mg "repr" = none
  z_set : mg "set" = none
  z_sorted : mg "sorted" = none
  z_tuple : mg "tuple" = none
  z_zip : mg "zip" = none
def spLaw (K : PySem.W.Frag) : Sp := fun vs H Q _ => ∃ (a : Addr) (ns : List Int), vs = [.ref a] ∧ SqL K H a (ns.map V.int) ∧ ns.length ≤ 63 ∧ ∀ H', Q (.bl true) H'
def dI (xs : List Int) : PyData := .tuple (xs.map .int)
def ix (xs : List Int) (i : Int) : Int := xs.getD i.toNat 0
theorem at_ix {xs : List Int} {i : Int} (h : 0 ≤ i ∧ i < xs.length) : L2.atI (xs.map PyData.int) i = some (.int (ix xs i)) := by
  obtain ⟨j, rfl⟩ : ∃ j : Nat, i = (j : Int) := ⟨i.toNat, by omega⟩
  have hj : j < xs.length := by omega
  have e : (xs.map PyData.int)[j]? = some (.int (ix xs (j : Int))) := by
    unfold ix
    rw [List.getElem?_map, Int.toNat_natCast, List.getD_eq_getElem?_getD, List.getElem?_eq_getElem hj]
    rfl
  exact atI_nat e
theorem eqv_int (a b : Int) : PyData.eqv (.int a) (.int b) = (a == b) := by unfold PyData.eqv; rfl
theorem eqv_nil (ds : List PyData) : PyData.eqv (.list ds) (.list []) = ds.isEmpty := by
  unfold PyData.eqv
  cases ds with
  | nil => unfold PyData.eqvAll; rfl
  | cons d ds => unfold PyData.eqvAll; rfl
theorem shp_int (i : Int) : SeqAt.shaped (.int i) = true := by
  unfold SeqAt.shaped PyData.canLay0 PyData.depth
  rfl

def rks (xs : List Int) : List Int := xs.map (rank xs)
theorem rank_lt {xs : List Int} {a b : Int} (ha : a ∈ xs) (hb : b ∈ xs) (h : a < b) : rank xs a < rank xs b := by
  have h1 : (lvl xs).idxOf a < (lvl xs).length := List.idxOf_lt_length_of_mem (mem_lvl.mpr ha)
  have h2 : (lvl xs).idxOf b < (lvl xs).length := List.idxOf_lt_length_of_mem (mem_lvl.mpr hb)
  have e1 : (lvl xs)[(lvl xs).idxOf a] = a := List.getElem_idxOf h1
  have e2 : (lvl xs)[(lvl xs).idxOf b] = b := List.getElem_idxOf h2
  show (((lvl xs).idxOf a : Nat) : Int) < ((lvl xs).idxOf b : Nat)
  by_cases c : (lvl xs).idxOf a < (lvl xs).idxOf b
  · omega
  · by_cases c2 : (lvl xs).idxOf b < (lvl xs).idxOf a
    · have := List.pairwise_iff_getElem.mp (pw_lvl xs) _ _ h2 h1 c2
      omega
    · have e : (lvl xs).idxOf a = (lvl xs).idxOf b := by omega
      have e3 : a = b := by
        rw [← e1, ← e2]
        congr 1
      omega
theorem ix_rks {xs : List Int} {i : Int} (h : 0 ≤ i ∧ i < xs.length) : ix (rks xs) i = rank xs (ix xs i) ∧ ix xs i ∈ xs := by
  obtain ⟨j, rfl⟩ : ∃ j : Nat, i = (j : Int) := ⟨i.toNat, by omega⟩
  have hj : j < xs.length := by omega
  unfold ix rks
  rw [Int.toNat_natCast, List.getD_eq_getElem?_getD, List.getD_eq_getElem?_getD, List.getElem?_map, List.getElem?_eq_getElem hj]
  exact ⟨rfl, List.getElem_mem hj⟩
theorem nd_lvl (xs : List Int) : (lvl xs).Nodup := (pw_lvl xs).imp fun h => Int.ne_of_lt h
theorem rks_lt {xs : List Int} {i j : Int} (hi : 0 ≤ i ∧ i < xs.length) (hj : 0 ≤ j ∧ j < xs.length) : ix (rks xs) i < ix (rks xs) j ↔ ix xs i < ix xs j := by
  obtain ⟨e1, m1⟩ := ix_rks hi
  obtain ⟨e2, m2⟩ := ix_rks hj
  rw [e1, e2]
  constructor
  · intro a
    by_cases c : ix xs i < ix xs j
    · exact c
    · by_cases c2 : ix xs j < ix xs i
      · have := rank_lt m2 m1 c2
        omega
      · have e : ix xs i = ix xs j := by omega
        rw [e] at a
        omega
  · exact rank_lt m1 m2
/-- ranks are told by the comparisons alone -/
theorem rank_mono {xs ys : List Int} (hl : ys.length = xs.length) (h : ∀ i j (hi : i < xs.length) (hj : j < xs.length), xs[i] < xs[j] → ys[i] < ys[j]) : ∀ (k i : Nat) (hi : i < xs.length), (lvl xs).idxOf xs[i] = k → k ≤ (lvl ys).idxOf ys[i]
  | 0, i, hi, e => Nat.zero_le _
  | k + 1, i, hi, e => by
    have hlt : (lvl xs).idxOf xs[i] < (lvl xs).length := List.idxOf_lt_length_of_mem (mem_lvl.mpr (List.getElem_mem hi))
    have hk : k < (lvl xs).length := by omega
    obtain ⟨j, hj, ej⟩ := List.getElem_of_mem (mem_lvl.mp (List.getElem_mem hk))
    have e2 : (lvl xs).idxOf xs[j] = k := by
      rw [ej]
      exact (nd_lvl xs).idxOf_getElem k hk
    have hlt2 : xs[j] < xs[i] := by
      have := List.pairwise_iff_getElem.mp (pw_lvl xs) k (k + 1) hk (by omega) (by omega)
      have e3 : (lvl xs)[(lvl xs).idxOf xs[i]] = xs[i] := List.getElem_idxOf hlt
      have e4 : (lvl xs)[k + 1]'(by omega) = xs[i] := by
        rw [← e3]
        congr 1
        exact e.symm
      omega
    have h1 := h j i hj hi hlt2
    have h2 := rank_mono hl h k j hj e2
    have h3 := rank_lt (List.getElem_mem (show j < ys.length by omega)) (List.getElem_mem (show i < ys.length by omega)) h1
    have h3 : (((lvl ys).idxOf ys[j] : Nat) : Int) < ((lvl ys).idxOf ys[i] : Nat) := h3
    omega
theorem ixn {xs : List Int} {i : Nat} (h : i < xs.length) : ix xs ((i : Nat) : Int) = xs[i] := by
  unfold ix
  rw [Int.toNat_natCast, List.getD_eq_getElem?_getD, List.getElem?_eq_getElem h]
  rfl
theorem rank_le {xs : List Int} {x : Int} (hx : x ∈ xs) : 0 ≤ rank xs x ∧ rank xs x < xs.length := by
  have h1 : (lvl xs).idxOf x < (lvl xs).length := List.idxOf_lt_length_of_mem (mem_lvl.mpr hx)
  have h2 := lvl_len xs
  unfold rank
  omega
theorem rks_len (xs : List Int) : (rks xs).length = xs.length := List.length_map ..
theorem fitI {xs : List Int} (h : ∀ x ∈ xs, -(10 ^ 30) ≤ x ∧ x ≤ 10 ^ 30) (hl : xs.length ≤ 60) : Fit 1 6120 (dI xs) :=
  (Fit.tuple (n := 0) (k := 101) fun d hd => by
    obtain ⟨x, hx, rfl⟩ := List.mem_map.mp hd
    have := h x hx
    exact Fit.int 101 (by decide) (by decide) (by omega)).mono (by omega) (by rw [List.length_map]; omega)
theorem rks_congr {xs ys : List Int} (hl : ys.length = xs.length) (h : ∀ i j (hi : i < xs.length) (hj : j < xs.length), (xs[i] < xs[j] ↔ ys[i] < ys[j])) : rks xs = rks ys := by
  unfold rks
  refine List.ext_getElem (by rw [List.length_map, List.length_map, hl]) fun i h1 h2 => ?_
  rw [List.length_map] at h1 h2
  rw [List.getElem_map, List.getElem_map]
  have a1 := rank_mono hl (fun i j hi hj z => (h i j hi hj).mp z) _ i h1 rfl
  have a2 := rank_mono (xs := ys) (ys := xs) hl.symm (fun i j hi hj z => (h i j (by omega) (by omega)).mpr z) _ i h2 rfl
  show (((lvl xs).idxOf xs[i] : Nat) : Int) = ((lvl ys).idxOf ys[i] : Nat)
  omega
theorem rks_rks (xs : List Int) : rks (rks xs) = rks xs := (rks_congr (by rw [rks_len]) fun i j hi hj => by
  have := rks_lt (xs := xs) (i := (i : Nat)) (j := (j : Nat)) (by omega) (by omega)
  rw [ixn (show i < (rks xs).length by rw [rks_len]; exact hi), ixn (show j < (rks xs).length by rw [rks_len]; exact hj), ixn hi, ixn hj] at this
  exact this.symm).symm
theorem shp_dI (xs : List Int) : SeqAt.shaped (dI xs) = true := by
  have h1 : PyData.canLayAll0 (xs.map PyData.int) = true := by
    induction xs with
    | nil => unfold PyData.canLayAll0; rfl
    | cons x xs ih =>
      rw [List.map_cons]
      unfold PyData.canLayAll0
      rw [ih]
      unfold PyData.canLay0
      rfl
  have h2 : PyData.depthAll (xs.map PyData.int) ≤ 0 := by
    clear h1
    induction xs with
    | nil => unfold PyData.depthAll; exact Nat.le_refl _
    | cons x xs ih =>
      rw [List.map_cons]
      unfold PyData.depthAll
      unfold PyData.depth
      omega
  unfold SeqAt.shaped dI
  unfold PyData.canLay0 PyData.depth
  rw [h1, Bool.true_and, decide_eq_true_iff]
  omega
theorem eqv_dI (xs ys : List Int) : PyData.eqv (dI xs) (dI ys) = decide (xs = ys) := eqv_tupI xs ys
section
variable {P : Program} {w : World} {K : PySem.W.Frag} {mg : Str → Option Value} {base : Heap} {A : Ads}
theorem G_order_of (T : Tp K mg A) : FnG P w K mg base 1 A.a_order_of A.d_order_of ["placing"] (spPure K 1 fun ds d => ∃ xs, List.length xs ≤ 60 ∧ ds = [dI xs] ∧ d = dI (rks xs)) := by
  refine fn_ofG T.F_order_of sc_order_of (fun vs H Q E h => spPure_len vs H Q E h) (fun cdv A outer s H vs Q E hg hr h => ?_)
  have hu := hu_of hr
  obtain ⟨M, ds, d, tr, hd, hl, ⟨xs, hx, rfl, rfl⟩, k⟩ := h
  cases hd with
  | @cons v1 _ _ _ h1 h2 =>
    cases h2
    refine ⟨_, (pss_cons (ps_set (i := 1) sc_order_of.nd rfl (Or.inr rfl) (pe_dc (own := [("rank", 2), ("number", 3)]) (g := gTup K 2 (gCons (gName 2) (gCons (gName 3) (gNil)))) (tt := tYes) rfl sc_order_of.nd (pi_k (K := K) (f := fun K => iEnum K _) rfl (pi_enum (by rfl) T.z_enumerate (pa_cons (pe_callB (cr_sortedSet_k (w := w) rfl rfl) (by rfl) T.z_sorted (by decide +kernel) (pa_cons (pe_callTy (cr_setI (K := K) (w := w) rfl rfl rfl) (by rfl) T.z_set (by decide +kernel) (pa_cons (pv 0) pa_nil)) pa_nil)) pa_nil))) (blkOk_by (N := ["placing", "ranks", "rank", "number"]) (sc := defScope s_order_of) (by decide +kernel)) (fun _ _ _ _ _ => (pg_tup rfl (pgs_cons (pg_name (i := 2) sc_order_of.nd rfl (Or.inl rfl)) (pgs_cons (pg_name (i := 3) sc_order_of.nd rfl (Or.inl rfl)) pgs_nil)))) (fun _ _ _ _ _ => pts_nil) (fun _ _ _ _ _ => (pv 3)) (fun _ _ _ _ _ => (pv 2))))
      (pss_one (ps_ret (pe_callTy (call_tup_k (K := K) rfl) (by rfl) T.z_tuple (by decide +kernel) (pa_cons (pe_lc (own := [("number", 3)]) (g := gName 3) (tt := tYes) rfl sc_order_of.nd (pi_tup_k (K := K) rfl (pv 0)) (blkOk_by (N := ["placing", "ranks", "rank", "number"]) (sc := defScope s_order_of) (by decide +kernel)) (fun _ _ _ _ _ => (pg_name (i := 3) sc_order_of.nd rfl (Or.inl rfl))) (fun _ _ _ _ _ => pts_nil) (fun _ _ _ _ _ => (pe_dget hu (pv 1) (pv 3) (fun _ _ => rfl)))) pa_nil))))), ?_⟩
    have hll := lvl_len xs
    have wk := wk_enum (K := K) (M := M) (σ := [some v1, none, none, none]) (H := H) (ea_cons (ev_lvl (w := w) (ev_var (i := 0) rfl h1) hx) ea_nil)
    rw [List.length_map] at wk
    have gd : ∀ i, i < (lvl xs).length → (lvl xs)[i]? = some ((lvl xs).getD i 0) := fun i hi => by
      rw [List.getD_eq_getElem?_getD, List.getElem?_eq_getElem hi]
      rfl
    refine q_asg0 (dc_new (K := K) (fun i => (lvl xs).getD i 0) (fun i => (i : Int)) tr wk (by omega) (fun i j hij hj => ?_) (fun M' H' i x g hi dx => ?_) fun D H1 kvs e1 t1 DM hD0 hD hv => ?_)
    · have h3 := List.pairwise_iff_getElem.mp (pw_lvl xs) i j (by omega) hj hij
      have a1 := gd i (by omega)
      have a2 := gd j hj
      rw [List.getElem?_eq_getElem (by omega)] at a1 a2
      have b1 := Option.some.inj a1
      have b2 := Option.some.inj a2
      show (lvl xs).getD i 0 ≠ (lvl xs).getD j 0
      omega
    · have ea : at0 ((lvl xs).map PyData.int) i = .int ((lvl xs).getD i 0) := by
        rw [at0_map hi]
        have a1 := gd i hi
        rw [List.getElem?_eq_getElem hi] at a1
        rw [Option.some.inj a1]
      rw [ea] at dx
      obtain ⟨va, vb, tk, da, db⟩ := tk_pair (i := 2) (j := 3) (σ0 := [some v1, none, none, none]) dx
      exact ⟨_, tk, rfl, ev_var rfl db, ev_var rfl da⟩
    · refine s_ret t1 (ev_tupOf (ev_lcA (enc := PyData.int) (xs := xs) (fun x => .int (rank xs x)) (wk_tupT (ev_var rfl (dm_same h1 tr e1))) (by omega) fun M' H' a x g ha dx => ⟨_, tk_name, rfl, ev_dget (k := a) (r := rank xs a) rfl (g.mn _ _ (by rw [mn_out DM]; exact hD)) ?_ (ev_var rfl dx)⟩) (.inl rfl)) fun v2 H2 e2 t2 d2 => ?_
      · have hm : a ∈ lvl xs := mem_lvl.mpr ha
        have hlt : (lvl xs).idxOf a < (lvl xs).length := List.idxOf_lt_length_of_mem hm
        have := hv _ hlt
        have a1 := gd _ hlt
        rw [List.getElem?_eq_getElem hlt, List.getElem_idxOf hlt] at a1
        rw [← Option.some.inj a1] at this
        exact this
      · refine k v2 H2 (e1.trans e2) ?_
        have e : dI (rks xs) = .tuple (xs.map fun x => .int (rank xs x)) := by
          unfold dI rks
          rw [List.map_map]
          rfl
        rw [e]
        exact d2
end
end Own

namespace Own
open PySem PySem.Spec PyProof.Rows L2 Gd Dq
section
variable {P : Program} {w : World} {K : PySem.W.Frag} {mg : Str → Option Value} {base : Heap} {A : Ads}
theorem G_left_of (T : Tp K mg A) : FnG P w K mg base 1 A.a_left_of A.d_left_of ["placing", "moments"] (spPure K 2 fun ds d => ∃ xs ms : List Int, List.length ms ≤ 1000 ∧ (∀ m ∈ ms, 0 ≤ m ∧ m < ((List.length xs : Nat) : Int)) ∧ ds = [dI xs, dI ms] ∧ d = dI (ms.map (ix xs))) := by
  refine fn_ofG T.F_left_of sc_left_of (fun vs H Q E h => spPure_len vs H Q E h) (fun cdv A outer s H vs Q E hg hr h => ?_)
  obtain ⟨M, ds, d, tr, hd, hl, ⟨xs, ms, hz, ok, rfl, rfl⟩, k⟩ := h
  cases hd with
  | @cons v1 _ _ _ h1 h2 =>
    cases h2 with
    | @cons v2 _ _ _ h2 h3 =>
      cases h3
      refine ⟨_, (pss_one (ps_ret (pe_callTy (call_tup_k (K := K) rfl) (by rfl) T.z_tuple (by decide +kernel) (pa_cons (pe_lc (own := [("moment", 2)]) (g := gName 2) (tt := tYes) rfl sc_left_of.nd (pi_tup_k (K := K) rfl (pv 1)) (blkOk_by (N := ["placing", "moments", "moment"]) (sc := defScope s_left_of) (by decide +kernel)) (fun _ _ _ _ _ => (pg_name (i := 2) sc_left_of.nd rfl (Or.inl rfl))) (fun _ _ _ _ _ => pts_nil) (fun _ _ _ _ _ => (pe_ix (ix_tup_k (K := K) rfl) (pv 0) (pv 2) (fun _ _ => rfl)))) pa_nil)))), ?_⟩
      exact s_ret (D := { nx := fun x H' => Q V.non H', rt := Q }) tr (Ev.is (ev_tupOf (ev_lcA (enc := PyData.int) (xs := ms) (fun m => .int (ix xs m)) (wk_tupT (ev_var rfl h2)) (by omega) fun M' H' m x g hm dx => ⟨_, tk_name, rfl, ev_ixT (ev_var rfl (dm_go h1 g)) (ev_var rfl dx) (at_ix (ok m hm))⟩) (.inl rfl)) (by unfold dI; rw [List.map_map]; rfl)) fun v4 H4 e4 t4 d4 => k v4 H4 e4 d4
theorem G_left_order (T : Tp K mg A) : FnG P w K mg base 2 A.a_left_order A.d_left_order ["order", "moments"] (spPure K 2 fun ds d => ∃ xs ms : List Int, List.length ms ≤ 60 ∧ (∀ m ∈ ms, 0 ≤ m ∧ m < ((List.length xs : Nat) : Int)) ∧ ds = [dI xs, dI ms] ∧ d = dI (rks (ms.map (ix xs)))) := by
  refine fn_ofG T.F_left_order sc_left_order (fun vs H Q E h => spPure_len vs H Q E h) (fun cdv A outer s H vs Q E hg hr h => ?_)
  obtain ⟨M, ds, d, tr, hd, hl, ⟨xs, ms, hz, ok, rfl, rfl⟩, k⟩ := h
  cases hd with
  | @cons v1 _ _ _ h1 h2 =>
    cases h2 with
    | @cons v2 _ _ _ h2 h3 =>
      cases h3
      refine ⟨_, (pss_one (ps_ret (pe_callG (FnG.mono (G_order_of T) (by decide)) hg hr (by rfl) T.g_order_of T.F_order_of.kp T.b_order_of .nil (pa_cons (pe_callG (FnG.mono (G_left_of T) (by decide)) hg hr (by rfl) T.g_left_of T.F_left_of.kp T.b_left_of .nil (pa_cons (pv 0) (pa_cons (pv 1) pa_nil))) pa_nil)))), ?_⟩
      exact s_ret (D := { nx := fun x H' => Q V.non H', rt := Q }) tr (ev_call (ea_cons (ev_call (ea_cons (ev_var rfl h1) (ea_cons (ev_var rfl h2) ea_nil)) rfl ⟨xs, ms, by omega, ok, rfl, rfl⟩) ea_nil) rfl ⟨_, by rw [List.length_map]; omega, rfl, rfl⟩) fun v4 H4 e4 t4 d4 => k v4 H4 e4 d4
def spSource (K : PySem.W.Frag) : Sp := fun vs H Q _ => ∃ (a : Addr) (ns : List Int), vs = [.ref a] ∧ SqL K H a (ns.map V.int) ∧ ns.length ≤ 63 ∧
  ∀ s c H', Same H H' → H s = none → H c = none → Src s c H' → Q (.ref s) H'
theorem G_lw_source (T : Tp K mg A) : FnG P w K mg base 1 A.a_lw_source A.d_lw_source ["script"] (spSource K) := by
  refine fn_ofG T.F_lw_source sc_lw_source (fun vs H Q E h => ?_) (fun cdv A outer s H vs Q E hg hr h => ?_)
  · obtain ⟨a, ns, rfl, _⟩ := h
    rfl
  · obtain ⟨a, ns, rfl, hS, hl, k⟩ := h
    have hu := hu_of hr
    have tr : Tr [] H := fun b hb => nomatch hb
    have hS0 : SqL K (mn [] H) a (ns.map V.int) := Same.seq (K := K) (fun b o e => by rw [mn_out (by simp)]; exact e) hS
    refine ⟨_, (pss_cons (ps_set (i := 1) sc_lw_source.nd rfl (Or.inl rfl) pe_int)
      (pss_cons (ps_for PassesOwn.never rfl (pi_list_k (K := K) rfl (pv 0)) (pg_name (i := 2) sc_lw_source.nd rfl (Or.inl rfl))
      (pss_one (ps_set (i := 1) sc_lw_source.nd rfl (Or.inl rfl) (pe_op op_mod (pe_callTy call_int1 (by rfl) T.z_int (by decide +kernel) (pa_cons (pe_op op_add (pe_op op_add (pe_op op_mul (pv 1) pe_int) (pe_op op_mul (pv 2) pe_int)) pe_int) pa_nil)) pe_int))))
      (pss_one (ps_ret (pe_disp (pps_cons pe_str (pe_revL_k (K := K) rfl (pe_lc (own := [("cell", 2)]) (g := gName 2) (tt := tYes) rfl sc_lw_source.nd (pi_list_k (K := K) rfl (pv 0)) (blkOk_by (N := ["script", "mixed", "cell"]) (sc := defScope s_lw_source) (by decide +kernel)) (fun _ _ _ _ _ => (pg_name (i := 2) sc_lw_source.nd rfl (Or.inl rfl))) (fun _ _ _ _ _ => pts_nil) (fun _ _ _ _ _ => (pe_callB call_abs (by rfl) T.z_abs (by decide +kernel) (pa_cons (pv 2) pa_nil))))) (pps_cons pe_str pe_int (pps_cons pe_str (pv 1) (pps_cons pe_str pe_int pps_nil)))) (by rfl) (by rfl) (fun z => by cases z) (by decide)))))), ?_⟩
    refine q_asg (K := K) tr ev_int fun v H1 e1 t1 d1 => ?_
    cases d1
    have hS1 : SqL K (mn [] H1) a (ns.map V.int) := Same.seq (K := K) ((Go.refl tr).same e1).mn hS0
    refine q_for (K := K) t1 (wk_sq hS1 (fun H1 Q q => ⟨_, rfl, q⟩)) (fun H2 i σ' H' => (∃ (m : Int) (c : Option V), σ' = [some (.ref a), some (.int m), c]) ∧ Same H2 H' ∧ Tr [] H')
      (fun H2 e2 t2 => ⟨⟨_, _, rfl⟩, Same.refl _, t2⟩) (fun H2 i σ' H' e2 p => (Go.refl (t1.same e2)).same p.2.1) ?_ ?_
    · rintro H2 i σ' H' x H4 e2 hi ⟨⟨m, c, rfl⟩, s2, t2⟩ e4 dx
      rw [at0_map hi] at dx
      cases dx
      have t4 := t2.same e4
      show tAsg _ _ _ _ _
      refine ev_I (K := K) (M := []) (H := H4) (C := fun _ j => 0 < j) (ev_int1 (ev_I0 (ev_I0 (ev_I (ev_var rfl (.int m)) ev_int (.inr ⟨by decide, by decide⟩)) (ev_I (ev_var rfl (.int _)) ev_int (.inr ⟨by decide, by decide⟩))) ev_int)) ev_int (by decide) [] H4 (Go.refl t4) _ fun v H5 e5 d5 => ?_
      cases d5
      exact ⟨⟨_, _, rfl⟩, (s2.trans e4).trans e5, t4.same e5⟩
    · rintro H2 σ' H' e2 ⟨⟨m, c, rfl⟩, s2, t2⟩
      intro p hp
      have eH := (e1.trans e2).trans s2
      have sp : Same H' (upd H' p (.dK [])) := same_new hp
      have go1 : Go [] H [p] (upd H' p (.dK [])) := ((Go.refl tr).same eH).trans (go_mut t2 hp)
      have hS2 : SqL K (mn [p] (upd H' p (.dK []))) a (ns.map V.int) := Same.seq (K := K) go1.mn hS0
      have t3 := go1.tr
      refine pairs_c ?_
      refine revL_new (K := K) (M := [p]) t3 (ev_lcA (enc := PyData.int) (xs := ns) (fun i => .int (if i < 0 then -i else i))
        (wk_sq hS2 (fun H1 Q q => ⟨_, rfl, q⟩)) (by omega) fun M' H' a x g _ dx => ⟨_, tk_name, rfl, ev_abs (ev_var rfl dx)⟩) fun c0 vs H5 e5 t5 hc0 hvs => ?_
      rw [← List.map_reverse] at hvs
      have hvs2 : vs = (ns.reverse.map fun i : Int => if i < 0 then -i else i).map V.int := by
        have e0 : (ns.reverse.map fun i : Int => PyData.int (if i < 0 then -i else i)) = (ns.reverse.map fun i : Int => if i < 0 then -i else i).map PyData.int := by
          rw [List.map_map]
          rfl
        rw [e0] at hvs
        exact das_ints hvs
      have h5p : H5 p = some (.dK []) := e5 _ _ upd_same
      have ne : p ≠ c0 := ne_of_none h5p hc0
      refine pairs_cc (pairs_cv rfl (pairs_cc (pairs_n ?_)))
      refine ⟨by rw [upd_ne ne]; exact h5p, srcK c0 1 m 0, rfl, by show 4 ≤ 15; decide, ?_⟩
      rw [src_merge]
      have s5 : Same H H5 := (eH.trans sp).trans e5
      refine k p c0 _ (fun b o e => ?_) (eH.free hp) (s5.free hc0) ⟨ne, _, _, _, _, upd_same, by rw [upd_ne ne.symm, upd_same, hvs2], by simp; exact hl⟩
      rw [upd_ne (ne_of_none e (eH.free hp)), upd_ne (ne_of_none e (s5.free hc0))]
      exact s5 _ _ e
abbrev mx (m : Int) : Int := if m > 1 then m else 1
def Rpick (ds : List PyData) (d : PyData) : Prop := ∃ m r : Int, ds = [.int m] ∧ d = .int r ∧ 0 ≤ r ∧ r < mx m
theorem mod_mx (a m : Int) : 0 ≤ a % mx m ∧ a % mx m < mx m := by
  have h : 0 < mx m := by
    unfold mx
    split <;> omega
  exact ⟨Int.emod_nonneg _ (by omega), Int.emod_lt_of_pos _ h⟩
theorem G_lw_pick (T : Tp K mg A) : FnG P w K mg base 1 A.a_lw_pick A.d_lw_pick ["source", "many"] (spDraw K 1 (fun ds => ∃ m : Int, ds = [.int m] ∧ m < 1000000000000000000000000000000) Rpick) := by
  refine fn_ofG T.F_lw_pick sc_lw_pick (fun vs H Q E h => spDraw_len vs H Q E h) (fun cdv A outer s0 H vs Q E hg hr h => ?_)
  obtain ⟨M, s, c, ws, ds, rfl, hsM, hcM, hS, tr, hd, hl, ⟨m, rfl, hm⟩, k⟩ := h
  cases hd with
  | cons h1 h2 =>
    cases h2
    cases h1
    have hu := hu_of hr
    have fin : ∀ r H', Kp s c H H' → Src s c H' → 0 ≤ r ∧ r < mx m → Q (.int r) H' := fun r H' kp sr hr => k (.int r) (.int r) H' kp sr (.int r) ⟨m, r, rfl, rfl, hr.1, hr.2⟩
    obtain ⟨cells0, l0, x0, t0, X0⟩ := hS.x
    refine ⟨_, (Evl.pss_cut (ps_while PassesOwn.never (PW.pt (pw_and (pt_cmpR op_gt (pv 1) pe_int (nomark _)) (pw_and (pt_cmpR op_lt (pe_dget hu (pv 0) pe_str (fun _ _ => rfl)) pe_int (nomark _)) (pw_and1 (pt_cmpR op_gt (pe_callB (call_len_k (K := K) rfl) (by rfl) T.z_len (by decide +kernel) (pa_cons (pe_dget hu (pv 0) pe_str (fun _ _ => rfl)) pa_nil)) pe_int (nomark _))))))
      (pss_one (ps_dput hu (pv 0) pe_str (pe_k (K := K) (f := fun K => tBM0 K "list" _ _) rfl (pe_bm0 PySem.F.plainAttrs_list PySem.F.slot_list_pop PySem.F.type_list_pop mt_pop (pe_dget hu (pv 0) pe_str (fun _ _ => rfl)))) rfl)))
      (pss_cons (ps_set (i := 2) sc_lw_pick.nd rfl (Or.inl rfl) (pe_dget hu (pv 0) pe_str (fun _ _ => rfl)))
      (pss_cons (ps_if (PW.pt (pw_or (pt_cmpR op_lt (pv 1) pe_int (nomark _)) (pw_or1 (pt_cmpR op_gt (pv 2) pe_int (nomark _)))))
      (pss_cons (ps_dput hu (pv 0) pe_str (pe_op op_fdivW (pv 2) (pe_callB (call_max2 rfl) (by rfl) T.z_max (by decide +kernel) (pa_cons pe_int (pa_cons (pv 1) pa_nil)))) rfl)
      (pss_one (ps_ret (pe_op op_mod (pe_callTy call_int1 (by rfl) T.z_int (by decide +kernel) (pa_cons (pv 2) pa_nil)) (pe_callB (call_max2 rfl) (by rfl) T.z_max (by decide +kernel) (pa_cons pe_int (pa_cons (pv 1) pa_nil)))))))
      pss_nil)
      (pss_cons (ps_dput hu (pv 0) pe_str (pe_op op_add (pe_dget hu (pv 0) pe_str (fun _ _ => rfl)) pe_int) rfl)
      (pss_cons (ps_set (i := 3) sc_lw_pick.nd rfl (Or.inl rfl) (pe_op op_mod (pe_callTy call_int1 (by rfl) T.z_int (by decide +kernel) (pa_cons (pe_op op_add (pe_dget hu (pv 0) pe_str (fun _ _ => rfl)) (pe_op op_mul (pe_dget hu (pv 0) pe_str (fun _ _ => rfl)) pe_int)) pa_nil)) pe_int))
      (pss_cons (ps_set (i := 3) sc_lw_pick.nd rfl (Or.inl rfl) (pe_op op_mod (pe_callTy call_int1 (by rfl) T.z_int (by decide +kernel) (pa_cons (pe_op op_add (pe_op op_mul (pv 3) (pv 3)) (pe_op op_mul (pe_dget hu (pv 0) pe_str (fun _ _ => rfl)) pe_int)) pa_nil)) pe_int))
      (pss_cons (ps_dput hu (pv 0) pe_str (pv 3) rfl)
      (pss_one (ps_ret (pe_op op_mod (pe_callTy call_int1 (by rfl) T.z_int (by decide +kernel) (pa_cons (pe_op op_fdivW (pv 3) pe_int) pa_nil)) (pv 1))))))))))), ?_⟩
    let st0 : S := [some (.ref s), some (.int m), none, none]
    refine ⟨fun σ' H' => ∃ cells l, σ' = st0 ∧ SrcX s c H' cells l x0 t0 ∧ Kp s c H H', ?_, ?_⟩
    · refine ⟨fun n σ' H' => ∃ cells l, σ' = st0 ∧ SrcX s c H' cells l x0 t0 ∧ Kp s c H H' ∧ cells.length = n, ⟨_, cells0, l0, rfl, X0, Kp.refl H, rfl⟩, ?_⟩
      rintro n σ' H1 ⟨cells, l, rfl, X1, k1, hn⟩
      refine ⟨.int m, rfl, m, 1, rfl, rfl, _, rfl, ?_⟩
      by_cases hm1 : 1 < m
      · rw [decide_eq_true hm1]
        refine iteT ?_
        refine ⟨.ref s, rfl, s, .int l, rfl, X1.gLeft, l, 2, rfl, rfl, _, rfl, ?_⟩
        by_cases hl2 : l < 2
        · rw [decide_eq_true hl2]
          refine iteT ?_
          refine ⟨.ref s, rfl, s, .ref c, rfl, X1.gCells, c, _, rfl, .inl (SqL.of X1.cs), _, 0, rfl, rfl, _, rfl, ?_⟩
          cases cells with
          | nil =>
            refine iteF ?_
            exact ⟨[], l, rfl, X1, k1⟩
          | cons x xs =>
            rw [decide_eq_true (show (0 : Int) < ((List.map V.int (x :: xs)).length : Int) by rw [List.length_map, List.length_cons]; omega)]
            refine iteT ?_
            refine ⟨fun σ' H' => ∃ cells' l', σ' = st0 ∧ SrcX s c H' cells' l' x0 t0 ∧ Kp s c H H' ∧ cells'.length < n, fun σ' H' ⟨cells', l', e, X', kk, hc⟩ => ⟨_, hc, cells', l', e, X', kk, rfl⟩, ?_⟩
            -- the last cell
            have hlast : ((x :: xs).map V.int)[((x :: xs).map V.int).length - 1]? = some (.int ((x :: xs).getLast (List.cons_ne_nil x xs))) := by
              rw [List.length_map, List.getElem?_map, ← List.getLast?_eq_getElem?, List.getLast?_eq_getLast (List.cons_ne_nil x xs)]
              rfl
            have X2 := X1.drop
            obtain ⟨H3, dp, X3, k3⟩ := X2.pLeft ((x :: xs).getLast (List.cons_ne_nil x xs))
            refine ⟨.ref s, rfl, s, .ref c, rfl, X1.gCells, .inl ⟨rfl, _, SqL.of X1.cs⟩, c, _, _, rfl, rfl, X1.cs, hlast, ?_⟩
            refine ⟨.ref s, rfl, s, H3, rfl, dp, ?_⟩
            refine ⟨_, _, rfl, X3, (k1.trans (Kp.set s c H1 _)).trans k3, ?_⟩
            rw [List.length_dropLast, List.length_cons]
            rw [List.length_cons] at hn
            omega
        · rw [decide_eq_false hl2]
          refine iteF ?_
          refine iteF ?_
          exact ⟨cells, l, rfl, X1, k1⟩
      · rw [decide_eq_false hm1]
        refine iteF ?_
        refine iteF ?_
        exact ⟨cells, l, rfl, X1, k1⟩
    · rintro σ' H1 ⟨cells, l, rfl, X1, k1⟩
      have hmx0 : 0 < mx m ∧ mx m < 1000000000000000000000000000000 := by
        unfold mx
        split <;> omega
      have hmx : CDivW l (mx m) := wide_div (b := 100) hmx0.1 (by omega) (by decide) (by decide)
      refine ⟨.ref s, rfl, s, .int l, rfl, X1.gLeft, ?_⟩
      have out : ∀ H1, SrcX s c H1 cells l x0 t0 → Kp s c H H1 → (m < 2 ∨ 1 < l) → ∃ H3, DPut H1 s (.str "left") (.int (l / mx m)) H3 ∧ Q (.int (l % mx m)) H3 := fun H1 X1 k1 _ => by
        obtain ⟨H3, dp, X3, k3⟩ := X1.pLeft (l / mx m)
        exact ⟨H3, dp, fin _ H3 (k1.trans k3) X3.src (mod_mx l m)⟩
      have go1 : ∀ (h : m < 2 ∨ 1 < l), ∃ H3, DPut H1 s (.str "left") (.int (l / mx m)) H3 ∧ Q (.int (l % mx m)) H3 := out H1 X1 k1
      refine ⟨.int m, rfl, m, 2, rfl, rfl, _, rfl, ?_⟩
      by_cases hm2 : m < 2
      · rw [decide_eq_true hm2]
        refine iteT (iteT ?_)
        obtain ⟨H3, dp, q⟩ := go1 (.inl hm2)
        exact ⟨.int l, rfl, .int m, rfl, 1, m, rfl, l, _, rfl, rfl, hmx, .ref s, rfl, s, H3, rfl, dp, .int l, rfl, .inl ⟨l, rfl, .int m, rfl, 1, m, rfl, l, _, rfl, rfl, hmx0.1, q⟩⟩
      · rw [decide_eq_false hm2]
        refine iteF ?_
        refine ⟨.int l, rfl, l, 1, rfl, rfl, _, rfl, ?_⟩
        by_cases hl1 : 1 < l
        · rw [decide_eq_true hl1]
          refine iteT ?_
          obtain ⟨H3, dp, q⟩ := go1 (.inr hl1)
          exact ⟨.int l, rfl, .int m, rfl, 1, m, rfl, l, _, rfl, rfl, hmx, .ref s, rfl, s, H3, rfl, dp, .int l, rfl, .inl ⟨l, rfl, .int m, rfl, 1, m, rfl, l, _, rfl, rfl, hmx0.1, q⟩⟩
        · rw [decide_eq_false hl1]
          refine iteF ?_
          obtain ⟨H3, dp3, X3, k3⟩ := X1.pTurn (t0 + 1)
          refine ⟨.ref s, rfl, s, .int t0, rfl, X1.gTurn, t0, 1, rfl, rfl, .ref s, rfl, s, H3, rfl, dp3, ?_⟩
          have hy : ∀ a : Int, -(2 ^ 64) < a % 998244353 ∧ a % 998244353 < 2 ^ 64 := fun a => by omega
          refine ⟨.ref s, rfl, s, .int x0, rfl, X3.gMixed, .ref s, rfl, s, .int (t0 + 1), rfl, X3.gTurn, t0 + 1, 104729, rfl, rfl, .inr ⟨by decide, by decide⟩, x0, _, rfl, rfl, .inl ⟨_, rfl, _, 998244353, rfl, rfl, by show (0 : Int) < 998244353; decide, ?_⟩⟩
          refine ⟨_, rfl, _, rfl, _, _, rfl, rfl, .inl (hy _), .ref s, rfl, s, .int (t0 + 1), rfl, X3.gTurn, t0 + 1, 17, rfl, rfl, .inr ⟨by decide, by decide⟩, _, _, rfl, rfl, .inl ⟨_, rfl, _, 2147483647, rfl, rfl, by show (0 : Int) < 2147483647; decide, ?_⟩⟩
          obtain ⟨H4, dp4, X4, k4⟩ := X3.pMixed ((((x0 + (t0 + 1) * 104729) % 998244353) * ((x0 + (t0 + 1) * 104729) % 998244353) + (t0 + 1) * 17) % 2147483647)
          refine ⟨_, rfl, .ref s, rfl, s, H4, rfl, dp4, ?_⟩
          have hmm : mx m = m := by
            unfold mx
            rw [if_pos (by omega)]
          refine ⟨_, rfl, _, 16, rfl, rfl, wide_div (b := 5) (by decide) (by decide) (by decide) (by decide), .inl ⟨_, rfl, .int m, rfl, _, m, rfl, rfl, by omega, ?_⟩⟩
          have hb := mod_mx ((((((x0 + (t0 + 1) * 104729) % 998244353) * ((x0 + (t0 + 1) * 104729) % 998244353) + (t0 + 1) * 17) % 2147483647)) / 16) m
          have q := fin _ H4 ((k1.trans k3).trans k4) X4.src hb
          rw [hmm] at q
          exact q
theorem mx_le {m : Int} (h : 1 ≤ m) : mx m = m := by
  unfold mx
  split <;> omega
def Rof (ds : List PyData) (d : PyData) : Prop := ∃ es, ds = [.list es] ∧ d ∈ es
theorem G_lw_of (T : Tp K mg A) : FnG P w K mg base 2 A.a_lw_of A.d_lw_of ["source", "some"] (spDraw K 1 (fun ds => ∃ es, ds = [.list es] ∧ 1 ≤ es.length ∧ es.length ≤ 1000) Rof) := by
  refine fn_ofG T.F_lw_of sc_lw_of (fun vs H Q E h => spDraw_len vs H Q E h) (fun cdv A outer s0 H vs Q E hg hr h => ?_)
  obtain ⟨M, s, c, ws, ds, rfl, hsM, hcM, hS, tr, hd, hl, ⟨es, rfl, h1, h2⟩, k⟩ := h
  cases hd with
  | @cons v1 _ _ _ g1 g2 =>
    cases g2
    refine ⟨_, (pss_one (ps_ret (pe_ix (ix_list_k (K := K) rfl) (pv 1) (pe_callG (FnG.mono (G_lw_pick T) (by decide)) hg hr (by rfl) T.g_lw_pick T.F_lw_pick.kp T.b_lw_pick .nil (pa_cons (pv 0) (pa_cons (pe_callB (call_len_k (K := K) rfl) (by rfl) T.z_len (by decide +kernel) (pa_cons (pv 1) pa_nil)) pa_nil))) (fun _ _ => rfl)))), ?_⟩
    refine dr_use (K := K) (P := fun d => d ∈ es) hsM hcM tr hS (dr_opl (P1 := fun d => d = .list es) hsM hcM (dr_ev (ev_var rfl g1) rfl) fun M1 H1 x d go1 S1 dx hd => ?_) fun v d H' k2 S2 go2 dv hd => k v d H' k2 S2 dv ⟨es, rfl, hd⟩
    subst hd
    refine dr_opr (go1.sub s hsM) (go1.sub c hcM) (dr_call (n := 1) (i := 0) (go1.sub s hsM) (go1.sub c hcM) rfl (ea_cons (ev_len (d := .list es) (ev_var rfl (dm_go g1 go1)) (.inl rfl)) ea_nil) rfl ⟨_, rfl, by omega⟩) fun M2 H2 y e go2 S2 dy hy => ?_
    obtain ⟨m, r, e1, rfl, h3, h4⟩ := hy
    cases e1
    rw [mx_le (by omega)] at h4
    obtain ⟨j, rfl⟩ : ∃ j : Nat, r = (j : Int) := ⟨r.toNat, by omega⟩
    have hj : j < es.length := by omega
    exact dr_ev (d := es[j]) (ev_ixL (ds := es) (ev_val (dm_go dx go2)) (ev_val dy) (atI_nat (by simp [hj]))) (List.getElem_mem hj)
def Rmixed (ds : List PyData) (d : PyData) : Prop := ∃ es fs, ds = [.list es] ∧ d = .list fs ∧ fs.Perm es
theorem seqIx {r : Int} {n : Nat} (h0 : 0 ≤ r) (h : r < n) : seqIndex? r n = some r.toNat := by
  unfold seqIndex?
  first
    | (simp; omega)
    | (split <;> first | rfl | omega)
theorem G_lw_mixed (T : Tp K mg A) : FnG P w K mg base 2 A.a_lw_mixed A.d_lw_mixed ["source", "things"] (spDraw K 1 (fun ds => ∃ es, ds = [.list es] ∧ es.length ≤ 1000) Rmixed) := by
  refine fn_ofG T.F_lw_mixed sc_lw_mixed (fun vs H Q E h => spDraw_len vs H Q E h) (fun cdv A outer s0 H vs Q E hg hr h => ?_)
  obtain ⟨M, s, c, ws, ds, rfl, hsM, hcM, hS, tr, hd, hl, ⟨es, rfl, h2⟩, k⟩ := h
  cases hd with
  | @cons v1 _ _ _ g1 g2 =>
    cases g2
    refine ⟨_, (pss_cons (ps_set (i := 2) sc_lw_mixed.nd rfl (Or.inr rfl) (pe_callTy (call_list_k (K := K) rfl) (by rfl) T.z_list (by decide +kernel) (pa_cons (pv 1) pa_nil)))
      (pss_one (ps_ret (pe_lc (own := [("lap", 3)]) (g := gName 3) (tt := tYes) rfl sc_lw_mixed.nd (pi_range1 (by rfl) T.z_range (pa_cons (pe_callB (call_len_k (K := K) rfl) (by rfl) T.z_len (by decide +kernel) (pa_cons (pv 2) pa_nil)) pa_nil)) (blkOk_by (N := ["source", "things", "rest", "lap"]) (sc := defScope s_lw_mixed) (by decide +kernel)) (fun _ _ _ _ _ => (pg_name (i := 3) sc_lw_mixed.nd rfl (Or.inl rfl))) (fun _ _ _ _ _ => pts_nil) (fun _ _ _ _ _ => (pe_k (K := K) (f := fun K => tBM K "list" _ _ _) rfl (pe_bm PySem.F.plainAttrs_list PySem.F.slot_list_pop PySem.F.type_list_pop mt_popAt (pv 2) (pa_cons (pe_callG (FnG.mono (G_lw_pick T) (by decide)) hg hr (by rfl) T.g_lw_pick T.F_lw_pick.kp T.b_lw_pick .nil (pa_cons (pv 0) (pa_cons (pe_callB (call_len_k (K := K) rfl) (by rfl) T.z_len (by decide +kernel) (pa_cons (pv 2) pa_nil)) pa_nil))) pa_nil)))))))), ?_⟩
    refine q_asg0 (listOf_new (K := K) tr (ev_var rfl g1) (.inl rfl) fun r vs H1 e1 t1 hrn dvs => ?_)
    have go1 : Go M H (r :: M) (upd H1 r (.lst vs)) := ((Go.refl tr).same e1).trans (go_mut t1 hrn)
    have hlen := dvs.length
    refine ⟨.ref r, rfl, r, vs, rfl, .inl (SqL.of upd_same), (vs.length : Int), rfl, by omega, by omega, fun D hD => ?_⟩
    have hDr : D ≠ r := fun z => by rw [z, upd_same] at hD; cases hD
    have hDs : D ≠ s := fun z => by
      have := go1.tr s (go1.sub s hsM)
      rw [z] at hD
      exact this hD
    have hDc : D ≠ c := fun z => by
      have := go1.tr c (go1.sub c hcM)
      rw [z] at hD
      exact this hD
    have go2 : Go M H (D :: r :: M) (upd (upd H1 r (.lst vs)) D (.lst [])) := go1.trans (go_mut go1.tr hD)
    have hrs : r ≠ s := fun z => by
      have := (hS.same e1).nn.1
      rw [z] at hrn
      exact this hrn
    have hrc : r ≠ c := fun z => by
      have := (hS.same e1).nn.2
      rw [z] at hrn
      exact this hrn
    have hnM : D ∉ M := fun z => (go1.tr D (go1.sub D z)) hD
    have hrM : r ∉ M := fun z => t1 r z hrn
    have S2 : Src s c (upd (upd H1 r (.lst vs)) D (.lst [])) := (hS.same e1).same ((same_new hrn).trans (same_new hD))
    refine lc_range (lo := 0) (n := ((vs.length : Int)).toNat) (fun i H' => Src s c H' ∧ Go M H (D :: r :: M) H' ∧ Kp s c H H' ∧ ∃ acc rem d1 d2, H' D = some (.lst acc) ∧ H' r = some (.lst rem) ∧ Dms K (D :: r :: M) H' acc d1 ∧ Dms K (D :: r :: M) H' rem d2 ∧ (d1 ++ d2).Perm es ∧ d1.length = i ∧ d1.length + d2.length = es.length)
      ⟨S2, go2, fun b o hb1 hb2 e => ?_, [], vs, [], es, upd_same, ?_, .nil, dms_go dvs ((go_mut t1 hrn).trans (go_mut go1.tr hD)), List.Perm.refl _, rfl, by simp⟩ (fun i H' hi p => ?_) (fun H' p => ?_)
    · exact (e1.trans ((same_new hrn).trans (same_new hD))) _ _ e
    · rw [upd_ne (Ne.symm hDr), upd_same]
    · obtain ⟨S3, go3, kp3, acc, rem, d1, d2, hd1, hd2, dd1, dd2, hp, hi1, hi2⟩ := p
      refine ⟨rfl, ?_⟩
      dsimp only [tYes]
      refine iteT ?_
      refine ⟨.ref r, rfl, .inl ⟨rfl, _, SqL.of hd2⟩, ?_⟩
      have hrl := dd2.length
      have hil : i < es.length := by rw [← hlen]; omega
      refine ⟨.ref s, rfl, .ref r, rfl, r, rem, rfl, .inl (SqL.of hd2), ?_⟩
      refine ⟨D :: r :: M, s, c, [.int rem.length], [.int rem.length], rfl, go3.sub s hsM, go3.sub c hcM, S3, go3.tr, .cons (.int _) .nil, rfl, ⟨_, rfl, by omega⟩, ?_⟩
      rintro v d H4 k4 S4 dv ⟨m, x, e0, rfl, hx0, hx1⟩
      cases e0
      cases dv
      rw [mx_le (by omega)] at hx1
      have go4 : Go (D :: r :: M) H' (D :: r :: M) H4 := go_kp (go3.sub s hsM) (go3.sub c hcM) go3.tr k4 S4
      have h4r : H4 r = some (.lst rem) := k4 _ _ hrs hrc hd2
      have h4D : H4 D = some (.lst acc) := k4 _ _ hDs hDc hd1
      have hxr : x.toNat < rem.length := by omega
      have go5 := go_set (o := .lst (rem.eraseIdx x.toNat)) go4.tr (List.mem_cons_of_mem D (List.mem_cons_self (a := r) (l := M)))
      refine ⟨r, rem, x, x.toNat, rem[x.toNat], rfl, rfl, h4r, by omega, by omega, seqIx hx0 hx1, List.getElem?_eq_getElem hxr, acc, ?_, ?_, ?_⟩
      · rw [upd_ne hDr]; exact h4D
      · have := dd1.length
        rw [sizeLine_eq]
        omega
      · have go6 := go_set (o := .lst (acc ++ [rem[x.toNat]])) go5.tr (List.mem_cons_self (a := D) (l := r :: M))
        have g46 := (go4.trans go5).trans go6
        have hxd : x.toNat < d2.length := by omega
        refine ⟨?_, go3.trans g46, ?_, acc ++ [rem[x.toNat]], rem.eraseIdx x.toNat, d1 ++ [d2[x.toNat]], d2.eraseIdx x.toNat, upd_same, ?_, ?_, ?_, ?_, ?_, ?_⟩
        · obtain ⟨h0, cl, l, mm, tt, q1, q2, q3⟩ := S4
          exact ⟨h0, cl, l, mm, tt, by rw [upd_ne (Ne.symm hDs), upd_ne (Ne.symm hrs)]; exact q1, by rw [upd_ne (Ne.symm hDc), upd_ne (Ne.symm hrc)]; exact q2, q3⟩
        · intro b o hb1 hb2 e
          have hbD : b ≠ D := fun z => by
            have q := (e1.trans (same_new (o := .lst vs) hrn)) b o e
            rw [z, hD] at q
            cases q
          have hbr : b ≠ r := ne_of_none (e1 _ _ e) hrn
          rw [upd_ne hbD, upd_ne hbr]
          exact k4 _ _ hb1 hb2 (kp3 _ _ hb1 hb2 e)
        · rw [upd_ne (Ne.symm hDr), upd_same]
        · obtain ⟨d, q1, q2⟩ := dd2.getV (List.getElem?_eq_getElem hxr)
          rw [List.getElem?_eq_getElem hxd] at q1
          cases q1
          exact (dms_go dd1 g46).append (.cons (dm_go q2 g46) .nil)
        · have q : Dms K (D :: r :: M) _ rem d2 := dms_go dd2 g46
          have e1 : rem.eraseIdx x.toNat = rem.take x.toNat ++ rem.drop (x.toNat + 1) := List.eraseIdx_eq_take_drop_succ ..
          have e2 : d2.eraseIdx x.toNat = d2.take x.toNat ++ d2.drop (x.toNat + 1) := List.eraseIdx_eq_take_drop_succ ..
          have q2 := (q.take x.toNat).append (q.drop (x.toNat + 1))
          rw [← e1, ← e2] at q2
          exact q2
        · refine List.Perm.trans ?_ hp
          have e2 : d2.eraseIdx x.toNat = d2.take x.toNat ++ d2.drop (x.toNat + 1) := List.eraseIdx_eq_take_drop_succ ..
          have e3 : d2 = d2.take x.toNat ++ d2[x.toNat] :: d2.drop (x.toNat + 1) := by
            rw [List.getElem_cons_drop, List.take_append_drop]
          rw [List.append_assoc, e2]
          refine List.Perm.append_left d1 ?_
          have e4 : ([d2[x.toNat]] ++ (d2.take x.toNat ++ d2.drop (x.toNat + 1))).Perm (d2.take x.toNat ++ d2[x.toNat] :: d2.drop (x.toNat + 1)) := by
            rw [List.singleton_append]
            exact List.perm_middle.symm
          rw [← e3] at e4
          exact e4
        · rw [List.length_append, hi1]
          rfl
        · rw [List.length_append, List.length_eraseIdx, if_pos hxd]
          show d1.length + 1 + (d2.length - 1) = es.length
          omega
    · obtain ⟨S3, go3, kp3, acc, rem, d1, d2, hd1, hd2, dd1, dd2, hp, hi1, hi2⟩ := p
      have hz : d2 = [] := List.eq_nil_of_length_eq_zero (by omega)
      subst hz
      rw [List.append_nil] at hp
      refine k (.ref D) (.list d1) H' kp3 S3 (.lst (xs := acc) ?_ ?_) ⟨es, d1, rfl, rfl, hp⟩
      · rw [mn_out hnM]
        exact hd1
      · refine Das.same (fun b o hb => ?_) _ _ dd1
        obtain ⟨q1, q2⟩ := mn_some hb
        rw [mn_out (fun z => q1 (List.mem_cons_of_mem _ (List.mem_cons_of_mem _ z)))]
        exact q2
theorem ints_of {p : Int → Prop} : ∀ {ds : List PyData}, (∀ (i : Nat) (e : PyData), ds[i]? = some e → ∃ x : Int, e = PyData.int x ∧ p x) → ∃ xs : List Int, ds = xs.map PyData.int ∧ ∀ x ∈ xs, p x
  | [], _ => ⟨[], rfl, fun _ h => nomatch h⟩
  | d :: ds, h => by
    obtain ⟨x, rfl, hx⟩ := h 0 d rfl
    obtain ⟨xs, rfl, hxs⟩ := ints_of (ds := ds) fun i e he => h (i + 1) e he
    exact ⟨x :: xs, rfl, fun y hy => by
      rcases List.mem_cons.mp hy with rfl | hy
      · exact hx
      · exact hxs y hy⟩
def Rplacing (ds : List PyData) (d : PyData) : Prop := ∃ (n : Int) (xs : List Int), ds = [.int n] ∧ d = dI xs ∧ (xs.length : Int) = n ∧ ∀ x ∈ xs, -100000000 ≤ x ∧ x ≤ 100000000
theorem G_lw_draw_placing (T : Tp K mg A) : FnG P w K mg base 3 A.a_lw_draw_placing A.d_lw_draw_placing ["source", "n"] (spDraw K 1 (fun ds => ∃ n : Int, ds = [.int n] ∧ 0 ≤ n ∧ n ≤ 100) Rplacing) := by
  refine fn_ofG T.F_lw_draw_placing sc_lw_draw_placing (fun vs H Q E h => spDraw_len vs H Q E h) (fun cdv A outer s0 H vs Q E hg hr h => ?_)
  obtain ⟨M, s, c, ws, ds, rfl, hsM, hcM, hS, tr, hd, hl, ⟨n, rfl, h1, h2⟩, k⟩ := h
  cases hd with
  | @cons v1 _ _ _ g1 g2 =>
    cases g2
    refine ⟨_, (pss_cons (ps_set (i := 2) sc_lw_draw_placing.nd rfl (Or.inr rfl) (pe_callG (FnG.mono (G_lw_of T) (by decide)) hg hr (by rfl) T.g_lw_of T.F_lw_of.kp T.b_lw_of .nil (pa_cons (pv 0) (pa_cons (pe_lst (pa_cons pe_int (pa_cons pe_int (pa_cons (pe_op op_add (pv 1) pe_int) (pa_cons (pe_op op_pow pe_int pe_int) pa_nil))))) pa_nil))))
      (pss_one (ps_ret (pe_callTy (call_tup_k (K := K) rfl) (by rfl) T.z_tuple (by decide +kernel) (pa_cons (pe_lc (own := [("moment", 3)]) (g := gName 3) (tt := tYes) rfl sc_lw_draw_placing.nd (pi_range1 (by rfl) T.z_range (pa_cons (pv 1) pa_nil)) (blkOk_by (N := ["source", "n", "most", "moment"]) (sc := defScope s_lw_draw_placing) (by decide +kernel)) (fun _ _ _ _ _ => (pg_name (i := 3) sc_lw_draw_placing.nd rfl (Or.inl rfl))) (fun _ _ _ _ _ => pts_nil) (fun _ _ _ _ _ => (pe_op op_sub (pe_callG (FnG.mono (G_lw_pick T) (by decide)) hg hr (by rfl) T.g_lw_pick T.F_lw_pick.kp T.b_lw_pick .nil (pa_cons (pv 0) (pa_cons (pv 2) pa_nil))) (pe_op op_fdiv (pv 2) pe_int)))) pa_nil))))), ?_⟩
    refine d_asg (K := K) (P := fun d => ∃ mo : Int, d = .int mo ∧ 0 ≤ mo ∧ mo ≤ 100000000) hsM hcM tr hS (Dr.imp (dr_call (n := 1) (i := 0) hsM hcM rfl (ea_cons (ev_lst (ea_cons ev_int (ea_cons ev_int (ea_cons (ev_I0 (ev_var rfl g1) ev_int) (ea_cons (ev_I ev_int ev_int ⟨by decide, by decide, by decide⟩) ea_nil)))) (sz 4)) ea_nil) rfl ⟨_, rfl, by show 1 ≤ 4; decide, by show 4 ≤ 1000; decide⟩) fun d hd => ?_) fun v d H1 k1 S1 go1 dv hd => ?_
    · obtain ⟨es, e0, hm⟩ := hd
      cases e0
      simp only [List.mem_cons, List.not_mem_nil, or_false] at hm
      rcases hm with rfl | rfl | rfl | rfl
      · exact ⟨2, rfl, by decide, by decide⟩
      · exact ⟨3, rfl, by decide, by decide⟩
      · exact ⟨n + 1, rfl, by omega, by omega⟩
      · exact ⟨10 ^ 8, rfl, by decide, by decide⟩
    · obtain ⟨mo, rfl, hm0, hm1⟩ := hd
      cases dv
      have wk := wk_rng1 (K := K) (M := M) (H := H1) (σ := [some (.ref s), some v1, some (.int mo), none]) (as := tCons (tVar 1) tNil) (ea_cons (ev_var rfl (dm_go g1 go1)) ea_nil) (by omega) (by omega)
      refine d_ret (K := K) hsM hcM go1.tr S1 (dr_cb (P := fun d => ∃ xs : List Int, d = dI xs ∧ (xs.length : Int) = n ∧ ∀ x ∈ xs, -100000000 ≤ x ∧ x ≤ 100000000) hsM hcM (dr_lc (fun _ e => ∃ x : Int, e = .int x ∧ -100000000 ≤ x ∧ x ≤ 100000000) hsM hcM wk (by omega) fun M' H' i x g hi dx => ⟨_, tk_name, rfl, ?_⟩) fun M' H' x d g S' dx hd => ?_) fun v d H2 k2 S2 go2 dv hd => ?_
      · refine dr_opl (g.sub s hsM) (g.sub c hcM) (dr_call (n := 1) (i := 0) (g.sub s hsM) (g.sub c hcM) rfl (ea_cons (ev_var rfl (.int mo)) ea_nil) rfl ⟨mo, rfl, by omega⟩) fun M2 H2 y e g2 S2 dy hy => ?_
        obtain ⟨m, r, e0, rfl, hr0, hr1⟩ := hy
        cases e0
        refine dr_ev (ev_I0 (ev_val dy) (ev_I (ev_var rfl (.int mo)) ev_int ⟨by decide, by decide⟩)) ⟨_, rfl, ?_, ?_⟩
        · omega
        · have hx : mx mo ≤ 100000000 := by
            unfold mx
            split <;> omega
          omega
      · obtain ⟨es, rfl, hel, hes⟩ := hd
        obtain ⟨xs, rfl, hxs⟩ := ints_of hes
        rw [List.length_map] at hel
        exact dr_ev (ev_tupOf (ev_val dx) (.inl rfl)) ⟨xs, rfl, by omega, hxs⟩
      · obtain ⟨xs, rfl, hxl, hxs⟩ := hd
        exact k v (dI xs) H2 (k1.trans k2) S2 dv ⟨n, xs, rfl, rfl, hxl, hxs⟩
theorem rg_mem {n : Int} {d : PyData} (h : d ∈ rgD n) : ∃ x : Int, d = .int x ∧ 0 ≤ x ∧ x < n := by
  unfold rgD at h
  obtain ⟨i, hi, rfl⟩ := List.mem_map.mp h
  have := List.mem_range.mp hi
  exact ⟨(i : Nat), rfl, by omega, by omega⟩
theorem G_lw_order_of (T : Tp K mg A) : FnG P w K mg base 1 A.a_lw_order_of A.d_lw_order_of ["placing"] (spPure K 1 fun ds d => ∃ xs, List.length xs ≤ 60 ∧ ds = [dI xs] ∧ d = dI (rks xs)) := by
  refine fn_ofG T.F_lw_order_of sc_lw_order_of (fun vs H Q E h => spPure_len vs H Q E h) (fun cdv A outer s H vs Q E hg hr h => ?_)
  obtain ⟨M, ds, d, tr, hd, hl, ⟨xs, hx, rfl, rfl⟩, k⟩ := h
  cases hd with
  | @cons v1 _ _ _ h1 h2 =>
    cases h2
    refine ⟨_, (pss_cons (ps_set (i := 1) sc_lw_order_of.nd rfl (Or.inr rfl) (pe_callB (cr_sortedSet_k (w := w) rfl rfl) (by rfl) T.z_sorted (by decide +kernel) (pa_cons (pe_callTy (cr_setI (K := K) (w := w) rfl rfl rfl) (by rfl) T.z_set (by decide +kernel) (pa_cons (pv 0) pa_nil)) pa_nil)))
      (pss_one (ps_ret (pe_callTy (call_tup_k (K := K) rfl) (by rfl) T.z_tuple (by decide +kernel) (pa_cons (pe_lc (own := [("one", 2)]) (g := gName 2) (tt := tYes) rfl sc_lw_order_of.nd (pi_tup_k (K := K) rfl (pv 0)) (blkOk_by (N := ["placing", "levels", "one"]) (sc := defScope s_lw_order_of) (by decide +kernel)) (fun _ _ _ _ _ => (pg_name (i := 2) sc_lw_order_of.nd rfl (Or.inl rfl))) (fun _ _ _ _ _ => pts_nil) (fun _ _ _ _ _ => (pe_k (K := K) (f := fun K => tBM K "list" _ _ _) rfl (pe_bm PySem.F.plainAttrs_list PySem.F.slot_list_index PySem.F.type_list_index (mt_index_k (K := K) rfl) (pv 1) (pa_cons (pv 2) pa_nil))))) pa_nil))))), ?_⟩
    refine q_asg (K := K) tr (ev_lvl (ev_var rfl h1) hx) fun v H1 e1 t1 d1 => ?_
    refine s_ret t1 (ev_tupOf (ev_lcA (enc := PyData.int) (xs := xs) (fun x => .int (rank xs x)) (wk_tupT (ev_var rfl (dm_same h1 tr e1))) (by omega) fun M' H' a x g ha dx => ⟨_, tk_name, rfl, ev_index rfl (dm_go d1 g) (ev_var rfl dx) (mem_lvl.mpr ha)⟩) (.inl rfl)) fun v2 H2 e2 t2 d2 => ?_
    refine k v2 H2 (e1.trans e2) ?_
    have e : dI (rks xs) = .tuple (xs.map fun x => .int (rank xs x)) := by
      unfold dI rks
      rw [List.map_map]
      rfl
    rw [e]
    exact d2
end
end Own

namespace Own
open PySem PySem.Spec PyProof.Rows L2 Gd Dq
section
variable {P : Program} {w : World} {K : PySem.W.Frag} {mg : Str → Option Value} {base : Heap} {A : Ads}
theorem sz_dI (r : List Int) : (r.map PyData.int).length = r.length := List.length_map ..
theorem G_spreads (T : Tp K mg A) : FnG P w K mg base 1 A.a_spreads A.d_spreads ["order"] (spNew K 1 fun ds d => ∃ r : List Int, r.length ≤ 60 ∧ (∀ x ∈ r, 0 ≤ x ∧ x ≤ 60) ∧ ds = [dI r] ∧ d = .list ((srtL (wid r)).map dI)) := by
  refine fn_ofG T.F_spreads sc_spreads (fun vs H Q E h => spNew_len vs H Q E h) (fun cdv A outer s H vs Q E hg hr h => ?_)
  obtain ⟨M, ds, d, tr, hd, hl, ⟨r, hz, hb, rfl, rfl⟩, k⟩ := h
  cases hd with
  | @cons v1 _ _ _ h1 h2 =>
    cases h2
    refine ⟨_, (pss_cons (ps_set (i := 1) sc_spreads.nd rfl (Or.inl rfl) (pe_op op_add (pe_callBK (cr_maxDT (K := K) rfl rfl hr.units65) (by rfl) T.z_max (by decide +kernel) (pa_cons (pv 0) pa_nil) (pk_cons (pe_un un_neg pe_int) pk_nil)) pe_int))
      (pss_cons (ps_setLc (i := 3) (own := [("k", 2)]) (g := gName 2) (tt := tYes) rfl sc_spreads.nd rfl rfl (sw_true rfl rfl rfl (by decide +kernel)) (pi_range1 (by rfl) T.z_range (pa_cons (pv 1) pa_nil)) (blkOk_by (N := ["order", "classes", "k", "rows", "moved", "number"]) (sc := defScope s_spreads) (by decide +kernel)) (fun _ _ _ _ _ => (pg_name (i := 2) sc_spreads.nd rfl (Or.inl rfl))) (fun _ _ _ _ _ => pts_nil) (fun _ _ _ _ _ => (pe_tup (pa_star_k (K := K) rfl (pv 0) (pa_cons (pv 2) pa_nil)))))
      (pss_cons (ps_for PassesOwn.never rfl (pi_range1 (by rfl) T.z_range (pa_cons (pe_op op_add (pv 1) pe_int) pa_nil)) (pg_name (i := 2) sc_spreads.nd rfl (Or.inr rfl))
      (pss_cons (ps_setLc (i := 4) (own := [("number", 5)]) (g := gName 5) (tt := tYes) rfl sc_spreads.nd rfl rfl (sw_true rfl rfl rfl (by decide +kernel)) (pi_tup_k (K := K) rfl (pv 0)) (blkOk_by (N := ["order", "classes", "k", "rows", "moved", "number"]) (sc := defScope s_spreads) (by decide +kernel)) (fun _ _ _ _ _ => (pg_name (i := 5) sc_spreads.nd rfl (Or.inl rfl))) (fun _ _ _ _ _ => pts_nil) (fun _ _ _ _ _ => (pe_ifExp (pt_cmpR op_ge (pv 5) (pv 2) (nomark _)) (pe_op op_add (pv 5) pe_int) (pv 5))))
      (pss_one (ps_expr (pe_k (K := K) (f := fun K => tBM K "list" _ _ _) rfl (pe_bm PySem.F.plainAttrs_list PySem.F.slot_list_append PySem.F.type_list_append mt_append (pv 3) (pa_cons (pe_tup (pa_star_k (K := K) rfl (pv 4) (pa_cons (pv 2) pa_nil))) pa_nil)))))))
      (pss_one (ps_ret (pe_callB (cr_sortedL (K := K) rfl hr.units65) (by rfl) T.z_sorted (by decide +kernel) (pa_cons (pv 3) pa_nil))))))), ?_⟩
    refine q_asg (K := K) (d := .int (topI r + 1)) tr (ev_I0 (ev_maxDT (xs := r) (ev_var rfl h1) (ev_neg ev_int) fun n hn => by have := hb n hn; omega) ev_int) fun vc H1 e1 t1 dc => ?_
    cases dc
    have h1 := dm_same h1 tr e1
    have hlv := lv_is r
    have htop : topI r ≤ 60 := by
      rcases (top_is r (-1)).1 with e | e
      · show r.foldl max (-1) ≤ 60
        omega
      · exact (hb _ e).2
    refine q_asg0 (lc_mut (K := K) (fun _ => true) (fun l => dI (r ++ [((l : Nat) : Int)])) t1 (wk_rng1 (ea_cons (ev_var rfl (.int _)) ea_nil) (by omega) (by omega)) (by omega) (fun M' H' i x g hi dx => ⟨_, tk_name, rfl, eb_yes, fun _ => Ev.is (ev_tup (ea_star (ev_var rfl (dm_go h1 g)) (.inl rfl) (ea_cons (ev_var rfl dx) ea_nil)) ?_) ?_⟩) fun p acc H2 hp e2 g2 hpa dac => ?_)
    · rw [List.length_append, List.length_map, sizeLine_eq]
      show r.length + 1 ≤ _
      omega
    · unfold dI
      rw [List.map_append]
      rfl
    rw [given_all] at dac
    have hp0 : H p = none := e1.free hp
    have pM : p ∉ M := fun z => tr p z hp0
    have h2 := dm_go h1 g2
    refine q_for (K := K) g2.tr (wk_rng1 (ea_cons (ev_I0 (ev_var rfl (.int (topI r + 1))) ev_int) ea_nil) (by omega) (by omega)) (fun H3 i σ' H' => (∃ o2 o4 vs, σ' = [some v1, some (.int (topI r + 1)), o2, some (.ref p), o4, none] ∧ H' p = some (.lst vs) ∧ Dms K (p :: M) H' vs ((widA r).map dI ++ (List.range i).map fun g => dI (gapR r g))) ∧ Same H H' ∧ Go (p :: M) H3 (p :: M) H')
      (fun H3 e3 t3 => ⟨⟨_, _, acc, rfl, e3 _ _ hpa, ?_⟩, (e1.trans e2).trans e3, Go.refl t3⟩) (fun H3 i σ' H' e3 q => q.2.2) ?_ ?_
    · have := dms_go dac ((Go.refl g2.tr).same e3)
      unfold widA
      rw [List.map_map, List.range_zero, List.map_nil, List.append_nil]
      exact this
    · rintro H3 i σ' H4 x H5 e3 hi ⟨⟨o2, o4, vs, rfl, hpv, dvs⟩, eH, g4⟩ e5 dx
      have g5 := g4.same e5
      have h5 := dm_go h2 (((Go.refl g2.tr).same e3).trans g5)
      have hlen := dvs.length
      have hlw : (widA r).length ≤ 61 := by
        unfold widA
        rw [List.length_map, List.length_range]
        omega
      refine q_asg (K := K) (d := .list ((r.map (bmp (i : Nat))).map PyData.int)) g5.tr (Ev.is (ev_lcA (enc := PyData.int) (xs := r) (fun x => .int (bmp (i : Nat) x)) (wk_tupT (ev_var rfl h5)) (by omega) fun M' H' a y g ha dy => ⟨_, tk_name, rfl, ev_if (eb_test (K := K) (ev_B0 (g := fun i j => decide (i ≥ j)) (ev_var rfl dy) (ev_var rfl (dm_go dx g)))) (fun hc => Ev.is (ev_I0 (ev_var rfl dy) ev_int) ?_) (fun hc => Ev.is (ev_var rfl dy) ?_)⟩) (by rw [List.map_map]; rfl)) fun vm H6 e6 t6 dm => ?_
      · unfold bmp
        rw [if_pos hc]
      · unfold bmp
        rw [if_neg (by rw [hc]; exact Bool.false_ne_true), Int.add_zero]
      refine s_app (K := K) t6 rfl (e6 _ _ (e5 _ _ hpv)) (List.mem_cons_self ..) (Ev.is (ev_tup (ea_star (ev_var rfl dm) (.inr rfl) (ea_cons (ev_var rfl (dm_same dx g5.tr e6)) ea_nil)) ?_) (e := dI (gapR r i)) ?_) ?_ fun v H7 e7 t7 dv g7 => ⟨⟨_, _, vs ++ [v], rfl, upd_same, ?_⟩, same_upd hp0 (((eH.trans e5).trans e6).trans e7), ((g5.same e6).same e7).trans g7⟩
      · rw [List.length_append, List.length_map, List.length_map, sizeLine_eq]
        show r.length + 1 ≤ _
        omega
      · unfold dI gapR
        rw [List.map_append]
        rfl
      · rw [hlen, List.length_append, List.length_map, List.length_map, List.length_range]
        have hi : i < (topI r + 1 + 1).toNat := hi
        omega
      · have g57 := ((((Go.refl g4.tr).same e5).same e6).same e7).trans g7
        have := (dms_go dvs g57).append (.cons (dm_go dv g7) .nil)
        rw [List.range_succ, List.map_append]
        rw [List.append_assoc] at this
        exact this
    · rintro H3 σ' H4 e3 ⟨⟨o2, o4, vs, rfl, hpv, dvs⟩, eH, g4⟩
      have hn : (topI r + 1 + 1).toNat = lv r + 1 := by omega
      have et : (widA r).map dI ++ (List.range (topI r + 1 + 1).toNat).map (fun g => dI (gapR r g)) = (wid r).map tI := by
        rw [hn]
        unfold wid
        rw [List.map_append, List.map_map]
        rfl
      rw [et] at dvs
      exact sort_new (K := K) (M := M) (fun b hb => g4.tr b (List.mem_cons_of_mem _ hb)) (ev_var rfl (dm_freeze pM hpv dvs)) (.inr (wid_ne r)) fun l H5 hl5 e5 t5 dl => k l H5 (eH.free hl5) (eH.trans e5) dl
end
end Own

namespace Own
open PySem PySem.Spec PyProof.Rows L2 Gd Dq
def rws : Nat → List (List Int)
  | 0 => [[]]
  | k + 1 => (rws k).flatMap fun r => srtL (wid r)
def ordP (n : Nat) : List (List Int) := srtL (rws n)
theorem wid_mem {k : Nat} {r x : List Int} (hl : r.length = k) (hb : ∀ y ∈ r, 0 ≤ y ∧ y < k) (h : x ∈ wid r) : x.length = k + 1 ∧ ∀ y ∈ x, 0 ≤ y ∧ y < ((k + 1 : Nat) : Int) := by
  have hlv := lv_is r
  have htop : topI r < k := by
    rcases (top_is r (-1)).1 with e | e
    · show r.foldl max (-1) < k
      omega
    · exact (hb _ e).2
  rcases List.mem_append.mp h with h | h
  · obtain ⟨l, hl', rfl⟩ := List.mem_map.mp h
    have := List.mem_range.mp hl'
    refine ⟨by rw [List.length_append, hl]; rfl, fun y hy => ?_⟩
    rcases List.mem_append.mp hy with hy | hy
    · have := hb y hy
      omega
    · rw [List.mem_singleton.mp hy]
      omega
  · obtain ⟨g, hg', rfl⟩ := List.mem_map.mp h
    have := List.mem_range.mp hg'
    unfold gapR
    refine ⟨by rw [List.length_append, List.length_map, hl]; rfl, fun y hy => ?_⟩
    rcases List.mem_append.mp hy with hy | hy
    · obtain ⟨z, hz, rfl⟩ := List.mem_map.mp hy
      have := hb z hz
      unfold bmp
      split <;> omega
    · rw [List.mem_singleton.mp hy]
      omega
theorem rws_mem : ∀ (k : Nat) (r : List Int), r ∈ rws k → r.length = k ∧ ∀ y ∈ r, 0 ≤ y ∧ y < (k : Int)
  | 0, r, h => by
    rw [List.mem_singleton.mp h]
    exact ⟨rfl, fun y hy => nomatch hy⟩
  | k + 1, x, h => by
    obtain ⟨r, hr, hx⟩ := List.mem_flatMap.mp h
    obtain ⟨h1, h2⟩ := rws_mem k r hr
    exact wid_mem h1 h2 ((srtL_perm _).mem_iff.mp hx)
def fnd : Nat → List (List Int)
  | 0 => [[]]
  | k + 1 => (fnd k).flatMap wid
theorem flat_perm {α β : Type} {f g : α → List β} (h : ∀ a, (f a).Perm (g a)) : ∀ {l m : List α}, l.Perm m → (l.flatMap f).Perm (m.flatMap g) := fun {l m} p => by
  refine (List.Perm.flatMap_right f p).trans ?_
  induction m generalizing l with
  | nil => exact List.Perm.refl _
  | cons a m ih =>
    rw [List.flatMap_cons, List.flatMap_cons]
    exact (h a).append (ih (List.Perm.refl _))
theorem rws_perm : ∀ k, (rws k).Perm (fnd k)
  | 0 => List.Perm.refl _
  | k + 1 => flat_perm (fun r => srtL_perm _) (rws_perm k)
theorem rws_lens : ((List.range 7).all fun k => decide ((fnd k).length ≤ 5000)) = true := by decide +kernel
theorem rws_len {k : Nat} (h : k ≤ 6) : (rws k).length ≤ 5000 := by
  rw [(rws_perm k).length_eq]
  exact of_decide_eq_true (List.all_eq_true.mp rws_lens k (List.mem_range.mpr (by omega)))
theorem rws_ne (k : Nat) : (rws k).length ≤ 1 ∨ [] ∉ rws k := by
  cases k with
  | zero => exact .inl (Nat.le_refl _)
  | succ k =>
    right
    intro h
    have := (rws_mem _ _ h).1
    cases this
theorem flat_sing {α β : Type} (f : α → β) : ∀ l : List α, (l.flatMap fun a => [f a]) = l.map f
  | [] => rfl
  | a :: l => by rw [List.flatMap_cons, List.map_cons, flat_sing f l]; rfl
section
variable {P : Program} {w : World} {K : PySem.W.Frag} {mg : Str → Option Value} {base : Heap} {A : Ads}
theorem G_orders (T : Tp K mg A) : FnG P w K mg base 2 A.a_orders A.d_orders ["n"] (spNew K 1 fun ds d => ∃ n : Nat, n ≤ 6 ∧ ds = [.int n] ∧ d = .list ((ordP n).map dI)) := by
  refine fn_ofG T.F_orders sc_orders (fun vs H Q E h => spNew_len vs H Q E h) (fun cdv A outer s H vs Q E hg hr h => ?_)
  obtain ⟨M, ds, d, tr, hd, hl, ⟨n, hn, rfl, rfl⟩, k⟩ := h
  cases hd with
  | @cons v1 _ _ _ h1 h2 =>
    cases h2
    cases h1
    refine ⟨_, (pss_cons (ps_set (i := 1) sc_orders.nd rfl (Or.inl rfl) (pe_lst (pa_cons (pe_tup pa_nil) pa_nil)))
      (pss_cons (ps_for PassesOwn.never rfl (pi_range1 (by rfl) T.z_range (pa_cons (pv 0) pa_nil)) (pg_name (i := 2) sc_orders.nd rfl (Or.inl rfl))
      (pss_one (ps_lc2k (ps_setLc2 (i := 1) (own := [("row", 3), ("wider", 4)]) (vs1 := [4]) (g := gName 3) (tt := tYes) (g1 := gName 4) (tt1 := tYes) rfl sc_orders.nd rfl rfl (sw_true rfl rfl rfl (by decide +kernel)) (pi_list_k (K := K) rfl (pv 1)) (blkOk_by (N := ["n", "rows", "_", "row", "wider"]) (sc := defScope s_orders) (by decide +kernel)) (by decide) (fun _ _ _ _ _ => (pg_name (i := 3) sc_orders.nd rfl (Or.inl rfl))) (fun _ _ _ _ _ => pts_nil) (fun _ _ _ _ _ => (pi_list_k (K := K) rfl (pe_callG (FnG.mono (G_spreads T) (by decide)) hg hr (by rfl) T.g_spreads T.F_spreads.kp T.b_spreads .nil (pa_cons (pv 3) pa_nil)))) (fun _ _ _ _ _ => (pg_name (i := 4) sc_orders.nd rfl (Or.inl rfl))) (fun _ _ _ _ _ => pts_nil) (fun _ _ _ _ _ => (pv 4))))))
      (pss_one (ps_ret (pe_callB (cr_sortedL (K := K) rfl hr.units65) (by rfl) T.z_sorted (by decide +kernel) (pa_cons (pv 1) pa_nil)))))), ?_⟩
    refine q_asg (K := K) (d := .list ((rws 0).map dI)) tr (ev_lst (ea_cons (ev_tup ea_nil (sz 0)) ea_nil) (sz 1)) fun vr H1 e1 t1 dr => ?_
    refine q_for (K := K) t1 (wk_rng1 (ea_cons (ev_var rfl (.int (n : Int))) ea_nil) (by omega) (by omega)) (fun H3 i σ' H' => (∃ vr o2, σ' = [some (.int n), some vr, o2, none, none] ∧ Dm K M H' vr (.list ((rws i).map dI))) ∧ Same H H' ∧ Go M H3 M H')
      (fun H3 e3 t3 => ⟨⟨_, _, rfl, dm_same dr t1 e3⟩, e1.trans e3, Go.refl t3⟩) (fun H3 i σ' H' e3 q => q.2.2) ?_ ?_
    · rintro H3 i σ' H4 x H5 e3 hi ⟨⟨vr, o2, rfl, dr⟩, eH, g4⟩ e5 dx
      have hi : i < n := by
        have hi : i < ((n : Nat) : Int).toNat := hi
        omega
      have t4 := g4.tr
      have g5 := g4.same e5
      have em : ((rws i).flatMap fun r => (srtL (wid r)).flatMap fun b => [dI b]) = (rws (i + 1)).map dI := by
        show _ = ((rws i).flatMap fun r => srtL (wid r)).map dI
        rw [List.map_flatMap]
        exact flat_congr fun r _ => flat_sing dI _
      refine s_asg0 ((Ev.is (ev_lcNA (enc := dI) (xs := rws i) (fun r => (srtL (wid r)).flatMap fun b => [dI b]) (wk_listT (ev_var rfl (dm_same dr t4 e5))) (by rw [em, List.length_map]; have := rws_len (k := i + 1) (by omega); omega) fun M1 H1 r x D g1 hr dx => ⟨_, true, tk_name, rfl, eb_yes, fun _ => ?_, fun z => nomatch z⟩) (by rw [em])) M H5 (Go.refl g5.tr) _ fun v H6 e6 dv => ⟨⟨v, _, rfl, dv⟩, (eH.trans e5).trans e6, (g4.same e5).same e6⟩)
      obtain ⟨hr1, hr2⟩ := rws_mem i r hr
      exact nst_nestA (enc := dI) (xs := srtL (wid r)) _ (wk_listT (ev_callN (ea_cons (ev_var rfl dx) ea_nil) rfl ⟨r, by omega, fun y hy => by have := hr2 y hy; omega, rfl, rfl⟩)) fun M3 H3 z q g3 hz dz => ⟨_, true, tk_name, rfl, eb_yes, fun _ => nst_put (ev_var rfl dz), fun z => nomatch z⟩
    · rintro H3 σ' H4 e3 ⟨⟨vr, o2, rfl, dr⟩, eH, g4⟩
      have t4 := g4.tr
      rw [Int.toNat_natCast] at dr
      exact sort_new (K := K) t4 (ev_var rfl dr) (rws_ne n) fun l H5 hl5 e5 t5 dl => k l H5 (eH.free hl5) (eH.trans e5) dl
end
end Own

namespace Own
open PySem PySem.Spec PyProof.Rows L2 Gd Dq
def ordL (n : Nat) : List (List Int) := srtL (fnd n)
theorem fnd_mem : ∀ (k : Nat) (r : List Int), r ∈ fnd k → r.length = k ∧ ∀ y ∈ r, 0 ≤ y ∧ y < (k : Int)
  | 0, r, h => by
    rw [List.mem_singleton.mp h]
    exact ⟨rfl, fun y hy => nomatch hy⟩
  | k + 1, x, h => by
    obtain ⟨r, hr, hx⟩ := List.mem_flatMap.mp h
    obtain ⟨h1, h2⟩ := fnd_mem k r hr
    exact wid_mem h1 h2 hx
theorem fnd_lens : ((List.range 6).all fun k => decide ((fnd k).length ≤ 541) && (decide (k = 5) || decide ((fnd k).length ≤ 75))) = true := by decide +kernel
theorem fnd_len {k : Nat} (h : k ≤ 5) : (fnd k).length ≤ 541 ∧ (k < 5 → (fnd k).length ≤ 75) := by
  have := List.all_eq_true.mp fnd_lens k (List.mem_range.mpr (by omega))
  rw [Bool.and_eq_true, Bool.or_eq_true, decide_eq_true_iff, decide_eq_true_iff, decide_eq_true_iff] at this
  exact ⟨this.1, fun hk => by
    rcases this.2 with h | h
    · omega
    · exact h⟩
theorem fnd_ne (k : Nat) : (fnd k).length ≤ 1 ∨ [] ∉ fnd k := by
  cases k with
  | zero => exact .inl (Nat.le_refl _)
  | succ k =>
    right
    intro h
    have := (fnd_mem _ _ h).1
    cases this
theorem ord_same (n : Nat) : ordP n = ordL n := srtL_congr (rws_perm n)
theorem flat_lenB {α β : Type} {f : α → List β} {k : Nat} : ∀ {l : List α}, (∀ a ∈ l, (f a).length ≤ k) → (l.flatMap f).length ≤ l.length * k
  | [], _ => by simp
  | a :: l, h => by
    rw [List.flatMap_cons, List.length_append, List.length_cons, Nat.add_mul, Nat.one_mul]
    have h1 := h a (List.mem_cons_self ..)
    have h2 := flat_lenB (l := l) fun b hb => h b (List.mem_cons_of_mem _ hb)
    omega
theorem lv_le {k : Nat} {r : List Int} (hb : ∀ y ∈ r, 0 ≤ y ∧ y < (k : Int)) : lv r ≤ k := by
  have hlv := lv_is r
  have htop : topI r < k := by
    rcases (top_is r (-1)).1 with e | e
    · show r.foldl max (-1) < k
      omega
    · exact (hb _ e).2
  omega
section
variable {P : Program} {w : World} {K : PySem.W.Frag} {mg : Str → Option Value} {base : Heap} {A : Ads}
theorem G_lw_orders (T : Tp K mg A) : FnG P w K mg base 1 A.a_lw_orders A.d_lw_orders ["n"] (spPure K 1 fun ds d => ∃ n : Nat, n ≤ 5 ∧ ds = [.int n] ∧ d = .list ((ordL n).map dI)) := by
  refine fn_ofG T.F_lw_orders sc_lw_orders (fun vs H Q E h => spPure_len vs H Q E h) (fun cdv A outer s H vs Q E hg hr h => ?_)
  obtain ⟨M, ds, d, tr, hd, hl, ⟨n, hn, rfl, rfl⟩, k⟩ := h
  cases hd with
  | @cons v1 _ _ _ h1 h2 =>
    cases h2
    cases h1
    refine ⟨_, (pss_cons (ps_set (i := 1) sc_lw_orders.nd rfl (Or.inl rfl) (pe_lst (pa_cons (pe_tup pa_nil) pa_nil)))
      (pss_cons (ps_for PassesOwn.never rfl (pi_range1 (by rfl) T.z_range (pa_cons (pv 0) pa_nil)) (pg_name (i := 2) sc_lw_orders.nd rfl (Or.inl rfl))
      (pss_cons (ps_set (i := 3) sc_lw_orders.nd rfl (Or.inl rfl) (pe_lst pa_nil))
      (pss_cons (ps_for PassesOwn.never rfl (pi_list_k (K := K) rfl (pv 1)) (pg_name (i := 4) sc_lw_orders.nd rfl (Or.inr rfl))
      (pss_cons (ps_set (i := 5) sc_lw_orders.nd rfl (Or.inl rfl) (pe_op op_add pe_int (pe_callB (cr_max_k (K := K) rfl rfl) (by rfl) T.z_max (by decide +kernel) (pa_cons (pe_op op_cat (pe_lst (pa_cons (pe_un un_neg pe_int) pa_nil)) (pe_callTy (call_list_k (K := K) rfl) (by rfl) T.z_list (by decide +kernel) (pa_cons (pv 4) pa_nil))) pa_nil))))
      (pss_cons (ps_set (i := 3) sc_lw_orders.nd rfl (Or.inl rfl) (pe_op op_cat (pv 3) (pe_lc (own := [("level", 7)]) (g := gName 7) (tt := tYes) rfl sc_lw_orders.nd (pi_range1 (by rfl) T.z_range (pa_cons (pv 5) pa_nil)) (blkOk_by (N := ["n", "found", "lap", "later", "order", "levels", "gap", "level", "one"]) (sc := defScope s_lw_orders) (by decide +kernel)) (fun _ _ _ _ _ => (pg_name (i := 7) sc_lw_orders.nd rfl (Or.inl rfl))) (fun _ _ _ _ _ => pts_nil) (fun _ _ _ _ _ => (pe_op (op_catT_k (K := K) rfl) (pv 4) (pe_tup (pa_cons (pv 7) pa_nil)))))))
      (pss_one (ps_for PassesOwn.never rfl (pi_range1 (by rfl) T.z_range (pa_cons (pe_op op_add (pv 5) pe_int) pa_nil)) (pg_name (i := 6) sc_lw_orders.nd rfl (Or.inr rfl))
      (pss_one (ps_expr (pe_k (K := K) (f := fun K => tBM K "list" _ _ _) rfl (pe_bm PySem.F.plainAttrs_list PySem.F.slot_list_append PySem.F.type_list_append mt_append (pv 3) (pa_cons (pe_op (op_catT_k (K := K) rfl) (pe_callTy (call_tup_k (K := K) rfl) (by rfl) T.z_tuple (by decide +kernel) (pa_cons (pe_lc (own := [("one", 8)]) (g := gName 8) (tt := tYes) rfl sc_lw_orders.nd (pi_tup_k (K := K) rfl (pv 4)) (blkOk_by (N := ["n", "found", "lap", "later", "order", "levels", "gap", "level", "one"]) (sc := defScope s_lw_orders) (by decide +kernel)) (fun _ _ _ _ _ => (pg_name (i := 8) sc_lw_orders.nd rfl (Or.inl rfl))) (fun _ _ _ _ _ => pts_nil) (fun _ _ _ _ _ => (pe_op op_add (pv 8) (pe_callTy call_int1 (by rfl) T.z_int (by decide +kernel) (pa_cons (pe_cmpR op_ge (pv 8) (pv 6) (nomark _)) pa_nil))))) pa_nil)) (pe_tup (pa_cons (pv 6) pa_nil))) pa_nil))))))))))
      (pss_one (ps_set (i := 1) sc_lw_orders.nd rfl (Or.inl rfl) (pv 3))))))
      (pss_one (ps_ret (pe_callB (cr_sortedL (K := K) rfl hr.units65) (by rfl) T.z_sorted (by decide +kernel) (pa_cons (pv 1) pa_nil)))))), ?_⟩
    refine q_asg (K := K) (d := .list ((fnd 0).map dI)) tr (ev_lst (ea_cons (ev_tup ea_nil (sz 0)) ea_nil) (sz 1)) fun vr H1 e1 t1 dr => ?_
    refine q_for (K := K) t1 (wk_rng1 (ea_cons (ev_var rfl (.int (n : Int))) ea_nil) (by omega) (by omega)) (fun H3 i σ' H' => (∃ vr o2 o3 o4 o5 o6, σ' = [some (.int n), some vr, o2, o3, o4, o5, o6, none, none] ∧ Dm K M H' vr (.list ((fnd i).map dI))) ∧ Same H H' ∧ Go M H3 M H')
      (fun H3 e3 t3 => ⟨⟨_, _, _, _, _, _, rfl, dm_same dr t1 e3⟩, e1.trans e3, Go.refl t3⟩) (fun H3 i σ' H' e3 q => q.2.2) ?_ ?_
    · rintro H3 i σ' H4 x H5 e3 hi ⟨⟨vr, o2, o3, o4, o5, o6, rfl, dr⟩, eH, g4⟩ e5 dx
      have hi : i < n := by
        have hi : i < ((n : Nat) : Int).toNat := hi
        omega
      have t4 := g4.tr
      have g5 := g4.same e5
      have dr5 := dm_same dr t4 e5
      refine q_asg (K := K) (d := .list []) g5.tr (ev_lst ea_nil (sz 0)) fun vl H6 e6 t6 dl => ?_
      have dr6 := dm_same dr5 g5.tr e6
      refine q_for (K := K) t6 (wk_listT (enc := dI) (xs := fnd i) (ev_var rfl dr6)) (fun H7 j σ' H' => (∃ vl o4 o5 o6, σ' = [some (.int n), some vr, some x, some vl, o4, o5, o6, none, none] ∧ Dm K M H' vl (.list ((((fnd i).take j).flatMap wid).map dI))) ∧ Same H H' ∧ Go M H7 M H')
        (fun H7 e7 t7 => ⟨⟨_, _, _, _, rfl, dm_same dl t6 e7⟩, ((eH.trans e5).trans e6).trans e7, Go.refl t7⟩) (fun H7 j σ' H' e7 q => q.2.2) ?_ ?_
      · rintro H7 j σ' H8 y H9 e7 hj ⟨⟨vl, o4, o5, o6, rfl, dl⟩, eH8, g8⟩ e9 dy
        rw [at0_map hj] at dy
        obtain ⟨hr1, hr2⟩ := fnd_mem i _ (List.getElem_mem hj)
        have hrr : (fnd i)[j] = (fnd i)[j] := rfl
        revert dy hr1 hr2
        have htk : (fnd i).take (j + 1) = (fnd i).take j ++ [(fnd i)[j]] := List.take_succ_eq_append_getElem hj
        revert htk
        generalize (fnd i)[j] = r
        intro htk dy hr1 hr2
        have hlv := lv_is r
        have hle := lv_le hr2
        have htop := top_ge r
        have g9 := g8.same e9
        have dl9 := dm_same dl g8.tr e9
        have hpre : (((fnd i).take j).flatMap wid).length ≤ 675 := by
          have h1 := flat_lenB (f := wid) (k := 9) (l := (fnd i).take j) fun a ha => by
            have := lv_le (fnd_mem i a (List.mem_of_mem_take ha)).2
            rw [wid_len]
            omega
          have h2 := (fnd_len (k := i) (by omega)).2 (by omega)
          have h3 := List.length_take_le j (fnd i)
          omega
        have tm := top_is r (-1)
        refine q_asg (K := K) (d := .int (1 + topI r)) g9.tr (ev_I0 ev_int (ev_maxL (xs := -1 :: r) (ev_cat (ds := [.int (-1)]) (es := r.map PyData.int) (ev_lst (ea_cons (ev_neg ev_int) ea_nil) (sz 1)) (ev_listOf (ev_var rfl dy) (.inr rfl)) ?_) ?_ ?_)) fun vc H10 e10 t10 dc => ?_
        · rw [List.length_map, sizeLine_eq]
          show 1 + r.length ≤ _
          omega
        · rcases tm.1 with e | e
          · rw [show topI r = -1 from e]
            exact List.mem_cons_self ..
          · exact List.mem_cons_of_mem _ e
        · intro z hz
          rcases List.mem_cons.mp hz with rfl | hz
          · exact htop
          · exact tm.2 z hz
        cases dc
        have dy10 := dm_same dy g9.tr e10
        have dl10 := dm_same dl9 g9.tr e10
        refine q_asg0 (cat_newM (K := K) (es := (widA r).map dI) t10 (ev_var rfl dl10) (Ev.is (ev_lc (fun _ => true) (fun l => dI (r ++ [((l : Nat) : Int)])) (wk_rng1 (ea_cons (ev_var rfl (.int (1 + topI r))) ea_nil) (by omega) (by omega)) (by omega) fun M' H' l z g hl dz => ⟨_, tk_name, rfl, eb_yes, fun _ => Ev.is (ev_catT (es := [.int (l : Nat)]) (ev_var rfl (dm_go dy10 g)) (ev_tup (ea_cons (ev_var rfl dz) ea_nil) (sz 1)) ?_) ?_⟩) ?_) ?_ fun p vs H11 e11 t11 hp dvs => ?_)
        · rw [List.length_map, sizeLine_eq]
          show r.length + 1 ≤ _
          omega
        · unfold dI
          rw [List.map_append]
          rfl
        · rw [given_all]
          unfold widA
          rw [List.map_map]
          have e : (1 + topI r).toNat = lv r := by omega
          rw [e]
          rfl
        · rw [List.length_map, List.length_map]
          unfold widA
          rw [List.length_map, List.length_range]
          omega
        have eH11 : Same H H11 := ((eH8.trans e9).trans e10).trans e11
        have hp0 : H p = none := eH11.free hp
        have pM : p ∉ M := fun z => tr p z hp0
        have g11 : Go M H11 (p :: M) (upd H11 p (.lst vs)) := go_mut t11 hp
        have g8B : Go M H8 (p :: M) (upd H11 p (.lst vs)) := ((((Go.refl g8.tr).same e9).same e10).same e11).trans g11
        have dy11 := dm_go (dm_same dy10 t10 e11) g11
        refine s_for (K := K) g11.tr (wk_rng1 (ea_cons (ev_I0 (ev_var rfl (.int (1 + topI r))) ev_int) ea_nil) (by omega) (by omega)) (fun H12 g σ' H' => (∃ o6 vs, σ' = [some (.int n), some vr, some x, some (.ref p), some y, some (.int (1 + topI r)), o6, none, none] ∧ H' p = some (.lst vs) ∧ Dms K (p :: M) H' vs (((((fnd i).take j).flatMap wid).map dI ++ (widA r).map dI) ++ (List.range g).map fun g => dI (gapR r g))) ∧ Same H H' ∧ Go (p :: M) H12 (p :: M) H')
          (fun H12 e12 t12 => ⟨⟨_, vs, rfl, e12 _ _ upd_same, ?_⟩, (same_upd hp0 eH11).trans e12, Go.refl t12⟩) (fun H12 g σ' H' e12 q => q.2.2) ?_ ?_
        · rw [List.range_zero, List.map_nil, List.append_nil]
          exact dms_go dvs (g11.same e12)
        · rintro H12 gp σ' H13 z H14 e12 hgp ⟨⟨o6, vs, rfl, hpv, dvs⟩, eH13, g13⟩ e14 dz
          have hgp : gp < (1 + topI r + 1).toNat := hgp
          have g14 := g13.same e14
          have dy14 := dm_go dy11 (((Go.refl g11.tr).same e12).trans g14)
          have hlen := dvs.length
          refine s_app (K := K) g14.tr rfl (e14 _ _ hpv) (List.mem_cons_self ..) (Ev.is (ev_catT (ds := (r.map (bmp (gp : Nat))).map PyData.int) (es := [.int (gp : Nat)]) (Ev.is (ev_tupOf (ev_lcA (enc := PyData.int) (xs := r) (fun x => .int (bmp (gp : Nat) x)) (wk_tupT (ev_var rfl dy14)) (by omega) fun M' H' a u g ha du => ⟨_, tk_name, rfl, ev_I0 (ev_var rfl du) (ev_intB (ev_B0 (g := fun i j => decide (i ≥ j)) (ev_var rfl du) (ev_var rfl (dm_go dz g))))⟩) (.inl rfl)) (by rw [List.map_map]; rfl)) (ev_tup (ea_cons (ev_var rfl dz) ea_nil) (sz 1)) ?_) (e := dI (gapR r gp)) ?_) ?_ fun v H15 e15 t15 dv g15 => ⟨⟨_, vs ++ [v], rfl, upd_same, ?_⟩, same_upd hp0 ((eH13.trans e14).trans e15), ((g13.same e14).same e15).trans g15⟩
          · rw [List.length_map, List.length_map, sizeLine_eq]
            show r.length + 1 ≤ _
            omega
          · unfold dI gapR
            rw [List.map_append]
            rfl
          · rw [hlen, List.length_append, List.length_append, List.length_map, List.length_map, List.length_map, List.length_range]
            unfold widA
            rw [List.length_map, List.length_range]
            omega
          · have g1315 := (((Go.refl g13.tr).same e14).same e15).trans g15
            have := (dms_go dvs g1315).append (.cons (dm_go dv g15) .nil)
            rw [List.range_succ, List.map_append (f := fun g => dI (gapR r g))]
            rw [List.append_assoc] at this
            exact this
        · rintro H12 σ' H13 e12 ⟨⟨o6, vs, rfl, hpv, dvs⟩, eH13, g13⟩
          refine ⟨⟨_, _, _, _, rfl, ?_⟩, eH13, ?_⟩
          · have et : (((fnd i).take j).flatMap wid).map dI ++ (widA r).map dI ++ (List.range (1 + topI r + 1).toNat).map (fun g => dI (gapR r g)) = (((fnd i).take (j + 1)).flatMap wid).map dI := by
              have hn : (1 + topI r + 1).toNat = lv r + 1 := by omega
              rw [hn, htk, List.flatMap_append, List.map_append, List.append_assoc]
              congr 1
              rw [List.flatMap_cons, List.flatMap_nil, List.append_nil]
              unfold wid
              rw [List.map_append, List.map_map (g := dI)]
              rfl
            rw [et] at dvs
            exact dm_freeze pM hpv dvs
          · exact g8.trans (go_drop (g8B.trans (((Go.refl g11.tr).same e12).trans g13)) (e9.free (e10.free (e11.free hp))))
      · rintro H7 σ' H8 e7 ⟨⟨vl, o4, o5, o6, rfl, dl⟩, eH8, g8⟩
        rw [List.take_length] at dl
        exact s_asg0 (ev_var (K := K) rfl dl M H8 (Go.refl g8.tr) _ fun v H9 e9 dv => ⟨⟨v, _, _, _, _, _, rfl, dv⟩, eH8.trans e9, (((g5.same e6).same e7).trans g8).same e9⟩)
    · rintro H3 σ' H4 e3 ⟨⟨vr, o2, o3, o4, o5, o6, rfl, dr⟩, eH, g4⟩
      rw [Int.toNat_natCast] at dr
      exact s_ret (K := K) g4.tr (ev_sortedL (ev_var rfl dr) (fnd_ne n)) fun v H5 e5 t5 dv => k v H5 (eH.trans e5) dv
end
end Own

namespace Own
open PySem PySem.Spec PyProof.Rows L2 Gd Dq
def FC : List Int := [1, 1, 3, 13, 75, 541, 4683]
def tc (m : Nat) : Nat → Int × Int
  | 0 => (0, 1)
  | f + 1 => ((tc m f).1 + ((tc m f).2 * ((1 + ((m : Nat) : Int)) - (1 + (f : Nat)) + 1) / (1 + (f : Nat))) * FC.getD (m - f) 0, (tc m f).2 * ((1 + ((m : Nat) : Int)) - (1 + (f : Nat)) + 1) / (1 + (f : Nat)))
theorem tcs : ((List.range 6).all fun i => ((List.range (i + 2)).all fun f => decide (0 ≤ (tc i f).2 ∧ (tc i f).2 < 10000)) && decide ((tc i (i + 1)).1 = FC.getD (i + 1) 0)) = true := by decide +kernel
theorem tcs' {i : Nat} (h : i < 6) : (∀ f, f < i + 2 → 0 ≤ (tc i f).2 ∧ (tc i f).2 < 10000) ∧ (tc i (i + 1)).1 = FC.getD (i + 1) 0 := by
  have := List.all_eq_true.mp tcs i (List.mem_range.mpr h)
  rw [Bool.and_eq_true, decide_eq_true_iff] at this
  exact ⟨fun f hf => of_decide_eq_true (List.all_eq_true.mp this.1 f (List.mem_range.mpr hf)), this.2⟩
theorem fc_take {i : Nat} (h : i < 6) : FC.take (i + 2) = FC.take (i + 1) ++ [FC.getD (i + 1) 0] := by
  have hj : i + 1 < FC.length := by show i + 1 < 7; omega
  rw [List.take_succ_eq_append_getElem hj, List.getD_eq_getElem?_getD, List.getElem?_eq_getElem hj]
  rfl
section
variable {P : Program} {w : World} {K : PySem.W.Frag} {mg : Str → Option Value} {base : Heap} {A : Ads}
theorem G_lw_count (T : Tp K mg A) : FnG P w K mg base 1 A.a_lw_count A.d_lw_count ["n"] (spPure K 1 fun ds d => ds = [.int 6] ∧ d = .int 4683) := by
  refine fn_ofG T.F_lw_count sc_lw_count (fun vs H Q E h => spPure_len vs H Q E h) (fun cdv A outer s H vs Q E hg hr h => ?_)
  obtain ⟨M, ds, d, tr, hd, hl, ⟨rfl, rfl⟩, k⟩ := h
  cases hd with
  | @cons v1 _ _ _ h1 h2 =>
    cases h2
    cases h1
    refine ⟨_, (pss_cons (ps_set (i := 1) sc_lw_count.nd rfl (Or.inl rfl) (pe_lst (pa_cons pe_int pa_nil)))
      (pss_cons (ps_for PassesOwn.never rfl (pi_range2 (by rfl) T.z_range (pa_cons pe_int (pa_cons (pe_op op_add (pv 0) pe_int) pa_nil))) (pg_name (i := 2) sc_lw_count.nd rfl (Or.inl rfl))
      (pss_cons (ps_asg (pe_tup (pa_cons pe_int (pa_cons pe_int pa_nil))) (pg_tup rfl (pgs_cons (pg_name (i := 3) sc_lw_count.nd rfl (Or.inl rfl)) (pgs_cons (pg_name (i := 4) sc_lw_count.nd rfl (Or.inl rfl)) pgs_nil))))
      (pss_cons (ps_for PassesOwn.never rfl (pi_range2 (by rfl) T.z_range (pa_cons pe_int (pa_cons (pe_op op_add (pv 2) pe_int) pa_nil))) (pg_name (i := 5) sc_lw_count.nd rfl (Or.inl rfl))
      (pss_cons (ps_set (i := 4) sc_lw_count.nd rfl (Or.inl rfl) (pe_op op_fdiv (pe_op op_mul (pv 4) (pe_op op_add (pe_op op_sub (pv 2) (pv 5)) pe_int)) (pv 5)))
      (pss_one (ps_set (i := 3) sc_lw_count.nd rfl (Or.inl rfl) (pe_op op_add (pv 3) (pe_op op_mul (pv 4) (pe_ix (ix_list_k (K := K) rfl) (pv 1) (pe_op op_sub (pv 2) (pv 5)) (fun _ _ => rfl))))))))
      (pss_one (ps_expr (pe_k (K := K) (f := fun K => tBM K "list" _ _ _) rfl (pe_bm PySem.F.plainAttrs_list PySem.F.slot_list_append PySem.F.type_list_append mt_append (pv 1) (pa_cons (pv 3) pa_nil))))))))
      (pss_one (ps_ret (pe_ix (ix_list_k (K := K) rfl) (pv 1) (pv 0) (fun _ _ => rfl)))))), ?_⟩
    refine q_asg0 (lst_new (K := K) (ds := [.int 1]) tr (ea_cons ev_int ea_nil) (by decide) fun p vs H1 e1 t1 hp dvs => ?_)
    have hp0 : H p = none := e1.free hp
    have pM : p ∉ M := fun z => tr p z hp0
    have g1 : Go M H1 (p :: M) (upd H1 p (.lst vs)) := go_mut t1 hp
    refine q_for (K := K) g1.tr (wk_rng2 (ea_cons ev_int (ea_cons (ev_I0 (ev_var rfl (.int 6)) ev_int) ea_nil)) (by decide)) (fun H3 i σ' H' => (∃ o2 o3 o4 o5 vs, σ' = [some (.int 6), some (.ref p), o2, o3, o4, o5] ∧ H' p = some (.lst vs) ∧ Dms K (p :: M) H' vs ((FC.take (i + 1)).map PyData.int)) ∧ Same H H' ∧ Go (p :: M) H3 (p :: M) H')
      (fun H3 e3 t3 => ⟨⟨_, _, _, _, vs, rfl, e3 _ _ upd_same, dms_go dvs (g1.same e3)⟩, (same_upd hp0 e1).trans e3, Go.refl t3⟩) (fun H3 i σ' H' e3 q => q.2.2) ?_ ?_
    · rintro H3 i σ' H4 x H5 e3 hi ⟨⟨o2, o3, o4, o5, vs, rfl, hpv, dvs⟩, eH, g4⟩ e5 dx
      have hi : i < 6 := hi
      obtain ⟨tb, te⟩ := tcs' hi
      cases dx
      have g5 := g4.same e5
      have t5M : Tr M H5 := fun b hb => g5.tr b (List.mem_cons_of_mem _ hb)
      have dvs5 := dms_go dvs ((Go.refl g4.tr).same e5)
      have dp5 : Dm K M H5 (.ref p) (.list ((FC.take (i + 1)).map PyData.int)) := dm_freeze pM (e5 _ _ hpv) dvs5
      refine q_unp (K := K) (d1 := .int 0) (d2 := .int 1) t5M (ev_tup (ea_cons ev_int (ea_cons ev_int ea_nil)) (sz 2)) fun va vb H6 e6 t6 da db => ?_
      cases da
      cases db
      have dp6 := dm_same dp5 t5M e6
      refine q_for (K := K) t6 (wk_rng2 (ea_cons ev_int (ea_cons (ev_I0 (ev_var rfl (.int (1 + (i : Nat)))) ev_int) ea_nil)) ⟨by decide, by decide, by omega, by omega⟩) (fun H7 f σ' H' => (∃ o5, σ' = [some (.int 6), some (.ref p), some (.int (1 + (i : Nat))), some (.int (tc i f).1), some (.int (tc i f).2), o5]) ∧ Same H7 H' ∧ Go M H7 M H')
        (fun H7 e7 t7 => ⟨⟨_, rfl⟩, Same.refl _, Go.refl t7⟩) (fun H7 f σ' H' e7 q => q.2.2) ?_ ?_
      · rintro H7 f σ' H8 y H9 e7 hf ⟨⟨o5, rfl⟩, eH8, g8⟩ e9 dy
        have hf : f < (1 + (i : Nat) + 1 - 1 : Int).toNat := hf
        cases dy
        have g9 := g8.same e9
        have b0 := tb f (by omega)
        have b1 := tb (f + 1) (by omega)
        have dp9 := dm_same dp6 t6 ((e7.trans eH8).trans e9)
        refine q_asg (K := K) (d := .int (tc i (f + 1)).2) g9.tr (ev_I (C := CDiv) (g := fun i j => i / j) (ev_I (C := CMul) (g := fun i j => i * j) (ev_var rfl (.int (tc i f).2)) (ev_I0 (ev_I0 (ev_var rfl (.int (1 + (i : Nat)))) (ev_var rfl (.int (1 + (f : Nat))))) ev_int) (.inl ⟨by omega, by omega⟩)) (ev_var rfl (.int (1 + (f : Nat)))) ⟨by omega, by omega⟩) fun vc H10 e10 t10 dc => ?_
        cases dc
        have hix : L2.atI ((FC.take (i + 1)).map PyData.int) ((1 + (i : Nat)) - (1 + (f : Nat))) = some (.int (FC.getD (i - f) 0)) := by
          have e : ((1 + (i : Nat)) - (1 + (f : Nat)) : Int) = ((i - f : Nat) : Int) := by omega
          rw [e]
          refine atI_nat ?_
          have hj : i - f < FC.length := by show i - f < 7; omega
          rw [List.getElem?_map, List.getElem?_take_of_lt (by omega), List.getD_eq_getElem?_getD, List.getElem?_eq_getElem hj]
          rfl
        refine s_asg0 (ev_I0 (K := K) (ev_var rfl (.int (tc i f).1)) (ev_I (C := CMul) (g := fun i j => i * j) (ev_var rfl (.int (tc i (f + 1)).2)) (ev_ixL (ev_var rfl (dm_same dp9 g9.tr e10)) (ev_I0 (ev_var rfl (.int (1 + (i : Nat)))) (ev_var rfl (.int (1 + (f : Nat))))) hix) (.inl ⟨by omega, by omega⟩)) M H10 (Go.refl t10) _ fun v H11 e11 dv => ?_)
        cases dv
        exact ⟨⟨_, rfl⟩, ((eH8.trans e9).trans e10).trans e11, (g9.same e10).same e11⟩
      · rintro H7 σ' H8 e7 ⟨⟨o5, rfl⟩, eH8, g8⟩
        have en : (1 + (i : Nat) + 1 - 1 : Int).toNat = i + 1 := by omega
        have e58 : Same H5 H8 := (e6.trans e7).trans eH8
        have g58 := (Go.refl g5.tr).same e58
        refine s_app (K := K) (d := .int (FC.getD (i + 1) 0)) g58.tr rfl (e58 _ _ (e5 _ _ hpv)) (List.mem_cons_self ..) (Ev.is (ev_var rfl (.int _)) (by rw [en, te])) (by
          have := dvs5.length
          rw [List.length_map, List.length_take] at this
          omega) fun v H9 e9 t9 dv g9 => ⟨⟨_, _, _, _, vs ++ [v], rfl, upd_same, ?_⟩, same_upd hp0 (((eH.trans e5).trans e58).trans e9), (((g5.same e58).same e9)).trans g9⟩
        rw [fc_take hi, List.map_append]
        exact (dms_go dvs5 ((g58.same e9).trans g9)).append (.cons (dm_go dv g9) .nil)
    · rintro H3 σ' H4 e3 ⟨⟨o2, o3, o4, o5, vs, rfl, hpv, dvs⟩, eH, g4⟩
      have dvs : Dms K (p :: M) H4 vs (FC.map PyData.int) := dvs
      exact s_ret (K := K) (fun b hb => g4.tr b (List.mem_cons_of_mem _ hb)) (ev_ixL (ev_var rfl (dm_freeze pM hpv dvs)) (ev_var rfl (.int 6)) (atI_nat (j := 6) rfl)) fun v H5 e5 t5 dv => k v H5 (eH.trans e5) dv
end
end Own

namespace Own
open PySem PySem.Spec PyProof.Rows L2 Gd Dq
def rg (n : Nat) : List Int := (List.range n).map fun i => ((i : Nat) : Int)
theorem mem_rg {n : Nat} {k : Int} : k ∈ rg n ↔ 0 ≤ k ∧ k < n := by
  unfold rg
  rw [List.mem_map]
  constructor
  · rintro ⟨i, hi, rfl⟩
    have := List.mem_range.mp hi
    omega
  · rintro ⟨h1, h2⟩
    exact ⟨k.toNat, List.mem_range.mpr (by omega), by omega⟩
theorem pw_rg (n : Nat) : (rg n).Pairwise (· < ·) := List.pairwise_map.mpr (List.pairwise_lt_range.imp fun h => by omega)
theorem rg_len (n : Nat) : (rg n).length = n := by
  unfold rg
  rw [List.length_map, List.length_range]
theorem mem_rks {xs : List Int} {k : Int} : k ∈ rks xs ↔ 0 ≤ k ∧ k < ((lvl xs).length : Nat) := by
  constructor
  · intro h
    obtain ⟨x, hx, rfl⟩ := List.mem_map.mp h
    have : (lvl xs).idxOf x < (lvl xs).length := List.idxOf_lt_length_of_mem (mem_lvl.mpr hx)
    show 0 ≤ (((lvl xs).idxOf x : Nat) : Int) ∧ (((lvl xs).idxOf x : Nat) : Int) < _
    omega
  · rintro ⟨h1, h2⟩
    have hj : k.toNat < (lvl xs).length := by omega
    refine List.mem_map.mpr ⟨(lvl xs)[k.toNat], mem_lvl.mp (List.getElem_mem hj), ?_⟩
    show (((lvl xs).idxOf (lvl xs)[k.toNat] : Nat) : Int) = k
    have e : (lvl xs).idxOf (lvl xs)[k.toNat] = k.toNat := by
      have h3 : (lvl xs).idxOf (lvl xs)[k.toNat] < (lvl xs).length := List.idxOf_lt_length_of_mem (List.getElem_mem hj)
      have e1 : (lvl xs)[(lvl xs).idxOf (lvl xs)[k.toNat]] = (lvl xs)[k.toNat] := List.getElem_idxOf h3
      by_cases c : (lvl xs).idxOf (lvl xs)[k.toNat] < k.toNat
      · have := List.pairwise_iff_getElem.mp (pw_lvl xs) _ _ h3 hj c
        omega
      · by_cases c2 : k.toNat < (lvl xs).idxOf (lvl xs)[k.toNat]
        · have := List.pairwise_iff_getElem.mp (pw_lvl xs) _ _ hj h3 c2
          omega
        · omega
    rw [e]
    omega
theorem lvl_rks (xs : List Int) : lvl (rks xs) = rg (lvl xs).length := pw_eq (pw_lvl _) (pw_rg _) fun k => by rw [mem_lvl, mem_rks, mem_rg]
theorem lv_rks (xs : List Int) : (lvl (rks xs)).length = lv (rks xs) := by
  rw [lvl_rks, rg_len]
  obtain ⟨h1, h2⟩ := top_is (rks xs) (-1)
  have h1 : topI (rks xs) = -1 ∨ topI (rks xs) ∈ rks xs := h1
  have h2 : ∀ y ∈ rks xs, y ≤ topI (rks xs) := h2
  have hlv := lv_is (rks xs)
  have hu : topI (rks xs) < ((lvl xs).length : Nat) := by
    rcases h1 with h | h
    · omega
    · exact (mem_rks.mp h).2
  by_cases c : (lvl xs).length = 0
  · omega
  · have := h2 (((lvl xs).length - 1 : Nat) : Int) (mem_rks.mpr ⟨by omega, by omega⟩)
    omega
theorem bmp_lt (g x y : Int) : x < y ↔ bmp g x < bmp g y := by
  unfold bmp
  split <;> split <;> rename_i h1 h2 <;> simp only [decide_eq_true_iff] at h1 h2 <;> omega
theorem rks_map {f : Int → Int} (hf : ∀ x y, x < y ↔ f x < f y) (r : List Int) : rks (r.map f) = rks r := (rks_congr (by rw [List.length_map]) fun i j hi hj => by
  rw [List.getElem_map, List.getElem_map]
  exact hf _ _).symm
theorem rks_wid {r x : List Int} (h : x ∈ wid r) : rks (x.take r.length) = rks r := by
  rcases List.mem_append.mp h with h | h
  · obtain ⟨l, hl', rfl⟩ := List.mem_map.mp h
    rw [List.take_left' rfl]
  · obtain ⟨g, hg', rfl⟩ := List.mem_map.mp h
    unfold gapR
    rw [List.take_left' (by rw [List.length_map]), rks_map (bmp_lt _)]
theorem ix_rg {xs : List Int} {n : Nat} (h : n ≤ xs.length) : (rg n).map (ix xs) = xs.take n := by
  unfold rg
  rw [List.map_map]
  refine List.ext_getElem (by rw [List.length_map, List.length_range, List.length_take]; omega) fun i h1 h2 => ?_
  rw [List.length_map, List.length_range] at h1
  rw [List.getElem_map, List.getElem_range, List.getElem_take]
  exact ixn (by omega)
theorem rks_pick {xs ms : List Int} (h : ∀ m ∈ ms, 0 ≤ m ∧ m < ((List.length xs : Nat) : Int)) : rks (ms.map (ix (rks xs))) = rks (ms.map (ix xs)) := rks_congr (by rw [List.length_map, List.length_map]) fun i j hi hj => by
  rw [List.length_map] at hi hj
  rw [List.getElem_map, List.getElem_map, List.getElem_map, List.getElem_map]
  exact rks_lt (h _ (List.getElem_mem hi)) (h _ (List.getElem_mem hj))
theorem fitR {rows : List (List Int)} {L B : Nat} (h : ∀ r ∈ rows, r.length ≤ L ∧ ∀ x ∈ r, 0 ≤ x ∧ x ≤ 60) (hn : rows.length ≤ B) : Fit 2 (B * (L * 21 + 1)) (.list (rows.map dI)) :=
  (Fit.list (n := 1) (k := L * 21) fun d hd => by
    obtain ⟨r, hr, rfl⟩ := List.mem_map.mp hd
    obtain ⟨h1, h2⟩ := h r hr
    refine (Fit.tuple (n := 0) (k := 20) (ds := r.map PyData.int) fun d hd => ?_).mono (by omega) ?_
    · obtain ⟨x, hx, rfl⟩ := List.mem_map.mp hd
      have := h2 x hx
      exact Fit.nat (by omega) (by omega)
    · rw [List.length_map]
      exact Nat.mul_le_mul h1 (Nat.le_refl _)).mono (by omega) (by rw [List.length_map]; exact Nat.mul_le_mul hn (Nat.le_refl _))
theorem rg_at {L i : Nat} (h : i < (rg L).length) : (rg L)[i] = (i : Int) := by
  simp [rg]
theorem ord_of {x : List Int} {L : Nat} (h : ∀ k, k ∈ x ↔ 0 ≤ k ∧ k < (L : Int)) : rks x = x := by
  have e : lvl x = rg L := pw_eq (pw_lvl _) (pw_rg _) fun k => by rw [mem_lvl, h, mem_rg]
  unfold rks
  refine (List.map_congr_left fun y hy => ?_).trans (List.map_id _)
  have hy' := (h y).mp hy
  have hj : y.toNat < (rg L).length := by rw [rg_len]; omega
  show (((lvl x).idxOf y : Nat) : Int) = y
  rw [e]
  have h3 : (rg L).idxOf y < (rg L).length := List.idxOf_lt_length_of_mem (mem_rg.mpr hy')
  have e1 : (rg L)[(rg L).idxOf y] = y := List.getElem_idxOf h3
  have e2 := rg_at h3
  omega
theorem ord_mem {r : List Int} (h : rks r = r) (k : Int) : k ∈ r ↔ 0 ≤ k ∧ k < (lv r : Nat) := by
  have h1 := mem_rks (xs := r) (k := k)
  have h2 := lv_rks r
  rw [h] at h1 h2
  rw [h1, h2]
theorem ord_wid {r x : List Int} (h : rks r = r) (hx : x ∈ wid r) : rks x = x := by
  rcases List.mem_append.mp hx with hx | hx
  · obtain ⟨l, hl, rfl⟩ := List.mem_map.mp hx
    have hl := List.mem_range.mp hl
    refine ord_of (L := lv r) fun k => ?_
    rw [List.mem_append, List.mem_singleton, ord_mem h]
    omega
  · obtain ⟨g, hg, rfl⟩ := List.mem_map.mp hx
    have hg := List.mem_range.mp hg
    refine ord_of (L := lv r + 1) fun k => ?_
    unfold gapR
    rw [List.mem_append, List.mem_singleton, List.mem_map]
    constructor
    · rintro (⟨y, hy, rfl⟩ | rfl)
      · have := (ord_mem h y).mp hy
        unfold bmp
        split <;> omega
      · omega
    · intro hk
      by_cases c : k = (g : Nat)
      · exact .inr c
      · left
        by_cases c2 : k < (g : Nat)
        · refine ⟨k, (ord_mem h k).mpr ⟨by omega, by omega⟩, ?_⟩
          unfold bmp
          rw [if_neg (by rw [decide_eq_true_iff]; omega), Int.add_zero]
        · refine ⟨k - 1, (ord_mem h (k - 1)).mpr ⟨by omega, by omega⟩, ?_⟩
          unfold bmp
          rw [if_pos (decide_eq_true (by omega))]
          omega
theorem rws_ord : ∀ (k : Nat) (r : List Int), r ∈ rws k → rks r = r
  | 0, r, h => by
    rw [List.mem_singleton.mp h]
    rfl
  | k + 1, x, h => by
    obtain ⟨r, hr, hx⟩ := List.mem_flatMap.mp h
    exact ord_wid (rws_ord k r hr) ((srtL_perm _).mem_iff.mp hx)
/-! all orders of six -/
def z6 : List Int := [0, 0, 0, 0, 0, 0]
def d6 : List Int := [5, 4, 3, 2, 1, 0]
def chn : List (List Int) → Bool
  | a :: b :: r => ltL a b && chn (b :: r)
  | _ => true
def okWide (l : List (List Int)) : Bool := decide (l[0]? = some z6) && (decide (l[l.length - 1]? = some d6) && (chn l && (l.all (fun r => decide (rks r = r) && decide (r.length = 6)) && (decide (l.length = 4683) || decide (l.length = 2)))))
theorem wide2 : okWide [z6, d6] = true := by decide +kernel
theorem wid_nd {r : List Int} (h : rks r = r) : (wid r).Nodup := by
  unfold wid widA
  refine List.pairwise_append.mpr ⟨List.pairwise_map.mpr (List.pairwise_lt_range.imp fun {a b} hab e => ?_), List.pairwise_map.mpr (List.pairwise_lt_range.imp fun {a b} hab e => ?_), fun x hx y hy e => ?_⟩
  · have := (List.cons.inj (List.append_cancel_left e)).1
    omega
  · unfold gapR at e
    have := (List.cons.inj (List.append_inj' e rfl).2).1
    omega
  · obtain ⟨l, hl, rfl⟩ := List.mem_map.mp hx
    obtain ⟨g, hg, rfl⟩ := List.mem_map.mp hy
    have hl := List.mem_range.mp hl
    unfold gapR at e
    obtain ⟨e1, e2⟩ := List.append_inj' e rfl
    have e2 := (List.cons.inj e2).1
    have e3 := List.map_inj_left.mp (e1.symm.trans (List.map_id r).symm) ((g : Nat) : Int) ((ord_mem h _).mpr ⟨by omega, by omega⟩)
    unfold bmp at e3
    rw [if_pos (decide_eq_true (by omega))] at e3
    have e3 : ((g : Nat) : Int) + 1 = (g : Nat) := e3
    omega
theorem rws_nd : ∀ k, (rws k).Nodup
  | 0 => List.pairwise_singleton _ _
  | k + 1 => by
    refine List.pairwise_flatMap.mpr ⟨fun r hr => (srtL_perm _).nodup_iff.mpr (wid_nd (rws_ord k r hr)), List.Pairwise.imp_of_mem (fun {a b} ha hb hab x hx y hy e => hab ?_) (rws_nd k)⟩
    subst e
    have h1 := rks_wid ((srtL_perm _).mem_iff.mp hx)
    have h2 := rks_wid ((srtL_perm _).mem_iff.mp hy)
    rw [(rws_mem k a ha).1, rws_ord k a ha] at h1
    rw [(rws_mem k b hb).1, rws_ord k b hb] at h2
    exact h1.symm.trans h2
theorem ord_pw (k : Nat) : (ordP k).Pairwise fun a b => ltL a b = true := by
  have hn : (ordP k).Nodup := (srtL_perm _).nodup_iff.mpr (rws_nd k)
  refine ((srtL_pw (rws k)).and hn).imp fun {a b} ⟨h1, h2⟩ => ?_
  cases q : ltL a b with
  | true => rfl
  | false => exact absurd (ltL_an a b q (leL_no.mp h1)) h2
theorem chn_of : ∀ {l : List (List Int)}, (l.Pairwise fun a b => ltL a b = true) → chn l = true
  | [], _ => rfl
  | [_], _ => rfl
  | a :: b :: r, h => by
    obtain ⟨h1, h2⟩ := List.pairwise_cons.mp h
    unfold chn
    rw [h1 b (List.mem_cons_self ..), chn_of h2]
    rfl
theorem fnd6 : (decide ((fnd 6).length = 4683) && ((fnd 6).elem z6 && ((fnd 6).elem d6 && (fnd 6).all fun x => !ltL x z6 && !ltL d6 x))) = true := by decide +kernel
theorem wide6 : okWide (ordP 6) = true := by
  have h := fnd6
  rw [Bool.and_eq_true, Bool.and_eq_true, Bool.and_eq_true, decide_eq_true_iff, List.elem_iff, List.elem_iff] at h
  obtain ⟨h1, h2, h3, h4⟩ := h
  have pp : (ordP 6).Perm (fnd 6) := (srtL_perm _).trans (rws_perm 6)
  have pw := ord_pw 6
  have ml : (ordP 6).length = 4683 := pp.length_eq.trans h1
  have m1 := pp.mem_iff.mpr h2
  have m2 := pp.mem_iff.mpr h3
  have mm : ∀ x ∈ ordP 6, ltL x z6 = false ∧ ltL d6 x = false := fun x hx => by
    have := List.all_eq_true.mp h4 x (pp.mem_iff.mp hx)
    rw [Bool.and_eq_true, Bool.not_eq_true', Bool.not_eq_true'] at this
    exact this
  have mo : ∀ x ∈ ordP 6, rks x = x ∧ x.length = 6 := fun x hx => by
    have hr : x ∈ rws 6 := (srtL_perm _).mem_iff.mp hx
    exact ⟨rws_ord 6 x hr, (rws_mem 6 x hr).1⟩
  generalize ordP 6 = l at pw ml m1 m2 mm mo
  have a1 : l[0]? = some z6 := by
    obtain ⟨i, hi, e⟩ := List.getElem_of_mem m1
    rw [List.getElem?_eq_getElem (by omega)]
    by_cases c : i = 0
    · subst c
      rw [e]
    · have := List.pairwise_iff_getElem.mp pw 0 i (by omega) hi (by omega)
      rw [e, (mm _ (List.getElem_mem _)).1] at this
      cases this
  have a2 : l[l.length - 1]? = some d6 := by
    obtain ⟨i, hi, e⟩ := List.getElem_of_mem m2
    have hj : l.length - 1 < l.length := by omega
    rw [List.getElem?_eq_getElem hj]
    by_cases c : i = l.length - 1
    · subst c
      rw [e]
    · have := List.pairwise_iff_getElem.mp pw i (l.length - 1) hi hj (by omega)
      rw [e, (mm _ (List.getElem_mem hj)).2] at this
      cases this
  unfold okWide
  rw [a1, a2, chn_of pw, ml, decide_eq_true rfl, decide_eq_true rfl, decide_eq_true rfl, Bool.true_and, Bool.true_and, Bool.true_and, Bool.true_or, Bool.and_true, List.all_eq_true]
  intro r hr
  rw [decide_eq_true (mo r hr).1, decide_eq_true (mo r hr).2]
  rfl
theorem chn_at : ∀ {l : List (List Int)} {i : Nat} {a b : List Int}, chn l = true → l[i]? = some a → l[i + 1]? = some b → ltL a b = true
  | [], _, _, _, _, h, _ => by cases h
  | [_], 0, _, _, _, _, h => by cases h
  | [_], i + 1, _, _, _, h, _ => by cases h
  | a :: b :: r, 0, _, _, h, h1, h2 => by
    cases h1
    cases h2
    unfold chn at h
    rw [Bool.and_eq_true] at h
    exact h.1
  | a :: b :: r, i + 1, _, _, h, h1, h2 => by
    unfold chn at h
    rw [Bool.and_eq_true] at h
    exact chn_at (l := b :: r) h.2 h1 h2
theorem at_last {ds : List PyData} {d : PyData} (h : ds[ds.length - 1]? = some d) : L2.atI ds (-1) = some d := by
  have hl : 0 < ds.length := by
    cases ds with
    | nil => cases h
    | cons a l => exact Nat.succ_pos _
  unfold L2.atI L2.ixN
  rw [if_neg (by omega), if_pos (by omega)]
  show ds[_]? = some d
  rw [← h]
  congr 1
  omega
end Own

namespace Own
open PySem PySem.Spec PyProof.Rows L2 Gd Dq
theorem ord_fit {rows : List (List Int)} {m : Nat} (hm : m ≤ 5) (h : rows.Perm (fnd m)) : Fit 2 (541 * (5 * 21 + 1)) (.list (rows.map dI)) := fitR (fun r hr => by
  obtain ⟨h1, h2⟩ := fnd_mem m r (h.mem_iff.mp hr)
  exact ⟨by omega, fun x hx => by have := h2 x hx; omega⟩) (by rw [h.length_eq]; exact (fnd_len hm).1)
theorem wid_fit {rows : List (List Int)} {r : List Int} {m : Nat} (hm : m ≤ 30) (hl : r.length = m) (hb : ∀ y ∈ r, 0 ≤ y ∧ y < (m : Int)) (h : rows.Perm (wid r)) : Fit 2 (61 * (31 * 21 + 1)) (.list (rows.map dI)) := fitR (fun x hx => by
  obtain ⟨h1, h2⟩ := wid_mem hl hb (h.mem_iff.mp hx)
  exact ⟨by omega, fun y hy => by have := h2 y hy; omega⟩) (by rw [h.length_eq, wid_len]; have := lv_le hb; omega)
theorem rks_in {xs : List Int} : ∀ y ∈ rks xs, 0 ≤ y ∧ y < ((xs.length : Nat) : Int) := fun y hy => by
  have := mem_rks.mp hy
  have := lvl_len xs
  omega
theorem okWide_is {l : List (List Int)} (h : okWide l = true) : l[0]? = some z6 ∧ l[l.length - 1]? = some d6 ∧ chn l = true ∧ (∀ r ∈ l, rks r = r ∧ r.length = 6) ∧ (l.length = 4683 ∨ l.length = 2) := by
  unfold okWide at h
  rw [Bool.and_eq_true, Bool.and_eq_true, Bool.and_eq_true, Bool.and_eq_true, Bool.or_eq_true, decide_eq_true_iff, decide_eq_true_iff, decide_eq_true_iff, decide_eq_true_iff] at h
  obtain ⟨h1, h2, h3, h4, h5⟩ := h
  exact ⟨h1, h2, h3, fun r hr => by
    have := List.all_eq_true.mp h4 r hr
    rw [Bool.and_eq_true, decide_eq_true_iff, decide_eq_true_iff] at this
    exact this, h5⟩
theorem cut_one {ds : List PyData} (h : 1 ≤ ds.length) : cutPd ds (some ((1 : Nat) : Int)) none = ds.drop 1 := by
  unfold cutPd
  have e : HT.sIx ds.length 0 (some ((1 : Nat) : Int)) = 1 := by
    rw [HT.sIx_nat]
    omega
  rw [e, HT.sIx_none, List.take_of_length_le]
  rw [List.length_drop]
  omega
def dueD : List PyData := [.list (([[0, 0], [0, 1], [1, 0]] : List (List Int)).map dI), .list (([[0, 0], [0, 1], [1, 0]] : List (List Int)).map dI), .list (([[0]] : List (List Int)).map dI), dI [2, 0], dI [1, 0], .list (([[]] : List (List Int)).map dI)]
theorem fin_o2 : ordP 2 = [[0, 0], [0, 1], [1, 0]] := by decide +kernel
theorem fin_w0 : srtL (wid [0]) = [[0, 0], [0, 1], [1, 0]] := by decide +kernel
theorem fin_w1 : srtL (wid []) = [[0]] := by decide +kernel
theorem fin_o0 : ordP 0 = [[]] := by decide +kernel
theorem fin_l1 : ([3, 1] : List Int).map (ix [1, 0, 1, 2]) = [2, 0] := by decide +kernel
theorem fin_l2 : rks ([2, 0] : List Int) = [1, 0] := by decide +kernel
theorem fitDue : Fit 3 (6 * (6120 + 1)) (.list dueD) := Fit.list (n := 2) (k := 6120) (ds := dueD) fun d hd => by
  have r3 : ∀ rows : List (List Int), (∀ r ∈ rows, r.length ≤ 2 ∧ ∀ x ∈ r, 0 ≤ x ∧ x ≤ 60) → rows.length ≤ 3 → Fit 2 6120 (.list (rows.map dI)) := fun rows h1 h2 => (fitR h1 h2).mono (by decide) (by decide)
  have r1 : ∀ r : List Int, (∀ x ∈ r, -(10 ^ 30) ≤ x ∧ x ≤ 10 ^ 30) → r.length ≤ 60 → Fit 2 6120 (dI r) := fun r h1 h2 => (fitI h1 h2).mono (by decide) (by decide)
  unfold dueD at hd
  simp only [List.mem_cons, List.not_mem_nil, or_false] at hd
  rcases hd with rfl | rfl | rfl | rfl | rfl | rfl
  · exact r3 _ (by decide) (by decide)
  · exact r3 _ (by decide) (by decide)
  · exact r3 _ (by decide) (by decide)
  · exact r1 _ (by decide) (by decide)
  · exact r1 _ (by decide) (by decide)
  · exact r3 _ (by decide) (by decide)
section
variable {P : Program} {w : World} {K : PySem.W.Frag} {mg : Str → Option Value} {base : Heap} {A : Ads}
theorem dr_callP {M : List Addr} {s c : Addr} {σ : S} {H : Hp} {as : TA} {P : PyData → Prop} {PL : List PyData → Prop} {n : Nat} {R : List PyData → PyData → Prop} {E : XK} (hs : s ∈ M) (hc : c ∈ M) (h : Dra K s c M as σ H PL) (hl : ∀ ds, PL ds → ds.length = n ∧ ∃ d, R ds d ∧ P d) :
    Dr K s c M (tCall (spPure K n R) [] E as) σ H P := fun M2 H1 g hS Q q =>
  h M2 H1 g hS _ fun vs ds H2 k2 S2 d2 p2 => by
    rw [List.append_nil]
    obtain ⟨h1, d, r, p⟩ := hl ds p2
    exact ⟨M2, ds, d, (go_k hs hc g k2 S2).tr, d2, h1, r, fun v H3 e3 d3 => q v d H3 (k2.trans (Kp.of e3)) (S2.same e3) d3 p⟩
theorem tnx {u r b c σ H} (h : u σ H) : tNext ⟨u, r, b, c⟩ σ H := h
theorem G_law (T : Tp K mg A) : FnG P w K mg base 4 A.a_law A.d_law ["script"] (spLaw K) := by
  refine fn_ofG T.F_law sc_law (fun vs H Q E h => ?_) (fun cdv A outer s0 H vs Q E hg hr h => ?_)
  · obtain ⟨a, ns, rfl, _⟩ := h
    rfl
  · obtain ⟨a0, ns, rfl, hS, hl, k⟩ := h
    refine ⟨_, (pss_cons (ps_set (i := 1) sc_law.nd rfl (Or.inl rfl) (pe_callG (FnG.mono (G_lw_source T) (by decide)) hg hr (by rfl) T.g_lw_source T.F_lw_source.kp T.b_lw_source .nil (pa_cons (pv 0) pa_nil)))
      (pss_cons (ps_set (i := 2) sc_law.nd rfl (Or.inl rfl) (pe_callG (FnG.mono (G_lw_pick T) (by decide)) hg hr (by rfl) T.g_lw_pick T.F_lw_pick.kp T.b_lw_pick .nil (pa_cons (pv 1) (pa_cons pe_int pa_nil))))
      (pss_cons (ps_for PassesOwn.never rfl (pi_tup_k (K := K) rfl (pe_tup (pa_cons (pv 2) (pa_cons pe_int pa_nil)))) (pg_name (i := 3) sc_law.nd rfl (Or.inr rfl))
      (pss_cons (ps_par (i := 4) (j := 5) rfl sc_law.nd rfl rfl (by decide) rfl rfl (pa_cons (pe_callG (FnG.mono (G_lw_orders T) (by decide)) hg hr (by rfl) T.g_lw_orders T.F_lw_orders.kp T.b_lw_orders .nil (pa_cons (pv 3) pa_nil)) (pa_cons (pe_callG (FnG.mono (G_orders T) (by decide)) hg hr (by rfl) T.g_orders T.F_orders.kp T.b_orders .nil (pa_cons (pv 3) pa_nil)) pa_nil)) (by rfl))
      (pss_cons (ps_if (pt_cmpR op_ne (pe_callB (call_reprZ_k (K := K) rfl hg hr.units) (by rfl) T.z_repr (by decide +kernel) (pa_cons (pv 5) pa_nil)) (pe_callB (call_reprZ_k (K := K) rfl hg hr.units) (by rfl) T.z_repr (by decide +kernel) (pa_cons (pv 4) pa_nil)) (nomark _))
      (pss_one (ps_ret pe_bl))
      pss_nil)
      (pss_cons (ps_expr (pe_k (K := K) (f := fun K => tBM K "list" _ _ _) rfl (pe_bm PySem.F.plainAttrs_list PySem.F.slot_list_append PySem.F.type_list_append mt_append (pv 5) (pa_cons pe_non pa_nil))))
      (pss_one (ps_if (pt_cmpR op_ne (pe_callB (call_reprZ_k (K := K) rfl hg hr.units) (by rfl) T.z_repr (by decide +kernel) (pa_cons (pe_callG (FnG.mono (G_orders T) (by decide)) hg hr (by rfl) T.g_orders T.F_orders.kp T.b_orders .nil (pa_cons (pv 3) pa_nil)) pa_nil)) (pe_callB (call_reprZ_k (K := K) rfl hg hr.units) (by rfl) T.z_repr (by decide +kernel) (pa_cons (pv 4) pa_nil)) (nomark _))
      (pss_one (ps_ret pe_bl))
      pss_nil))))))
      (pss_cons (ps_for PassesOwn.never rfl (pi_range1 (by rfl) T.z_range (pa_cons pe_int pa_nil)) (pg_name (i := 6) sc_law.nd rfl (Or.inl rfl))
      (pss_cons (ps_set (i := 3) sc_law.nd rfl (Or.inr rfl) (pe_callG (FnG.mono (G_lw_pick T) (by decide)) hg hr (by rfl) T.g_lw_pick T.F_lw_pick.kp T.b_lw_pick .nil (pa_cons (pv 1) (pa_cons (pe_callG (FnG.mono (G_lw_of T) (by decide)) hg hr (by rfl) T.g_lw_of T.F_lw_of.kp T.b_lw_of .nil (pa_cons (pv 1) (pa_cons (pe_lst (pa_cons pe_int (pa_cons pe_int (pa_cons pe_int pa_nil)))) pa_nil))) pa_nil))))
      (pss_cons (ps_set (i := 7) sc_law.nd rfl (Or.inr rfl) (pe_callG (FnG.mono (G_lw_order_of T) (by decide)) hg hr (by rfl) T.g_lw_order_of T.F_lw_order_of.kp T.b_lw_order_of .nil (pa_cons (pe_callG (FnG.mono (G_lw_draw_placing T) (by decide)) hg hr (by rfl) T.g_lw_draw_placing T.F_lw_draw_placing.kp T.b_lw_draw_placing .nil (pa_cons (pv 1) (pa_cons (pv 3) pa_nil))) pa_nil)))
      (pss_cons (ps_par (i := 8) (j := 4) rfl sc_law.nd rfl rfl (by decide) rfl rfl (pa_cons (pe_callB (call_lenO (w := w) rfl) (by rfl) T.z_len (by decide +kernel) (pa_cons (pe_callTy (cr_setI (K := K) (w := w) rfl rfl rfl) (by rfl) T.z_set (by decide +kernel) (pa_cons (pv 7) pa_nil)) pa_nil)) (pa_cons (pe_lst pa_nil) pa_nil)) (by rfl))
      (pss_cons (ps_for PassesOwn.never rfl (pi_range1 (by rfl) T.z_range (pa_cons (pv 8) pa_nil)) (pg_name (i := 9) sc_law.nd rfl (Or.inl rfl))
      (pss_one (ps_expr (pe_k (K := K) (f := fun K => tBM K "list" _ _ _) rfl (pe_bm PySem.F.plainAttrs_list PySem.F.slot_list_append PySem.F.type_list_append mt_append (pv 4) (pa_cons (pe_op (op_catT_k (K := K) rfl) (pv 7) (pe_tup (pa_cons (pv 9) pa_nil))) pa_nil))))))
      (pss_cons (ps_for PassesOwn.never rfl (pi_range1 (by rfl) T.z_range (pa_cons (pe_op op_add (pv 8) pe_int) pa_nil)) (pg_name (i := 10) sc_law.nd rfl (Or.inr rfl))
      (pss_one (ps_expr (pe_k (K := K) (f := fun K => tBM K "list" _ _ _) rfl (pe_bm PySem.F.plainAttrs_list PySem.F.slot_list_append PySem.F.type_list_append mt_append (pv 4) (pa_cons (pe_op (op_catT_k (K := K) rfl) (pe_callTy (call_tup_k (K := K) rfl) (by rfl) T.z_tuple (by decide +kernel) (pa_cons (pe_lc (own := [("one", 17)]) (g := gName 17) (tt := tYes) rfl sc_law.nd (pi_tup_k (K := K) rfl (pv 7)) (blkOk_by (N := ["script", "source", "n", "many", "due", "told", "lap", "order", "levels", "level", "gap", "kept", "placing", "moments", "some", "wide", "odd", "one", "moment", "a", "b"]) (sc := defScope s_law) (by decide +kernel)) (fun _ _ _ _ _ => (pg_name (i := 17) sc_law.nd rfl (Or.inl rfl))) (fun _ _ _ _ _ => pts_nil) (fun _ _ _ _ _ => (pe_op op_add (pv 17) (pe_callTy call_int1 (by rfl) T.z_int (by decide +kernel) (pa_cons (pe_cmpR op_ge (pv 17) (pv 10) (nomark _)) pa_nil))))) pa_nil)) (pe_tup (pa_cons (pv 10) pa_nil))) pa_nil))))))
      (pss_cons (ps_par (i := 11) (j := 5) rfl sc_law.nd rfl rfl (by decide) rfl rfl (pa_cons (pe_callB (call_reprZ_k (K := K) rfl hg hr.units) (by rfl) T.z_repr (by decide +kernel) (pa_cons (pv 7) pa_nil)) (pa_cons (pe_callG (FnG.mono (G_spreads T) (by decide)) hg hr (by rfl) T.g_spreads T.F_spreads.kp T.b_spreads .nil (pa_cons (pv 7) pa_nil)) pa_nil)) (by rfl))
      (pss_cons (ps_if (PW.pt (pw_or (pt_cmpR op_ne (pe_callB (call_reprZ_k (K := K) rfl hg hr.units) (by rfl) T.z_repr (by decide +kernel) (pa_cons (pv 5) pa_nil)) (pe_callB (call_reprZ_k (K := K) rfl hg hr.units) (by rfl) T.z_repr (by decide +kernel) (pa_cons (pe_callB (cr_sortedL (K := K) rfl hr.units65) (by rfl) T.z_sorted (by decide +kernel) (pa_cons (pv 4) pa_nil)) pa_nil)) (nomark _)) (pw_or (pt_cmpR (op_ne_k (K := K) rfl hr.units) (pe_callB (call_len_k (K := K) rfl) (by rfl) T.z_len (by decide +kernel) (pa_cons (pv 5) pa_nil)) (pe_op op_add (pe_op op_mul pe_int (pv 8)) pe_int) (nomark _)) (pw_or1 (pt_cmpR op_ne (pe_callB (call_reprZ_k (K := K) rfl hg hr.units) (by rfl) T.z_repr (by decide +kernel) (pa_cons (pv 7) pa_nil)) (pv 11) (nomark _))))))
      (pss_one (ps_ret pe_bl))
      pss_nil)
      (pss_cons (ps_expr (pe_k (K := K) (f := fun K => tBM K "list" _ _ _) rfl (pe_bm PySem.F.plainAttrs_list PySem.F.slot_list_append PySem.F.type_list_append mt_append (pv 5) (pa_cons pe_non pa_nil))))
      (pss_cons (ps_if (pt_cmpR op_ne (pe_callB (call_reprZ_k (K := K) rfl hg hr.units) (by rfl) T.z_repr (by decide +kernel) (pa_cons (pe_callG (FnG.mono (G_spreads T) (by decide)) hg hr (by rfl) T.g_spreads T.F_spreads.kp T.b_spreads .nil (pa_cons (pv 7) pa_nil)) pa_nil)) (pe_callB (call_reprZ_k (K := K) rfl hg hr.units) (by rfl) T.z_repr (by decide +kernel) (pa_cons (pe_callB (cr_sortedL (K := K) rfl hr.units65) (by rfl) T.z_sorted (by decide +kernel) (pa_cons (pv 4) pa_nil)) pa_nil)) (nomark _))
      (pss_one (ps_ret pe_bl))
      pss_nil)
      (pss_cons (ps_if (pt_cmpR (op_ne_k (K := K) rfl hr.units) (pe_lc (own := [("one", 17)]) (g := gName 17) rfl sc_law.nd (pi_list_k (K := K) rfl (pv 4)) (blkOk_by (N := ["script", "source", "n", "many", "due", "told", "lap", "order", "levels", "level", "gap", "kept", "placing", "moments", "some", "wide", "odd", "one", "moment", "a", "b"]) (sc := defScope s_law) (by decide +kernel)) (fun _ _ _ _ _ => (pg_name (i := 17) sc_law.nd rfl (Or.inl rfl))) (fun _ _ _ _ _ => (pts_one (pt_cmpR (op_ne_k (K := K) rfl hr.units) (pe_callG (FnG.mono (G_left_order T) (by decide)) hg hr (by rfl) T.g_left_order T.F_left_order.kp T.b_left_order .nil (pa_cons (pv 17) (pa_cons (pe_callTy (call_tup_k (K := K) rfl) (by rfl) T.z_tuple (by decide +kernel) (pa_cons (pe_listRg rfl (by rfl) T.z_list (prg_1 (by rfl) T.z_range (pv 3))) pa_nil)) pa_nil))) (pv 7) (nomark _)))) (fun _ _ _ _ _ => (pv 17))) (pe_lst pa_nil) (nomark _))
      (pss_one (ps_ret pe_bl))
      pss_nil)
      (pss_cons (ps_set (i := 12) sc_law.nd rfl (Or.inr rfl) (pe_callG (FnG.mono (G_lw_draw_placing T) (by decide)) hg hr (by rfl) T.g_lw_draw_placing T.F_lw_draw_placing.kp T.b_lw_draw_placing .nil (pa_cons (pv 1) (pa_cons (pv 3) pa_nil))))
      (pss_cons (ps_set (i := 13) sc_law.nd rfl (Or.inl rfl) (pe_callTy (call_tup_k (K := K) rfl) (by rfl) T.z_tuple (by decide +kernel) (pa_cons (pe_slice (sl_list_k (K := K) rfl) (pe_callG (FnG.mono (G_lw_mixed T) (by decide)) hg hr (by rfl) T.g_lw_mixed T.F_lw_mixed.kp T.b_lw_mixed .nil (pa_cons (pv 1) (pa_cons (pe_listRg rfl (by rfl) T.z_list (prg_1 (by rfl) T.z_range (pv 3))) pa_nil))) po_none (po_some (pe_callG (FnG.mono (G_lw_pick T) (by decide)) hg hr (by rfl) T.g_lw_pick T.F_lw_pick.kp T.b_lw_pick .nil (pa_cons (pv 1) (pa_cons (pe_op op_add (pv 3) pe_int) pa_nil))))) pa_nil)))
      (pss_cons (ps_set (i := 14) sc_law.nd rfl (Or.inl rfl) (pe_callTy (call_tup_k (K := K) rfl) (by rfl) T.z_tuple (by decide +kernel) (pa_cons (pe_lc (own := [("moment", 18)]) (g := gName 18) (tt := tYes) rfl sc_law.nd (pi_tup_k (K := K) rfl (pv 13)) (blkOk_by (N := ["script", "source", "n", "many", "due", "told", "lap", "order", "levels", "level", "gap", "kept", "placing", "moments", "some", "wide", "odd", "one", "moment", "a", "b"]) (sc := defScope s_law) (by decide +kernel)) (fun _ _ _ _ _ => (pg_name (i := 18) sc_law.nd rfl (Or.inl rfl))) (fun _ _ _ _ _ => pts_nil) (fun _ _ _ _ _ => (pe_ix (ix_tup_k (K := K) rfl) (pv 12) (pv 18) (fun _ _ => rfl)))) pa_nil)))
      (pss_cons (ps_set (i := 5) sc_law.nd rfl (Or.inl rfl) (pe_lst (pa_cons (pe_callG (FnG.mono (G_left_of T) (by decide)) hg hr (by rfl) T.g_left_of T.F_left_of.kp T.b_left_of .nil (pa_cons (pv 12) (pa_cons (pv 13) pa_nil))) (pa_cons (pe_callG (FnG.mono (G_left_order T) (by decide)) hg hr (by rfl) T.g_left_order T.F_left_order.kp T.b_left_order .nil (pa_cons (pe_callG (FnG.mono (G_order_of T) (by decide)) hg hr (by rfl) T.g_order_of T.F_order_of.kp T.b_order_of .nil (pa_cons (pv 12) pa_nil)) (pa_cons (pv 13) pa_nil))) pa_nil))))
      (pss_one (ps_if (pt_cmpR op_ne (pe_callB (call_reprZ_k (K := K) rfl hg hr.units) (by rfl) T.z_repr (by decide +kernel) (pa_cons (pv 5) pa_nil)) (pe_callB (call_reprZ_k (K := K) rfl hg hr.units) (by rfl) T.z_repr (by decide +kernel) (pa_cons (pe_lst (pa_cons (pv 14) (pa_cons (pe_callG (FnG.mono (G_lw_order_of T) (by decide)) hg hr (by rfl) T.g_lw_order_of T.F_lw_order_of.kp T.b_lw_order_of .nil (pa_cons (pv 14) pa_nil)) pa_nil))) pa_nil)) (nomark _))
      (pss_one (ps_ret pe_bl))
      pss_nil)))))))))))))))))
      (pss_cons (ps_set (i := 15) sc_law.nd rfl (Or.inl rfl) (pe_ifExp (pt_cmpR (op_eq_k (K := K) rfl hr.units) (pe_callG (FnG.mono (G_lw_pick T) (by decide)) hg hr (by rfl) T.g_lw_pick T.F_lw_pick.kp T.b_lw_pick .nil (pa_cons (pv 1) (pa_cons pe_int pa_nil))) pe_int (nomark _)) (pe_callG (FnG.mono (G_orders T) (by decide)) hg hr (by rfl) T.g_orders T.F_orders.kp T.b_orders .nil (pa_cons pe_int pa_nil)) (pe_lst (pa_cons (pe_op (op_repT_k (K := K) rfl) (pe_tup (pa_cons pe_int pa_nil)) pe_int) (pa_cons (pe_tup (pa_cons pe_int (pa_cons pe_int (pa_cons pe_int (pa_cons pe_int (pa_cons pe_int (pa_cons pe_int pa_nil))))))) pa_nil)))))
      (pss_cons (ps_if (PW.pt (pw_or (pt_cmpR (op_ne_k (K := K) rfl hr.units) (pe_ix (ix_list_k (K := K) rfl) (pv 15) pe_int (fun _ _ => rfl)) (pe_op (op_repT_k (K := K) rfl) (pe_tup (pa_cons pe_int pa_nil)) pe_int) (nomark _)) (pw_or (pt_cmpR (op_ne_k (K := K) rfl hr.units) (pe_ix (ix_list_k (K := K) rfl) (pv 15) (pe_un un_neg pe_int) (fun _ _ => rfl)) (pe_tup (pa_cons pe_int (pa_cons pe_int (pa_cons pe_int (pa_cons pe_int (pa_cons pe_int (pa_cons pe_int pa_nil))))))) (nomark _)) (pw_or1 (pt_cmpR (op_ne_k (K := K) rfl hr.units) (pe_lc (own := [("a", 19), ("b", 20)]) (g := gTup K 2 (gCons (gName 19) (gCons (gName 20) (gNil)))) rfl sc_law.nd (pi_k (K := K) (f := fun K => iZip K _) rfl (pi_zip (by rfl) T.z_zip (pa_cons (pv 15) (pa_cons (pe_slice (sl_list_k (K := K) rfl) (pv 15) (po_some pe_int) po_none) pa_nil)))) (blkOk_by (N := ["script", "source", "n", "many", "due", "told", "lap", "order", "levels", "level", "gap", "kept", "placing", "moments", "some", "wide", "odd", "one", "moment", "a", "b"]) (sc := defScope s_law) (by decide +kernel)) (fun _ _ _ _ _ => (pg_tup rfl (pgs_cons (pg_name (i := 19) sc_law.nd rfl (Or.inl rfl)) (pgs_cons (pg_name (i := 20) sc_law.nd rfl (Or.inl rfl)) pgs_nil)))) (fun _ _ _ _ _ => (pts_one (pt_cmpR (op_geL (K := K) rfl hr.units65) (pv 19) (pv 20) (nomark _)))) (fun _ _ _ _ _ => pe_int)) (pe_lst pa_nil) (nomark _))))))
      (pss_one (ps_ret pe_bl))
      pss_nil)
      (pss_cons (ps_setLc (i := 16) (own := [("one", 17)]) (g := gName 17) rfl sc_law.nd rfl rfl (sw_true rfl rfl rfl (by decide +kernel)) (pi_list_k (K := K) rfl (pv 15)) (blkOk_by (N := ["script", "source", "n", "many", "due", "told", "lap", "order", "levels", "level", "gap", "kept", "placing", "moments", "some", "wide", "odd", "one", "moment", "a", "b"]) (sc := defScope s_law) (by decide +kernel)) (fun _ _ _ _ _ => (pg_name (i := 17) sc_law.nd rfl (Or.inl rfl))) (fun _ _ _ _ _ => (pts_one (PW.pt (pw_or (pt_cmpR (op_ne_k (K := K) rfl hr.units) (pe_callG (FnG.mono (G_lw_order_of T) (by decide)) hg hr (by rfl) T.g_lw_order_of T.F_lw_order_of.kp T.b_lw_order_of .nil (pa_cons (pv 17) pa_nil)) (pv 17) (nomark _)) (pw_or1 (pt_cmpR (op_ne_k (K := K) rfl hr.units) (pe_callB (call_len_k (K := K) rfl) (by rfl) T.z_len (by decide +kernel) (pa_cons (pv 17) pa_nil)) pe_int (nomark _))))))) (fun _ _ _ _ _ => (pv 17)))
      (pss_cons (ps_if (PW.pt (pw_and (pt_cmpR op_gt (pe_callB (call_len_k (K := K) rfl) (by rfl) T.z_len (by decide +kernel) (pa_cons (pv 15) pa_nil)) pe_int (nomark _)) (pw_and1 (PW.pt (pw_or (pt_cmpR (op_ne_k (K := K) rfl hr.units) (pe_callB (call_len_k (K := K) rfl) (by rfl) T.z_len (by decide +kernel) (pa_cons (pv 15) pa_nil)) (pe_callG (FnG.mono (G_lw_count T) (by decide)) hg hr (by rfl) T.g_lw_count T.F_lw_count.kp T.b_lw_count .nil (pa_cons pe_int pa_nil)) (nomark _)) (pw_or1 (pt_cmpR (op_ne_k (K := K) rfl hr.units) (pv 16) (pe_lst pa_nil) (nomark _))))))))
      (pss_one (ps_ret pe_bl))
      pss_nil)
      (pss_cons (ps_set (i := 5) sc_law.nd rfl (Or.inl rfl) (pe_lst (pa_cons (pe_callG (FnG.mono (G_orders T) (by decide)) hg hr (by rfl) T.g_orders T.F_orders.kp T.b_orders .nil (pa_cons pe_int pa_nil)) (pa_cons (pe_callG (FnG.mono (G_spreads T) (by decide)) hg hr (by rfl) T.g_spreads T.F_spreads.kp T.b_spreads .nil (pa_cons (pe_tup (pa_cons pe_int pa_nil)) pa_nil)) (pa_cons (pe_callG (FnG.mono (G_spreads T) (by decide)) hg hr (by rfl) T.g_spreads T.F_spreads.kp T.b_spreads .nil (pa_cons (pe_tup pa_nil) pa_nil)) (pa_cons (pe_callG (FnG.mono (G_left_of T) (by decide)) hg hr (by rfl) T.g_left_of T.F_left_of.kp T.b_left_of .nil (pa_cons (pe_tup (pa_cons pe_int (pa_cons pe_int (pa_cons pe_int (pa_cons pe_int pa_nil))))) (pa_cons (pe_tup (pa_cons pe_int (pa_cons pe_int pa_nil))) pa_nil))) (pa_cons (pe_callG (FnG.mono (G_left_order T) (by decide)) hg hr (by rfl) T.g_left_order T.F_left_order.kp T.b_left_order .nil (pa_cons (pe_tup (pa_cons pe_int (pa_cons pe_int (pa_cons pe_int (pa_cons pe_int pa_nil))))) (pa_cons (pe_tup (pa_cons pe_int (pa_cons pe_int pa_nil))) pa_nil))) pa_nil)))))))
      (pss_cons (ps_expr (pe_k (K := K) (f := fun K => tBM K "list" _ _ _) rfl (pe_bm PySem.F.plainAttrs_list PySem.F.slot_list_append PySem.F.type_list_append mt_append (pv 5) (pa_cons (pe_callG (FnG.mono (G_orders T) (by decide)) hg hr (by rfl) T.g_orders T.F_orders.kp T.b_orders .nil (pa_cons pe_int pa_nil)) pa_nil))))
      (pss_cons (ps_set (i := 4) sc_law.nd rfl (Or.inl rfl) (pe_lst (pa_cons (pe_lst (pa_cons (pe_tup (pa_cons pe_int (pa_cons pe_int pa_nil))) (pa_cons (pe_tup (pa_cons pe_int (pa_cons pe_int pa_nil))) (pa_cons (pe_tup (pa_cons pe_int (pa_cons pe_int pa_nil))) pa_nil)))) (pa_cons (pe_lst (pa_cons (pe_tup (pa_cons pe_int (pa_cons pe_int pa_nil))) (pa_cons (pe_tup (pa_cons pe_int (pa_cons pe_int pa_nil))) (pa_cons (pe_tup (pa_cons pe_int (pa_cons pe_int pa_nil))) pa_nil)))) (pa_cons (pe_lst (pa_cons (pe_tup (pa_cons pe_int pa_nil)) pa_nil)) (pa_cons (pe_tup (pa_cons pe_int (pa_cons pe_int pa_nil))) (pa_cons (pe_tup (pa_cons pe_int (pa_cons pe_int pa_nil))) (pa_cons (pe_lst (pa_cons (pe_tup pa_nil) pa_nil)) pa_nil))))))))
      (pss_one (ps_ret (pe_cmpR op_eq (pe_callB (call_reprZ_k (K := K) rfl hg hr.units) (by rfl) T.z_repr (by decide +kernel) (pa_cons (pv 5) pa_nil)) (pe_callB (call_reprZ_k (K := K) rfl hg hr.units) (by rfl) T.z_repr (by decide +kernel) (pa_cons (pv 4) pa_nil)) (nomark _))))))))))))))), ?_⟩
    refine q_asg0 ⟨.ref a0, rfl, a0, ns, rfl, hS, hl, fun s c H1 e1 hs0 hc0 S1 => ?_⟩
    have tr1 : Tr [s, c] H1 := fun b hb => by
      simp only [List.mem_cons, List.not_mem_nil, or_false] at hb
      rcases hb with rfl | rfl
      · exact S1.nn.1
      · exact S1.nn.2
    have hsM : s ∈ [s, c] := List.mem_cons_self ..
    have hcM : c ∈ [s, c] := List.mem_cons_of_mem _ (List.mem_cons_self ..)
    refine d_asg (K := K) (P := fun d => ∃ n : Nat, d = .int (n : Nat) ∧ n ≤ 5) hsM hcM tr1 S1 (Dr.imp (dr_call (n := 1) (i := 1) hsM hcM rfl (ea_cons ev_int ea_nil) rfl ⟨6, rfl, by decide⟩) fun d hd => ?_) fun vn d H2 k2 S2 go2 dn hd => ?_
    · obtain ⟨m, r, q0, rfl, hr0, hr1⟩ := hd
      cases q0
      have e8 : mx 6 = 6 := rfl
      rw [e8] at hr1
      exact ⟨r.toNat, by rw [Int.toNat_of_nonneg hr0], by omega⟩
    obtain ⟨n, rfl, hn5⟩ := hd
    cases dn
    have wk2 := wk_tup (K := K) (M := [s, c]) (H := H2) (σ := [some (.ref a0), some (.ref s), some (.int (n : Nat)), none, none, none, none, none, none, none, none, none, none, none, none, none, none, none, none, none, none]) (te := tTup (tCons (tVar 2) (tCons (tC (.int 3)) tNil))) (ds := [.int (n : Nat), .int 3]) (ev_tup (ea_cons (ev_var rfl (.int (n : Nat))) (ea_cons ev_int ea_nil)) (sz 2))
    refine q_for (K := K) go2.tr wk2 (fun H3 i σ' H' => (∃ o3 o4 o5 o6 o7 o8 o9 o10 o11 o12 o13 o14 o15 o16 o17 o18 o19 o20, σ' = [some (.ref a0), some (.ref s), some (.int (n : Nat)), o3, o4, o5, o6, o7, o8, o9, o10, o11, o12, o13, o14, o15, o16, o17, o18, o19, o20]) ∧ Src s c H' ∧ Go [s, c] H3 [s, c] H')
      (fun H3 e3 t3 => ⟨⟨_, _, _, _, _, _, _, _, _, _, _, _, _, _, _, _, _, _, rfl⟩, S2.same e3, Go.refl t3⟩) (fun H3 i σ' H' e3 p => p.2.2) ?_ ?_
    · rintro H3 i σ' H4 x H5 e3 hi ⟨⟨o3, o4, o5, o6, o7, o8, o9, o10, o11, o12, o13, o14, o15, o16, o17, o18, o19, o20, rfl⟩, S4, g4⟩ e5 dx
      have S5 := S4.same e5
      have g5 := g4.same e5
      obtain ⟨m, hm, em⟩ : ∃ m : Nat, m ≤ 5 ∧ at0 [PyData.int (n : Nat), .int 3] i = .int (m : Nat) := by
        have hi : i < 2 := hi
        match i, hi with
        | 0, _ => exact ⟨n, hn5, rfl⟩
        | 1, _ => exact ⟨3, by decide, rfl⟩
      rw [em] at dx
      cases dx
      refine q_parN (K := K) (d1 := .list ((ordL m).map dI)) g5.tr (ev_call (ea_cons (ev_var rfl (.int (m : Nat))) ea_nil) rfl ⟨m, hm, rfl, rfl⟩) (fun v H1 e1 t1 dv => ea_cons (ev_var rfl (.int (m : Nat))) ea_nil) rfl ⟨m, by omega, rfl, rfl⟩ fun vd H6 l H7 e6 t6 dd hl6 e7 t7 dl => ?_
      have fO : Fit 2 (541 * (5 * 21 + 1)) (.list ((ordL m).map dI)) := ord_fit hm (srtL_perm _)
      have hPl : (ordP m).length ≤ 541 := by
        rw [ord_same]
        show (srtL (fnd m)).length ≤ 541
        rw [(srtL_perm (fnd m)).length_eq]
        exact (fnd_len hm).1
      rw [ord_same] at dl hPl
      have dd7 := dm_same dd t6 e7
      refine q_if t7 (eb_test (ev_neS (ev_reprZ (ev_var rfl dl) rfl fO (by decide) (by decide)) (ev_reprZ (ev_var rfl dd7) rfl fO (by decide) (by decide)))) (fun hb => ?_) (fun _ H8 e8 t8 => ?_)
      · exfalso
        rw [decide_eq_true rfl] at hb
        cases hb
      refine tnx ?_
      refine q_appDrop (K := K) (M := [s, c]) t6 hl6 (e7.trans e8) (dm_same dl t7 e8) (by rw [List.length_map]; omega) rfl ev_non fun H9 o e9 g9 => ?_
      have hls : l ≠ s := fun z => t6 s hsM (z ▸ hl6)
      have hlc : l ≠ c := fun z => t6 c hcM (z ▸ hl6)
      have S9 : Src s c (upd H9 l o) := src_set ((((S5.same e6).same e7).same e8).same e9) hls hlc
      have g59 : Go [s, c] H5 [s, c] (upd H9 l o) := ((Go.refl g5.tr).same e6).trans g9
      have dd9 := dm_go dd g9
      refine s_if g9.tr (eb_test (ev_neS (ev_reprZ (d := .list ((ordL m).map dI)) (Ev.is (ev_callN (ea_cons (ev_var rfl (.int (m : Nat))) ea_nil) rfl ⟨m, by omega, rfl, rfl⟩) (by rw [ord_same])) rfl fO (by decide) (by decide)) (ev_reprZ (ev_var rfl dd9) rfl fO (by decide) (by decide)))) (fun hb => ?_) (fun _ H10 e10 t10 => ⟨⟨_, _, _, _, _, _, _, _, _, _, _, _, _, _, _, _, _, _, rfl⟩, S9.same e10, (g5.trans g59).same e10⟩)
      exfalso
      rw [decide_eq_true rfl] at hb
      cases hb
    · rintro H3 σ' H4 e3 ⟨⟨o3, o4, o5, o6, o7, o8, o9, o10, o11, o12, o13, o14, o15, o16, o17, o18, o19, o20, rfl⟩, S4, g4⟩
      refine q_for (K := K) g4.tr (wk_rng1 (ea_cons ev_int ea_nil) (by decide) (by decide)) (fun H5 i σ' H' => (∃ o3 o4 o5 o6 o7 o8 o9 o10 o11 o12 o13 o14 o15 o16 o17 o18 o19 o20, σ' = [some (.ref a0), some (.ref s), some (.int (n : Nat)), o3, o4, o5, o6, o7, o8, o9, o10, o11, o12, o13, o14, o15, o16, o17, o18, o19, o20]) ∧ Src s c H' ∧ Go [s, c] H5 [s, c] H')
        (fun H5 e5 t5 => ⟨⟨_, _, _, _, _, _, _, _, _, _, _, _, _, _, _, _, _, _, rfl⟩, S4.same e5, Go.refl t5⟩) (fun H5 i σ' H' e5 p => p.2.2) ?_ ?_
      · rintro H5 lap σ' H6 x H7 e5 hlap ⟨⟨o3, o4, o5, o6, o7, o8, o9, o10, o11, o12, o13, o14, o15, o16, o17, o18, o19, o20, rfl⟩, S6, g6⟩ e7 dx
        have S7 := S6.same e7
        have g7 := g6.same e7
        refine d_asg (K := K) (P := fun d => ∃ m : Nat, d = .int (m : Nat) ∧ m ≤ 30) hsM hcM g7.tr S7 (dr_callA (n := 1) (i := 1) (PL := fun ds => ∃ q : Int, ds = [.int q] ∧ (q = 5 ∨ q = 31)) hsM hcM rfl (dra_cons (P1 := fun d => ∃ q : Int, d = .int q ∧ (q = 5 ∨ q = 31)) hsM hcM (Dr.imp (dr_call (n := 1) (i := 1) hsM hcM rfl (ea_cons (ev_lst (ea_cons ev_int (ea_cons ev_int (ea_cons ev_int ea_nil))) (sz 3)) ea_nil) rfl ⟨_, rfl, by show 1 ≤ 3; decide, by show 3 ≤ 1000; decide⟩) fun d hd => ?_) fun d Ma Ha ga hd => dra_nil ?_) (fun ds hd => ?_) fun ds d hp hd => ?_) fun v d H8 k8 S8 g8 dm hd => ?_
        · obtain ⟨es, e0, hm⟩ := hd
          cases e0
          simp only [List.mem_cons, List.not_mem_nil, or_false] at hm
          rcases hm with rfl | rfl | rfl
          · exact ⟨5, rfl, .inl rfl⟩
          · exact ⟨5, rfl, .inl rfl⟩
          · exact ⟨31, rfl, .inr rfl⟩
        · obtain ⟨q, rfl, h⟩ := hd
          exact ⟨q, rfl, h⟩
        · obtain ⟨q, rfl, h⟩ := hd
          exact ⟨rfl, q, rfl, by rcases h with rfl | rfl <;> decide⟩
        · obtain ⟨q, rfl, h⟩ := hp
          obtain ⟨m, r, q0, rfl, hr0, hr1⟩ := hd
          cases q0
          refine ⟨r.toNat, by rw [Int.toNat_of_nonneg hr0], ?_⟩
          rcases h with rfl | rfl
          · have e8 : mx 5 = 5 := rfl
            omega
          · have e8 : mx 31 = 31 := rfl
            omega
        obtain ⟨m, rfl, hm30⟩ := hd
        cases dm
        refine d_asg (K := K) (P := fun d => ∃ xs : List Int, d = dI (rks xs) ∧ xs.length = m) hsM hcM g8.tr S8 (dr_callP (PL := fun ds => ∃ xs : List Int, ds = [dI xs] ∧ xs.length = m) hsM hcM (dra_cons (P1 := Rplacing [.int (m : Nat)]) hsM hcM (dr_call (n := 1) (i := 1) hsM hcM rfl (ea_cons (ev_var rfl (.int (m : Nat))) ea_nil) rfl ⟨m, rfl, by omega, by omega⟩) fun d Ma Ha ga hd => dra_nil ?_) (fun ds hd => ?_)) fun vo d H9 k9 S9 g9 dO hd => ?_
        · obtain ⟨n1, xs, q0, rfl, hxl, _⟩ := hd
          cases q0
          exact ⟨xs, rfl, by omega⟩
        · obtain ⟨xs, rfl, hxl⟩ := hd
          exact ⟨rfl, _, ⟨xs, by omega, rfl, rfl⟩, xs, rfl, hxl⟩
        obtain ⟨xs, rfl, hxl⟩ := hd
        have hrl : (rks xs).length = m := by rw [rks_len, hxl]
        have hrb : ∀ y ∈ rks xs, 0 ≤ y ∧ y < (m : Int) := by
          have := rks_in (xs := xs)
          rw [hxl] at this
          exact this
        have hlvm := lv_le hrb
        have hrr : rks (rks xs) = rks xs := rks_rks xs
        have hlr : (lvl (rks xs)).length = lv (rks xs) := lv_rks xs
        generalize rks xs = r at dO hrl hrb hlvm hrr hlr
        refine q_parL (K := K) (d1 := .int ((lv r : Nat) : Int)) g9.tr (Ev.is (ev_lenSet (xs := r) (ev_var rfl dO) (by omega)) (by rw [hlr])) fun v H10 p e10 t10 dl hp => ?_
        cases dl
        have dO10 := dm_same dO g9.tr e10
        have hps : p ≠ s := fun z => t10 s hsM (z ▸ hp)
        have hpc : p ≠ c := fun z => t10 c hcM (z ▸ hp)
        have pM : p ∉ [s, c] := fun z => t10 p z hp
        have gp : Go [s, c] H10 (p :: [s, c]) (upd H10 p (.lst [])) := go_mut t10 hp
        refine q_for (K := K) gp.tr (wk_rng1 (ea_cons (ev_var rfl (.int ((lv r : Nat) : Int))) ea_nil) (by omega) (by omega)) (fun H11 i σ' H' => (∃ o9 vs, σ' = [some (.ref a0), some (.ref s), some (.int (n : Nat)), some (.int (m : Nat)), some (.ref p), o5, some x, some vo, some (.int ((lv r : Nat) : Int)), o9, o10, o11, o12, o13, o14, o15, o16, o17, o18, o19, o20] ∧ H' p = some (.lst vs) ∧ Dms K (p :: [s, c]) H' vs ((List.range i).map fun l => dI (r ++ [((l : Nat) : Int)]))) ∧ Same H10 H' ∧ Go (p :: [s, c]) H11 (p :: [s, c]) H')
          (fun H11 e11 t11 => ⟨⟨_, [], rfl, e11 _ _ upd_same, .nil⟩, (same_upd hp (Same.refl _)).trans e11, Go.refl t11⟩) (fun H11 i σ' H' e11 q => q.2.2) ?_ ?_
        · rintro H11 i σ' H12 y H13 e11 hi ⟨⟨o9, vs, rfl, hpv, dvs⟩, eS, g12⟩ e13 dy
          have hi : i < (((lv r : Nat)) : Int).toNat := hi
          have g13 := g12.same e13
          have dO13 := dm_go dO10 ((gp.same e11).trans g13)
          refine s_app (K := K) g13.tr rfl (e13 _ _ hpv) (List.mem_cons_self ..) (Ev.is (ev_catT (ds := r.map PyData.int) (es := [.int (i : Nat)]) (ev_var rfl dO13) (ev_tup (ea_cons (ev_var rfl dy) ea_nil) (sz 1)) ?_) (e := dI (r ++ [((i : Nat) : Int)])) ?_) ?_ fun v H14 e14 t14 dv g14 => ⟨⟨_, vs ++ [v], rfl, upd_same, ?_⟩, same_upd hp ((eS.trans e13).trans e14), ((g12.same e13).same e14).trans g14⟩
          · rw [List.length_map, sizeLine_eq]
            show r.length + 1 ≤ _
            omega
          · unfold dI
            rw [List.map_append]
            rfl
          · rw [dvs.length, List.length_map, List.length_range]
            omega
          · have := (dms_go dvs ((((Go.refl g12.tr).same e13).same e14).trans g14)).append (.cons (dm_go dv g14) .nil)
            rw [List.range_succ, List.map_append]
            exact this
        rintro H11 σ' H12 e11 ⟨⟨o9, vs, rfl, hpv, dvs⟩, eS, g12⟩
        have hA : (List.range (((lv r : Nat)) : Int).toNat).map (fun l => dI (r ++ [((l : Nat) : Int)])) = (widA r).map dI := by
          rw [Int.toNat_natCast]
          unfold widA
          rw [List.map_map]
          rfl
        rw [hA] at dvs
        have gA := (gp.same e11).trans g12
        have hlA : (widA r).length = lv r := by
          unfold widA
          rw [List.length_map, List.length_range]
        refine q_for (K := K) gA.tr (wk_rng1 (ea_cons (ev_I0 (ev_var rfl (.int ((lv r : Nat) : Int))) ev_int) ea_nil) (by omega) (by omega)) (fun H13 g σ' H' => (∃ o10 vs, σ' = [some (.ref a0), some (.ref s), some (.int (n : Nat)), some (.int (m : Nat)), some (.ref p), o5, some x, some vo, some (.int ((lv r : Nat) : Int)), o9, o10, o11, o12, o13, o14, o15, o16, o17, o18, o19, o20] ∧ H' p = some (.lst vs) ∧ Dms K (p :: [s, c]) H' vs ((widA r).map dI ++ (List.range g).map fun g => dI (gapR r g))) ∧ Same H10 H' ∧ Go (p :: [s, c]) H13 (p :: [s, c]) H')
          (fun H13 e13 t13 => ⟨⟨_, vs, rfl, e13 _ _ hpv, ?_⟩, eS.trans e13, Go.refl t13⟩) (fun H13 g σ' H' e13 q => q.2.2) ?_ ?_
        · rw [List.range_zero, List.map_nil, List.append_nil]
          exact dms_go dvs ((Go.refl gA.tr).same e13)
        · rintro H13 gp' σ' H14 z H15 e13 hgp ⟨⟨o10, vs, rfl, hpv, dvs⟩, eS14, g14⟩ e15 dz
          have hgp : gp' < (((lv r : Nat)) + 1 : Int).toNat := hgp
          have g15 := g14.same e15
          have dO15 := dm_go dO10 ((gA.same e13).trans g15)
          refine s_app (K := K) g15.tr rfl (e15 _ _ hpv) (List.mem_cons_self ..) (Ev.is (ev_catT (ds := (r.map (bmp (gp' : Nat))).map PyData.int) (es := [.int (gp' : Nat)]) (Ev.is (ev_tupOf (ev_lcA (enc := PyData.int) (xs := r) (fun x => .int (bmp (gp' : Nat) x)) (wk_tupT (ev_var rfl dO15)) (by omega) fun M' H' a u g ha du => ⟨_, tk_name, rfl, ev_I0 (ev_var rfl du) (ev_intB (ev_B0 (g := fun i j => decide (i ≥ j)) (ev_var rfl du) (ev_var rfl (dm_go dz g))))⟩) (.inl rfl)) (by rw [List.map_map]; rfl)) (ev_tup (ea_cons (ev_var rfl dz) ea_nil) (sz 1)) ?_) (e := dI (gapR r gp')) ?_) ?_ fun v H16 e16 t16 dv g16 => ⟨⟨_, vs ++ [v], rfl, upd_same, ?_⟩, same_upd hp ((eS14.trans e15).trans e16), ((g14.same e15).same e16).trans g16⟩
          · rw [List.length_map, List.length_map, sizeLine_eq]
            show r.length + 1 ≤ _
            omega
          · unfold dI gapR
            rw [List.map_append]
            rfl
          · rw [dvs.length, List.length_append, List.length_map, List.length_map, List.length_range, hlA]
            omega
          · have := (dms_go dvs ((((Go.refl g14.tr).same e15).same e16).trans g16)).append (.cons (dm_go dv g16) .nil)
            rw [List.range_succ, List.map_append (f := fun g => dI (gapR r g))]
            rw [List.append_assoc] at this
            exact this
        rintro H13 σ' H14 e13 ⟨⟨o10, vs, rfl, hpv, dvs⟩, eS14, g14⟩
        have et : (widA r).map dI ++ (List.range (((lv r : Nat)) + 1 : Int).toNat).map (fun g => dI (gapR r g)) = (wid r).map dI := by
          have hn : (((lv r : Nat)) + 1 : Int).toNat = lv r + 1 := by omega
          rw [hn]
          unfold wid
          rw [List.map_append, List.map_map (g := dI)]
          rfl
        rw [et] at dvs
        have dD : Dm K [s, c] H14 (.ref p) (.list ((wid r).map dI)) := dm_freeze pM hpv dvs
        have gB : Go [s, c] H10 [s, c] H14 := go_drop ((gA.same e13).trans g14) hp
        have dO14 := dm_same dO10 t10 eS14
        have S14 : Src s c H14 := (S9.same e10).same eS14
        have fr : Fit 1 6120 (dI r) := fitI (fun y hy => by have := hrb y hy; omega) (by omega)
        have fW : Fit 2 (61 * (31 * 21 + 1)) (.list ((srtL (wid r)).map dI)) := wid_fit hm30 hrl hrb (srtL_perm _)
        have hsl : (srtL (wid r)).length = 2 * lv r + 1 := by rw [(srtL_perm (wid r)).length_eq, wid_len]
        have hr60 : ∀ y ∈ r, 0 ≤ y ∧ y ≤ 60 := fun y hy => by have := hrb y hy; omega
        refine q_parN (K := K) (d1 := .str (PyData.shown (dI r))) gB.tr (ev_reprZ (ev_var rfl dO14) rfl fr (by decide) (by decide)) (fun v H1 e1 t1 dv => ea_cons (ev_var rfl (dm_same dO14 gB.tr e1)) ea_nil) rfl ⟨r, by omega, hr60, rfl, rfl⟩ fun vk H15 l H16 e15 t15 dk hl15 e16 t16 dl => ?_
        have dD16 := dm_same dD gB.tr (e15.trans e16)
        have dO16 := dm_same dO14 gB.tr (e15.trans e16)
        have dk16 := dm_same dk t15 e16
        refine q_if t16 (eb_or (eb_test (ev_neS (ev_reprZ (ev_var rfl dl) rfl fW (by decide) (by decide)) (ev_reprZ (ev_sortedL (ev_var rfl dD16) (.inr (wid_ne r))) rfl fW (by decide) (by decide)))) fun _ => eb_or (eb_test (ev_neD (ev_len (ev_var rfl dl) (.inl rfl)) (ev_I0 (ev_I (C := CMul) (g := fun i j => i * j) ev_int (ev_var rfl (.int ((lv r : Nat) : Int))) (.inl ⟨by decide, by decide⟩)) ev_int) (shp_int _) (shp_int _))) fun _ => eb_test (ev_neS (ev_reprZ (ev_var rfl dO16) rfl fr (by decide) (by decide)) (ev_var rfl dk16))) (fun hb => ?_) (fun _ H17 e17 t17 => ?_)
        · exfalso
          rw [eqv_int, List.length_map, hsl] at hb
          have e : ((((2 * lv r + 1 : Nat) : Int)) == 2 * ((lv r : Nat) : Int) + 1) = true := beq_iff_eq.mpr (by omega)
          rw [e] at hb
          rw [Bool.or_eq_true, Bool.or_eq_true] at hb
          rcases hb with hb | hb | hb
          · rw [decide_eq_true (show (PyData.shown (.list ((srtL (wid r)).map dI))) = PyData.shown (.list ((srtL (wid r)).map tI)) from rfl)] at hb
            cases hb
          · cases hb
          · rw [decide_eq_true rfl] at hb
            cases hb
        refine tnx ?_
        refine q_appDrop (K := K) (M := [s, c]) t15 hl15 (e16.trans e17) (dm_same dl t16 e17) (by rw [List.length_map]; omega) rfl ev_non fun H18 o e18 g18 => ?_
        have hls : l ≠ s := fun z => t15 s hsM (z ▸ hl15)
        have hlc : l ≠ c := fun z => t15 c hcM (z ▸ hl15)
        have S18 : Src s c (upd H18 l o) := src_set ((((S14.same e15).same e16).same e17).same e18) hls hlc
        have g1418 : Go [s, c] H14 [s, c] (upd H18 l o) := ((Go.refl gB.tr).same e15).trans g18
        have dD18 := dm_go dD g1418
        have dO18 := dm_go dO14 g1418
        refine q_if g18.tr (eb_test (ev_neS (ev_reprZ (ev_callN (ea_cons (ev_var rfl dO18) ea_nil) rfl ⟨r, by omega, hr60, rfl, rfl⟩) rfl fW (by decide) (by decide)) (ev_reprZ (ev_sortedL (ev_var rfl dD18) (.inr (wid_ne r))) rfl fW (by decide) (by decide)))) (fun hb => ?_) (fun _ H19 e19 t19 => ?_)
        · exfalso
          rw [decide_eq_true (show (PyData.shown (.list ((srtL (wid r)).map dI))) = PyData.shown (.list ((srtL (wid r)).map tI)) from rfl)] at hb
          cases hb
        have dD19 := dm_same dD18 g18.tr e19
        have dO19 := dm_same dO18 g18.tr e19
        refine q_if t19 (eb_test (ev_neD (Ev.is (ev_lcT (enc := dI) (xs := wid r) (fun one => !PyData.eqv (dI (rks ((rg m).map (ix one)))) (dI r)) (fun one => dI one) (wk_listT (ev_var rfl dD19)) (by rw [wid_len]; omega) fun M' H' one y g ho dy => ⟨_, tk_name, rfl, eb_test (ev_neD (ev_call (ea_cons (ev_var rfl dy) (ea_cons (Ev.is (ev_tupOf (ev_listRg (n := (m : Nat)) (ev_var rfl (.int (m : Nat))) (by omega) (by omega)) (.inl rfl)) (e := dI (rg m)) ?_) ea_nil)) rfl ⟨one, rg m, by rw [rg_len]; omega, fun q hq => by have h1 := mem_rg.mp hq; have h2 := (wid_mem hrl hrb ho).1; omega, rfl, rfl⟩) (ev_var rfl (dm_go dO19 g)) (shp_dI _) (shp_dI _)), fun _ => ev_var rfl dy⟩) (e := .list []) ?_) (ev_lst ea_nil (sz 0)) rfl rfl)) (fun hb => ?_) (fun _ H20 e20 t20 => ?_)
        · unfold dI rg rgD
          rw [List.map_map, Int.toNat_natCast]
          rfl
        · rw [List.filter_eq_nil_iff.mpr fun one ho => ?_]
          · rfl
          · have h2 := (wid_mem hrl hrb ho).1
            rw [ix_rg (by omega), eqv_dI, ← hrl, rks_wid ho, hrr, decide_eq_true rfl]
            exact Bool.false_ne_true
        · rw [eqv_nil] at hb
          cases hb
        have S20 := (S18.same e19).same e20
        have G20 := (g1418.same e19).same e20
        refine d_asg (K := K) (P := Rplacing [.int (m : Nat)]) hsM hcM t20 S20 (dr_call (n := 1) (i := 1) hsM hcM rfl (ea_cons (ev_var rfl (.int (m : Nat))) ea_nil) rfl ⟨m, rfl, by omega, by omega⟩) fun vp d H21 k21 S21 g21 dp hd => ?_
        obtain ⟨n1, ys, q0, rfl, hyl, hyb⟩ := hd
        cases q0
        refine d_asg (K := K) (P := fun d => ∃ ms : List Int, d = dI ms ∧ (∀ k ∈ ms, 0 ≤ k ∧ k < (m : Int)) ∧ ms.length ≤ m) hsM hcM g21.tr S21 (dr_cb (P1 := fun d => ∃ ms : List Int, d = .list (ms.map PyData.int) ∧ (∀ k ∈ ms, 0 ≤ k ∧ k < (m : Int)) ∧ ms.length ≤ m) hsM hcM (dr_sl (P1 := fun d => ∃ fs : List Int, d = .list (fs.map PyData.int) ∧ (∀ k ∈ fs, 0 ≤ k ∧ k < (m : Int)) ∧ fs.length = m) hsM hcM (Dr.imp (dr_call (n := 1) (i := 1) hsM hcM rfl (ea_cons (ev_listRg (n := (m : Nat)) (ev_var rfl (.int (m : Nat))) (by omega) (by omega)) ea_nil) rfl ⟨_, rfl, ?_⟩) fun d hd => ?_) fun M1 H1 y d ga Sa dy hy => dr_slR (P1 := fun d => ∃ q : Int, d = .int q) (ga.sub s hsM) (ga.sub c hcM) (Dr.imp (dr_call (n := 1) (i := 1) (ga.sub s hsM) (ga.sub c hcM) rfl (ea_cons (ev_I0 (ev_var rfl (.int (m : Nat))) ev_int) ea_nil) rfl ⟨_, rfl, by omega⟩) fun d hd => ?_) fun M2 H2 z e gb Sb dz hz => ?_) fun M1 H1 y d ga Sa dy hy => ?_) fun vm d H22 k22 S22 g22 dm hd => ?_
        · unfold rgD
          rw [List.length_map, List.length_range]
          omega
        · obtain ⟨es, fs, q0, rfl, hp'⟩ := hd
          cases q0
          have hl' := hp'.length_eq
          unfold rgD at hl'
          rw [List.length_map, List.length_range] at hl'
          obtain ⟨rs, rfl, hrs⟩ := ints_of (p := fun x => 0 ≤ x ∧ x < (m : Int)) (ds := fs) fun i e he => rg_mem (hp'.mem_iff.mp (List.mem_of_getElem? he))
          rw [List.length_map] at hl'
          exact ⟨rs, rfl, hrs, by omega⟩
        · obtain ⟨_, q, _, rfl, _⟩ := hd
          exact ⟨q, rfl⟩
        · obtain ⟨fs, rfl, hf, hfl⟩ := hy
          obtain ⟨q, rfl⟩ := hz
          have hcl := (cutG_sub (xs := fs) (lo := none) (hi := some q)).length_le
          exact dr_ev (ev_slL (hi := some q) (ev_val (dm_go dy gb)) eo_none (eo_some (K := K) (ev_val dz))) ⟨cutG fs none (some q), by rw [cut_map], fun k hk => hf k (cutG_sub.subset hk), by omega⟩
        · obtain ⟨ms, rfl, h1, h2⟩ := hy
          exact dr_ev (ev_tupOf (ev_val dy) (.inl rfl)) ⟨ms, rfl, h1, h2⟩
        obtain ⟨ms, rfl, hms, hml⟩ := hd
        have hms' : ∀ k ∈ ms, 0 ≤ k ∧ k < ((List.length ys : Nat) : Int) := fun k hk => by have := hms k hk; omega
        have dp22 := dm_go dp g22
        refine q_asg (K := K) (d := dI (ms.map (ix ys))) g22.tr (Ev.is (ev_tupOf (ev_lcA (enc := PyData.int) (xs := ms) (fun k => .int (ix ys k)) (wk_tupT (ev_var rfl dm)) (by omega) fun M' H' k u g hk du => ⟨_, tk_name, rfl, ev_ixT (ev_var rfl (dm_go dp22 g)) (ev_var rfl du) (at_ix (hms' k hk))⟩) (.inl rfl)) (by unfold dI; rw [List.map_map]; rfl)) fun vs23 H23 e23 t23 ds => ?_
        have dp23 := dm_same dp22 g22.tr e23
        have dm23 := dm_same dm g22.tr e23
        refine q_asg (K := K) (d := .list [dI (ms.map (ix ys)), dI (rks (ms.map (ix ys)))]) t23 (ev_lst (ea_cons (ev_call (ea_cons (ev_var rfl dp23) (ea_cons (ev_var rfl dm23) ea_nil)) rfl ⟨ys, ms, by omega, hms', rfl, rfl⟩) (ea_cons (Ev.is (ev_call (ea_cons (ev_call (ea_cons (ev_var rfl dp23) ea_nil) rfl ⟨ys, by omega, rfl, rfl⟩) (ea_cons (ev_var rfl dm23) ea_nil)) rfl ⟨rks ys, ms, by omega, by rw [rks_len]; exact hms', rfl, rfl⟩) (by rw [rks_pick hms'])) ea_nil)) (sz 2)) fun vt H24 e24 t24 dt => ?_
        have ds24 := dm_same ds t23 e24
        have f1 : Fit 1 6120 (dI (ms.map (ix ys))) := fitI (fun y hy => by
          obtain ⟨k, hk, rfl⟩ := List.mem_map.mp hy
          have h1 := hms' k hk
          have hj : k.toNat < ys.length := by omega
          have e : ix ys k = ys[k.toNat] := by
            have := ixn hj
            rw [Int.toNat_of_nonneg h1.1] at this
            exact this
          rw [e]
          have := hyb _ (List.getElem_mem hj)
          omega) (by rw [List.length_map]; omega)
        have f2 : Fit 1 6120 (dI (rks (ms.map (ix ys)))) := fitI (fun y hy => by
          have := rks_in y hy
          rw [List.length_map] at this
          omega) (by rw [rks_len, List.length_map]; omega)
        have fT : Fit 2 (2 * (6120 + 1)) (.list [dI (ms.map (ix ys)), dI (rks (ms.map (ix ys)))]) := Fit.list (n := 1) (k := 6120) (ds := [dI (ms.map (ix ys)), dI (rks (ms.map (ix ys)))]) fun d hd => by
          simp only [List.mem_cons, List.not_mem_nil, or_false] at hd
          rcases hd with rfl | rfl
          · exact f1
          · exact f2
        refine s_if t24 (eb_test (ev_neS (ev_reprZ (ev_var rfl dt) rfl fT (by decide) (by decide)) (ev_reprZ (d := .list [dI (ms.map (ix ys)), dI (rks (ms.map (ix ys)))]) (ev_lst (ea_cons (ev_var rfl ds24) (ea_cons (ev_call (ea_cons (ev_var rfl ds24) ea_nil) rfl ⟨_, by rw [List.length_map]; omega, rfl, rfl⟩) ea_nil)) (sz 2)) rfl fT (by decide) (by decide)))) (fun hb => ?_) (fun _ H25 e25 t25 => ⟨⟨_, _, _, _, _, _, _, _, _, _, _, _, _, _, _, _, _, _, rfl⟩, ((S22.same e23).same e24).same e25, ((((((((((g7.trans g8).trans g9).same e10).trans gB).trans G20).trans g21).trans g22).same e23).same e24).same e25)⟩)
        exfalso
        rw [decide_eq_true rfl] at hb
        cases hb
      · rintro H5 σ' H6 e5 ⟨⟨o3, o4, o5, o6, o7, o8, o9, o10, o11, o12, o13, o14, o15, o16, o17, o18, o19, o20, rfl⟩, S6, g6⟩
        refine d_asg (K := K) (P := fun d => ∃ l : List (List Int), okWide l = true ∧ d = .list (l.map dI)) hsM hcM g6.tr S6 (dr_if (PB := fun _ => True) hsM hcM (drb_test (P1 := fun d => ∃ b, d = .bool b) (dr_opl hsM hcM (dr_call (n := 1) (i := 1) hsM hcM rfl (ea_cons ev_int ea_nil) rfl ⟨4, rfl, by decide⟩) fun M2 H2 y e g2 S2 dy hy => ?_) fun d ⟨b, hb⟩ => ⟨b, hb, trivial⟩)
          (fun M2 H3 g _ => dr_ev (ev_callN (ea_cons ev_int ea_nil) rfl ⟨6, by decide, rfl, rfl⟩) ⟨ordP 6, wide6, rfl⟩)
          (fun M2 H3 g _ => dr_ev (ev_lst (ea_cons (Ev.is (ev_repT (es := [.int 0]) (k := 6) (ev_tup (ea_cons ev_int ea_nil) (sz 1)) ev_int (by decide) (by decide) (by decide) (by simp)) (e := dI z6) rfl) (ea_cons (ev_tup (ea_cons ev_int (ea_cons ev_int (ea_cons ev_int (ea_cons ev_int (ea_cons ev_int (ea_cons ev_int ea_nil)))))) (sz 6)) ea_nil)) (sz 2)) ⟨[z6, d6], wide2, rfl⟩)) fun vw d H7 k7 S7 g7 dw hd => ?_
        · obtain ⟨_, r, _, rfl, _⟩ := hy
          exact dr_ev (ev_eqD (ev_val dy) ev_int (shp_int _) (shp_int _)) ⟨_, rfl⟩
        obtain ⟨l, ok, rfl⟩ := hd
        obtain ⟨h0, hlast, hch, hall, hn⟩ := okWide_is ok
        have hlen : l.length ≤ 4683 := by omega
        have hl1 : 1 ≤ l.length := by omega
        have hz6 : L2.atI (l.map dI) 0 = some (dI z6) := atI_nat (j := 0) (by rw [List.getElem?_map, h0]; rfl)
        have hd6 : L2.atI (l.map dI) (-1) = some (dI d6) := at_last (by rw [List.length_map, List.getElem?_map, hlast]; rfl)
        have wkz := wk_zip (K := K) (M := [s, c]) (H := H7) (σ := [some (.ref a0), some (.ref s), some (.int (n : Nat)), o3, o4, o5, o6, o7, o8, o9, o10, o11, o12, o13, o14, some vw, o16, o17, o18, o19, o20]) (as := tCons (tVar 15) (tCons (tSl (rSlL K) (tVar 15) (tPart (tC (.int 1))) tNoPart) tNil)) (ds := l.map dI) (es := (l.drop 1).map dI) (ea_cons (ev_var rfl dw) (ea_cons (Ev.is (ev_slL (lo := some ((1 : Nat) : Int)) (ev_var rfl dw) (eo_some (K := K) ev_int) eo_none) (by rw [cut_one (by rw [List.length_map]; exact hl1), List.map_drop])) ea_nil))
        have hmin : ∀ i, i < min (l.map dI).length ((l.drop 1).map dI).length → i + 1 < l.length := fun i hi => by
          rw [List.length_map, List.length_map, List.length_drop] at hi
          omega
        refine q_if g7.tr (eb_or (eb_test (ev_neD (ev_ixL (ev_var rfl dw) ev_int hz6) (Ev.is (ev_repT (es := [.int 0]) (k := 6) (ev_tup (ea_cons ev_int ea_nil) (sz 1)) ev_int (by decide) (by decide) (by decide) (by simp)) (e := dI z6) rfl) (shp_dI z6) (shp_dI z6))) fun _ => eb_or (eb_test (ev_neD (ev_ixL (ev_var rfl dw) (ev_neg ev_int) hd6) (Ev.is (ev_tup (ea_cons ev_int (ea_cons ev_int (ea_cons ev_int (ea_cons ev_int (ea_cons ev_int (ea_cons ev_int ea_nil)))))) (sz 6)) (e := dI d6) rfl) (shp_dI d6) (shp_dI d6))) fun _ => eb_test (ev_neD (Ev.is (ev_lc (fun i => !ltL (l.getD i []) (l.getD (i + 1) [])) (fun _ => .int 1) wkz (by rw [List.length_map, List.length_map, List.length_drop]; omega) fun M' H' i x g hi dx => ?_) (e := .list []) ?_) (ev_lst ea_nil (sz 0)) rfl rfl)) (fun hb => ?_) (fun _ H8 e8 t8 => ?_)
        · have hi1 := hmin i hi
          obtain ⟨va, vb, tk, da, db⟩ := tk_pair (i := 19) (j := 20) (σ0 := [some (.ref a0), some (.ref s), some (.int (n : Nat)), o3, o4, o5, o6, o7, o8, o9, o10, o11, o12, o13, o14, some vw, o16, o17, o18, none, none]) dx
          rw [at0_map (by omega)] at da
          rw [at0_map (by rw [List.length_drop]; omega)] at db
          have ea : l.getD i [] = l[i]'(by omega) := by rw [List.getD_eq_getElem?_getD, List.getElem?_eq_getElem (by omega)]; rfl
          have eb : l.getD (i + 1) [] = (l.drop 1)[i]'(by rw [List.length_drop]; omega) := by
            rw [List.getD_eq_getElem?_getD, List.getElem?_eq_getElem hi1, List.getElem_drop]
            simp only [Option.getD_some, Nat.add_comm]
          rw [ea, eb]
          exact ⟨_, tk, rfl, eb_test (ev_geL (ev_var rfl da) (ev_var rfl db)), fun _ => ev_int⟩
        · rw [given_none fun i hi => ?_]
          have hi1 := hmin i hi
          rw [chn_at hch (a := l.getD i []) (b := l.getD (i + 1) []) (by rw [List.getD_eq_getElem?_getD, List.getElem?_eq_getElem (by omega)]; rfl) (by rw [List.getD_eq_getElem?_getD, List.getElem?_eq_getElem hi1]; rfl)]
          rfl
        · exfalso
          rw [eqv_dI, eqv_dI, decide_eq_true rfl, decide_eq_true rfl, eqv_nil] at hb
          cases hb
        have dw8 := dm_same dw g7.tr e8
        refine q_asg (K := K) (d := .list []) t8 (Ev.is (ev_lcT (enc := dI) (xs := l) (fun one => !PyData.eqv (dI (rks one)) (dI one) || !PyData.eqv (.int ((one.map PyData.int).length : Nat)) (.int 6)) (fun one => dI one) (wk_listT (ev_var rfl dw8)) (by omega) fun M' H' one y g ho dy => ⟨_, tk_name, rfl, eb_or (eb_test (ev_neD (ev_call (ea_cons (ev_var rfl dy) ea_nil) rfl ⟨one, by have := (hall one ho).2; omega, rfl, rfl⟩) (ev_var rfl dy) (shp_dI _) (shp_dI _))) fun _ => eb_test (ev_neD (ev_len (ev_var rfl dy) (.inr rfl)) ev_int (shp_int _) (shp_int _)), fun _ => ev_var rfl dy⟩) (e := .list []) ?_) fun vodd H9 e9 t9 dodd => ?_
        · rw [List.filter_eq_nil_iff.mpr fun one ho => ?_]
          · rfl
          · obtain ⟨q1, q2⟩ := hall one ho
            rw [q1, eqv_dI, decide_eq_true rfl, eqv_int, List.length_map, q2]
            exact Bool.false_ne_true
        have dw9 := dm_same dw8 t8 e9
        refine q_if t9 (eb_and (eb_test (K := K) (ev_B0 (g := fun i j => decide (i > j)) (ev_len (ev_var rfl dw9) (.inl rfl)) ev_int)) fun h => eb_or (eb_test (ev_neD (ev_len (ev_var rfl dw9) (.inl rfl)) (ev_call (ea_cons ev_int ea_nil) rfl ⟨rfl, rfl⟩) (shp_int _) (shp_int _))) fun _ => eb_test (ev_neD (ev_var rfl dodd) (ev_lst ea_nil (sz 0)) rfl rfl)) (fun hb => ?_) (fun _ H10 e10 t10 => ?_)
        · exfalso
          rw [eqv_int, eqv_nil, List.length_map] at hb
          rcases hn with hn | hn <;> rw [hn] at hb <;> revert hb <;> decide
        refine tnx ?_
        refine q_asg0 (lst_new (K := K) (ds := [.list ((ordP 2).map dI), .list ((srtL (wid [0])).map dI), .list ((srtL (wid [])).map dI), dI (([3, 1] : List Int).map (ix [1, 0, 1, 2])), dI (rks (([3, 1] : List Int).map (ix [1, 0, 1, 2])))]) t10 (ea_cons (ev_callN (ea_cons ev_int ea_nil) rfl ⟨2, by decide, rfl, rfl⟩) (ea_cons (ev_callN (ea_cons (ev_tup (ea_cons ev_int ea_nil) (sz 1)) ea_nil) rfl ⟨[0], by decide, by decide, rfl, rfl⟩) (ea_cons (ev_callN (ea_cons (ev_tup ea_nil (sz 0)) ea_nil) rfl ⟨[], by decide, by decide, rfl, rfl⟩) (ea_cons (ev_call (ea_cons (ev_tup (ea_cons ev_int (ea_cons ev_int (ea_cons ev_int (ea_cons ev_int ea_nil)))) (sz 4)) (ea_cons (ev_tup (ea_cons ev_int (ea_cons ev_int ea_nil)) (sz 2)) ea_nil)) rfl ⟨[1, 0, 1, 2], [3, 1], by decide, by decide, rfl, rfl⟩) (ea_cons (ev_call (ea_cons (ev_tup (ea_cons ev_int (ea_cons ev_int (ea_cons ev_int (ea_cons ev_int ea_nil)))) (sz 4)) (ea_cons (ev_tup (ea_cons ev_int (ea_cons ev_int ea_nil)) (sz 2)) ea_nil)) rfl ⟨[1, 0, 1, 2], [3, 1], by decide, by decide, rfl, rfl⟩) ea_nil))))) (by show 5 ≤ 1000; decide) fun p vs H11 e11 t11 hp dvs => ?_)
        have pM : p ∉ [s, c] := fun z => t11 p z hp
        have gP : Go [s, c] H11 (p :: [s, c]) (upd H11 p (.lst vs)) := go_mut t11 hp
        refine q_app (K := K) (d := .list ((ordP 0).map dI)) gP.tr rfl upd_same (List.mem_cons_self ..) (ev_callN (ea_cons ev_int ea_nil) rfl ⟨0, by decide, rfl, rfl⟩) (by rw [dvs.length]; show 5 ≤ 1000; decide) fun v H12 e12 t12 dv g12 => ?_
        have dT := dm_freeze pM upd_same ((dms_go dvs ((gP.same e12).trans g12)).append (.cons (dm_go dv g12) .nil))
        have t13 := (go_drop ((gP.same e12).trans g12) hp).tr
        have hD : ([.list ((ordP 2).map dI), .list ((srtL (wid [0])).map dI), .list ((srtL (wid [])).map dI), dI (([3, 1] : List Int).map (ix [1, 0, 1, 2])), dI (rks (([3, 1] : List Int).map (ix [1, 0, 1, 2])))] ++ [.list ((ordP 0).map dI)] : List PyData) = dueD := by
          rw [fin_o2, fin_w0, fin_w1, fin_o0, fin_l1, fin_l2]
          rfl
        rw [hD] at dT
        refine q_asg (K := K) (d := .list dueD) t13 (Ev.is (ev_lst (ea_cons (ev_lst (ea_cons (ev_tup (ea_cons ev_int (ea_cons ev_int ea_nil)) (sz 2)) (ea_cons (ev_tup (ea_cons ev_int (ea_cons ev_int ea_nil)) (sz 2)) (ea_cons (ev_tup (ea_cons ev_int (ea_cons ev_int ea_nil)) (sz 2)) ea_nil))) (sz 3)) (ea_cons (ev_lst (ea_cons (ev_tup (ea_cons ev_int (ea_cons ev_int ea_nil)) (sz 2)) (ea_cons (ev_tup (ea_cons ev_int (ea_cons ev_int ea_nil)) (sz 2)) (ea_cons (ev_tup (ea_cons ev_int (ea_cons ev_int ea_nil)) (sz 2)) ea_nil))) (sz 3)) (ea_cons (ev_lst (ea_cons (ev_tup (ea_cons ev_int ea_nil) (sz 1)) ea_nil) (sz 1)) (ea_cons (ev_tup (ea_cons ev_int (ea_cons ev_int ea_nil)) (sz 2)) (ea_cons (ev_tup (ea_cons ev_int (ea_cons ev_int ea_nil)) (sz 2)) (ea_cons (ev_lst (ea_cons (ev_tup ea_nil (sz 0)) ea_nil) (sz 1)) ea_nil)))))) (sz 6)) (e := .list dueD) rfl) fun vdue H14 e14 t14 dd => ?_
        refine s_ret (K := K) t14 (ev_eqS (ev_reprZ (ev_var rfl (dm_same dT t13 e14)) rfl fitDue (by decide) (by decide)) (ev_reprZ (ev_var rfl dd) rfl fitDue (by decide) (by decide))) fun v H15 e15 t15 dv => ?_
        rw [decide_eq_true rfl] at dv
        cases dv
        exact k _
end
end Own

namespace Own
open PySem PySem.Spec PyProof.Rows L2 Gd Dq
theorem all_mk {l : PySem.W.OpenLaw} {w : World} {K : PySem.W.Frag} {h : Heap} {mg : Str → Option Value} {fa : Addr} (X : K.In h) (G : h.Ns mainGlobals mg) (hfa : mg "law" = some (.ref fa))
    {f0 : Addr} {od0 an0 : Option Addr} {sl0 : Array (Option Value)} {oc0 kV0 dc0 pm0 cd0 ct0 : Value}
    {f1 : Addr} {od1 an1 : Option Addr} {sl1 : Array (Option Value)} {oc1 kV1 dc1 pm1 cd1 ct1 : Value}
    {f2 : Addr} {od2 an2 : Option Addr} {sl2 : Array (Option Value)} {oc2 kV2 dc2 pm2 cd2 ct2 : Value}
    {f3 : Addr} {od3 an3 : Option Addr} {sl3 : Array (Option Value)} {oc3 kV3 dc3 pm3 cd3 ct3 : Value}
    {f4 : Addr} {od4 an4 : Option Addr} {sl4 : Array (Option Value)} {oc4 kV4 dc4 pm4 cd4 ct4 : Value}
    {f5 : Addr} {od5 an5 : Option Addr} {sl5 : Array (Option Value)} {oc5 kV5 dc5 pm5 cd5 ct5 : Value}
    {f6 : Addr} {od6 an6 : Option Addr} {sl6 : Array (Option Value)} {oc6 kV6 dc6 pm6 cd6 ct6 : Value}
    {f7 : Addr} {od7 an7 : Option Addr} {sl7 : Array (Option Value)} {oc7 kV7 dc7 pm7 cd7 ct7 : Value}
    {f8 : Addr} {od8 an8 : Option Addr} {sl8 : Array (Option Value)} {oc8 kV8 dc8 pm8 cd8 ct8 : Value}
    {f9 : Addr} {od9 an9 : Option Addr} {sl9 : Array (Option Value)} {oc9 kV9 dc9 pm9 cd9 ct9 : Value}
    {f10 : Addr} {od10 an10 : Option Addr} {sl10 : Array (Option Value)} {oc10 kV10 dc10 pm10 cd10 ct10 : Value}
    {f11 : Addr} {od11 an11 : Option Addr} {sl11 : Array (Option Value)} {oc11 kV11 dc11 pm11 cd11 ct11 : Value}
    {f12 : Addr} {od12 an12 : Option Addr} {sl12 : Array (Option Value)} {oc12 kV12 dc12 pm12 cd12 ct12 : Value}
    {f13 : Addr} {od13 an13 : Option Addr} {sl13 : Array (Option Value)} {oc13 kV13 dc13 pm13 cd13 ct13 : Value}
    (a0 : PySem.W.nsIn K mainGlobals "order_of" = some (some (.ref f0))) (l0 : K.lookup f0 = some ⟨oc0, od0, .func (PySem.W.fnOf "order_of" "order_of" (defArgs s_order_of) (defBody s_order_of) (defScope s_order_of) .none kV0 dc0 pm0 an0 cd0 ct0), sl0⟩) (c0 : PySem.W.codeIn K cd0 "order_of" = true) (k0 : PySem.W.keepIn K (.ref f0) = true)
    (a1 : PySem.W.nsIn K mainGlobals "orders" = some (some (.ref f1))) (l1 : K.lookup f1 = some ⟨oc1, od1, .func (PySem.W.fnOf "orders" "orders" (defArgs s_orders) (defBody s_orders) (defScope s_orders) .none kV1 dc1 pm1 an1 cd1 ct1), sl1⟩) (c1 : PySem.W.codeIn K cd1 "orders" = true) (k1 : PySem.W.keepIn K (.ref f1) = true)
    (a2 : PySem.W.nsIn K mainGlobals "left_of" = some (some (.ref f2))) (l2 : K.lookup f2 = some ⟨oc2, od2, .func (PySem.W.fnOf "left_of" "left_of" (defArgs s_left_of) (defBody s_left_of) (defScope s_left_of) .none kV2 dc2 pm2 an2 cd2 ct2), sl2⟩) (c2 : PySem.W.codeIn K cd2 "left_of" = true) (k2 : PySem.W.keepIn K (.ref f2) = true)
    (a3 : PySem.W.nsIn K mainGlobals "left_order" = some (some (.ref f3))) (l3 : K.lookup f3 = some ⟨oc3, od3, .func (PySem.W.fnOf "left_order" "left_order" (defArgs s_left_order) (defBody s_left_order) (defScope s_left_order) .none kV3 dc3 pm3 an3 cd3 ct3), sl3⟩) (c3 : PySem.W.codeIn K cd3 "left_order" = true) (k3 : PySem.W.keepIn K (.ref f3) = true)
    (a4 : PySem.W.nsIn K mainGlobals "spreads" = some (some (.ref f4))) (l4 : K.lookup f4 = some ⟨oc4, od4, .func (PySem.W.fnOf "spreads" "spreads" (defArgs s_spreads) (defBody s_spreads) (defScope s_spreads) .none kV4 dc4 pm4 an4 cd4 ct4), sl4⟩) (c4 : PySem.W.codeIn K cd4 "spreads" = true) (k4 : PySem.W.keepIn K (.ref f4) = true)
    (a5 : PySem.W.nsIn K mainGlobals "_law_source" = some (some (.ref f5))) (l5 : K.lookup f5 = some ⟨oc5, od5, .func (PySem.W.fnOf "_law_source" "_law_source" (defArgs s_lw_source) (defBody s_lw_source) (defScope s_lw_source) .none kV5 dc5 pm5 an5 cd5 ct5), sl5⟩) (c5 : PySem.W.codeIn K cd5 "_law_source" = true) (k5 : PySem.W.keepIn K (.ref f5) = true)
    (a6 : PySem.W.nsIn K mainGlobals "_law_pick" = some (some (.ref f6))) (l6 : K.lookup f6 = some ⟨oc6, od6, .func (PySem.W.fnOf "_law_pick" "_law_pick" (defArgs s_lw_pick) (defBody s_lw_pick) (defScope s_lw_pick) .none kV6 dc6 pm6 an6 cd6 ct6), sl6⟩) (c6 : PySem.W.codeIn K cd6 "_law_pick" = true) (k6 : PySem.W.keepIn K (.ref f6) = true)
    (a7 : PySem.W.nsIn K mainGlobals "_law_of" = some (some (.ref f7))) (l7 : K.lookup f7 = some ⟨oc7, od7, .func (PySem.W.fnOf "_law_of" "_law_of" (defArgs s_lw_of) (defBody s_lw_of) (defScope s_lw_of) .none kV7 dc7 pm7 an7 cd7 ct7), sl7⟩) (c7 : PySem.W.codeIn K cd7 "_law_of" = true) (k7 : PySem.W.keepIn K (.ref f7) = true)
    (a8 : PySem.W.nsIn K mainGlobals "_law_mixed" = some (some (.ref f8))) (l8 : K.lookup f8 = some ⟨oc8, od8, .func (PySem.W.fnOf "_law_mixed" "_law_mixed" (defArgs s_lw_mixed) (defBody s_lw_mixed) (defScope s_lw_mixed) .none kV8 dc8 pm8 an8 cd8 ct8), sl8⟩) (c8 : PySem.W.codeIn K cd8 "_law_mixed" = true) (k8 : PySem.W.keepIn K (.ref f8) = true)
    (a9 : PySem.W.nsIn K mainGlobals "_law_order_of" = some (some (.ref f9))) (l9 : K.lookup f9 = some ⟨oc9, od9, .func (PySem.W.fnOf "_law_order_of" "_law_order_of" (defArgs s_lw_order_of) (defBody s_lw_order_of) (defScope s_lw_order_of) .none kV9 dc9 pm9 an9 cd9 ct9), sl9⟩) (c9 : PySem.W.codeIn K cd9 "_law_order_of" = true) (k9 : PySem.W.keepIn K (.ref f9) = true)
    (a10 : PySem.W.nsIn K mainGlobals "_law_orders" = some (some (.ref f10))) (l10 : K.lookup f10 = some ⟨oc10, od10, .func (PySem.W.fnOf "_law_orders" "_law_orders" (defArgs s_lw_orders) (defBody s_lw_orders) (defScope s_lw_orders) .none kV10 dc10 pm10 an10 cd10 ct10), sl10⟩) (c10 : PySem.W.codeIn K cd10 "_law_orders" = true) (k10 : PySem.W.keepIn K (.ref f10) = true)
    (a11 : PySem.W.nsIn K mainGlobals "_law_draw_placing" = some (some (.ref f11))) (l11 : K.lookup f11 = some ⟨oc11, od11, .func (PySem.W.fnOf "_law_draw_placing" "_law_draw_placing" (defArgs s_lw_draw_placing) (defBody s_lw_draw_placing) (defScope s_lw_draw_placing) .none kV11 dc11 pm11 an11 cd11 ct11), sl11⟩) (c11 : PySem.W.codeIn K cd11 "_law_draw_placing" = true) (k11 : PySem.W.keepIn K (.ref f11) = true)
    (a12 : PySem.W.nsIn K mainGlobals "_law_count" = some (some (.ref f12))) (l12 : K.lookup f12 = some ⟨oc12, od12, .func (PySem.W.fnOf "_law_count" "_law_count" (defArgs s_lw_count) (defBody s_lw_count) (defScope s_lw_count) .none kV12 dc12 pm12 an12 cd12 ct12), sl12⟩) (c12 : PySem.W.codeIn K cd12 "_law_count" = true) (k12 : PySem.W.keepIn K (.ref f12) = true)
    (a13 : PySem.W.nsIn K mainGlobals "law" = some (some (.ref f13))) (l13 : K.lookup f13 = some ⟨oc13, od13, .func (PySem.W.fnOf "law" "law" (defArgs s_law) (defBody s_law) (defScope s_law) .none kV13 dc13 pm13 an13 cd13 ct13), sl13⟩) (c13 : PySem.W.codeIn K cd13 "law" = true) (k13 : PySem.W.keepIn K (.ref f13) = true)
    (z_abs : PySem.W.nsIn K mainGlobals "abs" = some none)
    (z_enumerate : PySem.W.nsIn K mainGlobals "enumerate" = some none)
    (z_int : PySem.W.nsIn K mainGlobals "int" = some none)
    (z_len : PySem.W.nsIn K mainGlobals "len" = some none)
    (z_list : PySem.W.nsIn K mainGlobals "list" = some none)
    (z_max : PySem.W.nsIn K mainGlobals "max" = some none)
    (z_range : PySem.W.nsIn K mainGlobals "range" = some none)
    (z_repr : PySem.W.nsIn K mainGlobals "repr" = some none)
    (z_set : PySem.W.nsIn K mainGlobals "set" = some none)
    (z_sorted : PySem.W.nsIn K mainGlobals "sorted" = some none)
    (z_tuple : PySem.W.nsIn K mainGlobals "tuple" = some none)
    (z_zip : PySem.W.nsIn K mainGlobals "zip" = some none)
    : ∃ fd : FuncData, (∀ (s : Shared) (v : Value), BindsTo s fd ⟨[v], []⟩ [("script", v)]) ∧ ∀ base : Heap, K.In base → base.Ns mainGlobals mg → FnG l.prog w K mg base 4 fa fd ["script"] (spLaw K) := by
  have e := (PySem.W.mg_of X G a13).symm.trans hfa
  have e2 : f13 = fa := by
    cases e
    rfl
  subst e2
  have F0 := fun_mk (st := s_order_of) l0 c0 k0
  have b0 := F0.binds (ps := ["placing"]) fun _ _ _ _ _ _ us hl => match us, hl with | [_], _ => rfl
  have F1 := fun_mk (st := s_orders) l1 c1 k1
  have b1 := F1.binds (ps := ["n"]) fun _ _ _ _ _ _ us hl => match us, hl with | [_], _ => rfl
  have F2 := fun_mk (st := s_left_of) l2 c2 k2
  have b2 := F2.binds (ps := ["placing", "moments"]) fun _ _ _ _ _ _ us hl => match us, hl with | [_, _], _ => rfl
  have F3 := fun_mk (st := s_left_order) l3 c3 k3
  have b3 := F3.binds (ps := ["order", "moments"]) fun _ _ _ _ _ _ us hl => match us, hl with | [_, _], _ => rfl
  have F4 := fun_mk (st := s_spreads) l4 c4 k4
  have b4 := F4.binds (ps := ["order"]) fun _ _ _ _ _ _ us hl => match us, hl with | [_], _ => rfl
  have F5 := fun_mk (st := s_lw_source) l5 c5 k5
  have b5 := F5.binds (ps := ["script"]) fun _ _ _ _ _ _ us hl => match us, hl with | [_], _ => rfl
  have F6 := fun_mk (st := s_lw_pick) l6 c6 k6
  have b6 := F6.binds (ps := ["source", "many"]) fun _ _ _ _ _ _ us hl => match us, hl with | [_, _], _ => rfl
  have F7 := fun_mk (st := s_lw_of) l7 c7 k7
  have b7 := F7.binds (ps := ["source", "some"]) fun _ _ _ _ _ _ us hl => match us, hl with | [_, _], _ => rfl
  have F8 := fun_mk (st := s_lw_mixed) l8 c8 k8
  have b8 := F8.binds (ps := ["source", "things"]) fun _ _ _ _ _ _ us hl => match us, hl with | [_, _], _ => rfl
  have F9 := fun_mk (st := s_lw_order_of) l9 c9 k9
  have b9 := F9.binds (ps := ["placing"]) fun _ _ _ _ _ _ us hl => match us, hl with | [_], _ => rfl
  have F10 := fun_mk (st := s_lw_orders) l10 c10 k10
  have b10 := F10.binds (ps := ["n"]) fun _ _ _ _ _ _ us hl => match us, hl with | [_], _ => rfl
  have F11 := fun_mk (st := s_lw_draw_placing) l11 c11 k11
  have b11 := F11.binds (ps := ["source", "n"]) fun _ _ _ _ _ _ us hl => match us, hl with | [_, _], _ => rfl
  have F12 := fun_mk (st := s_lw_count) l12 c12 k12
  have b12 := F12.binds (ps := ["n"]) fun _ _ _ _ _ _ us hl => match us, hl with | [_], _ => rfl
  have F13 := fun_mk (st := s_law) l13 c13 k13
  have b13 := F13.binds (ps := ["script"]) fun _ _ _ _ _ _ us hl => match us, hl with | [_], _ => rfl
  have T : Tp K mg ⟨f0, (PySem.W.fnOf "order_of" "order_of" (defArgs s_order_of) (defBody s_order_of) (defScope s_order_of) .none kV0 dc0 pm0 an0 cd0 ct0), f1, (PySem.W.fnOf "orders" "orders" (defArgs s_orders) (defBody s_orders) (defScope s_orders) .none kV1 dc1 pm1 an1 cd1 ct1), f2, (PySem.W.fnOf "left_of" "left_of" (defArgs s_left_of) (defBody s_left_of) (defScope s_left_of) .none kV2 dc2 pm2 an2 cd2 ct2), f3, (PySem.W.fnOf "left_order" "left_order" (defArgs s_left_order) (defBody s_left_order) (defScope s_left_order) .none kV3 dc3 pm3 an3 cd3 ct3), f4, (PySem.W.fnOf "spreads" "spreads" (defArgs s_spreads) (defBody s_spreads) (defScope s_spreads) .none kV4 dc4 pm4 an4 cd4 ct4), f5, (PySem.W.fnOf "_law_source" "_law_source" (defArgs s_lw_source) (defBody s_lw_source) (defScope s_lw_source) .none kV5 dc5 pm5 an5 cd5 ct5), f6, (PySem.W.fnOf "_law_pick" "_law_pick" (defArgs s_lw_pick) (defBody s_lw_pick) (defScope s_lw_pick) .none kV6 dc6 pm6 an6 cd6 ct6), f7, (PySem.W.fnOf "_law_of" "_law_of" (defArgs s_lw_of) (defBody s_lw_of) (defScope s_lw_of) .none kV7 dc7 pm7 an7 cd7 ct7), f8, (PySem.W.fnOf "_law_mixed" "_law_mixed" (defArgs s_lw_mixed) (defBody s_lw_mixed) (defScope s_lw_mixed) .none kV8 dc8 pm8 an8 cd8 ct8), f9, (PySem.W.fnOf "_law_order_of" "_law_order_of" (defArgs s_lw_order_of) (defBody s_lw_order_of) (defScope s_lw_order_of) .none kV9 dc9 pm9 an9 cd9 ct9), f10, (PySem.W.fnOf "_law_orders" "_law_orders" (defArgs s_lw_orders) (defBody s_lw_orders) (defScope s_lw_orders) .none kV10 dc10 pm10 an10 cd10 ct10), f11, (PySem.W.fnOf "_law_draw_placing" "_law_draw_placing" (defArgs s_lw_draw_placing) (defBody s_lw_draw_placing) (defScope s_lw_draw_placing) .none kV11 dc11 pm11 an11 cd11 ct11), f12, (PySem.W.fnOf "_law_count" "_law_count" (defArgs s_lw_count) (defBody s_lw_count) (defScope s_lw_count) .none kV12 dc12 pm12 an12 cd12 ct12), f13, (PySem.W.fnOf "law" "law" (defArgs s_law) (defBody s_law) (defScope s_law) .none kV13 dc13 pm13 an13 cd13 ct13)⟩ := ⟨F0, PySem.W.mg_of X G a0, b0, F1, PySem.W.mg_of X G a1, b1, F2, PySem.W.mg_of X G a2, b2, F3, PySem.W.mg_of X G a3, b3, F4, PySem.W.mg_of X G a4, b4, F5, PySem.W.mg_of X G a5, b5, F6, PySem.W.mg_of X G a6, b6, F7, PySem.W.mg_of X G a7, b7, F8, PySem.W.mg_of X G a8, b8, F9, PySem.W.mg_of X G a9, b9, F10, PySem.W.mg_of X G a10, b10, F11, PySem.W.mg_of X G a11, b11, F12, PySem.W.mg_of X G a12, b12, F13, PySem.W.mg_of X G a13, b13, PySem.W.mg_none_of X G z_abs, PySem.W.mg_none_of X G z_enumerate, PySem.W.mg_none_of X G z_int, PySem.W.mg_none_of X G z_len, PySem.W.mg_none_of X G z_list, PySem.W.mg_none_of X G z_max, PySem.W.mg_none_of X G z_range, PySem.W.mg_none_of X G z_repr, PySem.W.mg_none_of X G z_set, PySem.W.mg_none_of X G z_sorted, PySem.W.mg_none_of X G z_tuple, PySem.W.mg_none_of X G z_zip⟩
  exact ⟨_, fun s v => .of_eq rfl, fun base _ _ => G_law T⟩
end Own
open PySem PySem.W PyProof.Rows
set_option maxRecDepth 100000 in
set_option maxHeartbeats 0 in
theorem PySem.Challenge.cw_soonerornot_k14_whole_lists_of_orders_holds : PySem.Challenge.rw_soonerornot_k14_whole_lists_of_orders.Holds := by
  w_on; o_law; k_head; (case hw => w_witness2)
  k_fill
  refine Gd.walk_ofG (l := PySem.Challenge.rw_soonerornot_k14_whole_lists_of_orders) (n := 63) (k := 4) (x := "script") (sp := fun K => Own.spLaw K) rfl (by decide) rfl ⟨rfl, by decide, by decide⟩ (fun w h Y => PySem.W.kIn_of Y) ?F (fun _ _ a ns hl _ hS => ⟨a, ns, rfl, hS, hl, fun _ => rfl⟩)
  case F =>
    intro w mg fa h KX G hmg
    refine' Own.all_mk KX G hmg ?a0 ?l0 ?c0 ?k0 ?a1 ?l1 ?c1 ?k1 ?a2 ?l2 ?c2 ?k2 ?a3 ?l3 ?c3 ?k3 ?a4 ?l4 ?c4 ?k4 ?a5 ?l5 ?c5 ?k5 ?a6 ?l6 ?c6 ?k6 ?a7 ?l7 ?c7 ?k7 ?a8 ?l8 ?c8 ?k8 ?a9 ?l9 ?c9 ?k9 ?a10 ?l10 ?c10 ?k10 ?a11 ?l11 ?c11 ?k11 ?a12 ?l12 ?c12 ?k12 ?a13 ?l13 ?c13 ?k13 ?z_abs ?z_enumerate ?z_int ?z_len ?z_list ?z_max ?z_range ?z_repr ?z_set ?z_sorted ?z_tuple ?z_zip
    (case a0 => k_is)
    (case l0 => k_is)
    (case c0 => k_is)
    (case k0 => k_is)
    (case a1 => k_is)
    (case l1 => k_is)
    (case c1 => k_is)
    (case k1 => k_is)
    (case a2 => k_is)
    (case l2 => k_is)
    (case c2 => k_is)
    (case k2 => k_is)
    (case a3 => k_is)
    (case l3 => k_is)
    (case c3 => k_is)
    (case k3 => k_is)
    (case a4 => k_is)
    (case l4 => k_is)
    (case c4 => k_is)
    (case k4 => k_is)
    (case a5 => k_is)
    (case l5 => k_is)
    (case c5 => k_is)
    (case k5 => k_is)
    (case a6 => k_is)
    (case l6 => k_is)
    (case c6 => k_is)
    (case k6 => k_is)
    (case a7 => k_is)
    (case l7 => k_is)
    (case c7 => k_is)
    (case k7 => k_is)
    (case a8 => k_is)
    (case l8 => k_is)
    (case c8 => k_is)
    (case k8 => k_is)
    (case a9 => k_is)
    (case l9 => k_is)
    (case c9 => k_is)
    (case k9 => k_is)
    (case a10 => k_is)
    (case l10 => k_is)
    (case c10 => k_is)
    (case k10 => k_is)
    (case a11 => k_is)
    (case l11 => k_is)
    (case c11 => k_is)
    (case k11 => k_is)
    (case a12 => k_is)
    (case l12 => k_is)
    (case c12 => k_is)
    (case k12 => k_is)
    (case a13 => k_is)
    (case l13 => k_is)
    (case c13 => k_is)
    (case k13 => k_is)
    (case z_abs => k_is)
    (case z_enumerate => k_is)
    (case z_int => k_is)
    (case z_len => k_is)
    (case z_list => k_is)
    (case z_max => k_is)
    (case z_range => k_is)
    (case z_repr => k_is)
    (case z_set => k_is)
    (case z_sorted => k_is)
    (case z_tuple => k_is)
    (case z_zip => k_is)

