import PyProof.Rows.All
import Wide.All
import OpenK.AllK
import Wide.FinOn
import HandS.ForMost
import HandS.Walk
import HandS.Deep
import HandS.TupAny
import HandS.Style
import HandS.Conv
import HandS.Sort
import HandS.Evl
import KE.GoesMore
import KE.GoesEnum
import KE.KRevSl
import HandS.SetFor
import HandS.Strs
import HandS.DictComp
import HandS.SortRule
import KE.DataMinMax
import HandS.IsInst
import HandS.Wide
import HandS.Star
import PySem.Challenge.RW_soonerornot_k12_whole_placings_of_one_or
set_option Elab.async false
set_option linter.all false
set_option maxRecDepth 100000
set_option maxHeartbeats 4000000
/-! defs whose calls stand where no repr runs: the promise with the guards told -/
namespace Gd
open PySem PySem.Spec PyProof.Rows L2

/-- a def's promise at a place where no guard stands -/
structure FnG (P : Program) (w : World) (K : PySem.W.Frag) (mg : Str → Option Value) (base : Heap)
    (k : Nat) (f : Addr) (fd : FuncData) (ps : List Str) (sp : Sp) : Prop where
  len : ∀ vs H Q E, sp vs H Q E → vs.length = ps.length
  run : ∀ (A : Around) (outer : List Env) (s : Shared) (H : Hp) (args : Args) (us : List Value)
    (vs : List V) (Q : VK) (E : XK), A.guards = some [] → Room k A → Env0 P w K mg base A outer s H →
    BindsTo s fd args (ps.zip us) → Vals vs us → sp vs H Q E →
    codeAny (model P w) A (.call (.ref f) args) (CR CX0 outer P w H s Q E) s

section
variable {P : Program} {w : World} {K : PySem.W.Frag} {mg : Str → Option Value} {base : Heap}
theorem FnG.of {k : Nat} {f : Addr} {fd : FuncData} {ps : List Str} {sp : Sp}
    (F : FnOk P w K mg base CX0 k f fd ps sp) : FnG P w K mg base k f fd ps sp :=
  ⟨F.len, fun A outer s H args us vs Q E _ => F.run A outer s H args us vs Q E⟩
theorem FnG.mono {j k : Nat} {f : Addr} {fd : FuncData} {ps : List Str} {sp : Sp}
    (F : FnG P w K mg base j f fd ps sp) (h : j ≤ k) : FnG P w K mg base k f fd ps sp :=
  ⟨F.len, fun A outer s H args us vs Q E hg hr => F.run A outer s H args us vs Q E hg (hr.mono h)⟩

theorem fn_ofG {k : Nat} {f : Addr} {x qual : Str} {st : Stmt} {fd : FuncData} {N ps : List Str} {sp : Sp}
    (F : Fun K x qual st f fd) (S : FnScope N ps (defScope st))
    (len : ∀ vs H Q E, sp vs H Q E → vs.length = ps.length)
    (hbody : ∀ (cdv : Value) (A : Around) (outer : List Env) (s : Shared) (H : Hp) (vs : List V) (Q : VK) (E : XK),
      A.guards = some [] → Room k (A.deeper (envOfC qual (defScope st) s.heap.objs.size f cdv)) → sp vs H Q E →
      ∃ t, PSs (cxOf CX0 P w K mg base N qual (defScope st) f cdv A outer s H E).nox (defBody st) t ∧
        t { nx := fun _ H' => Q .non H', rt := Q } (start N vs) H) :
    FnG P w K mg base (k + 1) f fd ps sp := by
  obtain ⟨oc, od, kV, doc, pm, an, cdv, ct, osl, rfl, lk, hcd⟩ := F.ex
  refine ⟨len, fun A outer s H args us vs Q E hg hr e0 hb rv hsp => ?_⟩
  have hlen := len vs H Q E hsp
  have kin : K.In s.heap :=
    e0.mod.kin.keeps fun b o e => (e0.bs b o e).1
  have lim : s.heap.NoLimit :=
    e0.mod.nolimit.keeps fun b o e => (e0.bs b o e).1
  have kinds : ∀ y ∈ ps.zip us, (defScope st).names.lookup y.1 = some .local ∨
      ((defScope st).names.lookup y.1 = some .cell ∧
        ((cellsFrom (s.heap.objs.size + 1) (defScope st).names []).lookup y.1).isSome = true) := by
    rintro ⟨n, v⟩ hy
    cases S.par n (List.of_mem_zip hy).1 with
    | inl q => exact Or.inl q
    | inr q => exact Or.inr ⟨q, PySem.W.cellsFrom_some _ _ _ (Or.inl q)⟩
  refine codeAny_call_function hr.depth (kin _ _ lk) rfl S.co S.gen rfl
    (PySem.W.codeRec_of kin hcd) (hb _ _ _ _ ?_)
  refine wpAny_newFunctionEnv_cells S.kind kinds fun env henv s1 icc => ?_
  cases henv
  refine ⟨lim.keeps icc.toInCall.keep, codeAny_func ?_⟩
  obtain ⟨t, ht, hq⟩ := hbody cdv A outer s H vs Q E hg (hr.deeper _) hsp
  have inv0 := inv_start (CX := CX0) (mg := mg) (base := base) (cd := cdv) (E := E) S hr.hd e0 hlen rv icc
  refine wpAny_mono (ht.nox.run [] s1 (start N vs) H _ inv0 hq) (fun fl s' hs => ?_) (fun e s' hs => hs)
  cases fl with
  | ret u =>
    obtain ⟨v, σ', H', J, r2, q⟩ := hs
    exact ⟨v, H', J.os, J.bare, J.base, J.hok, r2, q⟩
  | next =>
    obtain ⟨σ', H', J, q⟩ := hs
    exact ⟨V.non, H', J.os, J.bare, J.base, J.hok, rfl, q⟩
  | brk =>
    obtain ⟨_, _, _, q⟩ := hs
    cases q
  | cont =>
    obtain ⟨_, _, _, q⟩ := hs
    cases q
end

section
variable {X : Cx} {k : Nat} {f : Addr} {fd : FuncData} {ps : List Str} {sp : Sp} {ds : List Value}
  {dvs : List V} {x : Str} {p pos : Pos} {e : Expr} {es : List Expr} {t : TA} {E : XK}

theorem run_fnG {pins : List (Addr × Obj)} {σ : L2.St} {H : Hp} {s : Shared} {Q : VK} {us : List Value} {vs : List V}
    (F : FnG X.prog X.w X.K X.mg X.base k f fd ps sp) (hg : X.A.guards = some []) (hr : Room k X.A)
    (hb : Binds X.K fd ps ds) (hd : Vals dvs ds)
    (I : Inv X pins σ H s) (r : Vals vs us) (h : sp (vs ++ dvs) H Q E0) :
    wpAny (model X.prog X.w) X.A (call (.ref f) us) (EP X pins σ Q) X.xe s := by
  have r2 : Vals (vs ++ dvs) (us ++ ds) := r.append hd
  have hl : (us ++ ds).length = ps.length := r2.length.symm.trans (F.len _ _ _ _ h)
  refine wpAny_call (codeAny_mono
    (F.run X.A X.stack s H ⟨us, []⟩ (us ++ ds) (vs ++ dvs) Q E0 hg hr I.env0 (hb s us I.kIn hl) r2 h) ?_)
  intro res s' hq
  match res, hq with
  | .error _, hq => exact (hq : False).elim
  | .ok (.ret u), hq => exact I.after hq
  | .ok .next, hq => exact False.elim hq
  | .ok .brk, hq => exact False.elim hq
  | .ok .cont, hq => exact False.elim hq

theorem pe_callG (F : FnG X.prog X.w X.K X.mg X.base k f fd ps sp) (hgd : X.A.guards = some []) (hr : Room k X.A)
    (hg : Gl X x) (hm : X.mg x = some (.ref f)) (hk : PySem.W.keepIn X.K (.ref f) = true)
    (hb : Binds X.K fd ps ds) (hd : Vals dvs ds) (ha : PA X (e :: es) t)
    (hdb : (x == ("__debug__" : Str)) = false := by decide)
    (he : starEach (e :: es) X.env = (false, eval e X.env) :: starEach es X.env := by rfl)
    (hpl : (backTo pos (starEach es X.env)).any (·.1) = false := by rfl) :
    PE X (.Call (.Name x p) (e :: es) [] pos) (tCall sp dvs E0 t) := by
  constructor
  intro pins s σ H Q I h
  refine wpAny_Call_Name_kw (ld_glob I hg hm ?_ hdb)
  refine PySem.W.callWith_K (h₀ := X.base) I.ok.mod.kin hk ?_ he hpl
  refine thn (ha.run pos pins s σ H _ I h) ?_
  rintro us s1 ⟨vs, H1, I1, r, q⟩
  exact ⟨I1.kIn, run_fnG F hgd hr hb hd I1 r q⟩
theorem pe_callG0 (F : FnG X.prog X.w X.K X.mg X.base k f fd ps sp) (hgd : X.A.guards = some []) (hr : Room k X.A)
    (hg : Gl X x) (hm : X.mg x = some (.ref f)) (hk : PySem.W.keepIn X.K (.ref f) = true)
    (hb : Binds X.K fd ps ds) (hd : Vals dvs ds) (hdb : (x == ("__debug__" : Str)) = false := by decide) :
    PE X (.Call (.Name x p) [] [] pos) (tCall sp dvs E0 tNil) := by
  constructor
  intro pins s σ H Q I h
  refine wpAny_Call_Name_kw (ld_glob I hg hm ?_ hdb)
  exact PySem.W.callWith_K0 I.kIn hk (run_fnG (us := []) F hgd hr hb hd I .nil h)
end

/-! repr of data -/
section
variable {X : Cx}
def rReprD (K : PySem.W.Frag) : List V → Hp → VK → Prop := fun xs H Q =>
  ∃ a d, xs = [.ref a] ∧ Dp K H (.ref a) d ∧ d.showable = true ∧ d.hasDict = false ∧ d.depth ≤ 60 ∧
    d.shown.length ≤ sizeLine ∧ Q (.str d.shown) H
theorem call_reprD (hg : X.A.guards = some []) (hu : X.A.units + 64 < cLine) :
    CallR X (.builtin "repr") (rReprD X.K) := by
  intro pins s σ H xs us Q I r h
  obtain ⟨a, d, rfl, hd, hs, hnd, hdp, hz, q⟩ := h
  obtain ⟨u, rfl, ru⟩ := vals1 r
  obtain ⟨as, rd⟩ := Dp.reads I d (.ref a) u hd ru
  cases ru
  refine repr_of_reads' rd hs (PyData.noDict_hsm hnd) hg (by omega) (fun _ _ e => e) ?_ hz
  intro h' tu tk keep
  exact ⟨.str d.shown, H, I.kept (h' := h') (t' := tk) keep, ⟨_, rfl⟩, q⟩
end

/-! the law's own end -/
theorem law_callG {P : Program} {w : World} {K : PySem.W.Frag} {mg mb : Str → Option Value} {k : Nat} {fa a : Addr}
    {fd : FuncData} {x : Str} {sp : Sp} {s1 : Shared} {vs : List Value} {ns : List Int}
    (KX : K.In s1.heap) (hns : s1.heap.Ns mainGlobals mg) (hb : s1.heap.Ns builtinsNs mb)
    (hbb : ∀ x : Str, x ≠ "__name__" → mb x = bootBuiltins x) (hlim : s1.heap.NoLimit) (hg : s1.gens = #[])
    (ha : s1.heap.get? a = some { cls := .type "list", data := .seq vs.toArray }) (hi : IntsAre vs ns)
    (hl : ns.length ≤ sizeLine) (hr : Room k callerA)
    (F : ∀ base : Heap, K.In base → base.Ns mainGlobals mg → FnG P w K mg base k fa fd [x] sp)
    (hbind : ∀ (s : Shared) (u : Value), BindsTo s fd ⟨[u], []⟩ [(x, u)])
    (hsp : ∀ H : Hp, Only H → SqL K H a (ns.map V.int) → sp [.ref a] H (fun v _ => v = .bl true) E0) :
    codeAny (model P w) callerA (.call (.ref fa) ⟨[.ref a], []⟩)
      (fun r s' => r = .ok (.ret (.bool true)) ∧ OldK s1.heap s'.heap ∧ s'.os = s1.os ∧ AllBare s'.gens) s1 := by
  have rv := vals_ints hi
  have lenV := hi.length
  suffices core : ∀ H : Hp, Only H → SqL K H a (ns.map V.int) → HOk P w H s1.heap → (∀ b, H b ≠ none → b = a) →
      (H a ≠ none → K.lookup a = none) → codeAny (model P w) callerA (.call (.ref fa) ⟨[.ref a], []⟩)
        (fun r s' => r = .ok (.ret (.bool true)) ∧ OldK s1.heap s'.heap ∧ s'.os = s1.os ∧ AllBare s'.gens) s1 by
    cases hk : K.lookup a with
    | some o =>
      have e := KX a o hk
      rw [ha] at e
      cases e
      refine core (fun _ => none) (fun _ => Or.inl rfl)
        (Or.inr ⟨_, vs.toArray, _, hk, rfl, rfl, rfl, (by rw [List.size_toArray, lenV]; exact hl), (by simpa using rv)⟩)
        (fun b u z => nomatch (show (none : Option HO) = some u from z)) (fun b z => absurd rfl z) (fun z => absurd rfl z)
    | none =>
      refine core (fun b => if b = a then some (.frz { cls := .type "list", data := .seq vs.toArray } (.lst (ns.map V.int))) else none)
        (fun b => ?_) (Or.inl (Or.inr ⟨{ cls := .type "list", data := .seq vs.toArray }, if_pos rfl⟩)) (fun b u z => ?_) (fun b z => ?_) (fun _ => hk)
      · by_cases hba : b = a
        · exact Or.inr ⟨_, _, if_pos hba⟩
        · exact Or.inl (if_neg hba)
      · by_cases hba : b = a
        · have z2 := (if_pos hba).symm.trans z
          cases z2
          cases hba
          exact ⟨ha, (by rw [List.length_map]; exact hl), vs, _, rv, ha⟩
        · have z2 := (if_neg hba).symm.trans z
          cases z2
      · by_cases hba : b = a
        · exact hba
        · exact absurd (if_neg hba) z
  intro H hO hS hok hA hK
  have dictFree : ∀ {b : Addr} {o : Obj} {es : Array DictEntry} {ep : Nat},
      s1.heap.get? b = some o → o.data = .dict es ep → H b = none := by
    intro b o es ep e d
    cases q : H b with
    | none => rfl
    | some u =>
      have eb : b = a := hA b (by rw [q]; simp)
      cases eb
      rw [ha] at e
      cases e
      exact nomatch (show Data.seq vs.toArray _ = Data.dict es ep from d)
  have nsK : ∀ {b : Addr} {m : Str → Option Value}, s1.heap.Ns b m → (hidT s1.heap H).Ns b m := by
    rintro b m ⟨o, es, ep, e, d, r⟩
    exact ⟨o, es, ep, hidT_get e (dictFree e d), d, r⟩
  have hKb : K.In (hidT s1.heap H) := by
    intro b o e
    refine hidT_get (KX b o e) ?_
    cases q : H b with
    | none => rfl
    | some u =>
      have eb : b = a := hA b (by rw [q]; simp)
      cases eb
      have := hK (by rw [q]; simp)
      rw [this] at e
      cases e
  have hM : Mod K mg (hidT s1.heap H) :=
    ⟨hKb, nsK hns, ⟨mb, nsK hb, hbb⟩, let ⟨mc, h1, h2⟩ := hlim; ⟨mc, nsK h1, h2⟩⟩
  have env : Env0 P w K mg (hidT s1.heap H) callerA [] s1 H :=
    ⟨rfl, hM, fun b o e => of_hidT e, Nat.le_of_eq (hidT_size _ _), trivial,
      fun b hb => absurd (show b ∈ ([] : List Addr) from hb) (by simp), hok, .of_eq hg⟩
  have ran := (F _ hKb (nsK hns)).run callerA [] s1 H ⟨[.ref a], []⟩ [.ref a] [.ref a] _ _ rfl hr env
    (hbind s1 (.ref a)) (.cons rfl .nil) (hsp H hO hS)
  refine codeAny_mono ran ?_
  intro r s' h
  match r, h with
  | .error _, h => exact (h : False).elim
  | .ok .next, h => exact False.elim h
  | .ok .brk, h => exact False.elim h
  | .ok .cont, h => exact False.elim h
  | .ok (.ret u), h =>
    obtain ⟨v, H', os, bare, un, hok', r', q⟩ := h
    have q2 : v = .bl true := q
    cases q2
    have eu : u = Value.bool true := r'
    cases eu
    refine ⟨rfl, OldK.of_keep fun b o e => ?_, os, bare⟩
    cases qb : H b with
    | none =>
      exact un.keep b o e qb (fun z => absurd (show b ∈ ([] : List Addr) from z) (by simp)) (by simp)
    | some u =>
      cases hO b with
      | inl z => rw [qb] at z; cases z
      | inr z =>
        obtain ⟨ob, xs, z⟩ := z
        obtain ⟨e1, _⟩ := hok b _ z
        obtain ⟨e2, _⟩ := hok' b _ (un.frzs b ob _ z)
        rw [e] at e1
        cases e1
        exact e2

theorem walk_ofG {l : PySem.W.OpenLaw} {n k : Nat} {q : Program} {loose : List Str} {XP : (Str → Option Value) → Heap → Prop}
    {YP : World → Heap → Prop} {d : DefRec} {K : Params → PySem.W.Frag} {sp : PySem.W.Frag → Sp} {x : Str}
    (hn : l.most = some n) (hn2 : n ≤ sizeLine) (hdf : d.params.defaults = []) (hr : Room k callerA)
    (hY : ∀ (w : World) (h : Heap), YP w h → (K w.params).In h)
    (F : ∀ (w : World) (mg : Str → Option Value) (fa : Addr) (h : Heap), (K w.params).In h → h.Ns mainGlobals mg →
      mg d.name = some (.ref fa) → ∃ fd : FuncData, (∀ (s : Shared) (u : Value), BindsTo s fd ⟨[u], []⟩ [(x, u)]) ∧
        ∀ base : Heap, (K w.params).In base → base.Ns mainGlobals mg → FnG l.prog w (K w.params) mg base k fa fd [x] (sp (K w.params)))
    (hsp : ∀ (K : PySem.W.Frag) (H : Hp) (a : Addr) (ns : List Int), ns.length ≤ n → Only H → SqL K H a (ns.map V.int) →
      sp K [.ref a] H (fun v _ => v = .bl true) E0) :
    PySem.W.WalkO q loose XP YP l.row.toRowW d [] (fun f vs => PySem.call f vs) := by
  refine Att.attach_call hn hdf ?_
  intro w s0 s1 mg mb fa o pm cd doc a vs ns G Y ho hd hcd hmg hobj hints hlen hg
  obtain ⟨fd, hb, hF⟩ := F w mg fa _ (hY w _ Y) G.T.g hmg
  exact law_callG (hY w _ Y) G.T.g G.T.b G.T.builtins G.T.nolimit hg hobj hints (Nat.le_trans hlen hn2) hr hF hb
    fun H hO hS => hsp (K w.params) H a ns hlen hO hS
theorem _root_.L2.Room.units65 {k : Nat} {A : Around} (r : Room k A) : A.units + 65 < cLine := by
  have := r.un
  omega
end Gd

/-! data over the layer: what an expression is worth while objects of a list M may change -/
namespace Dq
open PySem PySem.Spec PyProof.Rows L2 Gd

abbrev S := L2.St

/-! ### data at values -/
mutual
inductive Da (K : PySem.W.Frag) (H : Hp) : V → PyData → Prop
  | non : Da K H .non .none
  | bl (b : Bool) : Da K H (.bl b) (.bool b)
  | int (i : Int) : Da K H (.int i) (.int i)
  | str (x : Str) : Da K H (.str x) (.str x)
  | lst {a : Addr} {xs : List V} {ds : List PyData} : H a = some (.lst xs) → Das K H xs ds → Da K H (.ref a) (.list ds)
  | tup {a : Addr} {xs : List V} {ds : List PyData} : SqT K H a xs → Das K H xs ds → Da K H (.ref a) (.tuple ds)
inductive Das (K : PySem.W.Frag) (H : Hp) : List V → List PyData → Prop
  | nil : Das K H [] []
  | cons {v : V} {vs : List V} {d : PyData} {ds : List PyData} : Da K H v d → Das K H vs ds → Das K H (v :: vs) (d :: ds)
end

section
variable {K : PySem.W.Frag} {H H' : Hp}
theorem same_sqt {a : Addr} {xs : List V} (e : Same H H') (h : SqT K H a xs) : SqT K H' a xs := by
  rcases h with (h | ⟨o, h⟩) | h
  · exact .inl (.inl (e _ _ h))
  · exact .inl (.inr ⟨o, e _ _ h⟩)
  · exact .inr h
mutual
theorem Da.same (e : Same H H') : ∀ (d : PyData) (v : V), Da K H v d → Da K H' v d
  | .none, _, h => by cases h; exact .non
  | .bool b, _, h => by cases h; exact .bl b
  | .int i, _, h => by cases h; exact .int i
  | .str x, _, h => by cases h; exact .str x
  | .list ds, _, h => by
    cases h with
    | lst hs ha => exact .lst (e _ _ hs) (Das.same e ds _ ha)
  | .tuple ds, _, h => by
    cases h with
    | tup hs ha => exact .tup (same_sqt e hs) (Das.same e ds _ ha)
  | .dict _, _, h => by cases h
theorem Das.same (e : Same H H') : ∀ (ds : List PyData) (vs : List V), Das K H vs ds → Das K H' vs ds
  | [], _, h => by cases h; exact .nil
  | d :: ds, _, h => by
    cases h with
    | cons h1 h2 => exact .cons (Da.same e d _ h1) (Das.same e ds _ h2)
end
mutual
theorem Da.dp : ∀ (d : PyData) (v : V), Da K H v d → Dp K H v d
  | .none, _, h => by cases h; exact .non
  | .bool b, _, h => by cases h; exact .bl b
  | .int i, _, h => by cases h; exact .int i
  | .str x, _, h => by cases h; exact .str x
  | .list ds, _, h => by
    cases h with
    | lst hs ha => exact .lst (SqL.of hs) (Das.dp ds _ ha)
  | .tuple ds, _, h => by
    cases h with
    | tup hs ha => exact .tup hs (Das.dp ds _ ha)
  | .dict _, _, h => by cases h
theorem Das.dp : ∀ (ds : List PyData) (vs : List V), Das K H vs ds → DpAll K H vs ds
  | [], _, h => by cases h; exact .nil
  | d :: ds, _, h => by
    cases h with
    | cons h1 h2 => exact .cons (Da.dp d _ h1) (Das.dp ds _ h2)
end
theorem Das.length : ∀ {ds : List PyData} {vs : List V}, Das K H vs ds → vs.length = ds.length
  | [], _, h => by cases h; rfl
  | d :: ds, _, h => by
    cases h with
    | cons h1 h2 => rw [List.length_cons, List.length_cons, h2.length]
theorem Das.get : ∀ {ds : List PyData} {vs : List V} {i : Nat} {d : PyData}, Das K H vs ds → ds[i]? = some d → ∃ v, vs[i]? = some v ∧ Da K H v d
  | [], _, i, d, h, e => by simp at e
  | x :: ds, _, 0, d, h, e => by
    cases h with
    | cons h1 h2 =>
      simp at e
      subst e
      exact ⟨_, rfl, h1⟩
  | x :: ds, _, i + 1, d, h, e => by
    cases h with
    | cons h1 h2 =>
      obtain ⟨v, e1, e2⟩ := Das.get (i := i) h2 (by simpa using e)
      exact ⟨v, by simpa using e1, e2⟩
theorem Das.getV {ds : List PyData} {vs : List V} {i : Nat} {v : V} (h : Das K H vs ds) (e : vs[i]? = some v) : ∃ d, ds[i]? = some d ∧ Da K H v d := by
  have hl := h.length
  have hi : i < vs.length := (List.getElem?_eq_some_iff.mp e).1
  obtain ⟨v2, e2, r⟩ := h.get (i := i) (d := ds[i]'(by omega)) (by simp [show i < ds.length by omega])
  rw [e] at e2
  cases e2
  exact ⟨_, by simp [show i < ds.length by omega], r⟩
theorem Das.append : ∀ {ds es : List PyData} {vs ws : List V}, Das K H vs ds → Das K H ws es → Das K H (vs ++ ws) (ds ++ es)
  | [], _, _, _, h, g => by cases h; exact g
  | d :: ds, _, _, _, h, g => by
    cases h with
    | cons h1 h2 => exact .cons h1 (Das.append h2 g)
theorem Das.take : ∀ {ds : List PyData} {vs : List V} (n : Nat), Das K H vs ds → Das K H (vs.take n) (ds.take n)
  | _, _, 0, _ => .nil
  | [], _, _ + 1, h => by cases h; exact .nil
  | d :: ds, _, n + 1, h => by
    cases h with
    | cons h1 h2 => exact .cons h1 (Das.take n h2)
theorem Das.drop : ∀ {ds : List PyData} {vs : List V} (n : Nat), Das K H vs ds → Das K H (vs.drop n) (ds.drop n)
  | _, _, 0, h => h
  | [], _, _ + 1, h => by cases h; exact .nil
  | d :: ds, _, n + 1, h => by
    cases h with
    | cons h1 h2 => exact Das.drop n h2
theorem Das.reverse {ds : List PyData} {vs : List V} (h : Das K H vs ds) : Das K H vs.reverse ds.reverse := by
  induction ds generalizing vs with
  | nil => cases h; exact .nil
  | cons d ds ih =>
    cases h with
    | cons h1 h2 =>
      rw [List.reverse_cons, List.reverse_cons]
      exact (ih h2).append (.cons h1 .nil)
theorem Das.ints : ∀ (ns : List Int), Das K H (ns.map V.int) (ns.map PyData.int)
  | [] => .nil
  | n :: ns => .cons (.int n) (Das.ints ns)
theorem Das.perm {ds : List PyData} {vs ws : List V} (h : Das K H vs ds) (p : ws.Perm vs) : ∃ es, es.Perm ds ∧ Das K H ws es := by
  induction p generalizing ds with
  | nil => cases h; exact ⟨[], List.Perm.refl _, .nil⟩
  | cons x p ih =>
    cases h with
    | cons h1 h2 =>
      obtain ⟨es, q, r⟩ := ih h2
      exact ⟨_ :: es, q.cons _, .cons h1 r⟩
  | swap x y l =>
    cases h with
    | cons h1 h2 =>
      cases h2 with
      | cons h3 h4 => exact ⟨_, List.Perm.swap _ _ _, .cons h3 (.cons h1 h4)⟩
  | trans p q ih1 ih2 =>
    obtain ⟨es, e1, r1⟩ := ih2 h
    obtain ⟨fs, e2, r2⟩ := ih1 r1
    exact ⟨fs, e2.trans e1, r2⟩
theorem Da.intV {v : V} {i : Int} (h : Da K H v (.int i)) : v = .int i := by cases h; rfl
theorem Da.blV {v : V} {b : Bool} (h : Da K H v (.bool b)) : v = .bl b := by cases h; rfl
theorem Da.strV {v : V} {x : Str} (h : Da K H v (.str x)) : v = .str x := by cases h; rfl
theorem Da.nonV {v : V} (h : Da K H v .none) : v = .non := by cases h; rfl
end

/-! ### worlds: the objects that may change, the heap -/
def mn (M : List Addr) (H : Hp) : Hp := fun b => if b ∈ M then none else H b
theorem mn_out {M : List Addr} {H : Hp} {b : Addr} (h : b ∉ M) : mn M H b = H b := if_neg h
theorem mn_in {M : List Addr} {H : Hp} {b : Addr} (h : b ∈ M) : mn M H b = none := if_pos h
theorem mn_some {M : List Addr} {H : Hp} {b : Addr} {o : HO} (h : mn M H b = some o) : b ∉ M ∧ H b = some o := by
  by_cases hb : b ∈ M
  · rw [mn_in hb] at h; cases h
  · rw [mn_out hb] at h; exact ⟨hb, h⟩
theorem mn_same {M : List Addr} {H : Hp} : Same (mn M H) H := fun b o h => (mn_some h).2
abbrev Dm (K : PySem.W.Frag) (M : List Addr) (H : Hp) (v : V) (d : PyData) : Prop := Da K (mn M H) v d
abbrev Dms (K : PySem.W.Frag) (M : List Addr) (H : Hp) (vs : List V) (ds : List PyData) : Prop := Das K (mn M H) vs ds
structure Go (M : List Addr) (H : Hp) (M' : List Addr) (H' : Hp) : Prop where
  sub : ∀ b ∈ M, b ∈ M'
  new : ∀ b ∈ M', b ∈ M ∨ H b = none
  le : ∀ b o, b ∉ M' → H b = some o → H' b = some o
  tr : ∀ b ∈ M', H' b ≠ none
abbrev Tr (M : List Addr) (H : Hp) : Prop := ∀ b ∈ M, H b ≠ none
theorem Go.refl {M : List Addr} {H : Hp} (t : Tr M H) : Go M H M H := ⟨fun _ h => h, fun _ h => .inl h, fun _ _ _ h => h, t⟩
theorem Go.trans {M M1 M2 : List Addr} {H H1 H2 : Hp} (g : Go M H M1 H1) (k : Go M1 H1 M2 H2) : Go M H M2 H2 where
  sub := fun b h => k.sub b (g.sub b h)
  new := fun b h => by
    rcases k.new b h with h1 | h1
    · exact g.new b h1
    · cases e : H b with
      | none => exact .inr rfl
      | some o =>
        by_cases hb : b ∈ M1
        · exact absurd h1 (g.tr b hb)
        · rw [g.le b o hb e] at h1; cases h1
  le := fun b o hb e => k.le b o hb (g.le b o (fun z => hb (k.sub b z)) e)
  tr := k.tr
theorem Go.same {M M' : List Addr} {H H' H2 : Hp} (g : Go M H M' H') (e : Same H' H2) : Go M H M' H2 :=
  ⟨g.sub, g.new, fun b o hb h => e b o (g.le b o hb h), fun b hb => by
    have := g.tr b hb
    cases q : H' b with
    | none => exact absurd q this
    | some o => rw [e b o q]; intro z; cases z⟩
theorem Tr.same {M : List Addr} {H H' : Hp} (t : Tr M H) (e : Same H H') : Tr M H' := (Go.refl t).same e |>.tr
theorem Go.mn {M M' : List Addr} {H H' : Hp} (g : Go M H M' H') : Same (mn M H) (mn M' H') := fun b o h => by
  obtain ⟨h1, h2⟩ := mn_some h
  have hb : b ∉ M' := fun z => by
    rcases g.new b z with q | q
    · exact h1 q
    · rw [q] at h2; cases h2
  rw [mn_out hb]
  exact g.le b o hb h2
section
variable {K : PySem.W.Frag} {M M' : List Addr} {H H' : Hp}
theorem dm_go {v : V} {d : PyData} (h : Dm K M H v d) (g : Go M H M' H') : Dm K M' H' v d := Da.same g.mn _ _ h
theorem dms_go {vs : List V} {ds : List PyData} (h : Dms K M H vs ds) (g : Go M H M' H') : Dms K M' H' vs ds := Das.same g.mn _ _ h
theorem dm_same {v : V} {d : PyData} (h : Dm K M H v d) (t : Tr M H) (e : Same H H') : Dm K M H' v d := dm_go h ((Go.refl t).same e)
theorem dm_h {v : V} {d : PyData} (h : Dm K M H v d) : Da K H v d := Da.same mn_same _ _ h
theorem dms_h {vs : List V} {ds : List PyData} (h : Dms K M H vs ds) : Das K H vs ds := Das.same mn_same _ _ h
/-- a new object that is no longer changed -/
theorem go_new {p : Addr} {o : HO} (t : Tr M H) (hp : H p = none) : Go M H M (upd H p o) := (Go.refl t).same (fun b u e => by
  rw [upd_ne (ne_of_none e hp)]
  exact e)
/-- a new object that is to be changed -/
theorem go_mut {p : Addr} {o : HO} (t : Tr M H) (hp : H p = none) : Go M H (p :: M) (upd H p o) where
  sub := fun b h => List.mem_cons_of_mem _ h
  new := fun b h => by
    rcases List.mem_cons.mp h with rfl | h
    · exact .inr hp
    · exact .inl h
  le := fun b u hb e => by
    have hne : b ≠ p := fun z => hb (by rw [z]; exact List.mem_cons_self ..)
    rw [upd_ne hne]
    exact e
  tr := fun b h => by
    by_cases hb : b = p
    · subst hb
      rw [upd_same]
      intro z; cases z
    · rw [upd_ne hb]
      exact t b ((List.mem_cons.mp h).resolve_left hb)
/-- a change at one of M -/
theorem go_set {p : Addr} {o : HO} (t : Tr M H) (hp : p ∈ M) : Go M H M (upd H p o) where
  sub := fun _ h => h
  new := fun _ h => .inl h
  le := fun b u hb e => by
    have hne : b ≠ p := fun z => hb (by rw [z]; exact hp)
    rw [upd_ne hne]
    exact e
  tr := fun b h => by
    by_cases hb : b = p
    · subst hb
      rw [upd_same]
      intro z; cases z
    · rw [upd_ne hb]
      exact t b h
theorem same_new {p : Addr} {o : HO} (hp : H p = none) : Same H (upd H p o) := fun b u e => by
  rw [upd_ne (ne_of_none e hp)]
  exact e
theorem dm_newT {p : Addr} {vs : List V} {ds : List PyData} (t : Tr M H) (hp : H p = none) (h : Dms K M H vs ds) : Dm K M (upd H p (.tup vs)) (.ref p) (.tuple ds) := by
  have hM : p ∉ M := fun z => absurd hp (t p z)
  refine .tup (.inl (.inl ?_)) (dms_go h (go_new t hp))
  rw [mn_out hM, upd_same]
theorem dm_newL {p : Addr} {vs : List V} {ds : List PyData} (t : Tr M H) (hp : H p = none) (h : Dms K M H vs ds) : Dm K M (upd H p (.lst vs)) (.ref p) (.list ds) := by
  have hM : p ∉ M := fun z => absurd hp (t p z)
  refine .lst ?_ (dms_go h (go_new t hp))
  rw [mn_out hM, upd_same]
end

/-! ### what an expression, a test, arguments are worth, nothing tracked being changed -/
section
variable (K : PySem.W.Frag) (M : List Addr)
def Ev (te : TE) (σ : S) (H : Hp) (d : PyData) : Prop := ∀ M' H1, Go M H M' H1 → ∀ Q : VK, (∀ v H2, Same H1 H2 → Dm K M' H2 v d → Q v H2) → te σ H1 Q
def Eb (tt : TT) (σ : S) (H : Hp) (b : Bool) : Prop := ∀ M' H1, Go M H M' H1 → ∀ Q : Bool → Hp → Prop, (∀ H2, Same H1 H2 → Q b H2) → tt σ H1 Q
def Ea (ta : TA) (σ : S) (H : Hp) (ds : List PyData) : Prop := ∀ M' H1, Go M H M' H1 → ∀ Q : List V → Hp → Prop, (∀ vs H2, Same H1 H2 → Dms K M' H2 vs ds → Q vs H2) → ta σ H1 Q
def Eo (to : TO) (σ : S) (H : Hp) (o : Option Int) : Prop := ∀ M' H1, Go M H M' H1 → ∀ Q : Option Int → Hp → Prop, (∀ H2, Same H1 H2 → Q o H2) → to σ H1 Q
end
section
variable {K : PySem.W.Frag} {M M' : List Addr} {σ : S} {H H' : Hp} {ta tb te tc : TE} {tt tu : TT} {as : TA} {d e f : PyData} {ds es : List PyData} {r : R2} {x y : V}
theorem Ev.mono (h : Ev K M te σ H d) (g : Go M H M' H') : Ev K M' te σ H' d := fun M2 H1 k Q q => h M2 H1 (g.trans k) Q q
theorem Eb.mono {b : Bool} (h : Eb M tt σ H b) (g : Go M H M' H') : Eb M' tt σ H' b := fun M2 H1 k Q q => h M2 H1 (g.trans k) Q q
theorem Ev.is (h : Ev K M te σ H d) (z : d = e) : Ev K M te σ H e := z ▸ h
theorem Eb.is {b c : Bool} (h : Eb M tt σ H b) (z : b = c) : Eb M tt σ H c := z ▸ h
theorem ev_var {i : Nat} (h : σ[i]? = some (some x)) (hd : Dm K M H x d) : Ev K M (tVar i) σ H d := fun M2 H1 g Q q => ⟨x, h, q x H1 (Same.refl _) (dm_go hd g)⟩
theorem ev_int {i : Int} : Ev K M (tC (.int i)) σ H (.int i) := fun M2 H1 g Q q => q _ _ (Same.refl _) (.int i)
theorem ev_bl {b : Bool} : Ev K M (tC (.bl b)) σ H (.bool b) := fun M2 H1 g Q q => q _ _ (Same.refl _) (.bl b)
theorem ev_non : Ev K M (tC .non) σ H .none := fun M2 H1 g Q q => q _ _ (Same.refl _) .non
theorem ev_str {z : Str} : Ev K M (tC (.str z)) σ H (.str z) := fun M2 H1 g Q q => q _ _ (Same.refl _) (.str z)
theorem ea_nil : Ea K M tNil σ H [] := fun M2 H1 g Q q => q _ _ (Same.refl _) .nil
theorem ea_cons (h : Ev K M te σ H d) (k : Ea K M as σ H ds) : Ea K M (tCons te as) σ H (d :: ds) := fun M2 H1 g Q q =>
  h M2 H1 g _ fun v H2 e2 d2 => k M2 H2 (g.same e2) _ fun vs H3 e3 d3 => q _ _ (e2.trans e3) (.cons (dm_same d2 (g.same e2).tr e3) d3)
theorem ev_tup (h : Ea K M as σ H ds) (hz : ds.length ≤ sizeLine) : Ev K M (tTup as) σ H (.tuple ds) := fun M2 H1 g Q q =>
  h M2 H1 g _ fun vs H2 e2 d2 => ⟨by rw [d2.length]; exact hz, fun p hp => q _ _ (e2.trans (same_new hp)) (dm_newT (g.same e2).tr hp d2)⟩
theorem ev_lst (h : Ea K M as σ H ds) (hz : ds.length ≤ sizeLine) : Ev K M (tLst as) σ H (.list ds) := fun M2 H1 g Q q =>
  h M2 H1 g _ fun vs H2 e2 d2 => ⟨by rw [d2.length]; exact hz, fun p hp => q _ _ (e2.trans (same_new hp)) (dm_newL (g.same e2).tr hp d2)⟩
/-- a two-place operation by its operands' data -/
theorem ev_op (ha : Ev K M ta σ H d) (hb : Ev K M tb σ H e)
    (hr : ∀ M' H1 x y, Go M H M' H1 → Dm K M' H1 x d → Dm K M' H1 y e → ∀ Q : VK, (∀ v H2, Same H1 H2 → Dm K M' H2 v f → Q v H2) → r x y H1 Q) : Ev K M (tOp r ta tb) σ H f := fun M2 H1 g Q q =>
  ha M2 H1 g _ fun v H2 e2 d2 => hb M2 H2 (g.same e2) _ fun u H3 e3 d3 => hr M2 H3 v u ((g.same e2).same e3) (dm_same d2 (g.same e2).tr e3) d3 Q fun w H4 e4 d4 => q w H4 ((e2.trans e3).trans e4) d4
theorem ev_un {r : V → Hp → VK → Prop} (ha : Ev K M ta σ H d)
    (hr : ∀ M' H1 x, Go M H M' H1 → Dm K M' H1 x d → ∀ Q : VK, (∀ v H2, Same H1 H2 → Dm K M' H2 v f → Q v H2) → r x H1 Q) : Ev K M (tUn r ta) σ H f := fun M2 H1 g Q q =>
  ha M2 H1 g _ fun v H2 e2 d2 => hr M2 H2 v (g.same e2) d2 Q fun w H4 e4 d4 => q w H4 (e2.trans e4) d4
theorem ev_cb {r : List V → Hp → VK → Prop} (ha : Ea K M as σ H ds)
    (hr : ∀ M' H1 vs, Go M H M' H1 → Dms K M' H1 vs ds → ∀ Q : VK, (∀ v H2, Same H1 H2 → Dm K M' H2 v f → Q v H2) → r vs H1 Q) : Ev K M (tCB r as) σ H f := fun M2 H1 g Q q =>
  ha M2 H1 g _ fun v H2 e2 d2 => hr M2 H2 v (g.same e2) d2 Q fun w H4 e4 d4 => q w H4 (e2.trans e4) d4
theorem ev_I0 {g : Int → Int → Int} {i j : Int} (ha : Ev K M ta σ H (.int i)) (hb : Ev K M tb σ H (.int j)) : Ev K M (tOp (rI0 fun i j => .int (g i j)) ta tb) σ H (.int (g i j)) :=
  ev_op ha hb fun M2 H1 x y gg dx dy Q q => ⟨i, j, dx.intV, dy.intV, q _ _ (Same.refl _) (.int _)⟩
theorem ev_I {C : Int → Int → Prop} {g : Int → Int → Int} {i j : Int} (ha : Ev K M ta σ H (.int i)) (hb : Ev K M tb σ H (.int j)) (hc : C i j) : Ev K M (tOp (rI C fun i j => .int (g i j)) ta tb) σ H (.int (g i j)) :=
  ev_op ha hb fun M2 H1 x y gg dx dy Q q => ⟨i, j, dx.intV, dy.intV, hc, q _ _ (Same.refl _) (.int _)⟩
theorem ev_B0 {g : Int → Int → Bool} {i j : Int} (ha : Ev K M ta σ H (.int i)) (hb : Ev K M tb σ H (.int j)) : Ev K M (tOp (rI0 fun i j => .bl (g i j)) ta tb) σ H (.bool (g i j)) :=
  ev_op ha hb fun M2 H1 x y gg dx dy Q q => ⟨i, j, dx.intV, dy.intV, q _ _ (Same.refl _) (.bl _)⟩
theorem ev_neg {g : Int → Int} {i : Int} (ha : Ev K M ta σ H (.int i)) : Ev K M (tUn (rU fun i => .int (g i)) ta) σ H (.int (g i)) :=
  ev_un ha fun M2 H1 x gg dx Q q => ⟨i, dx.intV, q _ _ (Same.refl _) (.int _)⟩
theorem ev_eqD (ha : Ev K M ta σ H d) (hb : Ev K M tb σ H e) (sd : SeqAt.shaped d = true) (se : SeqAt.shaped e = true) : Ev K M (tOp (rEqD K) ta tb) σ H (.bool (PyData.eqv d e)) :=
  ev_op ha hb fun M2 H1 x y gg dx dy Q q => ⟨d, e, Da.dp _ _ (dm_h dx), Da.dp _ _ (dm_h dy), sd, se, q _ _ (Same.refl _) (.bl _)⟩
theorem ev_neD (ha : Ev K M ta σ H d) (hb : Ev K M tb σ H e) (sd : SeqAt.shaped d = true) (se : SeqAt.shaped e = true) : Ev K M (tOp (rNeD K) ta tb) σ H (.bool (!PyData.eqv d e)) :=
  ev_op ha hb fun M2 H1 x y gg dx dy Q q => ⟨d, e, Da.dp _ _ (dm_h dx), Da.dp _ _ (dm_h dy), sd, se, q _ _ (Same.refl _) (.bl _)⟩
def isNone : PyData → Bool
  | .none => true
  | _ => false
theorem da_none {v : V} (h : Da K H v d) : decide (v = .non) = isNone d := by
  cases h <;> rfl
theorem ev_isN (ha : Ev K M ta σ H d) : Ev K M (tIsN ta) σ H (.bool (isNone d)) := fun M2 H1 g Q q =>
  ha M2 H1 g _ fun v H2 e2 d2 => by
    show Q (.bl (decide (v = .non))) H2
    rw [da_none d2]
    exact q _ _ e2 (.bl _)
theorem ev_notN (ha : Ev K M ta σ H d) : Ev K M (tNotN ta) σ H (.bool (!isNone d)) := fun M2 H1 g Q q =>
  ha M2 H1 g _ fun v H2 e2 d2 => by
    show Q (.bl (!decide (v = .non))) H2
    rw [da_none d2]
    exact q _ _ e2 (.bl _)
theorem Das.atI {vs : List V} {i : Int} (h : Das K H vs ds) (e : L2.atI ds i = some d) : ∃ v, L2.atI vs i = some v ∧ Da K H v d := by
  unfold L2.atI at e ⊢
  rw [h.length]
  cases q : ixN ds.length i with
  | none => rw [q] at e; cases e
  | some j =>
    rw [q] at e
    exact h.get e
theorem ev_ixT {i : Int} (ha : Ev K M ta σ H (.tuple ds)) (hb : Ev K M tb σ H (.int i)) (hi : L2.atI ds i = some d) : Ev K M (tOp (rIxT K) ta tb) σ H d :=
  ev_op ha hb fun M2 H1 x y gg dx dy Q q => by
    cases dx with
    | @tup a xs _ hs hd =>
      obtain ⟨v, e1, e2⟩ := hd.atI hi
      exact ⟨a, xs, i, v, rfl, dy.intV, same_sqt mn_same hs, e1, q _ _ (Same.refl _) e2⟩
theorem ev_ixL {i : Int} (ha : Ev K M ta σ H (.list ds)) (hb : Ev K M tb σ H (.int i)) (hi : L2.atI ds i = some d) : Ev K M (tOp (rIxL K) ta tb) σ H d :=
  ev_op ha hb fun M2 H1 x y gg dx dy Q q => by
    cases dx with
    | @lst a xs _ hs hd =>
      obtain ⟨v, e1, e2⟩ := hd.atI hi
      exact ⟨a, xs, i, v, rfl, dy.intV, SqL.of (mn_same _ _ hs), e1, q _ _ (Same.refl _) e2⟩
theorem ev_len (ha : Ev K M ta σ H d) (hd : d = .list ds ∨ d = .tuple ds) : Ev K M (tCB (fun xs H Q => ∃ p ys, xs = [V.ref p] ∧ (SqL K H p ys ∨ SqT K H p ys) ∧ Q (.int ys.length) H) (tCons ta tNil)) σ H (.int ds.length) :=
  ev_cb (ea_cons ha ea_nil) fun M2 H1 vs gg dv Q q => by
    cases dv with
    | cons h1 h2 =>
      cases h2
      rcases hd with rfl | rfl
      · cases h1 with
        | @lst a xs _ hs hx => exact ⟨a, xs, rfl, .inl (SqL.of (mn_same _ _ hs)), by rw [hx.length]; exact q _ _ (Same.refl _) (.int _)⟩
      · cases h1 with
        | @tup a xs _ hs hx => exact ⟨a, xs, rfl, .inr (same_sqt mn_same hs), by rw [hx.length]; exact q _ _ (Same.refl _) (.int _)⟩
/-! tests -/
theorem eb_test {b : Bool} (h : Ev K M te σ H (.bool b)) : Eb M (tTest te) σ H b := fun M2 H1 g Q q => h M2 H1 g _ fun v H2 e2 d2 => ⟨b, d2.blV, q H2 e2⟩
theorem eb_B {b : Bool} (h : Ev K M te σ H (.bool b)) : Eb M (tB te) σ H b := fun M2 H1 g Q q => h M2 H1 g _ fun v H2 e2 d2 => ⟨b, d2.blV, q H2 e2⟩
theorem eb_and {a b : Bool} (h1 : Eb M tt σ H a) (h2 : a = true → Eb M tu σ H b) : Eb M (tAnd tt tu) σ H (a && b) := fun M2 H1 g Q q => h1 M2 H1 g _ fun H2 e2 => by
  cases a with
  | true => exact h2 rfl M2 H2 (g.same e2) Q fun H3 e3 => q H3 (e2.trans e3)
  | false => exact q H2 e2
theorem eb_or {a b : Bool} (h1 : Eb M tt σ H a) (h2 : a = false → Eb M tu σ H b) : Eb M (tOr tt tu) σ H (a || b) := fun M2 H1 g Q q => h1 M2 H1 g _ fun H2 e2 => by
  cases a with
  | true => exact q H2 e2
  | false => exact h2 rfl M2 H2 (g.same e2) Q fun H3 e3 => q H3 (e2.trans e3)
theorem eb_not {a : Bool} (h1 : Eb M tt σ H a) : Eb M (tNot tt) σ H (!a) := fun M2 H1 g Q q => h1 M2 H1 g _ fun H2 e2 => q H2 e2
theorem eb_yes : Eb M tYes σ H true := fun M2 H1 g Q q => q _ (Same.refl _)
theorem ev_andV {a b : Bool} (h1 : Ev K M ta σ H (.bool a)) (h2 : a = true → Ev K M tb σ H (.bool b)) : Ev K M (tAndV ta tb) σ H (.bool (a && b)) := fun M2 H1 g Q q => h1 M2 H1 g _ fun v H2 e2 d2 => ⟨a, d2.blV, by
  cases a with
  | true => exact h2 rfl M2 H2 (g.same e2) Q fun v H3 e3 d3 => q v H3 (e2.trans e3) d3
  | false => exact q _ H2 e2 (.bl _)⟩
theorem ev_orV {a b : Bool} (h1 : Ev K M ta σ H (.bool a)) (h2 : a = false → Ev K M tb σ H (.bool b)) : Ev K M (tOrV ta tb) σ H (.bool (a || b)) := fun M2 H1 g Q q => h1 M2 H1 g _ fun v H2 e2 d2 => ⟨a, d2.blV, by
  cases a with
  | true => exact q _ H2 e2 (.bl _)
  | false => exact h2 rfl M2 H2 (g.same e2) Q fun v H3 e3 d3 => q v H3 (e2.trans e3) d3⟩
theorem ev_notV {a : Bool} (h1 : Ev K M ta σ H (.bool a)) : Ev K M (tNotV ta) σ H (.bool (!a)) := fun M2 H1 g Q q => h1 M2 H1 g _ fun v H2 e2 d2 => ⟨a, d2.blV, q _ H2 e2 (.bl _)⟩
theorem ev_if {b : Bool} (h : Eb M tt σ H b) (h1 : b = true → Ev K M ta σ H d) (h2 : b = false → Ev K M tb σ H d) : Ev K M (tIf tt ta tb) σ H d := fun M2 H1 g Q q => h M2 H1 g _ fun H2 e2 => by
  cases b with
  | true => exact h1 rfl M2 H2 (g.same e2) Q fun v H3 e3 d3 => q v H3 (e2.trans e3) d3
  | false => exact h2 rfl M2 H2 (g.same e2) Q fun v H3 e3 d3 => q v H3 (e2.trans e3) d3
/-! calls of built-ins -/
theorem ev_int1 {i : Int} (ha : Ev K M ta σ H (.int i)) : Ev K M (tCB (fun xs H Q => (∃ i, xs = [V.int i] ∧ Q (.int i) H) ∨ ∃ k, xs = [V.bl k] ∧ Q (.int (if k then 1 else 0)) H) (tCons ta tNil)) σ H (.int i) :=
  ev_cb (ea_cons ha ea_nil) fun M2 H1 vs gg dv Q q => by
    cases dv with
    | cons h1 h2 =>
      cases h2
      cases h1
      exact .inl ⟨i, rfl, q _ _ (Same.refl _) (.int _)⟩
theorem ev_intB {k : Bool} (ha : Ev K M ta σ H (.bool k)) : Ev K M (tCB (fun xs H Q => (∃ i, xs = [V.int i] ∧ Q (.int i) H) ∨ ∃ k, xs = [V.bl k] ∧ Q (.int (if k then 1 else 0)) H) (tCons ta tNil)) σ H (.int (if k then 1 else 0)) :=
  ev_cb (ea_cons ha ea_nil) fun M2 H1 vs gg dv Q q => by
    cases dv with
    | cons h1 h2 =>
      cases h2
      cases h1
      exact .inr ⟨k, rfl, q _ _ (Same.refl _) (.int _)⟩
theorem ev_abs {i : Int} (ha : Ev K M ta σ H (.int i)) : Ev K M (tCB (fun xs H Q => ∃ i, xs = [V.int i] ∧ Q (.int (if i < 0 then -i else i)) H) (tCons ta tNil)) σ H (.int (if i < 0 then -i else i)) :=
  ev_cb (ea_cons ha ea_nil) fun M2 H1 vs gg dv Q q => by
    cases dv with
    | cons h1 h2 =>
      cases h2
      cases h1
      exact ⟨i, rfl, q _ _ (Same.refl _) (.int _)⟩
theorem ev_max2 {g : Int → Int → Int} {i j : Int} (ha : Ev K M ta σ H (.int i)) (hb : Ev K M tb σ H (.int j)) : Ev K M (tCB (fun xs H Q => ∃ i j, xs = [V.int i, V.int j] ∧ Q (.int (g i j)) H) (tCons ta (tCons tb tNil))) σ H (.int (g i j)) :=
  ev_cb (ea_cons ha (ea_cons hb ea_nil)) fun M2 H1 vs gg dv Q q => by
    cases dv with
    | cons h1 h2 =>
      cases h2 with
      | cons h2 h3 =>
        cases h3
        cases h1
        cases h2
        exact ⟨i, j, rfl, q _ _ (Same.refl _) (.int _)⟩
theorem ev_listOf (ha : Ev K M ta σ H d) (hd : d = .list ds ∨ d = .tuple ds) : Ev K M (tCB (fun xs H Q => ∃ p ys, xs = [V.ref p] ∧ (SqL K H p ys ∨ SqT K H p ys) ∧ ∀ l, H l = none → Q (.ref l) (upd H l (.lst ys))) (tCons ta tNil)) σ H (.list ds) :=
  ev_cb (ea_cons ha ea_nil) fun M2 H1 vs gg dv Q q => by
    cases dv with
    | cons h1 h2 =>
      cases h2
      rcases hd with rfl | rfl
      · cases h1 with
        | @lst a xs _ hs hx => exact ⟨a, xs, rfl, .inl (SqL.of (mn_same _ _ hs)), fun l hl => q _ _ (same_new hl) (dm_newL gg.tr hl hx)⟩
      · cases h1 with
        | @tup a xs _ hs hx => exact ⟨a, xs, rfl, .inr (same_sqt mn_same hs), fun l hl => q _ _ (same_new hl) (dm_newL gg.tr hl hx)⟩
theorem ev_tupOf (ha : Ev K M ta σ H d) (hd : d = .list ds ∨ d = .tuple ds) : Ev K M (tCB (fun xs H Q => ∃ p ys, xs = [V.ref p] ∧ ((SqL K H p ys ∧ ∀ l, H l = none → Q (.ref l) (upd H l (.tup ys))) ∨ (SqT K H p ys ∧ Q (.ref p) H))) (tCons ta tNil)) σ H (.tuple ds) :=
  ev_cb (ea_cons ha ea_nil) fun M2 H1 vs gg dv Q q => by
    cases dv with
    | cons h1 h2 =>
      cases h2
      rcases hd with rfl | rfl
      · cases h1 with
        | @lst a xs _ hs hx => exact ⟨a, xs, rfl, .inl ⟨SqL.of (mn_same _ _ hs), fun l hl => q _ _ (same_new hl) (dm_newT gg.tr hl hx)⟩⟩
      · cases h1 with
        | @tup a xs _ hs hx => exact ⟨a, xs, rfl, .inr ⟨same_sqt mn_same hs, q _ _ (Same.refl _) (.tup hs hx)⟩⟩
theorem ev_repr (ha : Ev K M ta σ H d) (hd : (∃ ds, d = .list ds) ∨ (∃ ds, d = .tuple ds)) (h1 : d.showable = true) (h2 : d.hasDict = false) (h3 : d.depth ≤ 60) (h4 : d.shown.length ≤ sizeLine) : Ev K M (tCB (rReprD K) (tCons ta tNil)) σ H (.str d.shown) :=
  ev_cb (ea_cons ha ea_nil) fun M2 H1 vs gg dv Q q => by
    cases dv with
    | cons g1 g2 =>
      cases g2
      rename_i v0
      have hv : ∃ a, v0 = V.ref a := by
        rcases hd with ⟨ds, rfl⟩ | ⟨ds, rfl⟩
        · cases g1; exact ⟨_, rfl⟩
        · cases g1; exact ⟨_, rfl⟩
      obtain ⟨a, rfl⟩ := hv
      exact ⟨a, d, rfl, Da.dp _ _ (dm_h g1), h1, h2, h3, h4, q _ _ (Same.refl _) (.str _)⟩
/-! slices, sums -/
def cutPd (xs : List PyData) (lo hi : Option Int) : List PyData := (xs.drop (HT.sIx xs.length 0 lo)).take (HT.sIx xs.length xs.length hi - HT.sIx xs.length 0 lo)
theorem eo_none : Eo M tNoPart σ H none := fun M2 H1 g Q q => q _ (Same.refl _)
theorem eo_some {i : Int} (h : Ev K M te σ H (.int i)) : Eo M (tPart te) σ H (some i) := fun M2 H1 g Q q => h M2 H1 g _ fun v H2 e2 d2 => ⟨i, d2.intV, q _ e2⟩
theorem Das.cut {vs : List V} (h : Das K H vs ds) (lo hi : Option Int) : Das K H (cutV vs lo hi) (cutPd ds lo hi) := by
  unfold cutV cutPd
  rw [h.length]
  exact (h.drop _).take _
theorem ev_slL {tl th : TO} {lo hi : Option Int} (ha : Ev K M te σ H (.list ds)) (hl : Eo M tl σ H lo) (hh : Eo M th σ H hi) : Ev K M (tSl (rSlL K) te tl th) σ H (.list (cutPd ds lo hi)) := fun M2 H1 g Q q =>
  ha M2 H1 g _ fun v H2 e2 d2 => hl M2 H2 (g.same e2) _ fun H3 e3 => hh M2 H3 ((g.same e2).same e3) _ fun H4 e4 => by
    have d4 := dm_same d2 (g.same e2).tr (e3.trans e4)
    have t4 := (((g.same e2).same e3).same e4).tr
    cases d4 with
    | @lst a xs _ hs hx => exact ⟨a, xs, rfl, SqL.of (mn_same _ _ hs), fun p hp => q _ _ (((e2.trans e3).trans e4).trans (same_new hp)) (dm_newL t4 hp (hx.cut lo hi))⟩
theorem ev_slT {tl th : TO} {lo hi : Option Int} (ha : Ev K M te σ H (.tuple ds)) (hl : Eo M tl σ H lo) (hh : Eo M th σ H hi) : Ev K M (tSl (rSlA K) te tl th) σ H (.tuple (cutPd ds lo hi)) := fun M2 H1 g Q q =>
  ha M2 H1 g _ fun v H2 e2 d2 => hl M2 H2 (g.same e2) _ fun H3 e3 => hh M2 H3 ((g.same e2).same e3) _ fun H4 e4 => by
    have d4 := dm_same d2 (g.same e2).tr (e3.trans e4)
    have t4 := (((g.same e2).same e3).same e4).tr
    have e5 := (e2.trans e3).trans e4
    cases d4 with
    | @tup a xs _ hs hx =>
      refine ⟨a, xs, rfl, same_sqt mn_same hs, fun w => ?_, fun w p hp => q _ _ (e5.trans (same_new hp)) (dm_newT t4 hp (hx.cut lo hi))⟩
      have hw : cutPd ds lo hi = ds := by
        rw [hx.length] at w
        unfold cutPd
        rw [w.1, w.2]
        simp
      rw [hw] at q
      exact q _ _ e5 (.tup hs hx)
theorem ev_revL (ha : Ev K M te σ H (.list ds)) : Ev K M (tRevL K te) σ H (.list ds.reverse) := fun M2 H1 g Q q =>
  ha M2 H1 g _ fun v H2 e2 d2 => by
    have t2 := (g.same e2).tr
    cases d2 with
    | @lst a xs _ hs hx => exact ⟨a, xs, rfl, SqL.of (mn_same _ _ hs), fun p hp => q _ _ (e2.trans (same_new hp)) (dm_newL t2 hp hx.reverse)⟩
theorem ev_cat (ha : Ev K M ta σ H (.list ds)) (hb : Ev K M tb σ H (.list es)) (hz : ds.length + es.length ≤ sizeLine) : Ev K M (tOp rCat ta tb) σ H (.list (ds ++ es)) :=
  ev_op ha hb fun M2 H1 x y gg dx dy Q q => by
    cases dx with
    | @lst a xs _ hs hx =>
      cases dy with
      | @lst b ys _ ks ky => exact ⟨a, b, xs, ys, rfl, rfl, mn_same _ _ hs, mn_same _ _ ks, by rw [hx.length, ky.length]; exact hz, fun p hp => q _ _ (same_new hp) (dm_newL gg.tr hp (hx.append ky))⟩
theorem ev_catT (ha : Ev K M ta σ H (.tuple ds)) (hb : Ev K M tb σ H (.tuple es)) (hz : ds.length + es.length ≤ sizeLine) : Ev K M (tOp (rCatA K) ta tb) σ H (.tuple (ds ++ es)) :=
  ev_op ha hb fun M2 H1 x y gg dx dy Q q => by
    cases dx with
    | @tup a xs _ hs hx =>
      cases dy with
      | @tup b ys _ ks ky =>
        refine ⟨a, b, xs, ys, rfl, rfl, same_sqt mn_same hs, same_sqt mn_same ks, by rw [hx.length, ky.length]; exact hz, fun z => ?_, fun z z2 => ?_, fun z z2 p hp => q _ _ (same_new hp) (dm_newT gg.tr hp (hx.append ky))⟩
        · subst z
          cases hx
          exact q _ _ (Same.refl _) (.tup ks ky)
        · subst z2
          cases ky
          rw [List.append_nil] at q
          exact q _ _ (Same.refl _) (.tup hs hx)
def repD (ds : List PyData) (k : Nat) : List PyData := (List.replicate k ds).flatten
theorem ev_inD (ha : Ev K M ta σ H d) (hb : Ev K M tb σ H (.list ds)) (sd : SeqAt.shaped d = true) (se : SeqAt.shaped (.list ds) = true) : Ev K M (tOp (rInD K) ta tb) σ H (.bool (ds.any fun z => PyData.eqv z d)) :=
  ev_op ha hb fun M2 H1 x y gg dx dy Q q => ⟨d, ds, Da.dp _ _ (dm_h dx), Da.dp _ _ (dm_h dy), sd, se, q _ _ (Same.refl _) (.bl _)⟩
theorem ev_notInD (ha : Ev K M ta σ H d) (hb : Ev K M tb σ H (.list ds)) (sd : SeqAt.shaped d = true) (se : SeqAt.shaped (.list ds) = true) : Ev K M (tOp (rNotInD K) ta tb) σ H (.bool (!ds.any fun z => PyData.eqv z d)) :=
  ev_op ha hb fun M2 H1 x y gg dx dy Q q => ⟨d, ds, Da.dp _ _ (dm_h dx), Da.dp _ _ (dm_h dy), sd, se, q _ _ (Same.refl _) (.bl _)⟩
end
end Dq

/-! walks, comprehensions, statements, draws, calls -/
namespace Dq
open PySem PySem.Spec PyProof.Rows L2 Gd

/-! ### what is walked -/
def Wk (K : PySem.W.Frag) (M : List Addr) (wi : TI) (σ : S) (H : Hp) (n : Nat) (it : Nat → PyData) : Prop :=
  ∀ M' H1, Go M H M' H1 → ∀ R : It → Hp → Prop, (∀ J H2 G Y, Same H1 H2 → Walk J n G Y → (∀ M3 H3, Go M' H2 M3 H3 → G H3) →
    (∀ M3 i H3 x H4, Go M' H2 M3 H3 → i < n → Y i H3 x H4 → Same H3 H4 ∧ Dm K M3 H4 x (it i)) → R J H2) → wi σ H1 R
def at0 (ds : List PyData) (i : Nat) : PyData := ds.getD i .none
theorem at0_get {ds : List PyData} {i : Nat} (h : i < ds.length) : ds[i]? = some (at0 ds i) := by
  unfold at0
  rw [List.getD_eq_getElem?_getD, List.getElem?_eq_getElem h]
  rfl
section
variable {K : PySem.W.Frag} {M M' : List Addr} {σ : S} {H H' : Hp} {ta tb te tc : TE} {tt tu : TT} {as : TA} {d e f : PyData} {ds es : List PyData} {r : R2} {x y : V} {wi : TI}
theorem wk_list (h : Ev K M te σ H (.list ds)) : Wk K M (iList K te) σ H ds.length (at0 ds) := fun M2 H1 g R k =>
  h M2 H1 g _ fun v H2 e2 d2 => by
    cases d2 with
    | @lst a xs _ hs hx =>
      refine ⟨a, rfl, ⟨xs, SqL.of (mn_same _ _ hs)⟩, ?_⟩
      have w := walk_list (K := K) (a := a) (xs := xs)
      rw [hx.length] at w
      refine k _ _ _ _ e2 w (fun M3 H3 g3 => SqL.of (mn_same _ _ (g3.mn _ _ hs))) fun M3 i H3 z H4 g3 hi hy => ?_
      obtain ⟨rfl, ez⟩ := hy
      obtain ⟨d, e5, e6⟩ := hx.getV ez
      rw [at0_get hi] at e5
      cases e5
      exact ⟨Same.refl _, Da.same g3.mn _ _ e6⟩
theorem wk_tup (h : Ev K M te σ H (.tuple ds)) : Wk K M (iTup K te) σ H ds.length (at0 ds) := fun M2 H1 g R k =>
  h M2 H1 g _ fun v H2 e2 d2 => by
    cases d2 with
    | @tup a xs _ hs hx =>
      refine ⟨a, rfl, ⟨xs, same_sqt mn_same hs⟩, ?_⟩
      have w := walk_tup (K := K) (a := a) (xs := xs)
      rw [hx.length] at w
      refine k _ _ _ _ e2 w (fun M3 H3 g3 => same_sqt mn_same (same_sqt g3.mn hs)) fun M3 i H3 z H4 g3 hi hy => ?_
      obtain ⟨rfl, ez⟩ := hy
      obtain ⟨d, e5, e6⟩ := hx.getV ez
      rw [at0_get hi] at e5
      cases e5
      exact ⟨Same.refl _, Da.same g3.mn _ _ e6⟩
theorem wk_rng1 {n : Int} (h : Ea K M as σ H [.int n]) (h1 : -(2 ^ 62) ≤ n) (h2 : n < 2 ^ 62) : Wk K M (iRng1 as) σ H n.toNat (fun i => .int (i : Nat)) := fun M2 H1 g R k =>
  h M2 H1 g _ fun vs H2 e2 d2 => by
    cases d2 with
    | cons a b =>
      cases a
      cases b
      refine ⟨n, rfl, h1, h2, ?_⟩
      refine k _ _ _ _ e2 walk_range (fun M3 H3 g3 => trivial) fun M3 i H3 z H4 g3 hi hy => ?_
      obtain ⟨rfl, ez⟩ := hy
      refine ⟨Same.refl _, ?_⟩
      rw [ez]
      show Dm K M3 H4 (.int (0 + (i : Nat))) (.int (i : Nat))
      rw [Int.zero_add]
      exact .int _
theorem wk_rng2 {a b : Int} (h : Ea K M as σ H [.int a, .int b]) (h1 : -(2 ^ 62) ≤ a ∧ a < 2 ^ 62 ∧ -(2 ^ 62) ≤ b ∧ b < 2 ^ 62) : Wk K M (iRng2 as) σ H (b - a).toNat (fun i => .int (a + (i : Nat))) := fun M2 H1 g R k =>
  h M2 H1 g _ fun vs H2 e2 d2 => by
    cases d2 with
    | cons p q =>
      cases p
      cases q with
      | cons p q =>
        cases p
        cases q
        refine ⟨a, b, rfl, h1, ?_⟩
        refine k _ _ _ _ e2 walk_range (fun M3 H3 g3 => trivial) fun M3 i H3 z H4 g3 hi hy => ?_
        obtain ⟨rfl, ez⟩ := hy
        refine ⟨Same.refl _, ?_⟩
        rw [ez]
        exact .int _
theorem wk_zip (h : Ea K M as σ H [.list ds, .list es]) : Wk K M (iZip K as) σ H (min ds.length es.length) (fun i => .tuple [at0 ds i, at0 es i]) := fun M2 H1 g R k =>
  h M2 H1 g _ fun vs H2 e2 d2 => by
    cases d2 with
    | cons p q =>
      cases q with
      | cons q q2 =>
        cases q2
        cases p with
        | @lst a xs _ hs hx =>
          cases q with
          | @lst b ys _ ks ky =>
            refine ⟨a, b, xs, ys, rfl, SqL.of (mn_same _ _ hs), SqL.of (mn_same _ _ ks), ?_⟩
            have w := walk_zip (K := K) (a := a) (b := b) (xs := xs) (ys := ys) rfl
            rw [hx.length, ky.length] at w
            refine k _ _ _ _ e2 w (fun M3 H3 g3 => ⟨SqL.of (mn_same _ _ (g3.mn _ _ hs)), SqL.of (mn_same _ _ (g3.mn _ _ ks))⟩) fun M3 i H3 z H4 g3 hi hy => ?_
            obtain ⟨T, u, w, rfl, hT, rfl, e5, e6⟩ := hy
            refine ⟨same_new hT, dm_newT g3.tr hT ?_⟩
            obtain ⟨d1, q1, q2⟩ := hx.getV e5
            obtain ⟨d2, q3, q4⟩ := ky.getV e6
            rw [at0_get (by omega)] at q1 q3
            cases q1
            cases q3
            exact .cons (Da.same g3.mn _ _ q2) (.cons (Da.same g3.mn _ _ q4) .nil)
theorem wk_enum (h : Ea K M as σ H [.list ds]) : Wk K M (iEnum K as) σ H ds.length (fun i => .tuple [.int (i : Nat), at0 ds i]) := fun M2 H1 g R k =>
  h M2 H1 g _ fun vs H2 e2 d2 => by
    cases d2 with
    | cons p q =>
      cases q
      cases p with
      | @lst a xs _ hs hx =>
        refine ⟨a, xs, rfl, SqL.of (mn_same _ _ hs), ?_⟩
        have w := walk_enum (K := K) (a := a) (xs := xs)
        rw [hx.length] at w
        refine k _ _ _ _ e2 w (fun M3 H3 g3 => SqL.of (mn_same _ _ (g3.mn _ _ hs))) fun M3 i H3 z H4 g3 hi hy => ?_
        obtain ⟨T, u, w, rfl, hT, rfl, e5, e6⟩ := hy
        cases e5
        refine ⟨same_new hT, dm_newT g3.tr hT ?_⟩
        obtain ⟨d2, q3, q4⟩ := hx.getV e6
        rw [at0_get hi] at q3
        cases q3
        exact .cons (.int _) (.cons (Da.same g3.mn _ _ q4) .nil)

/-! ### targets -/
/-- how a target takes a thing -/
def Tk (g : TG) (x : V) (σ0 : S) (H : Hp) (σ2 : S) : Prop := ∀ Q : S → Hp → Prop, Q σ2 H → g x σ0 H Q
theorem tk_name {i : Nat} {σ0 : S} : Tk (gName i) x σ0 H (σ0.set i (some x)) := fun Q q => q
theorem tk_pair {i j : Nat} {σ0 : S} {d1 d2 : PyData} (h : Dm K M H x (.tuple [d1, d2])) : ∃ v1 v2, Tk (gTup K 2 (gCons (gName i) (gCons (gName j) gNil))) x σ0 H ((σ0.set i (some v1)).set j (some v2)) ∧ Dm K M H v1 d1 ∧ Dm K M H v2 d2 := by
  cases h with
  | @tup a xs _ hs hx =>
    cases hx with
    | cons h1 h2 =>
      cases h2 with
      | cons h2 h3 =>
        cases h3
        exact ⟨_, _, fun Q q => ⟨a, _, rfl, same_sqt mn_same hs, rfl, _, _, rfl, _, _, rfl, rfl, q⟩, h1, h2⟩

/-! ### comprehensions -/
def given (n : Nat) (f : Nat → Bool) (e : Nat → PyData) : List PyData := ((List.range n).filter f).map e
theorem given_yes {n : Nat} {f : Nat → Bool} {e : Nat → PyData} (h : f n = true) : given (n + 1) f e = given n f e ++ [e n] := by
  unfold given
  rw [List.range_succ, List.filter_append, List.map_append]
  simp [h]
theorem given_no {n : Nat} {f : Nat → Bool} {e : Nat → PyData} (h : f n = false) : given (n + 1) f e = given n f e := by
  unfold given
  rw [List.range_succ, List.filter_append, List.map_append]
  simp [h]
theorem given_le (n : Nat) (f : Nat → Bool) (e : Nat → PyData) : (given n f e).length ≤ n := by
  unfold given
  rw [List.length_map]
  have := List.length_filter_le f (List.range n)
  rw [List.length_range] at this
  exact this
theorem ev_lc {g : TG} {vs : List Nat} {n : Nat} {it : Nat → PyData} (f : Nat → Bool) (el : Nat → PyData) (w : Wk K M wi σ H n it) (hn : n ≤ 1000000)
    (hs : ∀ M' H' i x, Go M H M' H' → i < n → Dm K M' H' x (it i) → ∃ σ2, Tk g x (wipe σ vs) H' σ2 ∧ wipe σ2 vs = wipe σ vs ∧ Eb M' tt σ2 H' (f i) ∧ (f i = true → Ev K M' te σ2 H' (el i))) :
    Ev K M (tLc wi g tt te vs) σ H (.list (given n f el)) := fun M2 H1 g1 Q q =>
  w M2 H1 g1 _ fun J H2 G Y e2 wk hG hY D hD => by
    have g2 : Go M H M2 H2 := g1.same e2
    have DM : D ∉ M2 := fun z => g2.tr D z hD
    have g3 : Go M2 H2 (D :: M2) (upd H2 D (.lst [])) := go_mut g2.tr hD
    refine lc_it wk (fun i H' => Go M2 H2 (D :: M2) H' ∧ Same H2 H' ∧ ∃ acc, H' D = some (.lst acc) ∧ Dms K (D :: M2) H' acc (given i f el) ∧ acc.length ≤ i)
      ⟨g3, same_new hD, [], upd_same, .nil, Nat.le_refl _⟩ (fun i H' _ p => hG _ _ p.1) (fun i z H' H4 hi p hy => ?_) (fun H' p => ?_)
    · obtain ⟨p1, ps, acc, p2, p3, p4⟩ := p
      obtain ⟨e4, d4⟩ := hY _ i H' z H4 p1 hi hy
      have g4 := p1.same e4
      obtain ⟨σ2, t1, t2, t3, t4⟩ := hs _ H4 i z (g2.trans g4) hi d4
      refine t1 _ ⟨t2, t3 _ H4 (Go.refl g4.tr) _ fun H5 e5 => ?_⟩
      have g5 := g4.same e5
      cases hf : f i with
      | true =>
        show te σ2 H5 _
        refine t4 hf _ H5 ((Go.refl g4.tr).same e5) _ fun v H6 e6 d6 => ?_
        have g6 := g5.same e6
        have s6 := (e4.trans e5).trans e6
        have a6 : H6 D = some (.lst acc) := s6 _ _ p2
        refine ⟨acc, a6, Nat.lt_of_le_of_lt p4 (by rw [sizeLine_eq]; omega), ?_⟩
        have g7 : Go M2 H2 (D :: M2) (upd H6 D (.lst (acc ++ [v]))) := g6.trans (go_set g6.tr (List.mem_cons_self ..))
        refine ⟨g7, fun b o hb => ?_, acc ++ [v], upd_same, ?_, ?_⟩
        · rw [upd_ne (ne_of_none hb hD)]
          exact s6 _ _ (ps _ _ hb)
        · rw [given_yes hf]
          have k := go_set (o := .lst (acc ++ [v])) g6.tr (List.mem_cons_self (a := D) (l := M2))
          exact (dms_go p3 (((Go.refl p1.tr).same s6).trans k)).append (.cons (dm_go d6 k) .nil)
        · rw [List.length_append]
          show acc.length + 1 ≤ i + 1
          omega
      | false =>
        show Go M2 H2 (D :: M2) H5 ∧ _
        have s5 := e4.trans e5
        refine ⟨g5, ps.trans s5, acc, s5 _ _ p2, ?_, by omega⟩
        rw [given_no hf]
        exact dms_go p3 ((Go.refl p1.tr).same s5)
    · obtain ⟨p1, ps, acc, p2, p3, p4⟩ := p
      refine q _ _ (e2.trans ps) (.lst (xs := acc) ?_ ?_)
      · rw [mn_out DM]
        exact p2
      · refine Das.same (fun b o hb => ?_) _ _ p3
        obtain ⟨h1, h2⟩ := mn_some hb
        rw [mn_out (fun z => h1 (List.mem_cons_of_mem _ z))]
        exact h2
end

/-! ### statements -/
section
variable {K : PySem.W.Frag} {M M' : List Addr} {σ : S} {H H' : Hp} {te : TE} {tt : TT} {as : TA} {d e : PyData} {ds es : List PyData} {x y : V} {wi : TI} {D : Ends} {t u : TS}
theorem q_asg {i : Nat} (tr : Tr M H) (h : Ev K M te σ H d) (k : ∀ v H1, Same H H1 → Tr M H1 → Dm K M H1 v d → u D (σ.set i (some v)) H1) : tSeq (tAsg te (gName i)) u D σ H :=
  h M H (Go.refl tr) _ fun v H1 e1 d1 => k v H1 e1 (tr.same e1) d1
theorem q_unp {i j : Nat} {d1 d2 : PyData} (tr : Tr M H) (h : Ev K M te σ H (.tuple [d1, d2])) (k : ∀ v w H1, Same H H1 → Tr M H1 → Dm K M H1 v d1 → Dm K M H1 w d2 → u D ((σ.set i (some v)).set j (some w)) H1) :
    tSeq (tAsg te (gTup K 2 (gCons (gName i) (gCons (gName j) gNil)))) u D σ H :=
  h M H (Go.refl tr) _ fun v H1 e1 d1 => by
    obtain ⟨v1, v2, t1, t2, t3⟩ := tk_pair (i := i) (j := j) (σ0 := σ) d1
    exact t1 _ (k v1 v2 H1 e1 (tr.same e1) t2 t3)
theorem q_par {i j : Nat} {d1 d2 : PyData} (tr : Tr M H) (h : Ea K M as σ H [d1, d2]) (k : ∀ v w H1, Same H H1 → Tr M H1 → Dm K M H1 v d1 → Dm K M H1 w d2 → u D ((σ.set i (some v)).set j (some w)) H1) :
    tSeq (tPar i j as) u D σ H :=
  h M H (Go.refl tr) _ fun vs H1 e1 d1 => by
    cases d1 with
    | cons h1 h2 =>
      cases h2 with
      | cons h2 h3 =>
        cases h3
        exact ⟨_, _, rfl, k _ _ H1 e1 (tr.same e1) h1 h2⟩
theorem s_if {b : Bool} {v : TS} (tr : Tr M H) (h : Eb M tt σ H b) (h1 : b = true → ∀ H1, Same H H1 → Tr M H1 → t D σ H1) (h2 : b = false → ∀ H1, Same H H1 → Tr M H1 → v D σ H1) : tIfS tt t v D σ H :=
  h M H (Go.refl tr) _ fun H1 e1 => by
    cases b with
    | true => exact h1 rfl H1 e1 (tr.same e1)
    | false => exact h2 rfl H1 e1 (tr.same e1)
theorem q_if {b : Bool} {v : TS} (tr : Tr M H) (h : Eb M tt σ H b) (h1 : b = true → ∀ H1, Same H H1 → Tr M H1 → t { D with nx := u D } σ H1) (h2 : b = false → ∀ H1, Same H H1 → Tr M H1 → v { D with nx := u D } σ H1) : tSeq (tIfS tt t v) u D σ H :=
  s_if (D := { D with nx := u D }) tr h h1 h2
theorem s_ret (tr : Tr M H) (h : Ev K M te σ H d) (k : ∀ v H1, Same H H1 → Tr M H1 → Dm K M H1 v d → D.rt v H1) : tRet te D σ H :=
  h M H (Go.refl tr) _ fun v H1 e1 d1 => k v H1 e1 (tr.same e1) d1
theorem q_drop (tr : Tr M H) (h : Ev K M te σ H d) (k : ∀ H1, Same H H1 → Tr M H1 → u D σ H1) : tSeq (tDrop te) u D σ H :=
  h M H (Go.refl tr) _ fun v H1 e1 d1 => k H1 e1 (tr.same e1)
/-- a for: the invariant by the heap ahead of it, the turn, the slots and the heap -/
theorem s_for {g : TG} {tb : TS} {n : Nat} {it : Nat → PyData} (tr : Tr M H) (w : Wk K M wi σ H n it) (Pv : Hp → Nat → S → Hp → Prop) (h0 : ∀ H1, Same H H1 → Tr M H1 → Pv H1 0 σ H1) (hG : ∀ H1 i σ' H', Same H H1 → Pv H1 i σ' H' → Go M H1 M H')
    (hs : ∀ H1 i σ' H' x H4, Same H H1 → i < n → Pv H1 i σ' H' → Same H' H4 → Dm K M H4 x (it i) → g x σ' H4 fun σ2 H2 => tb { D with nx := Pv H1 (i + 1), ct := Pv H1 (i + 1), bk := D.nx } σ2 H2)
    (hd : ∀ H1 σ' H', Same H H1 → Pv H1 n σ' H' → D.nx σ' H') : tFor wi g tb D σ H :=
  w M H (Go.refl tr) _ fun J H2 G Y e2 wk hG2 hY => by
    refine for_it wk (Pv H2) (h0 H2 e2 (tr.same e2)) (fun i σ' H' _ p => hG2 _ _ (hG H2 i σ' H' e2 p)) (fun i x σ' H' H4 hi p hy => ?_) (fun σ' H' p => hd H2 σ' H' e2 p)
    obtain ⟨e4, d4⟩ := hY M i H' x H4 (hG H2 i σ' H' e2 p) hi hy
    exact hs H2 i σ' H' x H4 e2 hi p e4 d4
theorem q_for {g : TG} {tb : TS} {n : Nat} {it : Nat → PyData} (tr : Tr M H) (w : Wk K M wi σ H n it) (Pv : Hp → Nat → S → Hp → Prop) (h0 : ∀ H1, Same H H1 → Tr M H1 → Pv H1 0 σ H1) (hG : ∀ H1 i σ' H', Same H H1 → Pv H1 i σ' H' → Go M H1 M H')
    (hs : ∀ H1 i σ' H' x H4, Same H H1 → i < n → Pv H1 i σ' H' → Same H' H4 → Dm K M H4 x (it i) → g x σ' H4 fun σ2 H2 => tb { D with nx := Pv H1 (i + 1), ct := Pv H1 (i + 1), bk := u D } σ2 H2)
    (hd : ∀ H1 σ' H', Same H H1 → Pv H1 n σ' H' → u D σ' H') : tSeq (tFor wi g tb) u D σ H :=
  s_for (D := { D with nx := u D }) tr w Pv h0 hG hs hd
end

/-! ### calls of defs that change nothing: R tells of arguments and answer -/
def spPure (K : PySem.W.Frag) (n : Nat) (R : List PyData → PyData → Prop) : Sp := fun vs H Q _ =>
  ∃ M ds d, Tr M H ∧ Dms K M H vs ds ∧ ds.length = n ∧ R ds d ∧ ∀ v H', Same H H' → Dm K M H' v d → Q v H'
theorem spPure_len {K : PySem.W.Frag} {n : Nat} {R : List PyData → PyData → Prop} : ∀ vs H Q E, spPure K n R vs H Q E → vs.length = n := by
  rintro vs H Q E ⟨M, ds, d, _, h, hl, _⟩
  rw [h.length, hl]
section
variable {K : PySem.W.Frag} {M M' : List Addr} {σ : S} {H H' : Hp} {as : TA} {ds : List PyData} {d : PyData}
theorem ev_val {v : V} (h : Dm K M H v d) : Ev K M (tC v) σ H d := fun M2 H1 g Q q => q v _ (Same.refl _) (dm_go h g)
theorem ev_call {n : Nat} {R : List PyData → PyData → Prop} {E : XK} (h : Ea K M as σ H ds) (hl : ds.length = n) (hp : R ds d) : Ev K M (tCall (spPure K n R) [] E as) σ H d := fun M2 H1 g Q q =>
  h M2 H1 g _ fun vs H2 e2 d2 => by
    rw [List.append_nil]
    exact ⟨M2, ds, d, (g.same e2).tr, d2, hl, hp, fun v H3 e3 d3 => q v H3 (e2.trans e3) d3⟩
end

/-! ### draws: the source's dict at s and its cells at c may change -/
def Kp (s c : Addr) (H H' : Hp) : Prop := ∀ b o, b ≠ s → b ≠ c → H b = some o → H' b = some o
def srcK (c : Addr) (left mixed turn : Int) : List (Key × V) := [(.inr "cells", .ref c), (.inr "left", .int left), (.inr "mixed", .int mixed), (.inr "turn", .int turn)]
def Src (s c : Addr) (H : Hp) : Prop := s ≠ c ∧ ∃ (cells : List Int) (left mixed turn : Int), H s = some (.dK (srcK c left mixed turn)) ∧ H c = some (.lst (cells.map V.int)) ∧ cells.length ≤ 63
theorem Kp.refl {s c : Addr} (H : Hp) : Kp s c H H := fun _ _ _ _ h => h
theorem Kp.trans {s c : Addr} {H H1 H2 : Hp} (a : Kp s c H H1) (b : Kp s c H1 H2) : Kp s c H H2 := fun p o h1 h2 h => b p o h1 h2 (a p o h1 h2 h)
theorem Kp.of {s c : Addr} {H H' : Hp} (e : Same H H') : Kp s c H H' := fun p o _ _ h => e p o h
theorem Src.same {s c : Addr} {H H' : Hp} (h : Src s c H) (e : Same H H') : Src s c H' := by
  obtain ⟨h0, cells, l, m, t, h1, h2, h3⟩ := h
  exact ⟨h0, cells, l, m, t, e _ _ h1, e _ _ h2, h3⟩
theorem Src.nn {s c : Addr} {H : Hp} (h : Src s c H) : H s ≠ none ∧ H c ≠ none := by
  obtain ⟨h0, cells, l, m, t, h1, h2, h3⟩ := h
  refine ⟨fun z => ?_, fun z => ?_⟩
  · rw [h1] at z; cases z
  · rw [h2] at z; cases z
theorem go_kp {M : List Addr} {s c : Addr} {H H' : Hp} (hs : s ∈ M) (hc : c ∈ M) (t : Tr M H) (k : Kp s c H H') (hS : Src s c H') : Go M H M H' where
  sub := fun _ h => h
  new := fun _ h => .inl h
  le := fun b o hb e => k b o (fun z => hb (z ▸ hs)) (fun z => hb (z ▸ hc)) e
  tr := fun b hb => by
    by_cases h1 : b = s
    · rw [h1]; exact hS.nn.1
    · by_cases h2 : b = c
      · rw [h2]; exact hS.nn.2
      · cases q : H b with
        | none => exact absurd q (t b hb)
        | some o => rw [k b o h1 h2 q]; intro z; cases z
def spDraw (K : PySem.W.Frag) (n : Nat) (pre : List PyData → Prop) (post : List PyData → PyData → Prop) : Sp := fun vs H Q _ =>
  ∃ M s c ws ds, vs = .ref s :: ws ∧ s ∈ M ∧ c ∈ M ∧ Src s c H ∧ Tr M H ∧ Dms K M H ws ds ∧ ds.length = n ∧ pre ds ∧
    ∀ v d H', Kp s c H H' → Src s c H' → Dm K M H' v d → post ds d → Q v H'
theorem spDraw_len {K : PySem.W.Frag} {n : Nat} {pre : List PyData → Prop} {post : List PyData → PyData → Prop} : ∀ vs H Q E, spDraw K n pre post vs H Q E → vs.length = n + 1 := by
  rintro vs H Q E ⟨M, s, c, ws, ds, rfl, _, _, _, _, h, hl, _⟩
  rw [List.length_cons, h.length, hl]
/-- an expression that may draw -/
def Dr (K : PySem.W.Frag) (s c : Addr) (M : List Addr) (te : TE) (σ : S) (H : Hp) (P : PyData → Prop) : Prop :=
  ∀ M' H1, Go M H M' H1 → Src s c H1 → ∀ Q : VK, (∀ v d H2, Kp s c H1 H2 → Src s c H2 → Dm K M' H2 v d → P d → Q v H2) → te σ H1 Q
section
variable {K : PySem.W.Frag} {M M' : List Addr} {s c : Addr} {σ : S} {H H' : Hp} {te ta tb : TE} {as : TA} {ds : List PyData} {d : PyData} {P P1 P2 : PyData → Prop} {tt : TT}
theorem dr_ev (h : Ev K M te σ H d) (hp : P d) : Dr K s c M te σ H P := fun M2 H1 g hS Q q => h M2 H1 g _ fun v H2 e2 d2 => q v d H2 (Kp.of e2) (hS.same e2) d2 hp
theorem Dr.imp (h : Dr K s c M te σ H P1) (i : ∀ d, P1 d → P d) : Dr K s c M te σ H P := fun M2 H1 g hS Q q => h M2 H1 g hS _ fun v d H2 k2 s2 d2 p => q v d H2 k2 s2 d2 (i d p)
theorem Dr.mono (h : Dr K s c M te σ H P) (g : Go M H M' H') : Dr K s c M' te σ H' P := fun M2 H1 k => h M2 H1 (g.trans k)
theorem dr_call {n i : Nat} {pre : List PyData → Prop} {post : List PyData → PyData → Prop} {E : XK} (hs : s ∈ M) (hc : c ∈ M) (hv : σ[i]? = some (some (.ref s))) (h : Ea K M as σ H ds) (hl : ds.length = n) (hp : pre ds) :
    Dr K s c M (tCall (spDraw K n pre post) [] E (tCons (tVar i) as)) σ H (post ds) := fun M2 H1 g hS Q q =>
  ⟨.ref s, hv, h M2 H1 g _ fun vs H2 e2 d2 => by
    show spDraw K n pre post ((V.ref s :: vs) ++ []) H2 Q E
    rw [List.append_nil]
    exact ⟨M2, s, c, vs, ds, rfl, g.sub s hs, g.sub c hc, hS.same e2, (g.same e2).tr, d2, hl, hp, fun v d H3 k3 s3 d3 p => q v d H3 ((Kp.of e2).trans k3) s3 d3 p⟩⟩
/-- first one thing is drawn, then what stands around it -/
theorem dr_bind {C : TE → TE} (hs : s ∈ M) (hc : c ∈ M) (hC : ∀ H1 Q, (ta σ H1 fun x H2 => C (tC x) σ H2 Q) → C ta σ H1 Q) (h : Dr K s c M ta σ H P1)
    (k : ∀ M' H' x d, Go M H M' H' → Src s c H' → Dm K M' H' x d → P1 d → Dr K s c M' (C (tC x)) σ H' P) : Dr K s c M (C ta) σ H P := fun M2 H1 g hS Q q =>
  hC H1 Q (h M2 H1 g hS _ fun x d H2 k2 s2 d2 p => by
    have g2 : Go M H M2 H2 := g.trans (go_kp (g.sub s hs) (g.sub c hc) g.tr k2 s2)
    exact k M2 H2 x d g2 s2 d2 p M2 H2 (Go.refl g2.tr) s2 Q fun v e H3 k3 s3 d3 p3 => q v e H3 (k2.trans k3) s3 d3 p3)
theorem dr_opl {r : R2} (hs : s ∈ M) (hc : c ∈ M) (h : Dr K s c M ta σ H P1) (k : ∀ M' H' x d, Go M H M' H' → Src s c H' → Dm K M' H' x d → P1 d → Dr K s c M' (tOp r (tC x) tb) σ H' P) : Dr K s c M (tOp r ta tb) σ H P :=
  dr_bind (C := fun t => tOp r t tb) hs hc (fun _ _ q => q) h k
theorem dr_opr {r : R2} {x : V} (hs : s ∈ M) (hc : c ∈ M) (h : Dr K s c M tb σ H P1) (k : ∀ M' H' y d, Go M H M' H' → Src s c H' → Dm K M' H' y d → P1 d → Dr K s c M' (tOp r (tC x) (tC y)) σ H' P) : Dr K s c M (tOp r (tC x) tb) σ H P :=
  dr_bind (C := fun t => tOp r (tC x) t) hs hc (fun _ _ q => q) h k
theorem dr_cb {r : List V → Hp → VK → Prop} (hs : s ∈ M) (hc : c ∈ M) (h : Dr K s c M ta σ H P1) (k : ∀ M' H' x d, Go M H M' H' → Src s c H' → Dm K M' H' x d → P1 d → Dr K s c M' (tCB r (tCons (tC x) tNil)) σ H' P) : Dr K s c M (tCB r (tCons ta tNil)) σ H P :=
  dr_bind (C := fun t => tCB r (tCons t tNil)) hs hc (fun _ _ q => q) h k
theorem dr_sl {r : V → Option Int → Option Int → Hp → VK → Prop} {tl th : TO} (hs : s ∈ M) (hc : c ∈ M) (h : Dr K s c M ta σ H P1) (k : ∀ M' H' x d, Go M H M' H' → Src s c H' → Dm K M' H' x d → P1 d → Dr K s c M' (tSl r (tC x) tl th) σ H' P) : Dr K s c M (tSl r ta tl th) σ H P :=
  dr_bind (C := fun t => tSl r t tl th) hs hc (fun _ _ q => q) h k
end
end Dq

/-! enumerate(tuple), tuple[::-1] -/
namespace PySem
open Sem (wp)
abbrev enumObj (a : Addr) : Obj := { cls := .type "enumerate", data := .fields #[.none, .bool false, .ref a, rawInt 0, .none, .none] }
abbrev tupIt (t : Addr) : Obj := { cls := .type "tuple_iterator", data := .fields #[.ref t, .int 0 0] }
theorem meets_enum_tup1 {v : Value} {o : Obj} {Hq : Heap → Prop} (B : Begins v o Hq) :
    Meets (Builtin.«enumerate.__new__» ⟨[.type "enumerate", v], []⟩) (fun _ R s => Hq s.heap ∧
      R (.ok (.ret (.ref (s.heap.push o).objs.size))) { s with heap := (s.heap.push o).push (enumObj s.heap.objs.size) }) :=
  .of_wp fun prog w A R s h => by
    obtain ⟨hp, g, d, tk, os⟩ := s
    obtain ⟨h1, h⟩ := h
    have hsub := sub_enumerate
    have q1 : ∀ {A' : Around} {E : Value → Shared → Prop} {Q : Value → Shared → Prop},
        Q (.ref hp.objs.size) ⟨hp.push o, g, d, tk, os⟩ → wpAny (model prog w) A' (pyIter v) Q E ⟨hp, g, d, tk, os⟩ :=
      fun q => B.iter prog w _ _ ⟨hp, g, d, tk, os⟩ _ h1 q
    wp_walk using q1
    refine wpAny_stack_any fun st => wpAny_pure ?_
    split
    · rename_i c _ _ _ _ _
      by_cases hcl : (c == Value.type "enumerate") = true
      all_goals
        first
          | (wp_walk using q1
             exact ⟨_, rfl, h⟩)
          | (cases (c == Value.type "enumerate")
             · wp_walk using q1
               exact ⟨_, rfl, h⟩
             · wp_walk using q1
               exact ⟨_, rfl, h⟩)
    · wp_walk using q1
      exact ⟨_, rfl, h⟩
section
variable {prog : Program} {w : World} {A : Around} {E : Value → Shared → Prop} {s : Shared}
theorem call_enum_tup {t : Addr} {items : Array Value} {Q : Value → Shared → Prop} (ht : s.heap.IsTuple t items)
    (h : ∀ h', IsEnum h' (s.heap.objs.size + 1) s.heap.objs.size 0 .none → h'.IsTupleIter s.heap.objs.size t 0 → h'.objs.size = s.heap.objs.size + 2 →
      (∀ b o, s.heap.get? b = some o → h'.get? b = some o) → Q (.ref (s.heap.objs.size + 1)) { s with heap := h' }) :
    wpAny (model prog w) A (call (.type "enumerate") [.ref t]) Q E s := by
  refine callType_new F.called_enumerate (by decide) (F.typeCall_enumerate_1 _) (F.newCall_enumerate_1 _) (fun obj => F.args_object_init_2 obj _)
    F.entry_enumerate_new (meets_enum_tup1 (begins_tuple t items)) ⟨ht, ?_⟩
  have hz : (s.heap.push (tupIt t)).objs.size = s.heap.objs.size + 1 := Heap.size_push ..
  have he : ((s.heap.push (tupIt t)).push (enumObj s.heap.objs.size)).get? (s.heap.objs.size + 1) = some (enumObj s.heap.objs.size) := by
    have hq := Heap.get?_push_size (s.heap.push (tupIt t)) (o := enumObj s.heap.objs.size) rfl
    rw [hz] at hq
    exact hq
  show _ ∧ _
  rw [hz]
  refine ⟨⟨_, he, rfl⟩, h _ he ⟨tupIt t, Heap.get?_push_of_some _ (Heap.get?_push_size _ rfl), rfl, rfl⟩ ?_ ?_⟩
  · rw [Heap.size_push, hz]
  · intro b u x
    exact Heap.get?_push_of_some _ (Heap.get?_push_of_some _ x)
end
end PySem

namespace Dq
open PySem PySem.Spec PyProof.Rows L2 Gd
def ItEt (K : PySem.W.Frag) (a : Addr) : It :=
  ⟨fun i H => ∃ (xs : List V) (x : V), SqT K H a xs ∧ xs[i]? = some x,
   fun i H v H' => ∃ T x, v = .ref T ∧ H T = none ∧ H' = upd H T (.tup [.int (i : Nat), x]) ∧ ∀ xs, SqT K H a xs → xs[i]? = some x,
   fun i H => ∃ xs : List V, SqT K H a xs ∧ xs.length ≤ i⟩
theorem turn_enumT {P : Program} {w : World} {K : PySem.W.Frag} {elts : List Expr} {kk : Nat} {tpos : Pos} (a e it : Addr) :
    Turn P w K (.Tuple elts kk tpos) (ItEt K a) [e, it] e (fun i h => (∃ old, IsEnum h e it ((i : Nat) : Int) old) ∧ h.IsTupleIter it a i ∧ e ≠ it) where
  mem := List.mem_cons_self ..
  obj := fun i h st b hb => by
    obtain ⟨⟨old, he⟩, ⟨o, ho, hc, hd⟩, _⟩ := st
    rcases List.mem_cons.mp hb with z | z
    · rw [z]; exact ⟨_, he, fun v q => nomatch q⟩
    · rw [List.mem_singleton.mp z]; exact ⟨o, ho, fun v q => by rw [hd] at q; cases q⟩
  keep := fun i h h' st k => by
    obtain ⟨⟨old, he⟩, hi, hne⟩ := st
    exact ⟨⟨old, k e (by simp) _ he⟩, hi.at fun o q => k it (by simp) o q, hne⟩
  item := by
    intro X hP hw hK hc i pins s σ H E I hf st hg
    subst hP hw hK
    obtain ⟨⟨old, he⟩, hit, hne⟩ := st
    obtain ⟨xs, x, hq, hx⟩ := hg
    obtain ⟨its, rv, p, hz⟩ := I.tuple hq
    obtain ⟨u, hu, ru⟩ := rv.get hx
    have hel : e < s.heap.objs.size := Heap.lt_size he
    have hil : it < s.heap.objs.size := by obtain ⟨_, q, _⟩ := hit; exact Heap.lt_size q
    have hat : a ≠ it := by
      intro z
      obtain ⟨o1, g1, c1, _⟩ := hit
      obtain ⟨o2, g2, c2, _⟩ := p
      rw [← z, g2] at g1
      cases g1
      rw [c2] at c1
      exact absurd (Value.type.inj c1) (by decide)
    have hae : e ≠ a := by
      intro z
      obtain ⟨o2, g2, c2, _⟩ := p
      have he2 : s.heap.get? e = some _ := he
      rw [z, g2] at he2
      cases he2
      exact absurd (Value.type.inj c2) (by decide)
    have D := Draws.tuple (prog := X.prog) (w := X.w) (A := X.A.in1) (I.ok.hd hc) it a hat its.toArray
    refine wpAny_pyNext_enum_itemD D he ⟨hit, p⟩ (show i < its.toArray.size by rw [List.size_toArray]; exact (List.getElem?_eq_some_iff.mp hu).1) hne
      (by simp only [List.mem_cons, List.not_mem_nil, or_false]; exact fun z => z.elim hne hae) fun y h' tk hy ho hst' hT hsz hk => ?_
    have hyu : y = u := by
      rw [List.getElem?_toArray, hu] at hy
      exact (Option.some.inj hy).symm
    subst hyu
    refine ⟨_, rfl, wpAny_letOwnedTupleGo_enum (s := { s with heap := h', toks := tk + 1 }) ho fun h2 he' sb => ?_⟩
    have hT2 : h2.get? s.heap.objs.size = some { cls := .type "tuple", data := .seq #[.int i tk, y] } := (sb.2 _ (Nat.ne_of_gt hel)).trans hT
    have new : ObjOk X.prog X.w (upd H s.heap.objs.size (.tup [.int (i : Nat), x])) h2 s.heap.objs.size (.tup [.int (i : Nat), x]) :=
      ⟨(by show 2 ≤ sizeLine; decide), [.int i tk, y], .cons ⟨_, rfl⟩ (.cons ru .nil), ⟨_, hT2, rfl, _, rfl⟩⟩
    have I1 : Inv X pins σ (upd H s.heap.objs.size (.tup [.int (i : Nat), x])) { s with heap := h2, toks := tk + 1 } :=
      I.turnedNew (ch := [e, it]) (fun b ob hb q => (sb.2 b (fun z => hb (by simp [z]))).trans
        (hk b ob (fun z => hb (by simp [z])) (fun z => hb (by simp [z])) q)) hf (Nat.le_refl _) new
    refine ⟨.ref s.heap.objs.size, _, I1, rfl, ⟨_, x, rfl, I.hok.fresh (Nat.le_refl _), rfl, fun ys hy => by rw [I.tuple_inj hy hq]; exact hx⟩,
      ⟨⟨y, ?_⟩, hst'.1.at fun o q => (sb.2 it (Ne.symm hne)).trans q, hne⟩, fun b hb => ?_⟩
    · have e1 : ((i + 1 : Nat) : Int) = (i : Int) + 1 := by omega
      rw [e1]
      exact he'
    · have hb2 : b < s.heap.objs.size := by
        rcases List.mem_cons.mp hb with z | z
        · rw [z]; exact hel
        · rw [List.mem_singleton.mp z]; exact hil
      rw [upd_ne (Nat.ne_of_lt hb2)]
      exact (hf b hb).1
  done := by
    intro X hP hw hK hc i pins s σ H E I hf st hg
    subst hP hw hK
    obtain ⟨⟨old, he⟩, hit, hne⟩ := st
    obtain ⟨xs, hq, hx⟩ := hg
    obtain ⟨its, rv, p, hz⟩ := I.tuple hq
    obtain ⟨f0, f1, f2, f3, f4, f5⟩ := hf it (by simp)
    have hl := rv.length
    have hT : s.TypeIs (.ref e) "enumerate" := ⟨_, he, rfl⟩
    unfold pyNext
    refine wpAny_bind (wpAny_attempt (wpAny_callSpecial?_slot (name := Str.ofString "__next__") hT F.slot_enumerate_next
      (wpAny_call_entry F.slot_enumerate_next hT F.entry_enumerate_next ?_ (F.args_enumerate_next_1 _))))
    show wpAny _ _ (field (.ref e) 2 >>= _) _ _ _
    refine wpAny_bind (wpAny_field he rfl (x := .ref it) rfl ?_)
    refine wpAny_bind (wpAny_nextOf_tuple_end (I.ok.hd hc) hit (show s.heap.IsTuple a its.toArray from p) (by simp; omega) fun h' x he2 hx2 => ?_)
    obtain ⟨o, ho, hc2⟩ := hx2
    refine wpAny_bind (wpAny_isInstance (T := "StopIteration") (b := true) ⟨o, ho, hc2⟩ isSubtype_stop ?_)
    exact wpAny_pure ⟨rfl, I.turned (t' := s.toks) (fun b o hb q => he2 b o hb q) f0 f1 f3 f4 f5⟩
  self := fun A i s Q E st h => by
    obtain ⟨⟨_, he⟩, _⟩ := st
    exact wpAny_pyIter_enum he h
def iEnumT (K : PySem.W.Frag) (ta : TA) : TI := fun σ H R => ta σ H fun vs H1 => ∃ a xs, vs = [.ref a] ∧ SqT K H1 a xs ∧ R (ItEt K a) H1
theorem pi_enumT {X : Cx} {e : Expr} {ta : TA} {p pos tpos : Pos} {elts : List Expr} {kk : Nat} (hg : Gl X "enumerate") (hm : X.mg "enumerate" = none) (ha : PA X [e] ta)
    (hs : starEach [e] X.env = [(false, eval e X.env)] := by rfl) : PI X (.Tuple elts kk tpos) (.Call (.Name "enumerate" p) [e] [] pos) (iEnumT X.K ta) := by
  constructor
  intro pins s σ H R I h
  refine Call_ (ld_blt I hg hm boot_enumerate (PyProof.Rows.callWith_type1 (thn (ha.run pos pins s σ H _ I h) ?_) hs rfl))
  rintro us s1 ⟨vs, H1, I1, r1, a, xs, rfl, hq, q⟩
  cases r1 with
  | cons r rr =>
    cases rr
    cases r
    obtain ⟨its, rv, p2, hz⟩ := I1.tuple hq
    refine call_enum_tup (show s1.heap.IsTuple a its.toArray from p2) fun h' he hit hsz hk => wpAny_pyIter_enum he ?_
    have I2 : Inv X pins σ H1 { s1 with heap := h' } := I1.kept (t' := s1.toks) hk
    refine ⟨s1.heap.objs.size + 1, [s1.heap.objs.size + 1, s1.heap.objs.size], _, _, H1, rfl, I2, turn_enumT a _ s1.heap.objs.size, ⟨⟨.none, he⟩, hit, Nat.succ_ne_self _⟩, fun b hb => ?_, q⟩
    have hle : s1.heap.objs.size ≤ b := by
      rcases List.mem_cons.mp hb with z | z
      · rw [z]; exact Nat.le_add_right _ _
      · rw [List.mem_singleton.mp z]; exact Nat.le_refl _
    exact I1.fpOk hle (I1.hok.fresh hle)
theorem walk_enumT {K : PySem.W.Frag} {a : Addr} {xs : List V} : Walk (ItEt K a) xs.length (fun H => SqT K H a xs) (YPair (fun i => some (.int (i : Nat))) (fun i => xs[i]?)) := by
  refine ⟨fun i _ hi q => ⟨xs, xs[i], q, by simp [hi]⟩, fun _ q => ⟨xs, q, Nat.le_refl _⟩, fun i H v H' _ q y => ?_⟩
  obtain ⟨T, x, h1, h2, h3, h4⟩ := y
  exact ⟨T, .int (i : Nat), x, h1, h2, h3, rfl, h4 xs q⟩
theorem wk_enumT {K : PySem.W.Frag} {M : List Addr} {σ : S} {H : Hp} {as : TA} {ds : List PyData} (h : Ea K M as σ H [.tuple ds]) : Wk K M (iEnumT K as) σ H ds.length (fun i => .tuple [.int (i : Nat), at0 ds i]) := fun M2 H1 g R k =>
  h M2 H1 g _ fun vs H2 e2 d2 => by
    cases d2 with
    | cons p q =>
      cases q
      cases p with
      | @tup a xs _ hs hx =>
        refine ⟨a, xs, rfl, same_sqt mn_same hs, ?_⟩
        have w := walk_enumT (K := K) (a := a) (xs := xs)
        rw [hx.length] at w
        refine k _ _ _ _ e2 w (fun M3 H3 g3 => same_sqt mn_same (same_sqt g3.mn hs)) fun M3 i H3 z H4 g3 hi hy => ?_
        obtain ⟨T, u, w, rfl, hT, rfl, e5, e6⟩ := hy
        cases e5
        refine ⟨same_new hT, dm_newT g3.tr hT ?_⟩
        obtain ⟨d2, q3, q4⟩ := hx.getV e6
        rw [at0_get hi] at q3
        cases q3
        exact .cons (.int _) (.cons (Da.same g3.mn _ _ q4) .nil)

/-! ### t[::-1] -/
theorem back_places (n : Nat) : Builtin.Slice.slicePlaces ((n : Int) - 1) (-1) (-1) = n := by
  unfold Builtin.Slice.slicePlaces
  rw [if_neg (by decide)]
  by_cases h : (n : Int) - 1 > -1
  · rw [if_pos h, show (-(-1 : Int)) = 1 from rfl, Int.ediv_one]
    omega
  · rw [if_neg h]
    omega
theorem fm_congr {α β : Type} {f g : α → Option β} : ∀ (l : List α), (∀ m ∈ l, f m = g m) → l.filterMap f = l.filterMap g
  | [], _ => rfl
  | x :: l, h => by
    rw [List.filterMap_cons, List.filterMap_cons, h x (List.mem_cons_self ..), fm_congr l fun m hm => h m (List.mem_cons_of_mem _ hm)]
theorem back_pick (xs : List Value) : ((List.range xs.length).filterMap fun (m : Nat) => xs.toArray[(((xs.length : Int) - 1) + (m : Int) * (-1)).toNat]?) = xs.reverse := by
  have e1 : ∀ m ∈ List.range xs.length, xs.toArray[(((xs.length : Int) - 1) + (m : Int) * (-1)).toNat]? = xs.reverse[m]? := by
    intro m hm
    have hm := List.mem_range.mp hm
    rw [List.getElem?_toArray, List.getElem?_reverse hm]
    congr 1
    omega
  have e2 : ((List.range xs.length).filterMap fun (m : Nat) => xs.toArray[(((xs.length : Int) - 1) + (m : Int) * (-1)).toNat]?) = (List.range xs.length).filterMap fun m => xs.reverse[m]? := by
    exact fm_congr _ e1
  rw [e2]
  have h := PySem.W.krv_all xs.reverse.toArray
  simpa using h
section
variable {prog : Program} {w : World} {A : Around} {E : Value → Shared → Prop} {s : Shared}
theorem getItem_tuple_back {t sl : Addr} {items : List Value} {vk : Value} {Q : Value → Shared → Prop} (ht : IsTup s.heap t items.toArray)
    (hs : s.heap.IsSliceOf sl .none .none vk) (pk : IsPart vk (some (-1))) (h : Q (.ref s.heap.objs.size) { s with heap := s.heap.push { cls := .type "tuple", data := .seq items.reverse.toArray } })
    (hsz : items.length ≤ sizeLine) : wpAny (model prog w) A (getItem (.ref t) (.ref sl)) Q E s := by
  have hok : sizeOk (.seq items.reverse.toArray) := by
    show items.reverse.toArray.size ≤ sizeLine
    rw [List.size_toArray, List.length_reverse]
    exact hsz
  obtain ⟨os, hos, hcs, hds⟩ := id hs
  have hTs : s.TypeIs (.ref sl) "slice" := ⟨os, hos, hcs⟩
  unfold getItem
  try with_reducible refine wpAny_holding ?_
  first | refine wpAny_bind (wpAny_pure ?_) | skip
  refine wpAny_bind (wpAny_sequenceKey ht.typeIs (by decide) ?_)
  refine wpAny_bind (wpAny_callSpecial?_slot (name := Str.ofString "__getitem__") ht.typeIs PyProof.Rows.slot_tuple_getitem
    (wpAny_call_entry PyProof.Rows.slot_tuple_getitem ht.typeIs entry_tuple_getitem ?_ (args_tuple_getitem _ _)))
  show wpAny _ _ (Builtin.Tuple.tupleItemsOf (.ref t) >>= _) _ _ s
  refine wpAny_bind (tupleItemsOf_ ht ?_)
  refine wpAny_bind (wpAny_typeOf hTs ?_)
  rw [if_pos (by decide)]
  rw [List.size_toArray]
  have app : ∀ Q : Int × Int × Nat → Shared → Prop, Q ((items.length : Int) - 1, -1, items.length) s → wpAny (model prog w) A.in1 (Builtin.Slice.sliceApplied (.ref sl) (pure (items.length : Int))) Q E s := by
    intro Q hQ
    unfold Builtin.Slice.sliceApplied Builtin.Slice.sliceFields
    refine wpAny_bind (wpAny_bind (wpAny_field hos hds (x := .none) rfl (wpAny_bind (wpAny_field hos hds (x := .none) rfl (wpAny_bind (wpAny_field hos hds (x := vk) rfl (wpAny_pure ?_)))))))
    refine wpAny_bind (HT.slicePart_ pk ?_)
    show wpAny _ _ (if ((-1 : Int) == 0) = true then _ else _) _ _ s
    rw [if_neg (by decide)]
    refine wpAny_bind (HT.slicePart_ .none (wpAny_bind (HT.slicePart_ .none (wpAny_bind (wpAny_pure ?_)))))
    show wpAny _ _ (pure (((items.length : Int) - 1), (-1 : Int), Builtin.Slice.slicePlaces ((items.length : Int) - 1) (-1) (-1))) _ _ s
    rw [back_places]
    exact wpAny_pure hQ
  refine wpAny_bind (app _ ?_)
  show wpAny _ _ (if (((items.length : Int) - 1) == 0 && (-1 : Int) == 1 && items.length == items.length) = true then _ else _) _ _ s
  rw [if_neg (by simp)]
  rw [back_pick]
  first
    | exact wpAny_bind (m := Builtin.Tuple.tupleExact _) (wpAny_newObj_type (wpAny_pure ⟨_, rfl, wpAny_pure h⟩) hok)
    | exact wpAny_bind (m := Builtin.Tuple.tupleExact _) (wpAny_newObj_type (wpAny_bind (wpAny_pure (wpAny_pure ⟨_, rfl, wpAny_pure h⟩))) hok)
    | exact wpAny_bind (wpAny_bind (m := Builtin.Tuple.tupleExact _) (wpAny_newObj_type (wpAny_pure (wpAny_pure ⟨_, rfl, wpAny_pure h⟩)) hok))
    | exact wpAny_bind (wpAny_bind (m := Builtin.Tuple.tupleExact _) (wpAny_newObj_type (wpAny_pure ⟨_, rfl, wpAny_pure h⟩) hok))
end
def tRevT (K : PySem.W.Frag) (te : TE) : TE := fun σ H Q => te σ H fun x H1 => ∃ a xs, x = .ref a ∧ SqT K H1 a xs ∧ ∀ p, H1 p = none → Q (.ref p) (upd H1 p (.tup xs.reverse))
theorem pe_revT {X : Cx} {e : Expr} {te : TE} {k : Nat} {p1 p2 p3 pos : Pos} (he : PE X e te) : PE X (.Subscript e (.Slice none none (some (.UnaryOp .USub (.Constant (.int 1) k p1) p2)) p3) pos) (tRevT X.K te) := by
  constructor
  intro pins s σ H Q I h
  refine Subscript_ (thn (he.run pins s σ H _ I h) ?_)
  rintro v s1 ⟨x, H1, I1, r1, a, xs, rfl, hx, q⟩
  cases r1
  have part : PO X (some (.UnaryOp .USub (.Constant (.int 1) k p1) p2)) (tPart (tUn (rU fun i => .int (-i)) (tC (.int 1)))) := po_some (pe_un un_neg pe_int)
  refine wpAny_Slice (thn (po_none.run pins s1 σ H1 (fun o H2 => o = none ∧ H2 = H1) I1 ⟨rfl, rfl⟩) ?_)
  rintro vl s2 ⟨l, H2, I2, pl, rfl, rfl⟩
  refine thn (po_none.run pins s2 σ _ (fun o H3 => o = none ∧ H3 = H2) I2 ⟨rfl, rfl⟩) ?_
  rintro vu s3 ⟨u, H3, I3, pu, rfl, rfl⟩
  refine thn (part.run pins s3 σ _ (fun o H4 => o = some (-1) ∧ H4 = H3) I3 ⟨1, rfl, -1, rfl, rfl, rfl⟩) ?_
  rintro vs s4 ⟨o, H4, I4, ps, rfl, rfl⟩
  cases pl
  cases pu
  have I5 : Inv X pins σ H4 { s4 with heap := s4.heap.push { cls := .type "slice", data := .fields #[.none, .none, vs] } } := I4.kept (t' := s4.toks) fun b ob q => Heap.get?_push_of_some _ q
  obtain ⟨its, r, ht, hz⟩ := I5.tuple hx
  show wpAny (model X.prog X.w) X.A (subscriptTail e (.Slice none none (some (.UnaryOp .USub (.Constant (.int 1) k p1) p2)) p3) (.ref a) (.ref s4.heap.objs.size)) (EP X pins σ Q) X.xe _
  refine tail_any (ops := [.ref a, .ref s4.heap.objs.size]) ht.typeIs PyProof.Rows.slot_tuple_getitem.lookup ?_ (by with_unfolding_all rfl)
  refine getItem_tuple_back ht (Heap.IsSliceOf.new _ .none .none vs) ps ?_ (by rw [← r.length]; exact hz)
  refine ⟨.ref _, _, I5.laid (t' := s4.toks) (o := .tup xs.reverse) (fun b ob q => Heap.get?_push_of_some _ q) (Nat.le_refl _) ?_, rfl, q _ (I5.hok.fresh (Nat.le_refl _))⟩
  exact ⟨(by rw [List.length_reverse]; exact hz), _, r.reverse, IsTup.new _ _⟩
section
variable {K : PySem.W.Frag} {M : List Addr} {σ : S} {H : Hp} {te : TE} {ds : List PyData}
theorem ev_revT (ha : Ev K M te σ H (.tuple ds)) : Ev K M (tRevT K te) σ H (.tuple ds.reverse) := fun M2 H1 g Q q =>
  ha M2 H1 g _ fun v H2 e2 d2 => by
    have t2 := (g.same e2).tr
    cases d2 with
    | @tup a xs _ hs hx => exact ⟨a, xs, rfl, same_sqt mn_same hs, fun p hp => q _ _ (e2.trans (same_new hp)) (dm_newT t2 hp hx.reverse)⟩
end
end Dq

/-! the rules with the written part named -/
namespace Dq
open PySem PySem.Spec PyProof.Rows L2 Gd
abbrev rLenQ (K : PySem.W.Frag) : List V → Hp → VK → Prop := fun xs H Q => ∃ p ys, xs = [V.ref p] ∧ (SqL K H p ys ∨ SqT K H p ys) ∧ Q (.int ys.length) H
abbrev rListQ (K : PySem.W.Frag) : List V → Hp → VK → Prop := fun xs H Q => ∃ p ys, xs = [V.ref p] ∧ (SqL K H p ys ∨ SqT K H p ys) ∧ ∀ l, H l = none → Q (.ref l) (upd H l (.lst ys))
abbrev rTupQ (K : PySem.W.Frag) : List V → Hp → VK → Prop := fun xs H Q => ∃ p ys, xs = [V.ref p] ∧ ((SqL K H p ys ∧ ∀ l, H l = none → Q (.ref l) (upd H l (.tup ys))) ∨ (SqT K H p ys ∧ Q (.ref p) H))
section
variable {X : Cx} {K : PySem.W.Frag}
theorem ix_tup_k (h : X.K = K) : IxR X (rIxT K) := h ▸ ix_tup
theorem ix_list_k (h : X.K = K) : IxR X (rIxL K) := h ▸ ix_list
theorem sl_list_k (h : X.K = K) : SlR X (rSlL K) := h ▸ sl_list
theorem sl_tup_k (h : X.K = K) : SlR X (rSlA K) := h ▸ sl_tupA
theorem op_eq_k (h : X.K = K) (hu : X.A.units + 64 < cLine) : OpR X (compareOp .Eq) (rEqD K) := h ▸ op_eqD hu
theorem op_ne_k (h : X.K = K) (hu : X.A.units + 64 < cLine) : OpR X (compareOp .NotEq) (rNeD K) := h ▸ op_neD hu
theorem op_in_k (h : X.K = K) (hu : X.A.units + 65 < cLine) : OpR X (compareOp .In) (rInD K) := h ▸ op_inD hu
theorem op_notIn_k (h : X.K = K) (hu : X.A.units + 65 < cLine) : OpR X (compareOp .NotIn) (rNotInD K) := h ▸ op_notInD hu
theorem op_inq_k (h : X.K = K) : OpR X (compareOp .In) (rIn K false) := h ▸ op_in_seq
theorem op_notInq_k (h : X.K = K) : OpR X (compareOp .NotIn) (rIn K true) := h ▸ op_notIn_seq
theorem op_catT_k (h : X.K = K) : OpR X (binaryOp .Add) (rCatA K) := h ▸ op_catA
theorem call_len_k (h : X.K = K) : CallR X (.builtin "len") (rLenQ K) := h ▸ call_len_seq
theorem call_list_k (h : X.K = K) : CallR X (.type "list") (rListQ K) := h ▸ call_list_of
theorem call_tup_k (h : X.K = K) : CallR X (.type "tuple") (rTupQ K) := h ▸ call_tuple_of
theorem call_repr_k (h : X.K = K) (hg : X.A.guards = some []) (hu : X.A.units + 64 < cLine) : CallR X (.builtin "repr") (rReprD K) := h ▸ call_reprD hg hu
theorem cr_sorted_k (h : X.K = K) : CallR X (.builtin "sorted") (rSorted K) := h ▸ cr_sorted
theorem cr_sortedP_k (h : X.K = K) : CallR X (.builtin "sorted") (rSortedP K) := h ▸ cr_sortedP
theorem pi_list_k {tg l : Expr} {tl : TE} (h : X.K = K) (hl : PE X l tl) : PI X tg l (iList K tl) := h ▸ pi_list hl
theorem pi_tup_k {tg l : Expr} {tl : TE} (h : X.K = K) (hl : PE X l tl) : PI X tg l (iTup K tl) := h ▸ pi_tup hl
theorem pe_revL_k {e : Expr} {te : TE} {k : Nat} {p1 p2 p3 pos : Pos} (h : X.K = K) (he : PE X e te) : PE X (.Subscript e (.Slice none none (some (.UnaryOp .USub (.Constant (.int 1) k p1) p2)) p3) pos) (tRevL K te) := h ▸ pe_revL he
theorem pe_revT_k {e : Expr} {te : TE} {k : Nat} {p1 p2 p3 pos : Pos} (h : X.K = K) (he : PE X e te) : PE X (.Subscript e (.Slice none none (some (.UnaryOp .USub (.Constant (.int 1) k p1) p2)) p3) pos) (tRevT K te) := h ▸ pe_revT he
theorem pi_zip_k {e e2 : Expr} {ta : TA} {p pos tpos : Pos} {elts : List Expr} {kk : Nat} (h : X.K = K) (hg : Gl X "zip") (hm : X.mg "zip" = none) (ha : PA X [e, e2] ta)
    (h2 : PI X (.Tuple elts kk tpos) (.Call (.Name "zip" p) [e, e2] [] pos) (iZip X.K ta)) : PI X (.Tuple elts kk tpos) (.Call (.Name "zip" p) [e, e2] [] pos) (iZip K ta) := h ▸ h2
theorem pi_k {tg it : Expr} {f : PySem.W.Frag → TI} (h : X.K = K) (h2 : PI X tg it (f X.K)) : PI X tg it (f K) := h ▸ h2
theorem pe_k {e : Expr} {f : PySem.W.Frag → TE} (h : X.K = K) (h2 : PE X e (f X.K)) : PE X e (f K) := h ▸ h2
end
end Dq

/-! sizes of data; typed walks -/
namespace Dq
open PySem PySem.Spec PyProof.Rows L2 Gd

structure Fit (n k : Nat) (d : PyData) : Prop where
  short : d.leavesShort 60 = true
  shw : d.showable = true
  nod : d.hasDict = false
  lay : d.canLay0 = true
  dep : d.depth ≤ n
  wt : d.weight ≤ k
theorem Fit.mono {n k m l : Nat} {d : PyData} (h : Fit n k d) (a : n ≤ m) (b : k ≤ l) : Fit m l d := ⟨h.short, h.shw, h.nod, h.lay, Nat.le_trans h.dep a, Nat.le_trans h.wt b⟩
theorem Fit.non : Fit 0 0 .none := ⟨rfl, rfl, rfl, rfl, Nat.le_refl _, Nat.le_refl _⟩
theorem Fit.bl (b : Bool) : Fit 0 0 (.bool b) := ⟨rfl, rfl, rfl, rfl, Nat.le_refl _, Nat.le_refl _⟩
theorem log2_lt {n k : Nat} (hk : 0 < k) (h : n < 2 ^ k) : n.log2 < k := by
  by_cases h0 : n = 0
  · rw [h0]
    simpa using hk
  · exact (Nat.log2_lt h0).mpr h
theorem Fit.int {i : Int} (k : Nat) (hk : 0 < k) (hk2 : k ≤ 190) (h : i.natAbs < 2 ^ k) : Fit 0 k (.int i) := by
  have hl := log2_lt hk h
  refine ⟨?_, ?_, rfl, rfl, Nat.le_refl _, ?_⟩
  · unfold PyData.leavesShort
    refine decide_eq_true ?_
    show (PyData.shown (.int i)).length ≤ 60
    unfold PyData.shown
    show (Str.ofString (toString i)).length ≤ 60
    rw [PySem.ofString_length]
    have h2 : i.natAbs < 10 ^ 59 := Nat.lt_of_lt_of_le h (Nat.le_trans (Nat.pow_le_pow_right (by decide) hk2) (by decide +kernel))
    exact int_text_length_le10 (k := 59) (by decide) h2
  · unfold PyData.showable
    exact decide_eq_true (by omega)
  · unfold PyData.weight
    split
    · exact Nat.zero_le _
    · omega
theorem Fit.nat {i : Int} (h0 : 0 ≤ i) (h : i < 1048576) : Fit 0 20 (.int i) := Fit.int 20 (by decide) (by decide) (by omega)
section
variable {n k : Nat}
theorem fit_all : ∀ {ds : List PyData}, (∀ d ∈ ds, Fit n k d) → PyData.leavesShortAll 60 ds = true ∧ PyData.showableAll ds = true ∧ PyData.hasDictAll ds = false ∧ PyData.canLayAll0 ds = true ∧ PyData.depthAll ds ≤ n ∧ PyData.weightAll ds ≤ ds.length * (k + 1)
  | [], _ => ⟨rfl, rfl, rfl, rfl, Nat.zero_le _, Nat.zero_le _⟩
  | d :: ds, h => by
    obtain ⟨h1, h2, h3, h4, h5, h6⟩ := fit_all (ds := ds) fun e he => h e (List.mem_cons_of_mem _ he)
    have g := h d (List.mem_cons_self ..)
    refine ⟨?_, ?_, ?_, ?_, ?_, ?_⟩
    · unfold PyData.leavesShortAll; rw [g.short, h1]; rfl
    · unfold PyData.showableAll; rw [g.shw, h2]; rfl
    · unfold PyData.hasDictAll; rw [g.nod, h3]; rfl
    · unfold PyData.canLayAll0; rw [g.lay, h4]; rfl
    · unfold PyData.depthAll; exact Nat.max_le.mpr ⟨g.dep, h5⟩
    · unfold PyData.weightAll
      rw [List.length_cons, Nat.succ_mul]
      have := g.wt
      omega
theorem Fit.tuple {ds : List PyData} (h : ∀ d ∈ ds, Fit n k d) : Fit (n + 1) (ds.length * (k + 1)) (.tuple ds) := by
  obtain ⟨h1, h2, h3, h4, h5, h6⟩ := fit_all h
  exact ⟨by unfold PyData.leavesShort; exact h1, by unfold PyData.showable; exact h2, by unfold PyData.hasDict; exact h3, by unfold PyData.canLay0; exact h4, by unfold PyData.depth; omega, by unfold PyData.weight; exact h6⟩
theorem Fit.list {ds : List PyData} (h : ∀ d ∈ ds, Fit n k d) : Fit (n + 1) (ds.length * (k + 1)) (.list ds) := by
  obtain ⟨h1, h2, h3, h4, h5, h6⟩ := fit_all h
  exact ⟨by unfold PyData.leavesShort; exact h1, by unfold PyData.showable; exact h2, by unfold PyData.hasDict; exact h3, by unfold PyData.canLay0; exact h4, by unfold PyData.depth; omega, by unfold PyData.weight; exact h6⟩
theorem Fit.shaped {d : PyData} (h : Fit n k d) (hn : n ≤ 64) : SeqAt.shaped d = true := by
  unfold SeqAt.shaped
  rw [h.lay, decide_eq_true (Nat.le_trans h.dep hn)]
  rfl
theorem Fit.size {d : PyData} (h : Fit n k d) (hk : k ≤ 270000) : d.shown.length ≤ sizeLine := by
  have := PyData.shown_le 60 (by decide) d h.short
  have h2 := h.wt
  rw [sizeLine_eq]
  omega
end
theorem sz (n : Nat) (h : n ≤ 1000 := by decide) : n ≤ sizeLine := by rw [sizeLine_eq]; omega
section
variable {K : PySem.W.Frag} {M M' : List Addr} {σ : S} {H H' : Hp} {ta tb te tc : TE} {tt tu : TT} {as : TA} {d e f : PyData} {ds es : List PyData} {r : R2} {x y : V} {wi : TI}
theorem ev_reprF {n k : Nat} (ha : Ev K M ta σ H d) (hd : (∃ ds, d = .list ds) ∨ (∃ ds, d = .tuple ds)) (h : Fit n k d) (hn : n ≤ 60) (hk : k ≤ 270000) : Ev K M (tCB (rReprD K) (tCons ta tNil)) σ H (.str d.shown) :=
  ev_repr ha hd h.shw h.nod (Nat.le_trans h.dep hn) (h.size hk)
theorem ev_eqS {a b : Str} (ha : Ev K M ta σ H (.str a)) (hb : Ev K M tb σ H (.str b)) : Ev K M (tOp rEq ta tb) σ H (.bool (decide (a = b))) :=
  ev_op ha hb fun M2 H1 x y gg dx dy Q q => by
    cases dx
    cases dy
    refine ⟨rfl, ?_⟩
    have e : decide (V.str a = V.str b) = decide (a = b) := by
      by_cases h : a = b
      · rw [h]; simp
      · rw [decide_eq_false h, decide_eq_false (fun z => h (V.str.inj z))]
    rw [e]
    exact q _ _ (Same.refl _) (.bl _)
theorem ev_neS {a b : Str} (ha : Ev K M ta σ H (.str a)) (hb : Ev K M tb σ H (.str b)) : Ev K M (tOp rNe ta tb) σ H (.bool (!decide (a = b))) :=
  ev_op ha hb fun M2 H1 x y gg dx dy Q q => by
    cases dx
    cases dy
    refine ⟨rfl, ?_⟩
    have e : decide (V.str a = V.str b) = decide (a = b) := by
      by_cases h : a = b
      · rw [h]; simp
      · rw [decide_eq_false h, decide_eq_false (fun z => h (V.str.inj z))]
    rw [e]
    exact q _ _ (Same.refl _) (.bl _)

/-! ### typed walks -/
theorem at0_map {α : Type} {f : α → PyData} {xs : List α} {i : Nat} (h : i < xs.length) : at0 (xs.map f) i = f xs[i] := by
  unfold at0
  rw [List.getD_eq_getElem?_getD, List.getElem?_map, List.getElem?_eq_getElem h]
  rfl
theorem given_map {α : Type} (p : α → Bool) (g : α → PyData) : ∀ xs : List α, given xs.length (fun i => match xs[i]? with | some a => p a | none => false) (fun i => match xs[i]? with | some a => g a | none => .none) = (xs.filter p).map g
  | [] => rfl
  | x :: xs => by
    have ih := given_map p g xs
    unfold given at ih ⊢
    rw [List.length_cons, List.range_succ_eq_map, List.filter_cons, List.filter_map]
    rw [List.filter_cons]
    by_cases h : p x = true
    · rw [if_pos (show (match (x :: xs)[0]? with | some a => p a | none => false) = true from h), if_pos h, List.map_cons, List.map_cons, List.map_map]
      exact congrArg (g x :: ·) ih
    · rw [if_neg (show ¬ (match (x :: xs)[0]? with | some a => p a | none => false) = true from h), if_neg h, List.map_map]
      exact ih
theorem ev_lcT {α : Type} {g : TG} {vs : List Nat} {xs : List α} {enc : α → PyData} (p : α → Bool) (el : α → PyData) (w : Wk K M wi σ H xs.length (at0 (xs.map enc))) (hn : xs.length ≤ 1000000)
    (hs : ∀ M' H' a x, Go M H M' H' → a ∈ xs → Dm K M' H' x (enc a) → ∃ σ2, Tk g x (wipe σ vs) H' σ2 ∧ wipe σ2 vs = wipe σ vs ∧ Eb M' tt σ2 H' (p a) ∧ (p a = true → Ev K M' te σ2 H' (el a))) :
    Ev K M (tLc wi g tt te vs) σ H (.list ((xs.filter p).map el)) := by
  rw [← given_map p el xs]
  refine ev_lc _ _ w hn fun M' H' i z g3 hi dz => ?_
  rw [at0_map hi] at dz
  obtain ⟨σ2, h1, h2, h3, h4⟩ := hs M' H' xs[i] z g3 (List.getElem_mem hi) dz
  have e : xs[i]? = some xs[i] := List.getElem?_eq_getElem hi
  refine ⟨σ2, h1, h2, ?_, ?_⟩
  · rw [e]; exact h3
  · rw [e]; exact h4
/-- all of them -/
theorem ev_lcA {α : Type} {g : TG} {vs : List Nat} {xs : List α} {enc : α → PyData} (el : α → PyData) (w : Wk K M wi σ H xs.length (at0 (xs.map enc))) (hn : xs.length ≤ 1000000)
    (hs : ∀ M' H' a x, Go M H M' H' → a ∈ xs → Dm K M' H' x (enc a) → ∃ σ2, Tk g x (wipe σ vs) H' σ2 ∧ wipe σ2 vs = wipe σ vs ∧ Ev K M' te σ2 H' (el a)) :
    Ev K M (tLc wi g tYes te vs) σ H (.list (xs.map el)) := by
  have h := ev_lcT (tt := tYes) (te := te) (g := g) (vs := vs) (fun _ => true) el w hn fun M' H' a x g3 ha dx => by
    obtain ⟨σ2, h1, h2, h3⟩ := hs M' H' a x g3 ha dx
    exact ⟨σ2, h1, h2, eb_yes, fun _ => h3⟩
  rwa [List.filter_eq_self.mpr (fun _ _ => rfl)] at h
theorem ev_lcR {g : TG} {vs : List Nat} {n : Nat} {it : Nat → PyData} (el : Nat → PyData) (w : Wk K M wi σ H n it) (hn : n ≤ 1000000)
    (hs : ∀ M' H' i x, Go M H M' H' → i < n → Dm K M' H' x (it i) → ∃ σ2, Tk g x (wipe σ vs) H' σ2 ∧ wipe σ2 vs = wipe σ vs ∧ Ev K M' te σ2 H' (el i)) :
    Ev K M (tLc wi g tYes te vs) σ H (.list ((List.range n).map el)) := by
  have h := ev_lc (tt := tYes) (te := te) (g := g) (vs := vs) (fun _ => true) el w hn fun M' H' i x g3 hi dx => by
    obtain ⟨σ2, h1, h2, h3⟩ := hs M' H' i x g3 hi dx
    exact ⟨σ2, h1, h2, eb_yes, fun _ => h3⟩
  unfold given at h
  rwa [List.filter_eq_self.mpr (fun _ _ => rfl)] at h
theorem wk_tupT {α : Type} {xs : List α} {enc : α → PyData} (h : Ev K M te σ H (.tuple (xs.map enc))) : Wk K M (iTup K te) σ H xs.length (at0 (xs.map enc)) := by
  have w := wk_tup h
  rwa [List.length_map] at w
theorem wk_listT {α : Type} {xs : List α} {enc : α → PyData} (h : Ev K M te σ H (.list (xs.map enc))) : Wk K M (iList K te) σ H xs.length (at0 (xs.map enc)) := by
  have w := wk_list h
  rwa [List.length_map] at w
theorem at0_range {α : Type} {n : Nat} {f : Nat → PyData} : True := trivial
theorem ev_ofL (h : Ev K M (tCB (fun xs H Q => ∃ p ys, xs = [V.ref p] ∧ ((SqL K H p ys ∧ ∀ l, H l = none → Q (.ref l) (upd H l (.tup ys))) ∨ (SqT K H p ys ∧ Q (.ref p) H))) (tCons ta tNil)) σ H d) : Ev K M (tCB (fun xs H Q => ∃ p ys, xs = [V.ref p] ∧ ((SqL K H p ys ∧ ∀ l, H l = none → Q (.ref l) (upd H l (.tup ys))) ∨ (SqT K H p ys ∧ Q (.ref p) H))) (tCons ta tNil)) σ H d := h
end
end Dq

/-! the source's dict -/
namespace Dq
open PySem PySem.Spec PyProof.Rows L2 Gd
section
variable {c : Addr} {l m t x : Int}
theorem src_cells : valV (srcK c l m t) (.inr "cells") = some (.ref c) := by rfl
theorem src_left : valV (srcK c l m t) (.inr "left") = some (.int l) := by rfl
theorem src_mixed : valV (srcK c l m t) (.inr "mixed") = some (.int m) := by rfl
theorem src_turn : valV (srcK c l m t) (.inr "turn") = some (.int t) := by rfl
theorem put_left : putK (srcK c l m t) (.inr "left") (.int x) = srcK c x m t := by rfl
theorem put_mixed : putK (srcK c l m t) (.inr "mixed") (.int x) = srcK c l x t := by rfl
theorem put_turn : putK (srcK c l m t) (.inr "turn") (.int x) = srcK c l m x := by rfl
theorem src_merge : mergeK [] (srcK c l m t) = srcK c l m t := by rfl
theorem src_len : (srcK c l m t).length < sizeLine := by show 4 < sizeLine; decide
end
structure SrcX (s c : Addr) (H : Hp) (cells : List Int) (l m t : Int) : Prop where
  ne : s ≠ c
  d : H s = some (.dK (srcK c l m t))
  cs : H c = some (.lst (cells.map V.int))
  len : cells.length ≤ 63
theorem SrcX.src {s c : Addr} {H : Hp} {cells : List Int} {l m t : Int} (h : SrcX s c H cells l m t) : Src s c H := ⟨h.ne, cells, l, m, t, h.d, h.cs, h.len⟩
theorem Src.x {s c : Addr} {H : Hp} (h : Src s c H) : ∃ cells l m t, SrcX s c H cells l m t := by
  obtain ⟨h0, cells, l, m, t, h1, h2, h3⟩ := h
  exact ⟨cells, l, m, t, h0, h1, h2, h3⟩
section
variable {s c : Addr} {H : Hp} {cells : List Int} {l m t : Int}
theorem SrcX.gLeft (h : SrcX s c H cells l m t) : DGet H s (.str "left") (some (.int l)) := by
  have := DGet.k (k := Sum.inr "left") h.d
  rwa [src_left] at this
theorem SrcX.gCells (h : SrcX s c H cells l m t) : DGet H s (.str "cells") (some (.ref c)) := by
  have := DGet.k (k := Sum.inr "cells") h.d
  rwa [src_cells] at this
theorem SrcX.gMixed (h : SrcX s c H cells l m t) : DGet H s (.str "mixed") (some (.int m)) := by
  have := DGet.k (k := Sum.inr "mixed") h.d
  rwa [src_mixed] at this
theorem SrcX.gTurn (h : SrcX s c H cells l m t) : DGet H s (.str "turn") (some (.int t)) := by
  have := DGet.k (k := Sum.inr "turn") h.d
  rwa [src_turn] at this
theorem SrcX.pLeft (h : SrcX s c H cells l m t) (x : Int) : ∃ H', DPut H s (.str "left") (.int x) H' ∧ SrcX s c H' cells x m t ∧ Kp s c H H' := by
  refine ⟨_, DPut.k (k := Sum.inr "left") h.d src_len, ⟨h.ne, ?_, ?_, h.len⟩, fun b o h1 h2 e => ?_⟩
  · rw [upd_same, put_left]
  · rw [upd_ne h.ne.symm]; exact h.cs
  · rw [upd_ne h1]; exact e
theorem SrcX.pMixed (h : SrcX s c H cells l m t) (x : Int) : ∃ H', DPut H s (.str "mixed") (.int x) H' ∧ SrcX s c H' cells l x t ∧ Kp s c H H' := by
  refine ⟨_, DPut.k (k := Sum.inr "mixed") h.d src_len, ⟨h.ne, ?_, ?_, h.len⟩, fun b o h1 h2 e => ?_⟩
  · rw [upd_same, put_mixed]
  · rw [upd_ne h.ne.symm]; exact h.cs
  · rw [upd_ne h1]; exact e
theorem SrcX.pTurn (h : SrcX s c H cells l m t) (x : Int) : ∃ H', DPut H s (.str "turn") (.int x) H' ∧ SrcX s c H' cells l m x ∧ Kp s c H H' := by
  refine ⟨_, DPut.k (k := Sum.inr "turn") h.d src_len, ⟨h.ne, ?_, ?_, h.len⟩, fun b o h1 h2 e => ?_⟩
  · rw [upd_same, put_turn]
  · rw [upd_ne h.ne.symm]; exact h.cs
  · rw [upd_ne h1]; exact e
theorem SrcX.drop (h : SrcX s c H cells l m t) : SrcX s c (upd H c (.lst ((cells.map V.int).dropLast))) cells.dropLast l m t := by
  refine ⟨h.ne, ?_, ?_, ?_⟩
  · rw [upd_ne h.ne]; exact h.d
  · rw [upd_same, List.map_dropLast]
  · rw [List.length_dropLast]
    have := h.len
    omega
theorem Kp.set (s c : Addr) (H : Hp) (o : HO) : Kp s c H (upd H c o) := fun b u h1 h2 e => by
  rw [upd_ne h2]
  exact e
end
theorem das_ints {K : PySem.W.Frag} {H : Hp} : ∀ {ns : List Int} {vs : List V}, Das K H vs (ns.map PyData.int) → vs = ns.map V.int
  | [], _, h => by cases h; rfl
  | n :: ns, _, h => by
    cases h with
    | cons h1 h2 =>
      cases h1
      rw [das_ints h2]
      rfl
theorem ev_use {K : PySem.W.Frag} {M : List Addr} {σ : S} {H : Hp} {te : TE} {d : PyData} {Q : VK} (tr : Tr M H) (h : Ev K M te σ H d) (k : ∀ v H2, Same H H2 → Tr M H2 → Dm K M H2 v d → Q v H2) : te σ H Q :=
  h M H (Go.refl tr) Q fun v H2 e2 d2 => k v H2 e2 (tr.same e2) d2
/-- a drawn thing -/
theorem dr_use {K : PySem.W.Frag} {M : List Addr} {s c : Addr} {σ : S} {H : Hp} {te : TE} {P : PyData → Prop} {Q : VK} (hs : s ∈ M) (hc : c ∈ M) (tr : Tr M H) (hS : Src s c H) (h : Dr K s c M te σ H P)
    (k : ∀ v d H2, Kp s c H H2 → Src s c H2 → Go M H M H2 → Dm K M H2 v d → P d → Q v H2) : te σ H Q :=
  h M H (Go.refl tr) hS Q fun v d H2 k2 s2 d2 p => k v d H2 k2 s2 (go_kp hs hc tr k2 s2) d2 p
theorem pairs_c {v : V} {tv : TE} {r : List (TE × TE)} {σ : S} {H : Hp} {Q : List (V × V) → Hp → Prop} (h : tv σ H fun y H2 => tPairs r σ H2 fun ps H3 => Q ((v, y) :: ps) H3) : tPairs ((tC v, tv) :: r) σ H Q := h
theorem pairs_cc {v w : V} {r : List (TE × TE)} {σ : S} {H : Hp} {Q : List (V × V) → Hp → Prop} (h : tPairs r σ H fun ps H3 => Q ((v, w) :: ps) H3) : tPairs ((tC v, tC w) :: r) σ H Q := h
theorem pairs_cv {v x : V} {i : Nat} {r : List (TE × TE)} {σ : S} {H : Hp} {Q : List (V × V) → Hp → Prop} (hx : σ[i]? = some (some x)) (h : tPairs r σ H fun ps H3 => Q ((v, x) :: ps) H3) : tPairs ((tC v, tVar i) :: r) σ H Q := ⟨x, hx, h⟩
theorem revL_new {K : PySem.W.Frag} {M : List Addr} {σ : S} {H : Hp} {te : TE} {ds : List PyData} {Q : VK} (tr : Tr M H) (h : Ev K M te σ H (.list ds))
    (k : ∀ p vs H1, Same H H1 → Tr M H1 → H1 p = none → Dms K M H1 vs ds.reverse → Q (.ref p) (upd H1 p (.lst vs))) : tRevL K te σ H Q :=
  h M H (Go.refl tr) _ fun v H1 e1 d1 => by
    have t1 := tr.same e1
    cases d1 with
    | @lst a xs _ hs hx => exact ⟨a, xs, rfl, SqL.of (mn_same _ _ hs), fun p hp => k p _ H1 e1 t1 hp hx.reverse⟩
theorem listOf_new {K : PySem.W.Frag} {M : List Addr} {σ : S} {H : Hp} {ta : TE} {d : PyData} {ds : List PyData} {Q : VK} (tr : Tr M H) (h : Ev K M ta σ H d) (hd : d = .list ds ∨ d = .tuple ds)
    (k : ∀ p vs H1, Same H H1 → Tr M H1 → H1 p = none → Dms K M H1 vs ds → Q (.ref p) (upd H1 p (.lst vs))) :
    tCB (fun xs H Q => ∃ p ys, xs = [V.ref p] ∧ (SqL K H p ys ∨ SqT K H p ys) ∧ ∀ l, H l = none → Q (.ref l) (upd H l (.lst ys))) (tCons ta tNil) σ H Q :=
  h M H (Go.refl tr) _ fun v H1 e1 d1 => by
    have t1 := tr.same e1
    rcases hd with rfl | rfl
    · cases d1 with
      | @lst a xs _ hs hx => exact ⟨a, xs, rfl, .inl (SqL.of (mn_same _ _ hs)), fun p hp => k p _ H1 e1 t1 hp hx⟩
    · cases d1 with
      | @tup a xs _ hs hx => exact ⟨a, xs, rfl, .inr (same_sqt mn_same hs), fun p hp => k p _ H1 e1 t1 hp hx⟩
theorem q_asg0 {te : TE} {i : Nat} {u : TS} {D : Ends} {σ : S} {H : Hp} (h : te σ H fun x H1 => u D (σ.set i (some x)) H1) : tSeq (tAsg te (gName i)) u D σ H := h
theorem s_asg0 {te : TE} {i : Nat} {D : Ends} {σ : S} {H : Hp} (h : te σ H fun x H1 => D.nx (σ.set i (some x)) H1) : tAsg te (gName i) D σ H := h
theorem pairs_n {σ : S} {H : Hp} {Q : List (V × V) → Hp → Prop} (h : Q [] H) : tPairs [] σ H Q := h
/-- the script, walked -/
theorem wk_sq {K : PySem.W.Frag} {M : List Addr} {σ : S} {H : Hp} {te : TE} {a : Addr} {ns : List Int} (hS : SqL K (mn M H) a (ns.map V.int))
    (h : ∀ H1 (Q : VK), Q (.ref a) H1 → te σ H1 Q) : Wk K M (iList K te) σ H ns.length (at0 (ns.map PyData.int)) := fun M2 H1 g R k =>
  h H1 _ (by
    have h1 : SqL K (mn M2 H1) a (ns.map V.int) := (Same.seq (K := K) g.mn hS)
    refine ⟨a, rfl, ⟨_, Same.seq (K := K) mn_same h1⟩, ?_⟩
    have w := walk_list (K := K) (a := a) (xs := ns.map V.int)
    rw [List.length_map] at w
    refine k _ _ _ _ (Same.refl _) w (fun M3 H3 g3 => Same.seq (K := K) mn_same (Same.seq (K := K) g3.mn h1)) fun M3 i H3 z H4 g3 hi hy => ?_
    obtain ⟨rfl, ez⟩ := hy
    rw [List.getElem?_map, List.getElem?_eq_getElem hi] at ez
    cases ez
    rw [at0_map hi]
    exact ⟨Same.refl _, .int _⟩)
end Dq

/-! draws: arguments, tests, comprehensions; sorted pairs -/
namespace Dq
open PySem PySem.Spec PyProof.Rows L2 Gd

def Dra (K : PySem.W.Frag) (s c : Addr) (M : List Addr) (ta : TA) (σ : S) (H : Hp) (P : List PyData → Prop) : Prop :=
  ∀ M' H1, Go M H M' H1 → Src s c H1 → ∀ Q : List V → Hp → Prop, (∀ vs ds H2, Kp s c H1 H2 → Src s c H2 → Dms K M' H2 vs ds → P ds → Q vs H2) → ta σ H1 Q
def Drb (s c : Addr) (M : List Addr) (tt : TT) (σ : S) (H : Hp) (P : Bool → Prop) : Prop :=
  ∀ M' H1, Go M H M' H1 → Src s c H1 → ∀ Q : Bool → Hp → Prop, (∀ b H2, Kp s c H1 H2 → Src s c H2 → P b → Q b H2) → tt σ H1 Q
section
variable {K : PySem.W.Frag} {M M' : List Addr} {s c : Addr} {σ : S} {H H' : Hp} {te ta tb : TE} {as : TA} {ds : List PyData} {d : PyData} {P P1 P2 : PyData → Prop} {PL PL1 : List PyData → Prop} {PB : Bool → Prop} {tt : TT} {wi : TI} {D : Ends} {u : TS}
theorem go_k (hs : s ∈ M) (hc : c ∈ M) {M1 : List Addr} {H1 H2 : Hp} (g : Go M H M1 H1) (k : Kp s c H1 H2) (S2 : Src s c H2) : Go M H M1 H2 := g.trans (go_kp (g.sub s hs) (g.sub c hc) g.tr k S2)
theorem dra_nil (h : PL []) : Dra K s c M tNil σ H PL := fun M1 H1 g hS Q q => q [] [] H1 (Kp.refl _) hS .nil h
theorem dra_cons (hs : s ∈ M) (hc : c ∈ M) (h : Dr K s c M te σ H P1) (k : ∀ d M' H', Go M H M' H' → P1 d → Dra K s c M' as σ H' fun ds => PL (d :: ds)) : Dra K s c M (tCons te as) σ H PL := fun M1 H1 g hS Q q =>
  h M1 H1 g hS _ fun v d H2 k2 S2 d2 p2 => by
    have g2 := go_k hs hc g k2 S2
    refine k d M1 H2 g2 p2 M1 H2 (Go.refl g2.tr) S2 _ fun vs ds H3 k3 S3 d3 p3 => ?_
    exact q _ _ H3 (k2.trans k3) S3 (.cons (dm_go d2 (go_kp (g.sub s hs) (g.sub c hc) g2.tr k3 S3)) d3) p3
theorem dra_ea (h : Ea K M as σ H ds) (hp : PL ds) : Dra K s c M as σ H PL := fun M1 H1 g hS Q q => h M1 H1 g _ fun vs H2 e2 d2 => q vs ds H2 (Kp.of e2) (hS.same e2) d2 hp
theorem Dra.mono (h : Dra K s c M as σ H PL) (g : Go M H M' H') : Dra K s c M' as σ H' PL := fun M2 H1 k => h M2 H1 (g.trans k)
theorem dr_tup (hs : s ∈ M) (hc : c ∈ M) (h : Dra K s c M as σ H PL) (hz : ∀ ds, PL ds → ds.length ≤ 1000) (hp : ∀ ds, PL ds → P (.tuple ds)) : Dr K s c M (tTup as) σ H P := fun M1 H1 g hS Q q =>
  h M1 H1 g hS _ fun vs ds H2 k2 S2 d2 p2 => ⟨by rw [d2.length]; exact sz _ (hz ds p2), fun p hn => q _ _ _ (k2.trans (Kp.of (same_new hn))) (S2.same (same_new hn)) (dm_newT (go_k hs hc g k2 S2).tr hn d2) (hp ds p2)⟩
theorem dr_lst (hs : s ∈ M) (hc : c ∈ M) (h : Dra K s c M as σ H PL) (hz : ∀ ds, PL ds → ds.length ≤ 1000) (hp : ∀ ds, PL ds → P (.list ds)) : Dr K s c M (tLst as) σ H P := fun M1 H1 g hS Q q =>
  h M1 H1 g hS _ fun vs ds H2 k2 S2 d2 p2 => ⟨by rw [d2.length]; exact sz _ (hz ds p2), fun p hn => q _ _ _ (k2.trans (Kp.of (same_new hn))) (S2.same (same_new hn)) (dm_newL (go_k hs hc g k2 S2).tr hn d2) (hp ds p2)⟩
/-- a call whose arguments draw, too -/
theorem dr_callA {n i : Nat} {pre : List PyData → Prop} {post : List PyData → PyData → Prop} {E : XK} (hs : s ∈ M) (hc : c ∈ M) (hv : σ[i]? = some (some (.ref s))) (h : Dra K s c M as σ H PL) (hl : ∀ ds, PL ds → ds.length = n ∧ pre ds) (hp : ∀ ds d, PL ds → post ds d → P d) :
    Dr K s c M (tCall (spDraw K n pre post) [] E (tCons (tVar i) as)) σ H P := fun M2 H1 g hS Q q =>
  ⟨.ref s, hv, h M2 H1 g hS _ fun vs ds H2 k2 S2 d2 p2 => by
    show spDraw K n pre post ((V.ref s :: vs) ++ []) H2 Q E
    rw [List.append_nil]
    exact ⟨M2, s, c, vs, ds, rfl, g.sub s hs, g.sub c hc, S2, (go_k hs hc g k2 S2).tr, d2, (hl ds p2).1, (hl ds p2).2, fun v d H3 k3 s3 d3 p => q v d H3 (k2.trans k3) s3 d3 (hp ds d p2 p)⟩⟩
theorem drb_test (h : Dr K s c M te σ H P1) (hb : ∀ d, P1 d → ∃ b, d = .bool b ∧ PB b) : Drb s c M (tTest te) σ H PB := fun M1 H1 g hS Q q =>
  h M1 H1 g hS _ fun v d H2 k2 S2 d2 p2 => by
    obtain ⟨b, rfl, pb⟩ := hb d p2
    exact ⟨b, d2.blV, q b H2 k2 S2 pb⟩
theorem dr_if (hs : s ∈ M) (hc : c ∈ M) (h : Drb s c M tt σ H PB) (h1 : ∀ M' H', Go M H M' H' → PB true → Dr K s c M' ta σ H' P) (h2 : ∀ M' H', Go M H M' H' → PB false → Dr K s c M' tb σ H' P) : Dr K s c M (tIf tt ta tb) σ H P := fun M1 H1 g hS Q q =>
  h M1 H1 g hS _ fun b H2 k2 S2 pb => by
    have g2 := go_k hs hc g k2 S2
    cases b with
    | true => exact h1 M1 H2 g2 pb M1 H2 (Go.refl g2.tr) S2 Q fun v d H3 k3 S3 d3 p3 => q v d H3 (k2.trans k3) S3 d3 p3
    | false => exact h2 M1 H2 g2 pb M1 H2 (Go.refl g2.tr) S2 Q fun v d H3 k3 S3 d3 p3 => q v d H3 (k2.trans k3) S3 d3 p3
/-! statements -/
theorem d_asg {i : Nat} (hs : s ∈ M) (hc : c ∈ M) (tr : Tr M H) (hS : Src s c H) (h : Dr K s c M te σ H P) (k : ∀ v d H1, Kp s c H H1 → Src s c H1 → Go M H M H1 → Dm K M H1 v d → P d → u D (σ.set i (some v)) H1) : tSeq (tAsg te (gName i)) u D σ H :=
  h M H (Go.refl tr) hS _ fun v d H1 k1 S1 d1 p1 => k v d H1 k1 S1 (go_kp hs hc tr k1 S1) d1 p1
theorem d_ret (hs : s ∈ M) (hc : c ∈ M) (tr : Tr M H) (hS : Src s c H) (h : Dr K s c M te σ H P) (k : ∀ v d H1, Kp s c H H1 → Src s c H1 → Go M H M H1 → Dm K M H1 v d → P d → D.rt v H1) : tRet te D σ H :=
  h M H (Go.refl tr) hS _ fun v d H1 k1 S1 d1 p1 => k v d H1 k1 S1 (go_kp hs hc tr k1 S1) d1 p1
theorem d_par {i j : Nat} (hs : s ∈ M) (hc : c ∈ M) (tr : Tr M H) (hS : Src s c H) (h : Dra K s c M as σ H PL) (hl : ∀ ds, PL ds → ∃ d1 d2, ds = [d1, d2])
    (k : ∀ v w d1 d2 H1, Kp s c H H1 → Src s c H1 → Go M H M H1 → Dm K M H1 v d1 → Dm K M H1 w d2 → PL [d1, d2] → u D ((σ.set i (some v)).set j (some w)) H1) : tSeq (tPar i j as) u D σ H :=
  h M H (Go.refl tr) hS _ fun vs ds H1 k1 S1 d1 p1 => by
    obtain ⟨a, b, rfl⟩ := hl ds p1
    cases d1 with
    | cons q1 q2 =>
      cases q2 with
      | cons q2 q3 =>
        cases q3
        exact ⟨_, _, rfl, k _ _ a b H1 k1 S1 (go_kp hs hc tr k1 S1) q1 q2 p1⟩
/-- a for over a range whose end is drawn -/
theorem d_for {g : TG} {tb : TS} (hs : s ∈ M) (hc : c ∈ M) (tr : Tr M H) (hS : Src s c H) (h : Dra K s c M as σ H PL) (hj : ∀ ds, PL ds → ∃ j : Int, ds = [.int j] ∧ 0 ≤ j ∧ j ≤ 100000) (Pv : Int → Nat → S → Hp → Prop)
    (h0 : ∀ j H1, Kp s c H H1 → Src s c H1 → Go M H M H1 → PL [.int j] → Pv j 0 σ H1)
    (hst : ∀ (j : Int) (i : Nat) σ' H', PL [.int j] → (i : Int) < j → Pv j i σ' H' → g (.int (i : Nat)) σ' H' fun σ2 H2 => tb { D with nx := Pv j (i + 1), ct := Pv j (i + 1), bk := D.nx } σ2 H2)
    (hd : ∀ (j : Int) σ' H', PL [.int j] → Pv j j.toNat σ' H' → D.nx σ' H') : tFor (iRng1 as) g tb D σ H :=
  h M H (Go.refl tr) hS _ fun vs ds H1 k1 S1 d1 p1 => by
    obtain ⟨j, rfl, hj0, hj1⟩ := hj ds p1
    cases d1 with
    | cons a b =>
      cases a
      cases b
      refine ⟨j, rfl, by omega, by omega, ?_⟩
      refine for_range (Pv j) (h0 j H1 k1 S1 (go_kp hs hc tr k1 S1) p1) (fun i σ' H' hi p => ?_) (fun σ' H' p => hd j σ' H' p1 p)
      have := hst j i σ' H' p1 (by omega) p
      rw [Int.zero_add]
      exact this
theorem dq_for {g : TG} {tb : TS} (hs : s ∈ M) (hc : c ∈ M) (tr : Tr M H) (hS : Src s c H) (h : Dra K s c M as σ H PL) (hj : ∀ ds, PL ds → ∃ j : Int, ds = [.int j] ∧ 0 ≤ j ∧ j ≤ 100000) (Pv : Int → Nat → S → Hp → Prop)
    (h0 : ∀ j H1, Kp s c H H1 → Src s c H1 → Go M H M H1 → PL [.int j] → Pv j 0 σ H1)
    (hst : ∀ (j : Int) (i : Nat) σ' H', PL [.int j] → (i : Int) < j → Pv j i σ' H' → g (.int (i : Nat)) σ' H' fun σ2 H2 => tb { D with nx := Pv j (i + 1), ct := Pv j (i + 1), bk := u D } σ2 H2)
    (hd : ∀ (j : Int) σ' H', PL [.int j] → Pv j j.toNat σ' H' → u D σ' H') : tSeq (tFor (iRng1 as) g tb) u D σ H :=
  d_for (D := { D with nx := u D }) hs hc tr hS h hj Pv h0 hst hd
theorem par3_0 {i j l : Nat} {ta : TA} (h : ta σ H fun vs H1 => ∃ x y z, vs = [x, y, z] ∧ u D (((σ.set i (some x)).set j (some y)).set l (some z)) H1) : tSeq (tPar3 i j l ta) u D σ H := h
theorem cons_0 {Q : List V → Hp → Prop} (h : te σ H fun x H1 => as σ H1 fun xs H2 => Q (x :: xs) H2) : tCons te as σ H Q := h
theorem nil_0 {Q : List V → Hp → Prop} (h : Q [] H) : tNil σ H Q := h
theorem lst_0 {Q : VK} (h : ∀ p, H p = none → Q (.ref p) (upd H p (.lst []))) : tLst tNil σ H Q := ⟨Nat.zero_le _, h⟩
theorem go_drop {p : Addr} (g : Go M H (p :: M) H') (hp : H p = none) : Go M H M H' where
  sub := fun _ h => h
  new := fun _ h => .inl h
  le := fun b o hb e => g.le b o (fun z => by
    rcases List.mem_cons.mp z with z | z
    · rw [z, hp] at e
      cases e
    · exact hb z) e
  tr := fun b hb => g.tr b (List.mem_cons_of_mem _ hb)
/-- what is no longer changed -/
theorem dm_freeze {p : Addr} {vs : List V} (hp : p ∉ M) (e : H' p = some (.lst vs)) (h : Dms K (p :: M) H' vs ds) : Dm K M H' (.ref p) (.list ds) := by
  refine .lst (xs := vs) ?_ ?_
  · rw [mn_out hp]
    exact e
  · refine Das.same (fun b o hb => ?_) _ _ h
    obtain ⟨h1, h2⟩ := mn_some hb
    rw [mn_out (fun z => h1 (List.mem_cons_of_mem _ z))]
    exact h2
/-- e appended to what may be changed -/
theorem s_app {i : Nat} {p : Addr} {vs : List V} (tr : Tr M H) (hi : σ[i]? = some (some (.ref p))) (hp : H p = some (.lst vs)) (hM : p ∈ M) (h : Ev K M te σ H d) (hz : vs.length ≤ 1000)
    (k : ∀ v H1, Same H H1 → Tr M H1 → Dm K M H1 v d → Go M H1 M (upd H1 p (.lst (vs ++ [v]))) → D.nx σ (upd H1 p (.lst (vs ++ [v])))) : tDrop (tBM K "list" rAppend (tVar i) (tCons te tNil)) D σ H :=
  ⟨.ref p, hi, .inl ⟨rfl, _, SqL.of hp⟩, h M H (Go.refl tr) _ fun v H1 e1 d1 => ⟨p, vs, v, rfl, rfl, e1 _ _ hp, by rw [sizeLine_eq]; omega, k v H1 e1 (tr.same e1) d1 (go_set (tr.same e1) hM)⟩⟩
theorem src_set {p : Addr} {o : HO} (h : Src s c H) (h1 : p ≠ s) (h2 : p ≠ c) : Src s c (upd H p o) := by
  obtain ⟨h0, cl, l, mm, tt, q1, q2, q3⟩ := h
  exact ⟨h0, cl, l, mm, tt, by rw [upd_ne (Ne.symm h1)]; exact q1, by rw [upd_ne (Ne.symm h2)]; exact q2, q3⟩
theorem cut_take {hi : Option Int} : cutPd ds none hi = ds.take (HT.sIx ds.length ds.length hi) := by
  unfold cutPd
  rw [HT.sIx_none, List.drop_zero, Nat.sub_zero]
/-! comprehensions -/
theorem dr_lc {g : TG} {vs : List Nat} {n : Nat} {it : Nat → PyData} (Pe : Nat → PyData → Prop) (hs : s ∈ M) (hc : c ∈ M) (w : Wk K M wi σ H n it) (hn : n ≤ 1000000)
    (h : ∀ M' H' i x, Go M H M' H' → i < n → Dm K M' H' x (it i) → ∃ σ2, Tk g x (wipe σ vs) H' σ2 ∧ wipe σ2 vs = wipe σ vs ∧ Dr K s c M' te σ2 H' (Pe i)) :
    Dr K s c M (tLc wi g tYes te vs) σ H fun d => ∃ ds, d = .list ds ∧ ds.length = n ∧ ∀ i e, ds[i]? = some e → Pe i e := fun M2 H1 g1 hS Q q =>
  w M2 H1 g1 _ fun J H2 G Y e2 wk hG hY D hD => by
    have g2 : Go M H M2 H2 := g1.same e2
    have S2 : Src s c H2 := hS.same e2
    have DM : D ∉ M2 := fun z => g2.tr D z hD
    have hDs : D ≠ s := fun z => DM (z ▸ g1.sub s hs)
    have hDc : D ≠ c := fun z => DM (z ▸ g1.sub c hc)
    have g3 : Go M2 H2 (D :: M2) (upd H2 D (.lst [])) := go_mut g2.tr hD
    refine lc_it wk (fun i H' => Go M2 H2 (D :: M2) H' ∧ Src s c H' ∧ Kp s c H2 H' ∧ ∃ acc ds, H' D = some (.lst acc) ∧ Dms K (D :: M2) H' acc ds ∧ ds.length = i ∧ ∀ j e, ds[j]? = some e → Pe j e)
      ⟨g3, S2.same (same_new hD), Kp.of (same_new hD), [], [], upd_same, .nil, rfl, fun j e z => by simp at z⟩ (fun i H' _ p => hG _ _ p.1) (fun i z H' H4 hi p hy => ?_) (fun H' p => ?_)
    · obtain ⟨p1, pS, ps, acc, ds, p2, p3, p4, p5⟩ := p
      obtain ⟨e4, d4⟩ := hY _ i H' z H4 p1 hi hy
      have g4 := p1.same e4
      obtain ⟨σ2, t1, t2, t4⟩ := h _ H4 i z (g2.trans g4) hi d4
      refine t1 _ ⟨t2, ?_⟩
      dsimp only [tYes]
      refine iteT ?_
      refine t4 _ H4 (Go.refl g4.tr) (pS.same e4) _ fun v d H6 k6 S6 d6 pd => ?_
      have s6 : Kp s c H' H6 := (Kp.of e4).trans k6
      have g6 := go_k (M := M2) (H := H2) (g1.sub s hs) (g1.sub c hc) g4 k6 S6
      have g46 : Go (D :: M2) H' (D :: M2) H6 := go_kp (List.mem_cons_of_mem _ (g1.sub s hs)) (List.mem_cons_of_mem _ (g1.sub c hc)) p1.tr s6 S6
      have a6 : H6 D = some (.lst acc) := s6 _ _ hDs hDc p2
      have hal := p3.length
      refine ⟨acc, a6, by rw [sizeLine_eq]; omega, ?_⟩
      have gs := go_set (o := .lst (acc ++ [v])) g6.tr (List.mem_cons_self (a := D) (l := M2))
      refine ⟨g6.trans gs, ?_, fun b o h1 h2 hb => ?_, acc ++ [v], ds ++ [d], upd_same, (dms_go p3 (g46.trans gs)).append (.cons (dm_go d6 gs) .nil), by rw [List.length_append, p4]; rfl, fun j e hj => ?_⟩
      · obtain ⟨h0, cl, l, mm, tt, q1, q2, q3⟩ := S6
        exact ⟨h0, cl, l, mm, tt, by rw [upd_ne (Ne.symm hDs)]; exact q1, by rw [upd_ne (Ne.symm hDc)]; exact q2, q3⟩
      · rw [upd_ne (ne_of_none hb hD)]
        exact s6 _ _ h1 h2 (ps _ _ h1 h2 hb)
      · by_cases hjl : j < ds.length
        · rw [List.getElem?_append_left hjl] at hj
          exact p5 j e hj
        · rw [List.getElem?_append_right (by omega)] at hj
          have hj0 : j - ds.length = 0 := by
            have := (List.getElem?_eq_some_iff.mp hj).1
            simp at this
            omega
          rw [hj0] at hj
          cases hj
          have : j = i := by omega
          subst this
          exact pd
    · obtain ⟨p1, pS, ps, acc, ds, p2, p3, p4, p5⟩ := p
      refine q _ (.list ds) _ ((Kp.of e2).trans ps) pS (.lst (xs := acc) ?_ ?_) ⟨ds, rfl, p4, p5⟩
      · rw [mn_out DM]
        exact p2
      · refine Das.same (fun b o hb => ?_) _ _ p3
        obtain ⟨h1, h2⟩ := mn_some hb
        rw [mn_out (fun z => h1 (List.mem_cons_of_mem _ z))]
        exact h2
end

/-! ### sorted of pairs, of ints -/
def rSortedQ (K : PySem.W.Frag) : List V → Hp → VK → Prop := fun vs H Q => ∃ a xs, vs = [V.ref a] ∧ SqL K H a xs ∧ (∀ x ∈ xs, ∃ t i j, x = V.ref t ∧ SqT K H t [.int i, .int j]) ∧
  ∀ ys p, ys.Perm xs → H p = none → Q (.ref p) (upd H p (.lst ys))
theorem cr_sortedQ {X : Cx} {K : PySem.W.Frag} (hK : X.K = K) : CallR X (.builtin "sorted") (rSortedQ K) := by
  subst hK
  intro pins s σ H vs us Q I r h
  obtain ⟨a, xs, rfl, hs, hx, q⟩ := h
  obtain ⟨its, rv, hl, hz⟩ := I.list hs
  obtain ⟨u, rfl, ru⟩ := vals1 r
  cases ru
  have refs : ∀ x ∈ xs, ∃ t, x = V.ref t := fun x m => let ⟨t, _, _, e, _⟩ := hx x m; ⟨t, e⟩
  obtain ⟨e1, e2⟩ := refs_back rv refs
  have len : its.length = xs.length := rv.length.symm
  refine Srt.sorted_pairs hl.isList (by rw [len]; exact hz) ?_ ?_
  · intro v hv
    obtain ⟨t, rfl⟩ := e2 v hv
    have hm : V.ref t ∈ xs := by
      rw [e1]
      exact List.mem_map.mpr ⟨_, hv, rfl⟩
    obtain ⟨t2, i, j, et, ht⟩ := hx _ hm
    cases et
    obtain ⟨its2, r2, ⟨o, ho, hc, n, hd⟩, _⟩ := I.tuple ht
    obtain ⟨u1, u2, rfl, ri, rj⟩ := vals2 r2
    obtain ⟨t1, rfl⟩ := ri
    obtain ⟨t2, rfl⟩ := rj
    exact ⟨i, j, t, o, t1, t2, n, rfl, ho, hc, hd⟩
  · intro h' d out hp k hd hn
    have h3 : ∀ u ∈ out, ∃ a, u = Value.ref a := fun u hu => e2 u (hp.mem_iff.mp hu)
    obtain ⟨n, hn⟩ := hn
    have lo : (out.map backV).length ≤ sizeLine := by
      rw [List.length_map, hp.length_eq, len]
      exact hz
    refine ⟨.ref d, upd H d (.lst (out.map backV)), I.laid (t' := s.toks) k hd ⟨lo, out, n, vals_back h3, hn⟩, rfl, q _ d ?_ (I.hok.fresh hd)⟩
    rw [e1]
    exact hp.map backV
section
variable {K : PySem.W.Frag} {M : List Addr} {σ : S} {H : Hp} {te ta : TE} {ds : List PyData} {s c : Addr}
theorem perm_map {α β : Type} {f : α → β} {es fs : List β} (h : es.Perm fs) : ∀ ps : List α, ps.map f = fs → ∃ qs : List α, qs.Perm ps ∧ es = qs.map f := by
  induction h with
  | nil => exact fun ps e => ⟨ps, List.Perm.refl _, e.symm⟩
  | @cons x l1 l2 hp ih =>
    intro ps e
    cases ps with
    | nil => cases e
    | cons p ps =>
      cases e
      obtain ⟨qs, h1, rfl⟩ := ih ps rfl
      exact ⟨p :: qs, h1.cons p, rfl⟩
  | swap x y l =>
    intro ps e
    cases ps with
    | nil => cases e
    | cons p ps =>
      cases ps with
      | nil => cases e
      | cons p2 ps =>
        cases e
        exact ⟨p2 :: p :: ps, List.Perm.swap _ _ _, rfl⟩
  | trans h1 h2 ih1 ih2 =>
    intro ps e
    obtain ⟨qs, q1, rfl⟩ := ih2 ps e
    obtain ⟨rs, q2, rfl⟩ := ih1 qs rfl
    exact ⟨rs, q2.trans q1, rfl⟩
/-- some arrangement of the pairs -/
theorem dr_sortedQ {f : Int × Int → PyData} {ps : List (Int × Int)} (hf : ∀ p, f p = .tuple [.int p.1, .int p.2]) (ha : Ev K M ta σ H (.list (ps.map f))) :
    Dr K s c M (tCB (rSortedQ K) (tCons ta tNil)) σ H fun d => ∃ qs : List (Int × Int), qs.Perm ps ∧ d = .list (qs.map f) := fun M1 H1 g hS Q q =>
  ha M1 H1 g _ fun v H2 e2 d2 => by
    have t2 := (g.same e2).tr
    cases d2 with
    | @lst a xs _ hs hx =>
      refine ⟨a, xs, rfl, SqL.of (mn_same _ _ hs), fun x hm => ?_, fun ys p hp hn => ?_⟩
      · obtain ⟨i, hi, rfl⟩ := List.getElem_of_mem hm
        obtain ⟨d, e5, e6⟩ := hx.getV (List.getElem?_eq_getElem hi)
        rw [List.getElem?_map] at e5
        cases hq : ps[i]? with
        | none => rw [hq] at e5; cases e5
        | some p =>
          rw [hq] at e5
          have : d = f p := (Option.some.inj e5).symm
          rw [this, hf] at e6
          generalize xs[i] = x at e6
          cases e6 with
          | @tup b zs _ ht hz =>
            cases hz with
            | cons z1 z2 =>
              cases z2 with
              | cons z2 z3 =>
                cases z3
                cases z1
                cases z2
                exact ⟨b, p.1, p.2, rfl, same_sqt mn_same ht⟩
      · obtain ⟨es, hes, hd⟩ := Das.perm hx hp
        obtain ⟨qs, q1, rfl⟩ := perm_map hes ps rfl
        exact q _ _ _ ((Kp.of e2).trans (Kp.of (same_new hn))) ((hS.same e2).same (same_new hn)) (dm_newL t2 hn hd) ⟨qs, q1, rfl⟩
theorem dr_sortedI {ns : List Int} (ha : Ev K M ta σ H (.list (ns.map PyData.int))) (hl : ns.length < 64) :
    Dr K s c M (tCB (rSorted K) (tCons ta tNil)) σ H fun d => ∃ ms : List Int, ms.Perm ns ∧ ms.Pairwise (· ≤ ·) ∧ d = .list (ms.map PyData.int) := fun M1 H1 g hS Q q =>
  ha M1 H1 g _ fun v H2 e2 d2 => by
    have t2 := (g.same e2).tr
    cases d2 with
    | @lst a xs _ hs hx =>
      have hv := das_ints hx
      subst hv
      refine ⟨a, ns, rfl, SqL.of (mn_same _ _ hs), hl, fun ms p h1 h2 hn => ?_⟩
      exact q _ _ _ ((Kp.of e2).trans (Kp.of (same_new hn))) ((hS.same e2).same (same_new hn)) (dm_newL t2 hn (Das.ints ms)) ⟨ms, h1, h2, rfl⟩
theorem ev_rep {es : List PyData} {tb : TE} {k : Int} (ha : Ev K M ta σ H (.list es)) (hb : Ev K M tb σ H (.int k)) (h0 : 0 ≤ k) (h1 : k ≤ 100) (h2 : es.length ≤ 1000) : Ev K M (tOp rRep ta tb) σ H (.list (List.replicate k.toNat es).flatten) :=
  ev_op ha hb fun M2 H1 x y gg dx dy Q q => by
    cases dx with
    | @lst a xs _ hs hx =>
      have hlen := hx.length
      refine ⟨a, k, xs, rfl, dy.intV, mn_same _ _ hs, by omega, by omega, ?_, fun p hp => ?_⟩
      · rw [sizeLine_eq]
        have : xs.length * k.toNat ≤ 1000 * 100 := Nat.mul_le_mul (by omega) (by omega)
        omega
      · refine q _ _ (same_new hp) (dm_newL gg.tr hp ?_)
        generalize k.toNat = m
        induction m with
        | zero => exact .nil
        | succ m ih =>
          rw [List.replicate_succ, List.replicate_succ, List.flatten_cons, List.flatten_cons]
          exact hx.append ih
def rgD (n : Int) : List PyData := (List.range n.toNat).map fun i => PyData.int (i : Nat)
theorem ev_listRg {n : Int} (ha : Ev K M ta σ H (.int n)) (h0 : 0 ≤ n) (h1 : n ≤ 1000) : Ev K M (tLstRg (tRg1 ta)) σ H (.list (rgD n)) := fun M2 H1 g Q q =>
  ha M2 H1 g _ fun v H2 e2 d2 => by
    refine ⟨n, d2.intV, ⟨by omega, by omega, by omega, by omega, by omega⟩, fun p hp => q _ _ (e2.trans (same_new hp)) (dm_newL (g.same e2).tr hp ?_)⟩
    have e : rgV 0 n = ((List.range n.toNat).map fun i : Nat => (i : Int)).map V.int := by
      unfold rgV
      rw [List.map_map, Int.sub_zero]
      refine List.map_congr_left fun i _ => ?_
      show V.int (0 + (i : Nat)) = V.int (i : Nat)
      rw [Int.zero_add]
    have e3 : rgD n = ((List.range n.toNat).map fun i : Nat => (i : Int)).map PyData.int := by
      unfold rgD
      rw [List.map_map]
      rfl
    rw [e, e3]
    exact Das.ints _
end
end Dq

/-! repr of a bool; a list made and changed; two names given what is drawn -/
namespace Dq
open PySem PySem.Spec PyProof.Rows L2 Gd
section
variable {X : Cx}
def rReprA (K : PySem.W.Frag) : List V → Hp → VK → Prop := fun xs H Q =>
  rReprD K xs H Q ∨ ∃ b, xs = [V.bl b] ∧ Q (.str (PyData.shown (.bool b))) H
theorem call_reprA (hg : X.A.guards = some []) (hu : X.A.units + 64 < cLine) : CallR X (.builtin "repr") (rReprA X.K) := by
  intro pins s σ H xs us Q I r h
  rcases h with h | ⟨b, rfl, q⟩
  · exact call_reprD hg hu pins s σ H xs us Q I r h
  · obtain ⟨u, rfl, ru⟩ := vals1 r
    cases ru
    refine PySem.P.repr_of_bool ?_
    refine ⟨.str (PyData.shown (.bool b)), H, I.kept (h' := s.heap) fun _ _ e => e, ⟨s.toks, ?_⟩, q⟩
    cases b <;> (unfold PyData.shown; rfl)
theorem call_reprA_k {K : PySem.W.Frag} (h : X.K = K) (hg : X.A.guards = some []) (hu : X.A.units + 64 < cLine) : CallR X (.builtin "repr") (rReprA K) := h ▸ call_reprA hg hu
end
section
variable {K : PySem.W.Frag} {M M' : List Addr} {σ : S} {H H' : Hp} {ta tb te tc : TE} {tt tu : TT} {as : TA} {d e f : PyData} {ds es : List PyData} {r : R2} {x y : V} {wi : TI} {D : Ends} {t u : TS} {s c : Addr} {P P1 : PyData → Prop}
theorem ev_reprA {n k : Nat} (ha : Ev K M ta σ H d) (hd : (∃ ds, d = .list ds) ∨ (∃ ds, d = .tuple ds)) (h : Fit n k d) (hn : n ≤ 60) (hk : k ≤ 270000) : Ev K M (tCB (rReprA K) (tCons ta tNil)) σ H (.str d.shown) :=
  fun M2 H1 g Q q => ev_reprF ha hd h hn hk M2 H1 g Q q |> fun z => by
    refine ha M2 H1 g _ fun v H2 e2 dv => ?_
    have hv : ∃ a, v = V.ref a := by
      rcases hd with ⟨ds, rfl⟩ | ⟨ds, rfl⟩
      · cases dv; exact ⟨_, rfl⟩
      · cases dv; exact ⟨_, rfl⟩
    obtain ⟨a, rfl⟩ := hv
    exact .inl ⟨a, d, rfl, Da.dp _ _ (dm_h dv), h.shw, h.nod, Nat.le_trans h.dep hn, h.size hk, q _ _ e2 (.str _)⟩
theorem ev_reprB {b : Bool} (ha : Ev K M ta σ H (.bool b)) : Ev K M (tCB (rReprA K) (tCons ta tNil)) σ H (.str (PyData.shown (.bool b))) :=
  fun M2 H1 g Q q => ha M2 H1 g _ fun v H2 e2 dv => .inr ⟨b, by rw [dv.blV], q _ _ e2 (.str _)⟩
/-- a list of shown things, made where it may be changed -/
theorem lst_new {Q : VK} (tr : Tr M H) (h : Ea K M as σ H ds) (hz : ds.length ≤ 1000)
    (k : ∀ p vs H1, Same H H1 → Tr M H1 → H1 p = none → Dms K M H1 vs ds → Q (.ref p) (upd H1 p (.lst vs))) : tLst as σ H Q :=
  h M H (Go.refl tr) _ fun vs H1 e1 d1 => ⟨by rw [d1.length, sizeLine_eq]; omega, fun p hp => k p vs H1 e1 (tr.same e1) hp d1⟩
theorem q_app {i : Nat} {p : Addr} {vs : List V} (tr : Tr M H) (hi : σ[i]? = some (some (.ref p))) (hp : H p = some (.lst vs)) (hM : p ∈ M) (h : Ev K M te σ H d) (hz : vs.length ≤ 1000)
    (k : ∀ v H1, Same H H1 → Tr M H1 → Dm K M H1 v d → Go M H1 M (upd H1 p (.lst (vs ++ [v]))) → u D σ (upd H1 p (.lst (vs ++ [v])))) : tSeq (tDrop (tBM K "list" rAppend (tVar i) (tCons te tNil))) u D σ H :=
  s_app (D := { D with nx := u D }) tr hi hp hM h hz k
theorem d_unp {i j : Nat} (hs : s ∈ M) (hc : c ∈ M) (tr : Tr M H) (hS : Src s c H) (h : Dr K s c M te σ H P) (hP : ∀ d, P d → ∃ d1 d2, d = .tuple [d1, d2])
    (k : ∀ v w d1 d2 H1, Kp s c H H1 → Src s c H1 → Go M H M H1 → Dm K M H1 v d1 → Dm K M H1 w d2 → P (.tuple [d1, d2]) → u D ((σ.set i (some v)).set j (some w)) H1) :
    tSeq (tAsg te (gTup K 2 (gCons (gName i) (gCons (gName j) gNil)))) u D σ H :=
  h M H (Go.refl tr) hS _ fun v d H1 k1 S1 dv p1 => by
    obtain ⟨d1, d2, rfl⟩ := hP _ p1
    obtain ⟨v1, v2, t1, t2, t3⟩ := tk_pair (i := i) (j := j) (σ0 := σ) dv
    exact t1 _ (k v1 v2 d1 d2 H1 k1 S1 (go_kp hs hc tr k1 S1) t2 t3 p1)
end
end Dq

/-! sorted(set(t)) of ints; a dict made by a comprehension; list.index of ints -/
namespace Dq
open PySem PySem.Spec PyProof.Rows L2 Gd
/-! the levels of some ints -/
def ins (x : Int) : List Int → List Int
  | [] => [x]
  | y :: ys => if x < y then x :: y :: ys else if x = y then y :: ys else y :: ins x ys
def lvl (xs : List Int) : List Int := xs.foldr ins []
theorem mem_ins {x k : Int} : ∀ {ys : List Int}, k ∈ ins x ys ↔ k = x ∨ k ∈ ys
  | [] => by unfold ins; simp
  | y :: ys => by
    unfold ins
    split
    · simp
    · split
      · rename_i h
        subst h
        simp
      · rw [List.mem_cons, mem_ins, List.mem_cons]
        constructor
        · rintro (h | h | h)
          · exact .inr (.inl h)
          · exact .inl h
          · exact .inr (.inr h)
        · rintro (h | h | h)
          · exact .inr (.inl h)
          · exact .inl h
          · exact .inr (.inr h)
theorem pw_ins {x : Int} : ∀ {ys : List Int}, ys.Pairwise (· < ·) → (ins x ys).Pairwise (· < ·)
  | [], _ => by unfold ins; simp
  | y :: ys, h => by
    obtain ⟨h1, h2⟩ := List.pairwise_cons.mp h
    unfold ins
    split
    · rename_i hx
      refine List.pairwise_cons.mpr ⟨fun z hz => ?_, h⟩
      rcases List.mem_cons.mp hz with rfl | hz
      · exact hx
      · exact Int.lt_trans hx (h1 z hz)
    · split
      · exact h
      · refine List.pairwise_cons.mpr ⟨fun z hz => ?_, pw_ins h2⟩
        rcases mem_ins.mp hz with rfl | hz
        · omega
        · exact h1 z hz
theorem mem_lvl {k : Int} : ∀ {xs : List Int}, k ∈ lvl xs ↔ k ∈ xs
  | [] => Iff.rfl
  | x :: xs => by
    show k ∈ ins x (lvl xs) ↔ _
    rw [mem_ins, mem_lvl, List.mem_cons]
theorem pw_lvl : ∀ xs : List Int, (lvl xs).Pairwise (· < ·)
  | [] => .nil
  | x :: xs => pw_ins (pw_lvl xs)
theorem ins_len {x : Int} : ∀ ys : List Int, (ins x ys).length ≤ ys.length + 1
  | [] => Nat.le_refl _
  | y :: ys => by
    unfold ins
    split
    · exact Nat.le_refl _
    · split
      · exact Nat.le_succ _
      · exact Nat.succ_le_succ (ins_len ys)
theorem lvl_len : ∀ xs : List Int, (lvl xs).length ≤ xs.length
  | [] => Nat.le_refl _
  | x :: xs => Nat.le_trans (ins_len _) (Nat.succ_le_succ (lvl_len xs))
theorem pw_eq : ∀ {xs ys : List Int}, xs.Pairwise (· < ·) → ys.Pairwise (· < ·) → (∀ k, k ∈ xs ↔ k ∈ ys) → xs = ys
  | [], [], _, _, _ => rfl
  | [], y :: ys, _, _, h => nomatch (h y).mpr (List.mem_cons_self ..)
  | x :: xs, [], _, _, h => nomatch (h x).mp (List.mem_cons_self ..)
  | x :: xs, y :: ys, hx, hy, h => by
    obtain ⟨x1, x2⟩ := List.pairwise_cons.mp hx
    obtain ⟨y1, y2⟩ := List.pairwise_cons.mp hy
    have e : x = y := by
      rcases List.mem_cons.mp ((h x).mp (List.mem_cons_self ..)) with e | a
      · exact e
      · rcases List.mem_cons.mp ((h y).mpr (List.mem_cons_self ..)) with e | b
        · exact e.symm
        · have := x1 y b
          have := y1 x a
          omega
    subst e
    rw [pw_eq x2 y2 fun k => ⟨fun a => ?_, fun a => ?_⟩]
    · rcases List.mem_cons.mp ((h k).mp (List.mem_cons_of_mem _ a)) with e | b
      · have := x1 k a
        omega
      · exact b
    · rcases List.mem_cons.mp ((h k).mpr (List.mem_cons_of_mem _ a)) with e | b
      · have := y1 k a
        omega
      · exact b
/-- its place among the levels -/
def rank (xs : List Int) (x : Int) : Int := ((lvl xs).idxOf x : Nat)
/-! set(t), t a tuple of ints -/
def rSetI (K : PySem.W.Frag) (w : World) : List V → Hp → VK → Prop := fun vs H Q => ∃ (a : Addr) (ns : List Int), vs = [V.ref a] ∧ SqT K H a (ns.map V.int) ∧ ns.length ≤ 60 ∧
  ∀ q c, H q = none → c ≤ ns.length → Q (.ref q) (upd H q (SetO w q (fun j => decide (j ∈ ns)) c))
theorem cr_setI {X : Cx} {K : PySem.W.Frag} {w : World} (hc : X.calm = true) (hK : X.K = K) (hw : X.w = w) : CallR X (.type "set") (rSetI K w) := by
  subst hK
  subst hw
  intro pins s σ H vs us Q I r h
  obtain ⟨a, ns, rfl, hs, hz, q⟩ := h
  obtain ⟨its, rv, ht, _⟩ := I.tuple hs
  rw [Vals.ref1 r]
  refine call_set_tupI ns (I.ok.hd hc) ht ?_ (by show ns.length + 1 < 4096; omega) fun h' tk c R hcn kp => ?_
  · exact Vals.ints (by simpa using rv)
  · exact ⟨.ref _, upd H s.heap.objs.size (SetO X.w s.heap.objs.size (fun j => decide (j ∈ ns)) c), I.laid (t' := tk) kp (Nat.le_refl _) (setO_new R), rfl, q _ _ (I.hok.fresh (Nat.le_refl _)) hcn⟩
theorem cr_sortedSet_k {X : Cx} {w : World} (hc : X.calm = true) (hw : X.w = w) : CallR X (.builtin "sorted") (rSortedSet w) := hw ▸ cr_sortedSet hc
theorem mt_index_k {X : Cx} {K : PySem.W.Frag} (hK : X.K = K) : MtR X "list.index" (rIndex K) := hK ▸ mt_index
section
variable {K : PySem.W.Frag} {M M' : List Addr} {σ : S} {H H' : Hp} {ta tb te tk tv : TE} {tt : TT} {as : TA} {d e : PyData} {ds : List PyData} {wi : TI} {w : World}
theorem ev_lvl {xs : List Int} (ha : Ev K M ta σ H (.tuple (xs.map PyData.int))) (hz : xs.length ≤ 60) : Ev K M (tCB (rSortedSet w) (tCons (tCB (rSetI K w) (tCons ta tNil)) tNil)) σ H (.list ((lvl xs).map PyData.int)) := fun M2 H1 g Q q =>
  ha M2 H1 g _ fun v H2 e2 dv => by
    have t2 := (g.same e2).tr
    cases dv with
    | @tup a vs _ hs hx =>
      have hvs : vs = xs.map V.int := das_ints hx
      subst hvs
      refine ⟨a, xs, rfl, same_sqt mn_same hs, hz, fun s0 c hs0 hc => ?_⟩
      refine ⟨s0, _, c, rfl, upd_same, by omega, fun ns p hp hm hl hp0 => ?_⟩
      have e3 : Same H2 (upd H2 s0 (SetO w s0 (fun j => decide (j ∈ xs)) c)) := same_new hs0
      have hn : ns = lvl xs := pw_eq hp (pw_lvl xs) fun k => by
        rw [hm, mem_lvl]
        exact decide_eq_true_iff
      subst hn
      exact q _ _ ((e2.trans e3).trans (same_new hp0)) (dm_newL (Tr.same t2 e3) hp0 (Das.ints _))
/-- d[k] where d stands in a slot -/
theorem ev_dget {i : Nat} {D : Addr} {kvs : List (Key × V)} {k r : Int} (hi : σ[i]? = some (some (.ref D))) (hD : mn M H D = some (.dK kvs)) (hv : valV kvs (.inl k) = some (.int r)) (hb : Ev K M tb σ H (.int k)) : Ev K M (tDGet (tVar i) tb) σ H (.int r) := fun M2 H1 g Q q =>
  ⟨.ref D, hi, hb M2 H1 g _ fun v H2 e2 dv => by
    cases dv
    have h2 : H2 D = some (.dK kvs) := mn_same _ _ ((g.same e2).mn _ _ hD)
    refine ⟨D, .int r, rfl, ?_, q _ _ e2 (.int r)⟩
    rw [← hv]
    exact DGet.k (k := .inl k) h2⟩
theorem ev_index {xs : List Int} {y : Int} {i : Nat} {p : V} (hi : σ[i]? = some (some p)) (hd : Dm K M H p (.list (xs.map PyData.int))) (hb : Ev K M tb σ H (.int y)) (hm : y ∈ xs) :
    Ev K M (tBM K "list" (rIndex K) (tVar i) (tCons tb tNil)) σ H (.int (xs.idxOf y : Nat)) := fun M2 H1 g Q q =>
  ⟨p, hi, by
    have h0 := dm_go hd g
    cases h0 with
    | @lst a vs _ hs hx =>
      have hvs : vs = xs.map V.int := das_ints hx
      subst hvs
      refine ⟨.inl ⟨rfl, _, SqL.of (mn_same _ _ hs)⟩, hb M2 H1 g _ fun v H2 e2 dv => ?_⟩
      cases dv
      have hl : xs.idxOf y < xs.length := List.idxOf_lt_length_of_mem hm
      have gi : ∀ m (h : m < xs.length), (xs.map V.int)[m]? = some (.int xs[m]) := fun m h => by rw [List.getElem?_map, List.getElem?_eq_getElem h]; rfl
      have e1 : xs[xs.idxOf y] = y := List.getElem_idxOf hl
      refine ⟨a, _, .int y, xs.idxOf y, .int y, rfl, rfl, SqL.of (e2 _ _ (mn_same _ _ hs)), rfl, ?_, ?_, ?_, ?_, q _ _ e2 (.int _)⟩
      · exact List.all_eq_true.mpr fun z hz => by
          obtain ⟨n, _, rfl⟩ := List.mem_map.mp hz
          rfl
      · rw [gi _ hl, e1]
      · show (y == y) = true
        exact beq_self_eq_true y
      · intro m z hm2 hz
        have h1 : m < xs.length := by omega
        rw [gi m h1] at hz
        cases hz
        have := List.not_of_lt_findIdx (p := (· == y)) (xs := xs) hm2
        exact this⟩
/-- {key: value for .. in ..}, the keys ints, no two the same -/
theorem dc_new {g : TG} {vs : List Nat} {n : Nat} {it : Nat → PyData} {Q : VK} (ky vl : Nat → Int) (tr : Tr M H) (w : Wk K M wi σ H n it) (hn : n ≤ 1000) (hd : ∀ i j, i < j → j < n → ky i ≠ ky j)
    (hs : ∀ M' H' i x, Go M H M' H' → i < n → Dm K M' H' x (it i) → ∃ σ2, Tk g x (wipe σ vs) H' σ2 ∧ wipe σ2 vs = wipe σ vs ∧ Ev K M' tk σ2 H' (.int (ky i)) ∧ Ev K M' tv σ2 H' (.int (vl i)))
    (k : ∀ D H' kvs, Same H H' → Tr M H' → D ∉ M → H D = none → H' D = some (.dK kvs) → (∀ i, i < n → valV kvs (.inl (ky i)) = some (.int (vl i))) → Q (.ref D) H') : tDc wi g tYes tk tv vs σ H Q :=
  w M H (Go.refl tr) _ fun J H2 G Y e2 wk hG hY D hD => by
    have tr2 : Tr M H2 := Tr.same tr e2
    have g2 : Go M H M H2 := (Go.refl tr).same e2
    have DM : D ∉ M := fun z => tr2 D z hD
    let Pv : Nat → Hp → Prop := fun i H' => Go M H2 (D :: M) H' ∧ Same H2 H' ∧ ∃ kvs : List (Key × V), H' D = some (.dK kvs) ∧ kvs.length ≤ i ∧ (∀ j, j < i → valV kvs (.inl (ky j)) = some (.int (vl j)))
    have P0 : Pv 0 (upd H2 D (.dK [])) := ⟨go_mut tr2 hD, same_new hD, [], upd_same, Nat.le_refl _, fun j hj => absurd hj (Nat.not_lt_zero j)⟩
    refine ⟨fun i m H' => i + m = n ∧ Pv i H', ⟨n, Nat.zero_add n, P0⟩, fun i m H' hp => ?_⟩
    obtain ⟨him, p1, ps, kvs, p2, p3, p4⟩ := hp
    by_cases hlt : i < n
    · refine .inr ⟨wk.goes _ _ hlt (hG _ _ p1), Pv (i + 1), fun H9 p9 => ⟨m - 1, by omega, by omega, p9⟩, fun z H4 hz => ?_⟩
      obtain ⟨e4, d4⟩ := hY _ i H' z H4 p1 hlt (wk.yields _ _ _ _ hlt (hG _ _ p1) hz)
      have g4 := p1.same e4
      obtain ⟨σ2, t1, t2, t3, t4⟩ := hs _ H4 i z (g2.trans g4) hlt d4
      refine t1 _ ⟨t2, ?_⟩
      show tk σ2 H4 _
      refine t3 _ H4 (Go.refl g4.tr) _ fun y H5 e5 d5 => t4 _ H5 ((Go.refl g4.tr).same e5) _ fun u H6 e6 d6 => ?_
      cases d5
      cases d6
      have s6 := (e4.trans e5).trans e6
      have g6 : Go M H2 (D :: M) H6 := (g4.same e5).same e6
      refine ⟨kvs, .inl (ky i), rfl, s6 _ _ p2, by rw [sizeLine_eq]; omega, g6.trans (go_set g6.tr (List.mem_cons_self ..)), fun b o hb => ?_, _, upd_same, Nat.le_trans (length_putK ..) (Nat.succ_le_succ p3), fun j hj => ?_⟩
      · rw [upd_ne (ne_of_none hb hD)]
        exact s6 _ _ (ps _ _ hb)
      · rw [valV_put]
        by_cases hji : j = i
        · subst hji
          exact if_pos rfl
        · have hlt2 : j < i := by omega
          rw [if_neg (fun z => hd j i hlt2 hlt (Sum.inl.inj z))]
          exact p4 j hlt2
    · have hi : i = n := by omega
      subst hi
      exact .inl ⟨wk.stops _ (hG _ _ p1), k D H' kvs (e2.trans ps) (fun b hb => p1.tr b (List.mem_cons_of_mem _ hb)) DM (e2.free hD) p2 p4⟩
end
end Dq

/-! calls whose answer is a new list; a drawn test; the first of the given ones -/
namespace Dq
open PySem PySem.Spec PyProof.Rows L2 Gd
/-- changes nothing, and answers with a new list -/
def spNew (K : PySem.W.Frag) (n : Nat) (R : List PyData → PyData → Prop) : Sp := fun vs H Q _ =>
  ∃ M ds d, Tr M H ∧ Dms K M H vs ds ∧ ds.length = n ∧ R ds d ∧ ∀ l H', H l = none → Same H H' → Dm K M H' (.ref l) d → Q (.ref l) H'
theorem spNew_len {K : PySem.W.Frag} {n : Nat} {R : List PyData → PyData → Prop} : ∀ vs H Q E, spNew K n R vs H Q E → vs.length = n := by
  rintro vs H Q E ⟨M, ds, d, _, h, hl, _⟩
  rw [h.length, hl]
section
variable {K : PySem.W.Frag} {M M' : List Addr} {σ : S} {H H' : Hp} {ta tb te : TE} {tt : TT} {as : TA} {d e : PyData} {ds : List PyData} {wi : TI} {D : Ends} {t u v : TS} {s c : Addr} {PB : Bool → Prop}
theorem ev_callN {n : Nat} {R : List PyData → PyData → Prop} {E : XK} (h : Ea K M as σ H ds) (hl : ds.length = n) (hp : R ds d) : Ev K M (tCall (spNew K n R) [] E as) σ H d := fun M2 H1 g Q q =>
  h M2 H1 g _ fun vs H2 e2 d2 => by
    show spNew K n R (vs ++ []) H2 Q E
    rw [List.append_nil]
    exact ⟨M2, ds, d, (g.same e2).tr, d2, hl, hp, fun l H3 _ e3 d3 => q _ H3 (e2.trans e3) d3⟩
/-- the new list itself -/
theorem call_new {n : Nat} {R : List PyData → PyData → Prop} {E : XK} {Q : VK} (tr : Tr M H) (h : Ea K M as σ H ds) (hl : ds.length = n) (hp : R ds d)
    (k : ∀ l H1, H l = none → Same H H1 → Tr M H1 → Dm K M H1 (.ref l) d → Q (.ref l) H1) : tCall (spNew K n R) [] E as σ H Q :=
  h M H (Go.refl tr) _ fun vs H2 e2 d2 => by
    show spNew K n R (vs ++ []) H2 Q E
    rw [List.append_nil]
    exact ⟨M, ds, d, Tr.same tr e2, d2, hl, hp, fun l H3 hl3 e3 d3 => k l H3 (e2.free hl3) (e2.trans e3) (Tr.same (Tr.same tr e2) e3) d3⟩
theorem lc_new {g : TG} {vs : List Nat} {n : Nat} {it : Nat → PyData} {Q : VK} (f : Nat → Bool) (el : Nat → PyData) (tr : Tr M H) (w : Wk K M wi σ H n it) (hn : n ≤ 1000000)
    (hs : ∀ M' H' i x, Go M H M' H' → i < n → Dm K M' H' x (it i) → ∃ σ2, Tk g x (wipe σ vs) H' σ2 ∧ wipe σ2 vs = wipe σ vs ∧ Eb M' tt σ2 H' (f i) ∧ (f i = true → Ev K M' te σ2 H' (el i)))
    (k : ∀ l H1, H l = none → Same H H1 → Tr M H1 → Dm K M H1 (.ref l) (.list (given n f el)) → Q (.ref l) H1) : tLc wi g tt te vs σ H Q := by
  have g1 : Go M H M H := Go.refl tr
  refine w M H g1 _ fun J H2 G Y e2 wk hG hY D hD => ?_
  have g2 : Go M H M H2 := g1.same e2
  have DM : D ∉ M := fun z => g2.tr D z hD
  have g3 : Go M H2 (D :: M) (upd H2 D (.lst [])) := go_mut g2.tr hD
  refine lc_it wk (fun i H' => Go M H2 (D :: M) H' ∧ Same H2 H' ∧ ∃ acc, H' D = some (.lst acc) ∧ Dms K (D :: M) H' acc (given i f el) ∧ acc.length ≤ i)
    ⟨g3, same_new hD, [], upd_same, .nil, Nat.le_refl _⟩ (fun i H' _ p => hG _ _ p.1) (fun i z H' H4 hi p hy => ?_) (fun H' p => ?_)
  · obtain ⟨p1, ps, acc, p2, p3, p4⟩ := p
    obtain ⟨e4, d4⟩ := hY _ i H' z H4 p1 hi hy
    have g4 := p1.same e4
    obtain ⟨σ2, t1, t2, t3, t4⟩ := hs _ H4 i z (g2.trans g4) hi d4
    refine t1 _ ⟨t2, t3 _ H4 (Go.refl g4.tr) _ fun H5 e5 => ?_⟩
    have g5 := g4.same e5
    cases hf : f i with
    | true =>
      show te σ2 H5 _
      refine t4 hf _ H5 ((Go.refl g4.tr).same e5) _ fun v H6 e6 d6 => ?_
      have g6 := g5.same e6
      have s6 := (e4.trans e5).trans e6
      have a6 : H6 D = some (.lst acc) := s6 _ _ p2
      refine ⟨acc, a6, Nat.lt_of_le_of_lt p4 (by rw [sizeLine_eq]; omega), ?_⟩
      have g7 : Go M H2 (D :: M) (upd H6 D (.lst (acc ++ [v]))) := g6.trans (go_set g6.tr (List.mem_cons_self ..))
      refine ⟨g7, fun b o hb => ?_, acc ++ [v], upd_same, ?_, ?_⟩
      · rw [upd_ne (ne_of_none hb hD)]
        exact s6 _ _ (ps _ _ hb)
      · rw [given_yes hf]
        have k := go_set (o := .lst (acc ++ [v])) g6.tr (List.mem_cons_self (a := D) (l := M))
        exact (dms_go p3 (((Go.refl p1.tr).same s6).trans k)).append (.cons (dm_go d6 k) .nil)
      · rw [List.length_append]
        show acc.length + 1 ≤ i + 1
        omega
    | false =>
      show Go M H2 (D :: M) H5 ∧ _
      have s5 := e4.trans e5
      refine ⟨g5, ps.trans s5, acc, s5 _ _ p2, ?_, by omega⟩
      rw [given_no hf]
      exact dms_go p3 ((Go.refl p1.tr).same s5)
  · obtain ⟨p1, ps, acc, p2, p3, p4⟩ := p
    exact k D H' (e2.free hD) (e2.trans ps) (fun b hb => p1.tr b (List.mem_cons_of_mem _ hb)) (dm_freeze DM p2 p3)
/-- what was not there before may be changed -/
theorem go_take {l : Addr} (tr : Tr M H) (e : Same H H') (hl : H l = none) (h2 : H' l ≠ none) : Go M H (l :: M) H' where
  sub := fun _ h => List.mem_cons_of_mem _ h
  new := fun b h => by
    rcases List.mem_cons.mp h with h | h
    · exact .inr (h ▸ hl)
    · exact .inl h
  le := fun b o _ q => e b o q
  tr := fun b h => by
    rcases List.mem_cons.mp h with h | h
    · rw [h]; exact h2
    · exact Tr.same tr e b h
/-- an if whose test is drawn -/
theorem dq_if (hs : s ∈ M) (hc : c ∈ M) (tr : Tr M H) (hS : Src s c H) (h : Drb s c M tt σ H PB) (h1 : ∀ H1, PB true → Kp s c H H1 → Src s c H1 → Go M H M H1 → t D σ H1) (h2 : ∀ H1, PB false → Kp s c H H1 → Src s c H1 → Go M H M H1 → v D σ H1) : tIfS tt t v D σ H :=
  h M H (Go.refl tr) hS _ fun b H1 k1 S1 p1 => by
    have g := go_kp hs hc tr k1 S1
    cases b with
    | true => exact h1 H1 p1 k1 S1 g
    | false => exact h2 H1 p1 k1 S1 g
end
theorem given_none {f : Nat → Bool} {el : Nat → PyData} : ∀ {n : Nat}, (∀ j, j < n → f j = false) → given n f el = []
  | 0, _ => rfl
  | n + 1, h => by rw [given_no (h n (Nat.lt_succ_self n)), given_none fun j hj => h j (Nat.lt_succ_of_lt hj)]
theorem given_first {f : Nat → Bool} {el : Nat → PyData} {i : Nat} (h : ∀ j, j < i → f j = false) (hi : f i = true) : ∀ {n : Nat}, i < n → ∃ r, given n f el = el i :: r
  | 0, z => absurd z (Nat.not_lt_zero i)
  | n + 1, z => by
    by_cases e : i = n
    · subst e
      exact ⟨[], by rw [given_yes hi, given_none h]; rfl⟩
    · obtain ⟨r, hr⟩ := given_first h hi (n := n) (by omega)
      cases hn : f n with
      | true => exact ⟨r ++ [el n], by rw [given_yes hn, hr]; rfl⟩
      | false => exact ⟨r, by rw [given_no hn, hr]⟩
theorem all_of {α : Type} {f : α → PyData} {p : α → Prop} : ∀ {ds : List PyData}, (∀ d ∈ ds, ∃ a, d = f a ∧ p a) → ∃ xs : List α, ds = xs.map f ∧ ∀ x ∈ xs, p x
  | [], _ => ⟨[], rfl, fun x hx => nomatch hx⟩
  | d :: ds, h => by
    obtain ⟨a, e, ha⟩ := h d (List.mem_cons_self ..)
    obtain ⟨xs, e2, hx⟩ := all_of (ds := ds) fun z hz => h z (List.mem_cons_of_mem _ hz)
    exact ⟨a :: xs, by rw [e, e2]; rfl, fun x hm => by
      rcases List.mem_cons.mp hm with rfl | hm
      · exact ha
      · exact hx x hm⟩
end Dq

/-! sorted of pairs of ints, the order told -/
namespace Dq
open PySem PySem.Spec PyProof.Rows L2 Gd
/-- q doesn't stand before p -/
def le2 (p q : Int × Int) : Prop := p.1 < q.1 ∨ (p.1 = q.1 ∧ p.2 ≤ q.2)
instance (p q : Int × Int) : Decidable (le2 p q) := by unfold le2; exact inferInstance
def insP (p : Int × Int) : List (Int × Int) → List (Int × Int)
  | [] => [p]
  | q :: r => if le2 p q then p :: q :: r else q :: insP p r
def sortP (ps : List (Int × Int)) : List (Int × Int) := ps.foldr insP []
theorem insP_perm {p : Int × Int} : ∀ l : List (Int × Int), (insP p l).Perm (p :: l)
  | [] => List.Perm.refl _
  | q :: r => by
    unfold insP
    split
    · exact List.Perm.refl _
    · exact ((insP_perm r).cons q).trans (List.Perm.swap p q r)
theorem sortP_perm : ∀ l : List (Int × Int), (sortP l).Perm l
  | [] => List.Perm.refl _
  | p :: l => (insP_perm _).trans ((sortP_perm l).cons p)
theorem insP_pw {p : Int × Int} : ∀ {l : List (Int × Int)}, l.Pairwise le2 → (insP p l).Pairwise le2
  | [], _ => List.pairwise_singleton _ _
  | q :: r, h => by
    obtain ⟨h1, h2⟩ := List.pairwise_cons.mp h
    unfold insP
    split
    · rename_i hpq
      refine List.pairwise_cons.mpr ⟨fun z hz => ?_, h⟩
      rcases List.mem_cons.mp hz with rfl | hz
      · exact hpq
      · have := h1 z hz
        unfold le2 at *
        omega
    · rename_i hpq
      refine List.pairwise_cons.mpr ⟨fun z hz => ?_, insP_pw h2⟩
      rcases List.mem_cons.mp ((insP_perm r).mem_iff.mp hz) with rfl | hz
      · unfold le2 at *
        omega
      · exact h1 z hz
theorem sortP_pw : ∀ l : List (Int × Int), (sortP l).Pairwise le2
  | [] => .nil
  | p :: l => insP_pw (sortP_pw l)
theorem pw2_eq : ∀ {l m : List (Int × Int)}, l.Pairwise le2 → m.Pairwise le2 → l.Perm m → l = m
  | [], m, _, _, h => (List.Perm.nil_eq h)
  | x :: l, [], _, _, h => absurd h.length_eq (by simp)
  | x :: l, y :: m, hl, hm, h => by
    obtain ⟨x1, x2⟩ := List.pairwise_cons.mp hl
    obtain ⟨y1, y2⟩ := List.pairwise_cons.mp hm
    have e : x = y := by
      rcases List.mem_cons.mp (h.mem_iff.mp (List.mem_cons_self ..)) with e | a
      · exact e
      · rcases List.mem_cons.mp (h.mem_iff.mpr (List.mem_cons_self ..)) with e | b
        · exact e.symm
        · have h1 := x1 y b
          have h2 := y1 x a
          unfold le2 at h1 h2
          exact Prod.ext (by omega) (by omega)
    subst e
    rw [pw2_eq x2 y2 h.cons_inv]
theorem sortP_of {l m : List (Int × Int)} (h : l.Perm m) (hl : l.Pairwise le2) : l = sortP m := pw2_eq hl (sortP_pw m) (h.trans (sortP_perm m).symm)
theorem sortP_congr {l m : List (Int × Int)} (h : l.Perm m) : sortP l = sortP m := pw2_eq (sortP_pw l) (sortP_pw m) ((sortP_perm l).trans (h.trans (sortP_perm m).symm))
/-! the rule -/
def rSortedV (K : PySem.W.Frag) : List V → Hp → VK → Prop := fun vs H Q => ∃ a xs, vs = [V.ref a] ∧ SqL K H a xs ∧ (∀ x ∈ xs, ∃ t i j, x = V.ref t ∧ SqT K H t [.int i, .int j]) ∧
  ∀ ys p, ys.Perm xs → (ys.Pairwise fun x y => ∀ t u i j k l, x = V.ref t → SqT K H t [.int i, .int j] → y = V.ref u → SqT K H u [.int k, .int l] → le2 (i, j) (k, l)) → H p = none → Q (.ref p) (upd H p (.lst ys))
theorem pair_uniq {h : Heap} {v : Value} {a b c d : Int} (p : Srt.IsPair h v a b) (q : Srt.IsPair h v c d) : a = c ∧ b = d := by
  obtain ⟨t, o, t1, t2, n, rfl, ho, hc, hd⟩ := p
  obtain ⟨t', o', t1', t2', n', e, ho', hc', hd'⟩ := q
  cases e
  rw [ho] at ho'
  cases ho'
  rw [hd] at hd'
  cases hd'
  exact ⟨rfl, rfl⟩
open Classical in
noncomputable def pairAt (h : Heap) (v : Value) : Int × Int := if e : ∃ p : Int × Int, Srt.IsPair h v p.1 p.2 then e.choose else (0, 0)
theorem pairAt_is {h : Heap} {v : Value} {a b : Int} (p : Srt.IsPair h v a b) : pairAt h v = (a, b) := by
  have e : ∃ p : Int × Int, Srt.IsPair h v p.1 p.2 := ⟨(a, b), p⟩
  unfold pairAt
  rw [dif_pos e]
  obtain ⟨h1, h2⟩ := pair_uniq e.choose_spec p
  exact Prod.ext h1 h2
theorem cr_sortedV {X : Cx} {K : PySem.W.Frag} (hK : X.K = K) : CallR X (.builtin "sorted") (rSortedV K) := by
  subst hK
  intro pins s σ H vs us Q I r h
  obtain ⟨a, xs, rfl, hs, hx, q⟩ := h
  obtain ⟨its, rv, hl, hz⟩ := I.list hs
  obtain ⟨u, rfl, ru⟩ := vals1 r
  cases ru
  have refs : ∀ x ∈ xs, ∃ t, x = V.ref t := fun x m => let ⟨t, _, _, e, _⟩ := hx x m; ⟨t, e⟩
  obtain ⟨e1, e2⟩ := refs_back rv refs
  have len : its.length = xs.length := rv.length.symm
  have pairs : ∀ {t : Addr} {i j : Int}, SqT X.K H t [.int i, .int j] → Srt.IsPair s.heap (.ref t) i j := fun {t i j} ht => by
    obtain ⟨its2, r2, ⟨o, ho, hc, n, hd⟩, _⟩ := I.tuple ht
    obtain ⟨u1, u2, rfl, ri, rj⟩ := vals2 r2
    obtain ⟨t1, rfl⟩ := ri
    obtain ⟨t2, rfl⟩ := rj
    exact ⟨t, o, t1, t2, n, rfl, ho, hc, hd⟩
  refine SrtO.sorted_pairsO (k := pairAt s.heap) hl.isList (by rw [len]; exact hz) ?_ ?_
  · intro v hv
    obtain ⟨t, rfl⟩ := e2 v hv
    have hm : V.ref t ∈ xs := by
      rw [e1]
      exact List.mem_map.mpr ⟨_, hv, rfl⟩
    obtain ⟨t2, i, j, et, ht⟩ := hx _ hm
    cases et
    have hp := pairs ht
    rw [pairAt_is hp]
    exact hp
  · intro h' d out hso hst k hd hn
    have hp : out.Perm its := hst.perm
    have h3 : ∀ u ∈ out, ∃ a, u = Value.ref a := fun u hu => e2 u (hp.mem_iff.mp hu)
    obtain ⟨n, hn⟩ := hn
    have lo : (out.map backV).length ≤ sizeLine := by
      rw [List.length_map, hp.length_eq, len]
      exact hz
    refine ⟨.ref d, upd H d (.lst (out.map backV)), I.laid (t' := s.toks) k hd ⟨lo, out, n, vals_back h3, hn⟩, rfl, q _ d ?_ ?_ (I.hok.fresh hd)⟩
    · rw [e1]
      exact hp.map backV
    · refine List.pairwise_map.mpr (List.Pairwise.imp_of_mem (fun {v u} hv hu hvu => ?_) hso)
      rintro t t2 i j k2 l2 q1 q2 q3 q4
      obtain ⟨b, rfl⟩ := h3 v hv
      obtain ⟨b2, rfl⟩ := h3 u hu
      cases q1
      cases q3
      have := SrtO.lexB_no.mp hvu
      rw [pairAt_is (pairs q2), pairAt_is (pairs q4)] at this
      unfold le2
      simp only at this
      omega
section
variable {K : PySem.W.Frag} {M : List Addr} {σ : S} {H : Hp} {te ta : TE} {ds : List PyData}
theorem ev_sortedV {f : Int × Int → PyData} {ps : List (Int × Int)} (hf : ∀ p, f p = .tuple [.int p.1, .int p.2]) (ha : Ev K M ta σ H (.list (ps.map f))) :
    Ev K M (tCB (rSortedV K) (tCons ta tNil)) σ H (.list ((sortP ps).map f)) := fun M1 H1 g Q q =>
  ha M1 H1 g _ fun v H2 e2 d2 => by
    have t2 := (g.same e2).tr
    have at2 : ∀ {x : V} {p : Int × Int}, Da K (mn M1 H2) x (f p) → ∃ b, x = V.ref b ∧ SqT K H2 b [.int p.1, .int p.2] := fun {x p} e6 => by
      rw [hf] at e6
      cases e6 with
      | @tup b zs _ ht hz =>
        cases hz with
        | cons z1 z2 =>
          cases z2 with
          | cons z2 z3 =>
            cases z3
            cases z1
            cases z2
            exact ⟨b, rfl, same_sqt mn_same ht⟩
    cases d2 with
    | @lst a xs _ hs hx =>
      refine ⟨a, xs, rfl, SqL.of (mn_same _ _ hs), fun x hm => ?_, fun ys p hp hpw hn => ?_⟩
      · obtain ⟨i, hi, rfl⟩ := List.getElem_of_mem hm
        obtain ⟨d, e5, e6⟩ := hx.getV (List.getElem?_eq_getElem hi)
        rw [List.getElem?_map] at e5
        cases hq : ps[i]? with
        | none => rw [hq] at e5; cases e5
        | some p =>
          rw [hq] at e5
          have : d = f p := (Option.some.inj e5).symm
          rw [this] at e6
          obtain ⟨b, h1, h2⟩ := at2 e6
          exact ⟨b, p.1, p.2, h1, h2⟩
      · obtain ⟨es, hes, hd⟩ := Das.perm hx hp
        obtain ⟨qs, q1, rfl⟩ := perm_map hes ps rfl
        have hlen := hd.length
        rw [List.length_map] at hlen
        have hqs : qs = sortP ps := sortP_of q1 (List.pairwise_iff_getElem.mpr fun i j hi hj hij => by
          have := List.pairwise_iff_getElem.mp hpw i j (by omega) (by omega) hij
          obtain ⟨d, e5, e6⟩ := hd.getV (List.getElem?_eq_getElem (i := i) (by omega))
          obtain ⟨d', e7, e8⟩ := hd.getV (List.getElem?_eq_getElem (i := j) (by omega))
          rw [List.getElem?_map, List.getElem?_eq_getElem hi] at e5
          rw [List.getElem?_map, List.getElem?_eq_getElem hj] at e7
          cases e5
          cases e7
          obtain ⟨b1, h1, h2⟩ := at2 e6
          obtain ⟨b2, h3, h4⟩ := at2 e8
          exact this _ _ _ _ _ _ h1 h2 h3 h4)
        subst hqs
        exact q _ _ (e2.trans (same_new hn)) (dm_newL t2 hn hd)
end
end Dq

/-! min and max of a tuple of two ints; places in a list or a tuple; tuple(range) -/
namespace Dq
open PySem PySem.Spec PyProof.Rows L2 Gd
theorem ix_any {X : Cx} {K : PySem.W.Frag} (hK : X.K = K) : IxR X (fun x y H Q => rIxT K x y H Q ∨ rIxL K x y H Q) := by
  subst hK
  intro value slice pins s σ H x y v u Q I rx ry h hs
  rcases h with h | h
  · exact ix_tup value slice pins s σ H x y v u Q I rx ry h hs
  · exact ix_list value slice pins s σ H x y v u Q I rx ry h hs
section
variable {K : PySem.W.Frag} {M : List Addr} {σ : S} {H : Hp} {te ta tb : TE} {ds : List PyData} {d : PyData}
theorem ev_ixA {i : Int} (ha : Ev K M ta σ H (.tuple ds) ∨ Ev K M ta σ H (.list ds)) (hb : Ev K M tb σ H (.int i)) (hi : L2.atI ds i = some d) : Ev K M (tOp (fun x y H Q => rIxT K x y H Q ∨ rIxL K x y H Q) ta tb) σ H d := by
  rcases ha with ha | ha
  · intro M2 H1 g Q q
    have := ev_ixT ha hb hi M2 H1 g Q q
    refine ha M2 H1 g _ fun x H2 e2 dx => hb M2 H2 (g.same e2) _ fun y H3 e3 dy => .inl ?_
    have dx3 := dm_same dx (g.same e2).tr e3
    cases dx3 with
    | @tup a xs _ hs hx =>
      obtain ⟨v, h1, h2⟩ := Das.atI hx hi
      cases dy
      exact ⟨a, xs, i, v, rfl, rfl, same_sqt mn_same hs, h1, q _ _ (e2.trans e3) h2⟩
  · intro M2 H1 g Q q
    refine ha M2 H1 g _ fun x H2 e2 dx => hb M2 H2 (g.same e2) _ fun y H3 e3 dy => .inr ?_
    have dx3 := dm_same dx (g.same e2).tr e3
    cases dx3 with
    | @lst a xs _ hs hx =>
      obtain ⟨v, h1, h2⟩ := Das.atI hx hi
      cases dy
      exact ⟨a, xs, i, v, rfl, rfl, SqL.of (mn_same _ _ hs), h1, q _ _ (e2.trans e3) h2⟩
end
/-! min(t), max(t) of a tuple of two ints -/
def rMinT (K : PySem.W.Frag) : List V → Hp → VK → Prop := fun vs H Q => ∃ a i j, vs = [V.ref a] ∧ SqT K H a [.int i, .int j] ∧ Q (.int (min i j)) H
def rMaxT (K : PySem.W.Frag) : List V → Hp → VK → Prop := fun vs H Q => ∃ a i j, vs = [V.ref a] ∧ SqT K H a [.int i, .int j] ∧ Q (.int (max i j)) H
theorem alike2 (i j : Int) : PySem.W.AlikeAll [.int i, .int j] := by
  refine ⟨fun x hx y hy => ?_, fun x hx => ?_⟩
  · simp only [List.mem_cons, List.not_mem_nil, or_false] at hx hy
    rcases hx with rfl | rfl <;> rcases hy with rfl | rfl <;> rfl
  · simp only [List.mem_cons, List.not_mem_nil, or_false] at hx
    rcases hx with rfl | rfl <;> exact PyData.noConfusion
theorem cr_minT {X : Cx} {K : PySem.W.Frag} (hc : X.calm = true) (hK : X.K = K) (hu : X.A.units + 65 < cLine) : CallR X (.builtin "min") (rMinT K) := by
  subst hK
  intro pins s σ H vs us Q I r h
  obtain ⟨a, i, j, rfl, hs, q⟩ := h
  obtain ⟨its, rv, ht, _⟩ := I.tuple hs
  rw [Vals.ref1 r]
  obtain ⟨u1, u2, rfl, ⟨t1, rfl⟩, ⟨t2, rfl⟩⟩ := vals2 rv
  refine PySem.W.min_tuple_data (I.ok.hd hc) ht (.cons (.int i t1) (.cons (.int j t2) .nil)) (alike2 i j) (by show X.A.units + 1 + 0 < cLine; omega) fun m v h' tk bs _ rd kp => ?_
  have e : PySem.W.minD (.int i) [.int j] = .int (min i j) := PySem.W.minD_ints i [j]
  rw [e] at rd
  cases rd
  exact ⟨.int _, H, I.kept kp, ⟨_, rfl⟩, q⟩
theorem cr_maxT {X : Cx} {K : PySem.W.Frag} (hc : X.calm = true) (hK : X.K = K) (hu : X.A.units + 65 < cLine) : CallR X (.builtin "max") (rMaxT K) := by
  subst hK
  intro pins s σ H vs us Q I r h
  obtain ⟨a, i, j, rfl, hs, q⟩ := h
  obtain ⟨its, rv, ht, _⟩ := I.tuple hs
  rw [Vals.ref1 r]
  obtain ⟨u1, u2, rfl, ⟨t1, rfl⟩, ⟨t2, rfl⟩⟩ := vals2 rv
  refine PySem.W.max_tuple_data (I.ok.hd hc) ht (.cons (.int i t1) (.cons (.int j t2) .nil)) (alike2 i j) (by show X.A.units + 1 + 0 < cLine; omega) fun m v h' tk bs _ rd kp => ?_
  have e : PySem.W.maxD (.int i) [.int j] = .int (max i j) := PySem.W.maxD_ints i [j]
  rw [e] at rd
  cases rd
  exact ⟨.int _, H, I.kept kp, ⟨_, rfl⟩, q⟩
section
variable {K : PySem.W.Frag} {M : List Addr} {σ : S} {H : Hp} {ta : TE} {i j : Int}
theorem pair_of {v : V} (h : Da K H v (.tuple [.int i, .int j])) : ∃ a, v = V.ref a ∧ SqT K H a [.int i, .int j] := by
  cases h with
  | @tup a zs _ ht hz =>
    cases hz with
    | cons z1 z2 =>
      cases z2 with
      | cons z2 z3 =>
        cases z3
        cases z1
        cases z2
        exact ⟨a, rfl, ht⟩
theorem ev_minT (ha : Ev K M ta σ H (.tuple [.int i, .int j])) : Ev K M (tCB (rMinT K) (tCons ta tNil)) σ H (.int (min i j)) := fun M2 H1 g Q q =>
  ha M2 H1 g _ fun v H2 e2 dv => by
    obtain ⟨a, rfl, hs⟩ := pair_of (dm_h dv)
    exact ⟨a, i, j, rfl, hs, q _ _ e2 (.int _)⟩
theorem ev_maxT (ha : Ev K M ta σ H (.tuple [.int i, .int j])) : Ev K M (tCB (rMaxT K) (tCons ta tNil)) σ H (.int (max i j)) := fun M2 H1 g Q q =>
  ha M2 H1 g _ fun v H2 e2 dv => by
    obtain ⟨a, rfl, hs⟩ := pair_of (dm_h dv)
    exact ⟨a, i, j, rfl, hs, q _ _ e2 (.int _)⟩
end
end Dq

/-! set(xs) of a list of ints; isinstance; three names at once; a chain of two comparisons -/
namespace Dq
open PySem PySem.Spec PyProof.Rows L2 Gd
/-- the empty set as it is laid -/
abbrev oSet (w : World) : Obj := ⟨.type "set", none, .set #[] 0 (.fresh 0 0 (!w.params.followText "set-order")), #[]⟩
section
variable {P : Program} {w : World} {A : Around} {E : Value → Shared → Prop} {s : Shared}
theorem laid_set_of_list {l : Addr} {items : Array Value} (ns : List Int) {Q : Value → Shared → Prop} (hh : A.handled = none) (hl : s.heap.IsList l items) (hit : IntsAre items.toList ns) (hb : ns.length + 1 < scanBound)
    (out : ∀ (g : Heap) (tk c : Nat), SetR w g s.heap.objs.size (fun j => decide (j ∈ ns)) c → c ≤ ns.length → (∀ b o, s.heap.get? b = some o → g.get? b = some o) → Q (.ref s.heap.objs.size) { s with heap := g, toks := tk }) :
    wpAny (model P w) A (call (.type "set") [.ref l]) Q E s := by
  have hsz : items.size = ns.length := by
    have q := IntsAre.length hit
    rwa [Array.length_toList] at q
  obtain ⟨_, _, hmro⟩ := F.called_set.mro
  have ⟨hmade, hsub⟩ := (⟨F.called_set.made, F.called_set.sub⟩ : _ ∧ _)
  refine wpAny_call (codeAny_of_tree (?_ : wpAny _ _ (callAny (.type "set") _) _ _ _))
  refine wpAny_pure ⟨Code.quiet_builtin _ (by decide +kernel), codeAny_builtin F.entry_type_call (?_)⟩
  rw [Around.under_plain (weight_type_call_type "set" [.ref l] []) rfl]
  have ⟨q1, q2⟩ := (⟨F.called_set.notType, F.called_set.canCreate⟩ : _ ∧ _)
  have q3 := F.typeCall_set_1 (.ref l)
  repeat (any_goals (first | assumption | wp_step))
  refine codeAny_mono (code_set_led1 (.ref l) (E := E) (Q₁ := fun o t => o = .ref s.heap.objs.size ∧ t = { s with heap := s.heap.push (oSet w) }) ⟨rfl, rfl⟩) fun r t hr => ?_
  rcases r with er | fl
  · exact hr
  · cases fl with
    | ret ob =>
      obtain ⟨rfl, rfl⟩ := hr
      have at0 : (s.heap.push (oSet w)).get? s.heap.objs.size = some (oSet w) := Heap.get?_push_size _ rfl
      have ty0 : Shared.TypeIs { s with heap := s.heap.push (oSet w) } (.ref s.heap.objs.size) "set" := ⟨_, at0, rfl⟩
      have ⟨i1, i2⟩ := (⟨F.called_set.init.lookup, F.called_set.init.bind (.ref s.heap.objs.size)⟩ : _ ∧ _)
      repeat (any_goals (first | assumption | wp_step))
      refine codeAny_mono (codeAny_call_builtin (R := wants (fun r t => r = .none ∧ ∃ g tk c, t = { s with heap := g, toks := tk } ∧ SetR w g s.heap.objs.size (fun j => decide (j ∈ ns)) c ∧ c ≤ ns.length ∧ ∀ b o, s.heap.get? b = some o → g.get? b = some o) E) F.called_set.init.plain F.entry_set_init (check_set_init_1 ty0 ?_)) fun r t hr => ?_
      · obtain ⟨⟨oc, od, odt, os⟩, ho, hc, nl, hd⟩ := hl
        simp only at hc hd
        subst hc; subst hd
        have ho1 : (s.heap.push (oSet w)).get? l = some ⟨.type "list", od, .seq items nl, os⟩ := Heap.get?_push_of_some _ ho
        have ⟨b1, b2⟩ := (⟨F.sub_list_set, F.sub_list_frozenset⟩ : _ ∧ _)
        have b3 : (Value.type "list" == Value.type "dict") = false := by decide
        have il : (s.heap.push (oSet w)).IsList l items := ⟨_, ho1, rfl, nl, rfl⟩
        unfold Builtin.«set.__init__» noKeywords Builtin.Frozenset.updateFrom
        generalize eP : pyIter = pI
        wp_walk
        subst eP
        refine wpAny_pyIter_list il (wpAny_bind (wpAny_runValue ?_))
        have lt := Heap.lt_size ho
        have h3 : A.in1.in1.in1.handled = none := by simp [hh]
        have ne1 : l ≠ (s.heap.push (oSet w)).objs.size := by rw [Heap.size_push]; exact Nat.ne_of_lt (Nat.lt_succ_of_lt lt)
        have ne2 : s.heap.objs.size ∉ [(s.heap.push (oSet w)).objs.size, l] := by
          rw [Heap.size_push]
          simp only [List.mem_cons, List.not_mem_nil, or_false, not_or]
          exact ⟨Nat.ne_of_lt (Nat.lt_succ_self _), Nat.ne_of_gt lt⟩
        have at1 : ((s.heap.push (oSet w)).push { cls := .type "list_iterator", data := .fields #[.ref l, .int 0 0] }).get? s.heap.objs.size = some (oSet w) := Heap.get?_push_of_some _ at0
        refine set_update_ints ((Walks.list h3 _ l ne1 items).toS) s.heap.objs.size ne2 ns hsz hb (fun i v hv => ?_) (items.size - 0) 0 _ (by omega) (Nat.zero_le _) ⟨⟨_, Heap.get?_push_size _ rfl, rfl, rfl⟩, il.push _⟩ ⟨0, Nat.le_refl 0, setR_new_at at1⟩ (fun s' c hm hc hS => ?_)
        · have hi : i < ns.length := by rw [← hsz]; exact (Array.getElem?_eq_some_iff.mp hv).1
          obtain ⟨t, e⟩ := IntsAre.int_at hit i v (by rw [Array.getElem?_toList]; exact hv)
          exact ⟨ns[i], t, List.getElem?_eq_getElem hi, by rw [e, List.getD_eq_getElem?_getD, List.getElem?_eq_getElem hi]; rfl⟩
        · obtain ⟨g, g2, d2, tk, o2⟩ := s'
          obtain ⟨e1, e2, e3⟩ := (⟨hm.gens, hm.drawn, hm.os⟩ : g2 = s.gens ∧ d2 = s.drawn ∧ o2 = s.os)
          subst e1; subst e2; subst e3
          refine (wpAny_pure (?_) : wpAny _ _ _ _ _ _)
          show wpAny _ _ (ret Value.none) _ _ _
          refine wpAny_pure ⟨rfl, g, tk, c, rfl, hS, by omega, fun b o e => ?_⟩
          have hb0 := Heap.lt_size e
          refine hm.heap b o ?_ (Heap.get?_push_of_some _ (Heap.get?_push_of_some _ e))
          rw [Heap.size_push]
          simp only [List.mem_cons, List.not_mem_nil, or_false, not_or]
          exact ⟨Nat.ne_of_lt hb0, Nat.ne_of_lt (Nat.lt_succ_of_lt hb0)⟩
      · rcases r with er | fl
        · exact hr
        · cases fl with
          | ret r =>
            obtain ⟨rfl, g, tk, c, rfl, a1, a2, a3⟩ := hr
            repeat (any_goals (first | assumption | wp_step))
            exact out _ _ _ a1 a2 a3
          | _ => exact hr.elim
    | _ => exact hr.elim
end

end Dq

namespace Dq
open PySem PySem.Spec PyProof.Rows L2 Gd
section
variable {X : Cx}
/-- set(xs), xs a list of ints -/
def rSetL (K : PySem.W.Frag) (w : World) : List V → Hp → VK → Prop := fun vs H Q => ∃ (a : Addr) (ns : List Int), vs = [V.ref a] ∧ SqL K H a (ns.map V.int) ∧ ns.length ≤ 4000 ∧
  ∀ q, H q = none → Q (.ref q) (upd H q (SetO w q (fun j => decide (j ∈ ns)) (lvl ns).length))
theorem card_set {w : World} {h : Heap} {a : Addr} {ns : List Int} {c : Nat} (R : SetR w h a (fun j => decide (j ∈ ns)) c) : c = (lvl ns).length := by
  obtain ⟨o, es, ep, t, _, _, _, _, hnd, hm, _, _, hsz, _⟩ := R
  have hp : (es.toList.map keyOf).Perm (lvl ns) := (List.perm_ext_iff_of_nodup hnd ((pw_lvl ns).imp fun h => Int.ne_of_lt h)).2 fun k => by
    rw [mem_lvl, ← hm k]
    exact decide_eq_true_iff
  rw [← hp.length_eq, List.length_map, Array.length_toList, hsz]
theorem cr_setL {K : PySem.W.Frag} {w : World} (hc : X.calm = true) (hK : X.K = K) (hw : X.w = w) : CallR X (.type "set") (rSetL K w) := by
  subst hK
  subst hw
  intro pins s σ H vs us Q I r h
  obtain ⟨a, ns, rfl, hs, hz, q⟩ := h
  obtain ⟨its, rv, pl, _⟩ := I.list hs
  rw [Vals.ref1 r]
  refine laid_set_of_list ns (I.ok.hd hc) pl.isList ?_ (by show ns.length + 1 < 4096; omega) fun h' tk c R hcn kp => ?_
  · exact Vals.ints (by simpa using rv)
  · have hcc := card_set R
    subst hcc
    exact ⟨.ref _, upd H s.heap.objs.size (SetO X.w s.heap.objs.size (fun j => decide (j ∈ ns)) (lvl ns).length), I.laid (t' := tk) kp (Nat.le_refl _) (setO_new R), rfl, q _ (I.hok.fresh (Nat.le_refl _))⟩
theorem call_isi_k {K : PySem.W.Frag} (hK : X.K = K) : CallR X (.builtin "isinstance") (rIsi K) := hK ▸ call_isi
end
section
variable {K : PySem.W.Frag} {M M' : List Addr} {σ : S} {H H' : Hp} {ta tb te tc : TE} {tt tu : TT} {as : TA} {d e f : PyData} {ds es : List PyData} {r : R2} {x y : V} {wi : TI} {D : Ends} {t u : TS} {s c : Addr} {P P1 : PyData → Prop} {w : World}
/-- its members, rising, at most 63 of them -/
theorem ev_lvlL {xs : List Int} (ha : Ev K M ta σ H (.list (xs.map PyData.int))) (hz : xs.length ≤ 4000) (hl : (lvl xs).length < 64) : Ev K M (tCB (rSortedSet w) (tCons (tCB (rSetL K w) (tCons ta tNil)) tNil)) σ H (.list ((lvl xs).map PyData.int)) := fun M2 H1 g Q q =>
  ha M2 H1 g _ fun v H2 e2 dv => by
    have t2 := (g.same e2).tr
    cases dv with
    | @lst a vs _ hs hx =>
      have hvs : vs = xs.map V.int := das_ints hx
      subst hvs
      refine ⟨a, xs, rfl, SqL.of (mn_same _ _ hs), hz, fun s0 hs0 => ?_⟩
      refine ⟨s0, _, _, rfl, upd_same, hl, fun ns p hp hm _ hp0 => ?_⟩
      have e3 : Same H2 (upd H2 s0 (SetO w s0 (fun j => decide (j ∈ xs)) (lvl xs).length)) := same_new hs0
      have hn : ns = lvl xs := pw_eq hp (pw_lvl xs) fun k => by
        rw [hm, mem_lvl]
        exact decide_eq_true_iff
      subst hn
      exact q _ _ ((e2.trans e3).trans (same_new hp0)) (dm_newL (Tr.same t2 e3) hp0 (Das.ints _))
theorem tyx_tup {v : V} (h : Da K H v (.tuple ds)) : TyX K H v (.type "tuple") := by
  cases h with
  | tup hs _ =>
    rcases hs with hs | ⟨o, its, n, hk, hc, _⟩
    · rcases hs with hs | ⟨o, hs⟩
      · exact .base (.tup hs)
      · exact .fTuple hs
    · exact .kTuple hk hc
theorem tyx_lst {v : V} (h : Da K H v (.list ds)) : TyX K H v (.type "list") := by
  cases h with
  | lst hs _ => exact .base (.lst hs)
theorem tyx_int {v : V} {i : Int} (h : Da K H v (.int i)) : TyX K H v (.type "int") := by
  cases h
  exact .base (.int i)
theorem tyx_bl {v : V} {b : Bool} (h : Da K H v (.bool b)) : TyX K H v (.type "bool") := by
  cases h
  exact .base (.bl b)
theorem tyx_str {v : V} {z : Str} (h : Da K H v (.str z)) : TyX K H v (.type "str") := by
  cases h
  exact .base (.str z)
theorem tyx_non {v : V} (h : Da K H v .none) : TyX K H v (.type "NoneType") := by
  cases h
  exact .base .non
theorem ev_isi {a b : String} {k : Bool} (ha : Ev K M ta σ H d) (ht : ∀ {H : Hp} {v : V}, Da K H v d → TyX K H v (.type a)) (hk : kitB a b = some k) : Ev K M (tCB (rIsi K) (tCons ta (tCons (tC (.ty b)) tNil))) σ H (.bool k) := fun M2 H1 g Q q =>
  ha M2 H1 g _ fun v H2 e2 dv => ⟨v, .ty b, .type a, .type b, k, rfl, .ty b, ht (dm_h dv), kit_ty hk, q _ _ e2 (.bl k)⟩
theorem ev_chain {g1 g2 : Int → Int → Bool} {i j k : Int} (ha : Ev K M ta σ H (.int i)) (hb : Ev K M tb σ H (.int j)) (hc : Ev K M tc σ H (.int k)) :
    Ev K M (tChain (rI0 fun i j => .bl (g1 i j)) (rI0 fun i j => .bl (g2 i j)) ta tb tc) σ H (.bool (g1 i j && g2 j k)) := fun M2 H1 g Q q =>
  ha M2 H1 g _ fun x H2 e2 dx => hb M2 H2 (g.same e2) _ fun y H3 e3 dy => by
    cases dx
    cases dy
    refine ⟨i, j, rfl, rfl, _, rfl, ?_⟩
    cases h : g1 i j with
    | false => exact iteF (q _ _ (e2.trans e3) (by rw [h]; exact .bl false))
    | true =>
      refine iteT (hc M2 H3 ((g.same e2).same e3) _ fun z H4 e4 dz => ?_)
      cases dz
      exact ⟨j, k, rfl, rfl, q _ _ ((e2.trans e3).trans e4) (by rw [h]; exact .bl _)⟩
theorem tk_three {i j l : Nat} {σ0 : S} {v1 v2 v3 : V} {p : Addr} (h : SqT K H p [v1, v2, v3]) : Tk (gTup K 3 (gCons (gName i) (gCons (gName j) (gCons (gName l) gNil)))) (.ref p) σ0 H (((σ0.set i (some v1)).set j (some v2)).set l (some v3)) :=
  fun Q q => ⟨p, _, rfl, h, rfl, _, _, rfl, _, _, rfl, _, _, rfl, rfl, q⟩
/-- a, b, c = .., three values, none of them drawn -/
theorem q_par3 {i j l : Nat} {d1 d2 d3 : PyData} (tr : Tr M H) (h : Ea K M as σ H [d1, d2, d3]) (k : ∀ v w z H1, Same H H1 → Tr M H1 → Dm K M H1 v d1 → Dm K M H1 w d2 → Dm K M H1 z d3 → u D (((σ.set i (some v)).set j (some w)).set l (some z)) H1) :
    tSeq (tPar3 i j l as) u D σ H := h M H (Go.refl tr) _ fun vs H1 e1 d1 => by
  cases d1 with
  | cons a1 r1 =>
    cases r1 with
    | cons a2 r2 =>
      cases r2 with
      | cons a3 r3 =>
        cases r3
        exact ⟨_, _, _, rfl, k _ _ _ H1 e1 (tr.same e1) a1 a2 a3⟩
end
end Dq

/-! repr of None and of an int, too; equal rows of ints -/
namespace Dq
open PySem PySem.Spec PyProof.Rows L2 Gd
section
variable {X : Cx}
def rReprZ (K : PySem.W.Frag) : List V → Hp → VK → Prop := fun xs H Q =>
  rReprA K xs H Q ∨ (xs = [V.non] ∧ Q (.str (PyData.shown .none)) H) ∨ ∃ i : Int, xs = [V.int i] ∧ i.natAbs.log2 < 1920 ∧ Q (.str (PyData.shown (.int i))) H
theorem call_reprZ (hg : X.A.guards = some []) (hu : X.A.units + 64 < cLine) : CallR X (.builtin "repr") (rReprZ X.K) := by
  intro pins s σ H xs us Q I r h
  rcases h with h | ⟨rfl, q⟩ | ⟨i, rfl, hi, q⟩
  · exact call_reprA hg hu pins s σ H xs us Q I r h
  · obtain ⟨u, rfl, ru⟩ := vals1 r
    cases ru
    refine PySem.P.repr_of_none ?_
    refine ⟨.str (PyData.shown .none), H, I.kept (h' := s.heap) fun _ _ e => e, ⟨s.toks, ?_⟩, q⟩
    unfold PyData.shown
    rfl
  · obtain ⟨u, rfl, ru⟩ := vals1 r
    obtain ⟨t, rfl⟩ := ru
    refine PySem.P.repr_of_int hi ?_
    refine ⟨.str (PyData.shown (.int i)), H, I.kept (h' := s.heap) fun _ _ e => e, ⟨s.toks, ?_⟩, q⟩
    unfold PyData.shown
    rfl
theorem call_reprZ_k {K : PySem.W.Frag} (h : X.K = K) (hg : X.A.guards = some []) (hu : X.A.units + 64 < cLine) : CallR X (.builtin "repr") (rReprZ K) := h ▸ call_reprZ hg hu
end
section
variable {K : PySem.W.Frag} {M M' : List Addr} {σ : S} {H H' : Hp} {ta tb te tc : TE} {tt tu : TT} {as : TA} {d e f : PyData} {ds es : List PyData} {r : R2} {x y : V} {wi : TI} {D : Ends} {t u : TS} {s c : Addr} {P P1 : PyData → Prop} {w : World}
/-- lists, tuples, bools, None -/
def plainD : PyData → Bool
  | .list _ => true
  | .tuple _ => true
  | .bool _ => true
  | .none => true
  | _ => false
theorem ev_reprZ {n k : Nat} (ha : Ev K M ta σ H d) (hd : plainD d = true) (h : Fit n k d) (hn : n ≤ 60) (hk : k ≤ 270000) : Ev K M (tCB (rReprZ K) (tCons ta tNil)) σ H (.str d.shown) := fun M2 H1 g Q q => by
  cases d with
  | list ds =>
    refine ha M2 H1 g _ fun v H2 e2 dv => ?_
    cases dv with
    | lst hs hx => exact .inl (.inl ⟨_, .list ds, rfl, Da.dp _ _ (dm_h (.lst hs hx)), h.shw, h.nod, Nat.le_trans h.dep hn, h.size hk, q _ _ e2 (.str _)⟩)
  | tuple ds =>
    refine ha M2 H1 g _ fun v H2 e2 dv => ?_
    cases dv with
    | tup hs hx => exact .inl (.inl ⟨_, .tuple ds, rfl, Da.dp _ _ (dm_h (.tup hs hx)), h.shw, h.nod, Nat.le_trans h.dep hn, h.size hk, q _ _ e2 (.str _)⟩)
  | bool b => exact ha M2 H1 g _ fun v H2 e2 dv => .inl (.inr ⟨b, by rw [dv.blV], q _ _ e2 (.str _)⟩)
  | none => exact ha M2 H1 g _ fun v H2 e2 dv => .inr (.inl ⟨by rw [dv.nonV], q _ _ e2 (.str _)⟩)
  | _ => cases hd
theorem ev_reprZi {i : Int} (ha : Ev K M ta σ H (.int i)) (hi : i.natAbs.log2 < 1920) : Ev K M (tCB (rReprZ K) (tCons ta tNil)) σ H (.str (PyData.shown (.int i))) :=
  fun M2 H1 g Q q => ha M2 H1 g _ fun v H2 e2 dv => .inr (.inr ⟨i, by rw [dv.intV], hi, q _ _ e2 (.str _)⟩)
end
theorem eqv_ints : ∀ xs ys : List Int, PyData.eqvAll (xs.map PyData.int) (ys.map PyData.int) = decide (xs = ys)
  | [], [] => by unfold PyData.eqvAll; rfl
  | [], y :: ys => by unfold PyData.eqvAll; rfl
  | x :: xs, [] => by unfold PyData.eqvAll; rfl
  | x :: xs, y :: ys => by
    have ih := eqv_ints xs ys
    rw [List.map_cons, List.map_cons]
    unfold PyData.eqvAll
    rw [ih]
    have e : PyData.eqv (.int x) (.int y) = (x == y) := by unfold PyData.eqv; rfl
    rw [e, Bool.eq_iff_iff, Bool.and_eq_true, beq_iff_eq, decide_eq_true_iff, decide_eq_true_iff, List.cons.injEq]
theorem eqv_tupI (xs ys : List Int) : PyData.eqv (.tuple (xs.map PyData.int)) (.tuple (ys.map PyData.int)) = decide (xs = ys) := by
  unfold PyData.eqv
  exact eqv_ints xs ys
theorem eqv_lstI (xs ys : List Int) : PyData.eqv (.list (xs.map PyData.int)) (.list (ys.map PyData.int)) = decide (xs = ys) := by
  unfold PyData.eqv
  exact eqv_ints xs ys
end Dq

namespace Own
open PySem PySem.Spec PyProof.Rows L2 Gd Dq
def topS (i : Nat) : Stmt := PySem.Challenge.pw_soonerornot_k12_whole_placings_of_one_or.main.body.getD i (.Pass ⟨0, 0, 0, 0⟩)
abbrev s_keeps : Stmt := topS 1
theorem sc_keeps : FnScope ["saying", "placing", "ties", "head", "a", "b", "u", "v"] ["saying", "placing"] (defScope s_keeps) := ⟨rfl, rfl, rfl, by decide +kernel, rfl, by decide +kernel, by decide +kernel⟩
abbrev s_order_of : Stmt := topS 2
theorem sc_order_of : FnScope ["placing", "ranks", "rank", "number"] ["placing"] (defScope s_order_of) := ⟨rfl, rfl, rfl, by decide +kernel, rfl, by decide +kernel, by decide +kernel⟩
abbrev s_parting : Stmt := topS 3
theorem sc_parting : FnScope ["one", "other", "u", "v"] ["one", "other"] (defScope s_parting) := ⟨rfl, rfl, rfl, by decide +kernel, rfl, by decide +kernel, by decide +kernel⟩
abbrev s_lw_source : Stmt := topS 5
theorem sc_lw_source : FnScope ["script", "mixed", "cell"] ["script"] (defScope s_lw_source) := ⟨rfl, rfl, rfl, by decide +kernel, rfl, by decide +kernel, by decide +kernel⟩
abbrev s_lw_pick : Stmt := topS 6
theorem sc_lw_pick : FnScope ["source", "many", "left", "mixed"] ["source", "many"] (defScope s_lw_pick) := ⟨rfl, rfl, rfl, by decide +kernel, rfl, by decide +kernel, by decide +kernel⟩
abbrev s_lw_of : Stmt := topS 7
theorem sc_lw_of : FnScope ["source", "some"] ["source", "some"] (defScope s_lw_of) := ⟨rfl, rfl, rfl, by decide +kernel, rfl, by decide +kernel, by decide +kernel⟩
abbrev s_lw_mixed : Stmt := topS 8
theorem sc_lw_mixed : FnScope ["source", "things", "rest", "lap"] ["source", "things"] (defScope s_lw_mixed) := ⟨rfl, rfl, rfl, by decide +kernel, rfl, by decide +kernel, by decide +kernel⟩
abbrev s_lw_order_of : Stmt := topS 9
theorem sc_lw_order_of : FnScope ["placing", "levels", "one"] ["placing"] (defScope s_lw_order_of) := ⟨rfl, rfl, rfl, by decide +kernel, rfl, by decide +kernel, by decide +kernel⟩
abbrev s_lw_keeps : Stmt := topS 10
theorem sc_lw_keeps : FnScope ["saying", "placing", "ties", "head", "a", "b"] ["saying", "placing"] (defScope s_lw_keeps) := ⟨rfl, rfl, rfl, by decide +kernel, rfl, by decide +kernel, by decide +kernel⟩
abbrev s_lw_draw_saying : Stmt := topS 11
theorem sc_lw_draw_saying : FnScope ["source", "n", "most", "ties", "head", "lap", "tie"] ["source", "n", "most"] (defScope s_lw_draw_saying) := ⟨rfl, rfl, rfl, by decide +kernel, rfl, by decide +kernel, by decide +kernel⟩
abbrev s_lw_draw_placing : Stmt := topS 12
theorem sc_lw_draw_placing : FnScope ["source", "n", "most", "moment"] ["source", "n"] (defScope s_lw_draw_placing) := ⟨rfl, rfl, rfl, by decide +kernel, rfl, by decide +kernel, by decide +kernel⟩
abbrev s_lw_alike_placing : Stmt := topS 13
theorem sc_lw_alike_placing : FnScope ["source", "placing", "levels", "here", "far", "level", "one"] ["source", "placing"] (defScope s_lw_alike_placing) := ⟨rfl, rfl, rfl, by decide +kernel, rfl, by decide +kernel, by decide +kernel⟩
abbrev s_lw_is_saying : Stmt := topS 14
theorem sc_lw_is_saying : FnScope ["n", "value", "pairs", "pair", "ties", "one", "a", "b"] ["n", "value"] (defScope s_lw_is_saying) := ⟨rfl, rfl, rfl, by decide +kernel, rfl, by decide +kernel, by decide +kernel⟩
abbrev s_law : Stmt := topS 15
theorem sc_law : FnScope ["script", "source", "lap", "n", "one", "other", "way", "k", "is_one", "kept", "told", "look", "saying"] ["script"] (defScope s_law) := ⟨rfl, rfl, rfl, by decide +kernel, rfl, by decide +kernel, by decide +kernel⟩
structure Ads where
  a_keeps : Addr
  d_keeps : FuncData
  a_order_of : Addr
  d_order_of : FuncData
  a_parting : Addr
  d_parting : FuncData
  a_lw_source : Addr
  d_lw_source : FuncData
  a_lw_pick : Addr
  d_lw_pick : FuncData
  a_lw_of : Addr
  d_lw_of : FuncData
  a_lw_mixed : Addr
  d_lw_mixed : FuncData
  a_lw_order_of : Addr
  d_lw_order_of : FuncData
  a_lw_keeps : Addr
  d_lw_keeps : FuncData
  a_lw_draw_saying : Addr
  d_lw_draw_saying : FuncData
  a_lw_draw_placing : Addr
  d_lw_draw_placing : FuncData
  a_lw_alike_placing : Addr
  d_lw_alike_placing : FuncData
  a_lw_is_saying : Addr
  d_lw_is_saying : FuncData
  a_law : Addr
  d_law : FuncData
structure Tp (K : PySem.W.Frag) (mg : Str → Option Value) (A : Ads) : Prop where
  F_keeps : Fun K "keeps" "keeps" s_keeps A.a_keeps A.d_keeps
  g_keeps : mg "keeps" = some (.ref A.a_keeps)
  b_keeps : Binds K A.d_keeps ["saying", "placing"] []
  F_order_of : Fun K "order_of" "order_of" s_order_of A.a_order_of A.d_order_of
  g_order_of : mg "order_of" = some (.ref A.a_order_of)
  b_order_of : Binds K A.d_order_of ["placing"] []
  F_parting : Fun K "parting" "parting" s_parting A.a_parting A.d_parting
  g_parting : mg "parting" = some (.ref A.a_parting)
  b_parting : Binds K A.d_parting ["one", "other"] []
  F_lw_source : Fun K "_law_source" "_law_source" s_lw_source A.a_lw_source A.d_lw_source
  g_lw_source : mg "_law_source" = some (.ref A.a_lw_source)
  b_lw_source : Binds K A.d_lw_source ["script"] []
  F_lw_pick : Fun K "_law_pick" "_law_pick" s_lw_pick A.a_lw_pick A.d_lw_pick
  g_lw_pick : mg "_law_pick" = some (.ref A.a_lw_pick)
  b_lw_pick : Binds K A.d_lw_pick ["source", "many"] []
  F_lw_of : Fun K "_law_of" "_law_of" s_lw_of A.a_lw_of A.d_lw_of
  g_lw_of : mg "_law_of" = some (.ref A.a_lw_of)
  b_lw_of : Binds K A.d_lw_of ["source", "some"] []
  F_lw_mixed : Fun K "_law_mixed" "_law_mixed" s_lw_mixed A.a_lw_mixed A.d_lw_mixed
  g_lw_mixed : mg "_law_mixed" = some (.ref A.a_lw_mixed)
  b_lw_mixed : Binds K A.d_lw_mixed ["source", "things"] []
  F_lw_order_of : Fun K "_law_order_of" "_law_order_of" s_lw_order_of A.a_lw_order_of A.d_lw_order_of
  g_lw_order_of : mg "_law_order_of" = some (.ref A.a_lw_order_of)
  b_lw_order_of : Binds K A.d_lw_order_of ["placing"] []
  F_lw_keeps : Fun K "_law_keeps" "_law_keeps" s_lw_keeps A.a_lw_keeps A.d_lw_keeps
  g_lw_keeps : mg "_law_keeps" = some (.ref A.a_lw_keeps)
  b_lw_keeps : Binds K A.d_lw_keeps ["saying", "placing"] []
  F_lw_draw_saying : Fun K "_law_draw_saying" "_law_draw_saying" s_lw_draw_saying A.a_lw_draw_saying A.d_lw_draw_saying
  g_lw_draw_saying : mg "_law_draw_saying" = some (.ref A.a_lw_draw_saying)
  b_lw_draw_saying : Binds K A.d_lw_draw_saying ["source", "n", "most"] []
  F_lw_draw_placing : Fun K "_law_draw_placing" "_law_draw_placing" s_lw_draw_placing A.a_lw_draw_placing A.d_lw_draw_placing
  g_lw_draw_placing : mg "_law_draw_placing" = some (.ref A.a_lw_draw_placing)
  b_lw_draw_placing : Binds K A.d_lw_draw_placing ["source", "n"] []
  F_lw_alike_placing : Fun K "_law_alike_placing" "_law_alike_placing" s_lw_alike_placing A.a_lw_alike_placing A.d_lw_alike_placing
  g_lw_alike_placing : mg "_law_alike_placing" = some (.ref A.a_lw_alike_placing)
  b_lw_alike_placing : Binds K A.d_lw_alike_placing ["source", "placing"] []
  F_lw_is_saying : Fun K "_law_is_saying" "_law_is_saying" s_lw_is_saying A.a_lw_is_saying A.d_lw_is_saying
  g_lw_is_saying : mg "_law_is_saying" = some (.ref A.a_lw_is_saying)
  b_lw_is_saying : Binds K A.d_lw_is_saying ["n", "value"] []
  F_law : Fun K "law" "law" s_law A.a_law A.d_law
  g_law : mg "law" = some (.ref A.a_law)
  b_law : Binds K A.d_law ["script"] []
  z_abs : mg "abs" = none
  z_bool : mg "bool" = none
  z_enumerate : mg "enumerate" = none
  z_int : mg "int" = none
  z_isinstance : mg "isinstance" = none
  z_len : mg "len" = none
  z_list : mg "list" = none
  z_max : mg "max" = none
  z_range : mg "range" = none
  z_repr : mg "repr" = none
  z_set : mg "set" = none
  z_sorted : mg "sorted" = none
  z_tuple : mg "tuple" = none
def spLaw (K : PySem.W.Frag) : Sp := fun vs H Q _ => ∃ (a : Addr) (ns : List Int), vs = [.ref a] ∧ SqL K H a (ns.map V.int) ∧ ns.length ≤ 63 ∧ ∀ H', Q (.bl true) H'

/-! the data -/
structure Sy where
  ties : List (Int × Int)
  head : Option (Int × Int)
def dP (p : Int × Int) : PyData := .tuple [.int p.1, .int p.2]
def dH : Option (Int × Int) → PyData
  | none => .none
  | some p => dP p
def dS (s : Sy) : PyData := .tuple [.tuple (s.ties.map dP), dH s.head]
def dI (xs : List Int) : PyData := .tuple (xs.map .int)
def dB (n : Int) (ss : List Sy) : PyData := .tuple [.int n, .tuple (ss.map dS)]
def turnS (s : Sy) : Sy := ⟨s.ties, s.head.map fun p => (p.2, p.1)⟩

def okP (n : Int) (p : Int × Int) : Prop := (0 ≤ p.1 ∧ p.1 < n) ∧ 0 ≤ p.2 ∧ p.2 < n
def okS (n : Int) (s : Sy) : Prop := (∀ p ∈ s.ties, okP n p) ∧ ∀ p, s.head = some p → okP n p
def ix (xs : List Int) (i : Int) : Int := xs.getD i.toNat 0
def keepS (s : Sy) (xs : List Int) : Bool := (s.ties.any fun p => ix xs p.1 != ix xs p.2) || (match s.head with | none => false | some p => decide (ix xs p.1 ≤ ix xs p.2))
theorem at_ix {xs : List Int} {i : Int} (h : 0 ≤ i ∧ i < xs.length) : L2.atI (xs.map PyData.int) i = some (.int (ix xs i)) := by
  obtain ⟨j, rfl⟩ : ∃ j : Nat, i = (j : Int) := ⟨i.toNat, by omega⟩
  have hj : j < xs.length := by omega
  have e : (xs.map PyData.int)[j]? = some (.int (ix xs (j : Int))) := by
    unfold ix
    rw [List.getElem?_map, Int.toNat_natCast, List.getD_eq_getElem?_getD, List.getElem?_eq_getElem hj]
    rfl
  exact atI_nat e
theorem eqv_int (a b : Int) : PyData.eqv (.int a) (.int b) = (a == b) := by unfold PyData.eqv; rfl
theorem eqv_nil (ds : List PyData) : PyData.eqv (.list ds) (.list []) = ds.isEmpty := by
  unfold PyData.eqv
  cases ds with
  | nil => unfold PyData.eqvAll; rfl
  | cons d ds => unfold PyData.eqvAll; rfl
theorem shp_int (i : Int) : SeqAt.shaped (.int i) = true := by
  unfold SeqAt.shaped PyData.canLay0 PyData.depth
  rfl

section
variable {P : Program} {w : World} {K : PySem.W.Frag} {mg : Str → Option Value} {base : Heap} {A : Ads}
theorem G_keeps (T : Tp K mg A) : FnG P w K mg base 1 A.a_keeps A.d_keeps ["saying", "placing"] (spPure K 2 fun ds d => ∃ s xs, okS (List.length xs) s ∧ ds = [dS s, dI xs] ∧ d = .bool (keepS s xs)) := by
  refine fn_ofG T.F_keeps sc_keeps (fun vs H Q E h => spPure_len vs H Q E h) (fun cdv A outer s H vs Q E hg hr h => ?_)
  obtain ⟨M, ds, d, tr, hd, hl, ⟨sy, xs, ok, rfl, rfl⟩, k⟩ := h
  cases hd with
  | cons h1 h2 =>
    cases h2 with
    | cons h2 h3 =>
      cases h3
      refine ⟨_, (pss_cons (ps_asg (pv 0) (pg_tup rfl (pgs_cons (pg_name (i := 2) sc_keeps.nd rfl (Or.inl rfl)) (pgs_cons (pg_name (i := 3) sc_keeps.nd rfl (Or.inl rfl)) pgs_nil))))
      (pss_cons (ps_for PassesOwn.never rfl (pi_tup_k (K := K) rfl (pv 2)) (pg_tup rfl (pgs_cons (pg_name (i := 4) sc_keeps.nd rfl (Or.inl rfl)) (pgs_cons (pg_name (i := 5) sc_keeps.nd rfl (Or.inl rfl)) pgs_nil)))
      (pss_one (ps_if (pt_cmpR (op_ne_k (K := K) rfl hr.units) (pe_ix (ix_tup_k (K := K) rfl) (pv 1) (pv 4) (fun _ _ => rfl)) (pe_ix (ix_tup_k (K := K) rfl) (pv 1) (pv 5) (fun _ _ => rfl)) (nomark _))
      (pss_one (ps_ret pe_bl))
      pss_nil)))
      (pss_cons (ps_if (pt_cmp (pc_isN (pv 3)))
      (pss_one (ps_ret pe_bl))
      pss_nil)
      (pss_cons (ps_asg (pv 3) (pg_tup rfl (pgs_cons (pg_name (i := 6) sc_keeps.nd rfl (Or.inl rfl)) (pgs_cons (pg_name (i := 7) sc_keeps.nd rfl (Or.inl rfl)) pgs_nil))))
      (pss_one (ps_ret (pe_cmpR op_le (pe_ix (ix_tup_k (K := K) rfl) (pv 1) (pv 6) (fun _ _ => rfl)) (pe_ix (ix_tup_k (K := K) rfl) (pv 1) (pv 7) (fun _ _ => rfl)) (nomark _)))))))), ?_⟩
      refine q_unp tr (ev_var rfl h1) fun v w H1 e1 t1 d1 d2 => ?_
      have h2' := dm_same h2 tr e1
      refine q_for t1 (wk_tupT (enc := dP) (xs := sy.ties) (ev_var rfl d1)) (fun H2 i σ' H' => (∃ a b c d, σ' = [some _, some _, some v, some w, a, b, c, d]) ∧ Same H2 H' ∧ Tr M H' ∧ (sy.ties.take i).any (fun p => ix xs p.1 != ix xs p.2) = false)
        (fun H2 e2 t2 => ⟨⟨_, _, _, _, rfl⟩, Same.refl _, t2, rfl⟩) (fun H2 i σ' H' e2 p => (Go.refl (t1.same e2)).same p.2.1) ?_ ?_
      · rintro H2 i σ' H' x H4 e2 hi ⟨⟨a, b, c, d, rfl⟩, s2, t2, p⟩ e4 dx
        rw [at0_map hi] at dx
        obtain ⟨va, vb, tk, da, db⟩ := tk_pair (i := 4) (j := 5) (σ0 := [some _, some _, some v, some w, a, b, c, d]) dx
        refine tk _ ?_
        have t4 : Tr M H4 := t2.same e4
        have hp := ok.1 _ (List.getElem_mem hi)
        have pl : Dm K M H4 _ (dI xs) := dm_same h2' t1 ((e2.trans s2).trans e4)
        refine s_if t4 (eb_test (ev_neD (ev_ixT (ev_var rfl pl) (ev_var rfl da) (at_ix hp.1)) (ev_ixT (ev_var rfl pl) (ev_var rfl db) (at_ix hp.2)) (shp_int _) (shp_int _))) (fun hb H5 e5 t5 => ?_) (fun hb H5 e5 t5 => ?_)
        · refine s_ret (K := K) t5 ev_bl fun v H6 e6 t6 d6 => ?_
          refine k v H6 ((((e1.trans e2).trans s2).trans e4).trans (e5.trans e6)) ?_
          have hk : keepS sy xs = true := by
            unfold keepS
            rw [List.any_eq_true.mpr ⟨_, List.getElem_mem hi, by rw [eqv_int] at hb; exact hb⟩]
            rfl
          rw [hk]
          exact d6
        · refine ⟨⟨_, _, _, _, rfl⟩, (s2.trans e4).trans e5, t5, ?_⟩
          rw [List.take_add_one, List.getElem?_eq_getElem hi, List.any_append, p]
          rw [eqv_int] at hb
          show ([sy.ties[i]].any fun p => ix xs p.1 != ix xs p.2) = false
          rw [List.any_cons, List.any_nil, Bool.or_false]
          exact hb
      · rintro H2 σ' H' e2 ⟨⟨a, b, c, d, rfl⟩, s2, t2, p⟩
        rw [List.take_length] at p
        have eH := (e1.trans e2).trans s2
        have d2' := dm_same d2 t1 (e2.trans s2)
        cases hh : sy.head with
        | none =>
          rw [hh] at d2'
          refine q_if t2 (eb_B (ev_isN (ev_var rfl d2'))) (fun _ H5 e5 t5 => ?_) (fun z => nomatch z)
          refine s_ret (K := K) t5 ev_bl fun v H6 e6 t6 d6 => ?_
          refine k v H6 (eH.trans (e5.trans e6)) ?_
          have hk : keepS sy xs = false := by unfold keepS; rw [p, hh]; rfl
          rw [hk]
          exact d6
        | some q =>
          rw [hh] at d2'
          have hq := ok.2 q hh
          refine q_if t2 (eb_B (ev_isN (ev_var rfl d2'))) (fun z => nomatch z) (fun _ H5 e5 t5 => ?_)
          refine q_unp t5 (ev_var rfl (dm_same d2' t2 e5)) fun va vb H6 e6 t6 da db => ?_
          have pl : Dm K M H6 _ (dI xs) := dm_same h2' t1 ((e2.trans s2).trans (e5.trans e6))
          refine s_ret t6 (ev_B0 (ev_ixT (ev_var rfl pl) (ev_var rfl da) (at_ix hq.1)) (ev_ixT (ev_var rfl pl) (ev_var rfl db) (at_ix hq.2))) fun v H7 e7 t7 d7 => ?_
          refine k v H7 (eH.trans ((e5.trans e6).trans e7)) ?_
          have hk : keepS sy xs = decide (ix xs q.1 ≤ ix xs q.2) := by unfold keepS; rw [p, hh]; rfl
          rw [hk]
          exact d7
end
end Own

namespace Own
open PySem PySem.Spec PyProof.Rows L2 Gd Dq
section
variable {P : Program} {w : World} {K : PySem.W.Frag} {mg : Str → Option Value} {base : Heap} {A : Ads}
def spSource (K : PySem.W.Frag) : Sp := fun vs H Q _ => ∃ (a : Addr) (ns : List Int), vs = [.ref a] ∧ SqL K H a (ns.map V.int) ∧ ns.length ≤ 63 ∧
  ∀ s c H', Same H H' → H s = none → H c = none → Src s c H' → Q (.ref s) H'
theorem G_lw_source (T : Tp K mg A) : FnG P w K mg base 1 A.a_lw_source A.d_lw_source ["script"] (spSource K) := by
  refine fn_ofG T.F_lw_source sc_lw_source (fun vs H Q E h => ?_) (fun cdv A outer s H vs Q E hg hr h => ?_)
  · obtain ⟨a, ns, rfl, _⟩ := h
    rfl
  · obtain ⟨a, ns, rfl, hS, hl, k⟩ := h
    have hu := hu_of hr
    have tr : Tr [] H := fun b hb => nomatch hb
    have hS0 : SqL K (mn [] H) a (ns.map V.int) := Same.seq (K := K) (fun b o e => by rw [mn_out (by simp)]; exact e) hS
    refine ⟨_, (pss_cons (ps_set (i := 1) sc_lw_source.nd rfl (Or.inl rfl) pe_int)
      (pss_cons (ps_for PassesOwn.never rfl (pi_list_k (K := K) rfl (pv 0)) (pg_name (i := 2) sc_lw_source.nd rfl (Or.inl rfl))
      (pss_one (ps_set (i := 1) sc_lw_source.nd rfl (Or.inl rfl) (pe_op op_mod (pe_callTy call_int1 (by rfl) T.z_int (by decide +kernel) (pa_cons (pe_op op_add (pe_op op_add (pe_op op_mul (pv 1) pe_int) (pe_op op_mul (pv 2) pe_int)) pe_int) pa_nil)) pe_int))))
      (pss_one (ps_ret (pe_disp (pps_cons pe_str (pe_revL_k (K := K) rfl (pe_lc (own := [("cell", 2)]) (g := gName 2) (tt := tYes) rfl sc_lw_source.nd (pi_list_k (K := K) rfl (pv 0)) (blkOk_by (N := ["script", "mixed", "cell"]) (sc := defScope s_lw_source) (by decide +kernel)) (fun _ _ _ _ _ => (pg_name (i := 2) sc_lw_source.nd rfl (Or.inl rfl))) (fun _ _ _ _ _ => pts_nil) (fun _ _ _ _ _ => (pe_callB call_abs (by rfl) T.z_abs (by decide +kernel) (pa_cons (pv 2) pa_nil))))) (pps_cons pe_str pe_int (pps_cons pe_str (pv 1) (pps_cons pe_str pe_int pps_nil)))) (by rfl) (by rfl) (fun z => by cases z) (by decide)))))), ?_⟩
    refine q_asg (K := K) tr ev_int fun v H1 e1 t1 d1 => ?_
    cases d1
    have hS1 : SqL K (mn [] H1) a (ns.map V.int) := Same.seq (K := K) ((Go.refl tr).same e1).mn hS0
    refine q_for (K := K) t1 (wk_sq hS1 (fun H1 Q q => ⟨_, rfl, q⟩)) (fun H2 i σ' H' => (∃ (m : Int) (c : Option V), σ' = [some (.ref a), some (.int m), c]) ∧ Same H2 H' ∧ Tr [] H')
      (fun H2 e2 t2 => ⟨⟨_, _, rfl⟩, Same.refl _, t2⟩) (fun H2 i σ' H' e2 p => (Go.refl (t1.same e2)).same p.2.1) ?_ ?_
    · rintro H2 i σ' H' x H4 e2 hi ⟨⟨m, c, rfl⟩, s2, t2⟩ e4 dx
      rw [at0_map hi] at dx
      cases dx
      have t4 := t2.same e4
      show tAsg _ _ _ _ _
      refine ev_I (K := K) (M := []) (H := H4) (C := fun _ j => 0 < j) (ev_int1 (ev_I0 (ev_I0 (ev_I (ev_var rfl (.int m)) ev_int (.inr ⟨by decide, by decide⟩)) (ev_I (ev_var rfl (.int _)) ev_int (.inr ⟨by decide, by decide⟩))) ev_int)) ev_int (by decide) [] H4 (Go.refl t4) _ fun v H5 e5 d5 => ?_
      cases d5
      exact ⟨⟨_, _, rfl⟩, (s2.trans e4).trans e5, t4.same e5⟩
    · rintro H2 σ' H' e2 ⟨⟨m, c, rfl⟩, s2, t2⟩
      intro p hp
      have eH := (e1.trans e2).trans s2
      have sp : Same H' (upd H' p (.dK [])) := same_new hp
      have go1 : Go [] H [p] (upd H' p (.dK [])) := ((Go.refl tr).same eH).trans (go_mut t2 hp)
      have hS2 : SqL K (mn [p] (upd H' p (.dK []))) a (ns.map V.int) := Same.seq (K := K) go1.mn hS0
      have t3 := go1.tr
      refine pairs_c ?_
      refine revL_new (K := K) (M := [p]) t3 (ev_lcA (enc := PyData.int) (xs := ns) (fun i => .int (if i < 0 then -i else i))
        (wk_sq hS2 (fun H1 Q q => ⟨_, rfl, q⟩)) (by omega) fun M' H' a x g _ dx => ⟨_, tk_name, rfl, ev_abs (ev_var rfl dx)⟩) fun c0 vs H5 e5 t5 hc0 hvs => ?_
      rw [← List.map_reverse] at hvs
      have hvs2 : vs = (ns.reverse.map fun i : Int => if i < 0 then -i else i).map V.int := by
        have e0 : (ns.reverse.map fun i : Int => PyData.int (if i < 0 then -i else i)) = (ns.reverse.map fun i : Int => if i < 0 then -i else i).map PyData.int := by
          rw [List.map_map]
          rfl
        rw [e0] at hvs
        exact das_ints hvs
      have h5p : H5 p = some (.dK []) := e5 _ _ upd_same
      have ne : p ≠ c0 := ne_of_none h5p hc0
      refine pairs_cc (pairs_cv rfl (pairs_cc (pairs_n ?_)))
      refine ⟨by rw [upd_ne ne]; exact h5p, srcK c0 1 m 0, rfl, by show 4 ≤ 15; decide, ?_⟩
      rw [src_merge]
      have s5 : Same H H5 := (eH.trans sp).trans e5
      refine k p c0 _ (fun b o e => ?_) (eH.free hp) (s5.free hc0) ⟨ne, _, _, _, _, upd_same, by rw [upd_ne ne.symm, upd_same, hvs2], by simp; exact hl⟩
      rw [upd_ne (ne_of_none e (eH.free hp)), upd_ne (ne_of_none e (s5.free hc0))]
      exact s5 _ _ e
abbrev mx (m : Int) : Int := if m > 1 then m else 1
def Rpick (ds : List PyData) (d : PyData) : Prop := ∃ m r : Int, ds = [.int m] ∧ d = .int r ∧ 0 ≤ r ∧ r < mx m
theorem mod_mx (a m : Int) : 0 ≤ a % mx m ∧ a % mx m < mx m := by
  have h : 0 < mx m := by
    unfold mx
    split <;> omega
  exact ⟨Int.emod_nonneg _ (by omega), Int.emod_lt_of_pos _ h⟩
theorem G_lw_pick (T : Tp K mg A) : FnG P w K mg base 1 A.a_lw_pick A.d_lw_pick ["source", "many"] (spDraw K 1 (fun ds => ∃ m : Int, ds = [.int m] ∧ m < 1000000000000000000000000000000) Rpick) := by
  refine fn_ofG T.F_lw_pick sc_lw_pick (fun vs H Q E h => spDraw_len vs H Q E h) (fun cdv A outer s0 H vs Q E hg hr h => ?_)
  obtain ⟨M, s, c, ws, ds, rfl, hsM, hcM, hS, tr, hd, hl, ⟨m, rfl, hm⟩, k⟩ := h
  cases hd with
  | cons h1 h2 =>
    cases h2
    cases h1
    have hu := hu_of hr
    have fin : ∀ r H', Kp s c H H' → Src s c H' → 0 ≤ r ∧ r < mx m → Q (.int r) H' := fun r H' kp sr hr => k (.int r) (.int r) H' kp sr (.int r) ⟨m, r, rfl, rfl, hr.1, hr.2⟩
    obtain ⟨cells0, l0, x0, t0, X0⟩ := hS.x
    refine ⟨_, (Evl.pss_cut (ps_while PassesOwn.never (PW.pt (pw_and (pt_cmpR op_gt (pv 1) pe_int (nomark _)) (pw_and (pt_cmpR op_lt (pe_dget hu (pv 0) pe_str (fun _ _ => rfl)) pe_int (nomark _)) (pw_and1 (pt_cmpR op_gt (pe_callB (call_len_k (K := K) rfl) (by rfl) T.z_len (by decide +kernel) (pa_cons (pe_dget hu (pv 0) pe_str (fun _ _ => rfl)) pa_nil)) pe_int (nomark _))))))
      (pss_one (ps_dput hu (pv 0) pe_str (pe_k (K := K) (f := fun K => tBM0 K "list" _ _) rfl (pe_bm0 PySem.F.plainAttrs_list PySem.F.slot_list_pop PySem.F.type_list_pop mt_pop (pe_dget hu (pv 0) pe_str (fun _ _ => rfl)))) rfl)))
      (pss_cons (ps_set (i := 2) sc_lw_pick.nd rfl (Or.inl rfl) (pe_dget hu (pv 0) pe_str (fun _ _ => rfl)))
      (pss_cons (ps_if (PW.pt (pw_or (pt_cmpR op_lt (pv 1) pe_int (nomark _)) (pw_or1 (pt_cmpR op_gt (pv 2) pe_int (nomark _)))))
      (pss_cons (ps_dput hu (pv 0) pe_str (pe_op op_fdivW (pv 2) (pe_callB (call_max2 rfl) (by rfl) T.z_max (by decide +kernel) (pa_cons pe_int (pa_cons (pv 1) pa_nil)))) rfl)
      (pss_one (ps_ret (pe_op op_mod (pe_callTy call_int1 (by rfl) T.z_int (by decide +kernel) (pa_cons (pv 2) pa_nil)) (pe_callB (call_max2 rfl) (by rfl) T.z_max (by decide +kernel) (pa_cons pe_int (pa_cons (pv 1) pa_nil)))))))
      pss_nil)
      (pss_cons (ps_dput hu (pv 0) pe_str (pe_op op_add (pe_dget hu (pv 0) pe_str (fun _ _ => rfl)) pe_int) rfl)
      (pss_cons (ps_set (i := 3) sc_lw_pick.nd rfl (Or.inl rfl) (pe_op op_mod (pe_callTy call_int1 (by rfl) T.z_int (by decide +kernel) (pa_cons (pe_op op_add (pe_dget hu (pv 0) pe_str (fun _ _ => rfl)) (pe_op op_mul (pe_dget hu (pv 0) pe_str (fun _ _ => rfl)) pe_int)) pa_nil)) pe_int))
      (pss_cons (ps_set (i := 3) sc_lw_pick.nd rfl (Or.inl rfl) (pe_op op_mod (pe_callTy call_int1 (by rfl) T.z_int (by decide +kernel) (pa_cons (pe_op op_add (pe_op op_mul (pv 3) (pv 3)) (pe_op op_mul (pe_dget hu (pv 0) pe_str (fun _ _ => rfl)) pe_int)) pa_nil)) pe_int))
      (pss_cons (ps_dput hu (pv 0) pe_str (pv 3) rfl)
      (pss_one (ps_ret (pe_op op_mod (pe_callTy call_int1 (by rfl) T.z_int (by decide +kernel) (pa_cons (pe_op op_fdivW (pv 3) pe_int) pa_nil)) (pv 1))))))))))), ?_⟩
    let st0 : S := [some (.ref s), some (.int m), none, none]
    refine ⟨fun σ' H' => ∃ cells l, σ' = st0 ∧ SrcX s c H' cells l x0 t0 ∧ Kp s c H H', ?_, ?_⟩
    · refine ⟨fun n σ' H' => ∃ cells l, σ' = st0 ∧ SrcX s c H' cells l x0 t0 ∧ Kp s c H H' ∧ cells.length = n, ⟨_, cells0, l0, rfl, X0, Kp.refl H, rfl⟩, ?_⟩
      rintro n σ' H1 ⟨cells, l, rfl, X1, k1, hn⟩
      refine ⟨.int m, rfl, m, 1, rfl, rfl, _, rfl, ?_⟩
      by_cases hm1 : 1 < m
      · rw [decide_eq_true hm1]
        refine iteT ?_
        refine ⟨.ref s, rfl, s, .int l, rfl, X1.gLeft, l, 2, rfl, rfl, _, rfl, ?_⟩
        by_cases hl2 : l < 2
        · rw [decide_eq_true hl2]
          refine iteT ?_
          refine ⟨.ref s, rfl, s, .ref c, rfl, X1.gCells, c, _, rfl, .inl (SqL.of X1.cs), _, 0, rfl, rfl, _, rfl, ?_⟩
          cases cells with
          | nil =>
            refine iteF ?_
            exact ⟨[], l, rfl, X1, k1⟩
          | cons x xs =>
            rw [decide_eq_true (show (0 : Int) < ((List.map V.int (x :: xs)).length : Int) by rw [List.length_map, List.length_cons]; omega)]
            refine iteT ?_
            refine ⟨fun σ' H' => ∃ cells' l', σ' = st0 ∧ SrcX s c H' cells' l' x0 t0 ∧ Kp s c H H' ∧ cells'.length < n, fun σ' H' ⟨cells', l', e, X', kk, hc⟩ => ⟨_, hc, cells', l', e, X', kk, rfl⟩, ?_⟩
            -- the last cell
            have hlast : ((x :: xs).map V.int)[((x :: xs).map V.int).length - 1]? = some (.int ((x :: xs).getLast (List.cons_ne_nil x xs))) := by
              rw [List.length_map, List.getElem?_map, ← List.getLast?_eq_getElem?, List.getLast?_eq_getLast (List.cons_ne_nil x xs)]
              rfl
            have X2 := X1.drop
            obtain ⟨H3, dp, X3, k3⟩ := X2.pLeft ((x :: xs).getLast (List.cons_ne_nil x xs))
            refine ⟨.ref s, rfl, s, .ref c, rfl, X1.gCells, .inl ⟨rfl, _, SqL.of X1.cs⟩, c, _, _, rfl, rfl, X1.cs, hlast, ?_⟩
            refine ⟨.ref s, rfl, s, H3, rfl, dp, ?_⟩
            refine ⟨_, _, rfl, X3, (k1.trans (Kp.set s c H1 _)).trans k3, ?_⟩
            rw [List.length_dropLast, List.length_cons]
            rw [List.length_cons] at hn
            omega
        · rw [decide_eq_false hl2]
          refine iteF ?_
          refine iteF ?_
          exact ⟨cells, l, rfl, X1, k1⟩
      · rw [decide_eq_false hm1]
        refine iteF ?_
        refine iteF ?_
        exact ⟨cells, l, rfl, X1, k1⟩
    · rintro σ' H1 ⟨cells, l, rfl, X1, k1⟩
      have hmx0 : 0 < mx m ∧ mx m < 1000000000000000000000000000000 := by
        unfold mx
        split <;> omega
      have hmx : CDivW l (mx m) := wide_div (b := 100) hmx0.1 (by omega) (by decide) (by decide)
      refine ⟨.ref s, rfl, s, .int l, rfl, X1.gLeft, ?_⟩
      have out : ∀ H1, SrcX s c H1 cells l x0 t0 → Kp s c H H1 → (m < 2 ∨ 1 < l) → ∃ H3, DPut H1 s (.str "left") (.int (l / mx m)) H3 ∧ Q (.int (l % mx m)) H3 := fun H1 X1 k1 _ => by
        obtain ⟨H3, dp, X3, k3⟩ := X1.pLeft (l / mx m)
        exact ⟨H3, dp, fin _ H3 (k1.trans k3) X3.src (mod_mx l m)⟩
      have go1 : ∀ (h : m < 2 ∨ 1 < l), ∃ H3, DPut H1 s (.str "left") (.int (l / mx m)) H3 ∧ Q (.int (l % mx m)) H3 := out H1 X1 k1
      refine ⟨.int m, rfl, m, 2, rfl, rfl, _, rfl, ?_⟩
      by_cases hm2 : m < 2
      · rw [decide_eq_true hm2]
        refine iteT (iteT ?_)
        obtain ⟨H3, dp, q⟩ := go1 (.inl hm2)
        exact ⟨.int l, rfl, .int m, rfl, 1, m, rfl, l, _, rfl, rfl, hmx, .ref s, rfl, s, H3, rfl, dp, .int l, rfl, .inl ⟨l, rfl, .int m, rfl, 1, m, rfl, l, _, rfl, rfl, hmx0.1, q⟩⟩
      · rw [decide_eq_false hm2]
        refine iteF ?_
        refine ⟨.int l, rfl, l, 1, rfl, rfl, _, rfl, ?_⟩
        by_cases hl1 : 1 < l
        · rw [decide_eq_true hl1]
          refine iteT ?_
          obtain ⟨H3, dp, q⟩ := go1 (.inr hl1)
          exact ⟨.int l, rfl, .int m, rfl, 1, m, rfl, l, _, rfl, rfl, hmx, .ref s, rfl, s, H3, rfl, dp, .int l, rfl, .inl ⟨l, rfl, .int m, rfl, 1, m, rfl, l, _, rfl, rfl, hmx0.1, q⟩⟩
        · rw [decide_eq_false hl1]
          refine iteF ?_
          obtain ⟨H3, dp3, X3, k3⟩ := X1.pTurn (t0 + 1)
          refine ⟨.ref s, rfl, s, .int t0, rfl, X1.gTurn, t0, 1, rfl, rfl, .ref s, rfl, s, H3, rfl, dp3, ?_⟩
          have hy : ∀ a : Int, -(2 ^ 64) < a % 998244353 ∧ a % 998244353 < 2 ^ 64 := fun a => by omega
          refine ⟨.ref s, rfl, s, .int x0, rfl, X3.gMixed, .ref s, rfl, s, .int (t0 + 1), rfl, X3.gTurn, t0 + 1, 104729, rfl, rfl, .inr ⟨by decide, by decide⟩, x0, _, rfl, rfl, .inl ⟨_, rfl, _, 998244353, rfl, rfl, by show (0 : Int) < 998244353; decide, ?_⟩⟩
          refine ⟨_, rfl, _, rfl, _, _, rfl, rfl, .inl (hy _), .ref s, rfl, s, .int (t0 + 1), rfl, X3.gTurn, t0 + 1, 17, rfl, rfl, .inr ⟨by decide, by decide⟩, _, _, rfl, rfl, .inl ⟨_, rfl, _, 2147483647, rfl, rfl, by show (0 : Int) < 2147483647; decide, ?_⟩⟩
          obtain ⟨H4, dp4, X4, k4⟩ := X3.pMixed ((((x0 + (t0 + 1) * 104729) % 998244353) * ((x0 + (t0 + 1) * 104729) % 998244353) + (t0 + 1) * 17) % 2147483647)
          refine ⟨_, rfl, .ref s, rfl, s, H4, rfl, dp4, ?_⟩
          have hmm : mx m = m := by
            unfold mx
            rw [if_pos (by omega)]
          refine ⟨_, rfl, _, 16, rfl, rfl, wide_div (b := 5) (by decide) (by decide) (by decide) (by decide), .inl ⟨_, rfl, .int m, rfl, _, m, rfl, rfl, by omega, ?_⟩⟩
          have hb := mod_mx ((((((x0 + (t0 + 1) * 104729) % 998244353) * ((x0 + (t0 + 1) * 104729) % 998244353) + (t0 + 1) * 17) % 2147483647)) / 16) m
          have q := fin _ H4 ((k1.trans k3).trans k4) X4.src hb
          rw [hmm] at q
          exact q
end
end Own

namespace Own
open PySem PySem.Spec PyProof.Rows L2 Gd Dq
section
variable {P : Program} {w : World} {K : PySem.W.Frag} {mg : Str → Option Value} {base : Heap} {A : Ads}
theorem mx_le {m : Int} (h : 1 ≤ m) : mx m = m := by
  unfold mx
  split <;> omega
def Rof (ds : List PyData) (d : PyData) : Prop := ∃ es, ds = [.list es] ∧ d ∈ es
theorem G_lw_of (T : Tp K mg A) : FnG P w K mg base 2 A.a_lw_of A.d_lw_of ["source", "some"] (spDraw K 1 (fun ds => ∃ es, ds = [.list es] ∧ 1 ≤ es.length ∧ es.length ≤ 1000) Rof) := by
  refine fn_ofG T.F_lw_of sc_lw_of (fun vs H Q E h => spDraw_len vs H Q E h) (fun cdv A outer s0 H vs Q E hg hr h => ?_)
  obtain ⟨M, s, c, ws, ds, rfl, hsM, hcM, hS, tr, hd, hl, ⟨es, rfl, h1, h2⟩, k⟩ := h
  cases hd with
  | @cons v1 _ _ _ g1 g2 =>
    cases g2
    refine ⟨_, (pss_one (ps_ret (pe_ix (ix_list_k (K := K) rfl) (pv 1) (pe_callG (FnG.mono (G_lw_pick T) (by decide)) hg hr (by rfl) T.g_lw_pick T.F_lw_pick.kp T.b_lw_pick .nil (pa_cons (pv 0) (pa_cons (pe_callB (call_len_k (K := K) rfl) (by rfl) T.z_len (by decide +kernel) (pa_cons (pv 1) pa_nil)) pa_nil))) (fun _ _ => rfl)))), ?_⟩
    refine dr_use (K := K) (P := fun d => d ∈ es) hsM hcM tr hS (dr_opl (P1 := fun d => d = .list es) hsM hcM (dr_ev (ev_var rfl g1) rfl) fun M1 H1 x d go1 S1 dx hd => ?_) fun v d H' k2 S2 go2 dv hd => k v d H' k2 S2 dv ⟨es, rfl, hd⟩
    subst hd
    refine dr_opr (go1.sub s hsM) (go1.sub c hcM) (dr_call (n := 1) (i := 0) (go1.sub s hsM) (go1.sub c hcM) rfl (ea_cons (ev_len (d := .list es) (ev_var rfl (dm_go g1 go1)) (.inl rfl)) ea_nil) rfl ⟨_, rfl, by omega⟩) fun M2 H2 y e go2 S2 dy hy => ?_
    obtain ⟨m, r, e1, rfl, h3, h4⟩ := hy
    cases e1
    rw [mx_le (by omega)] at h4
    obtain ⟨j, rfl⟩ : ∃ j : Nat, r = (j : Int) := ⟨r.toNat, by omega⟩
    have hj : j < es.length := by omega
    exact dr_ev (d := es[j]) (ev_ixL (ds := es) (ev_val (dm_go dx go2)) (ev_val dy) (atI_nat (by simp [hj]))) (List.getElem_mem hj)
def Rmixed (ds : List PyData) (d : PyData) : Prop := ∃ es fs, ds = [.list es] ∧ d = .list fs ∧ fs.Perm es
theorem seqIx {r : Int} {n : Nat} (h0 : 0 ≤ r) (h : r < n) : seqIndex? r n = some r.toNat := by
  unfold seqIndex?
  first
    | (simp; omega)
    | (split <;> first | rfl | omega)
theorem G_lw_mixed (T : Tp K mg A) : FnG P w K mg base 2 A.a_lw_mixed A.d_lw_mixed ["source", "things"] (spDraw K 1 (fun ds => ∃ es, ds = [.list es] ∧ es.length ≤ 1000) Rmixed) := by
  refine fn_ofG T.F_lw_mixed sc_lw_mixed (fun vs H Q E h => spDraw_len vs H Q E h) (fun cdv A outer s0 H vs Q E hg hr h => ?_)
  obtain ⟨M, s, c, ws, ds, rfl, hsM, hcM, hS, tr, hd, hl, ⟨es, rfl, h2⟩, k⟩ := h
  cases hd with
  | @cons v1 _ _ _ g1 g2 =>
    cases g2
    refine ⟨_, (pss_cons (ps_set (i := 2) sc_lw_mixed.nd rfl (Or.inr rfl) (pe_callTy (call_list_k (K := K) rfl) (by rfl) T.z_list (by decide +kernel) (pa_cons (pv 1) pa_nil)))
      (pss_one (ps_ret (pe_lc (own := [("lap", 3)]) (g := gName 3) (tt := tYes) rfl sc_lw_mixed.nd (pi_range1 (by rfl) T.z_range (pa_cons (pe_callB (call_len_k (K := K) rfl) (by rfl) T.z_len (by decide +kernel) (pa_cons (pv 2) pa_nil)) pa_nil)) (blkOk_by (N := ["source", "things", "rest", "lap"]) (sc := defScope s_lw_mixed) (by decide +kernel)) (fun _ _ _ _ _ => (pg_name (i := 3) sc_lw_mixed.nd rfl (Or.inl rfl))) (fun _ _ _ _ _ => pts_nil) (fun _ _ _ _ _ => (pe_k (K := K) (f := fun K => tBM K "list" _ _ _) rfl (pe_bm PySem.F.plainAttrs_list PySem.F.slot_list_pop PySem.F.type_list_pop mt_popAt (pv 2) (pa_cons (pe_callG (FnG.mono (G_lw_pick T) (by decide)) hg hr (by rfl) T.g_lw_pick T.F_lw_pick.kp T.b_lw_pick .nil (pa_cons (pv 0) (pa_cons (pe_callB (call_len_k (K := K) rfl) (by rfl) T.z_len (by decide +kernel) (pa_cons (pv 2) pa_nil)) pa_nil))) pa_nil)))))))), ?_⟩
    refine q_asg0 (listOf_new (K := K) tr (ev_var rfl g1) (.inl rfl) fun r vs H1 e1 t1 hrn dvs => ?_)
    have go1 : Go M H (r :: M) (upd H1 r (.lst vs)) := ((Go.refl tr).same e1).trans (go_mut t1 hrn)
    have hlen := dvs.length
    refine ⟨.ref r, rfl, r, vs, rfl, .inl (SqL.of upd_same), (vs.length : Int), rfl, by omega, by omega, fun D hD => ?_⟩
    have hDr : D ≠ r := fun z => by rw [z, upd_same] at hD; cases hD
    have hDs : D ≠ s := fun z => by
      have := go1.tr s (go1.sub s hsM)
      rw [z] at hD
      exact this hD
    have hDc : D ≠ c := fun z => by
      have := go1.tr c (go1.sub c hcM)
      rw [z] at hD
      exact this hD
    have go2 : Go M H (D :: r :: M) (upd (upd H1 r (.lst vs)) D (.lst [])) := go1.trans (go_mut go1.tr hD)
    have hrs : r ≠ s := fun z => by
      have := (hS.same e1).nn.1
      rw [z] at hrn
      exact this hrn
    have hrc : r ≠ c := fun z => by
      have := (hS.same e1).nn.2
      rw [z] at hrn
      exact this hrn
    have hnM : D ∉ M := fun z => (go1.tr D (go1.sub D z)) hD
    have hrM : r ∉ M := fun z => t1 r z hrn
    have S2 : Src s c (upd (upd H1 r (.lst vs)) D (.lst [])) := (hS.same e1).same ((same_new hrn).trans (same_new hD))
    refine lc_range (lo := 0) (n := ((vs.length : Int)).toNat) (fun i H' => Src s c H' ∧ Go M H (D :: r :: M) H' ∧ Kp s c H H' ∧ ∃ acc rem d1 d2, H' D = some (.lst acc) ∧ H' r = some (.lst rem) ∧ Dms K (D :: r :: M) H' acc d1 ∧ Dms K (D :: r :: M) H' rem d2 ∧ (d1 ++ d2).Perm es ∧ d1.length = i ∧ d1.length + d2.length = es.length)
      ⟨S2, go2, fun b o hb1 hb2 e => ?_, [], vs, [], es, upd_same, ?_, .nil, dms_go dvs ((go_mut t1 hrn).trans (go_mut go1.tr hD)), List.Perm.refl _, rfl, by simp⟩ (fun i H' hi p => ?_) (fun H' p => ?_)
    · exact (e1.trans ((same_new hrn).trans (same_new hD))) _ _ e
    · rw [upd_ne (Ne.symm hDr), upd_same]
    · obtain ⟨S3, go3, kp3, acc, rem, d1, d2, hd1, hd2, dd1, dd2, hp, hi1, hi2⟩ := p
      refine ⟨rfl, ?_⟩
      dsimp only [tYes]
      refine iteT ?_
      refine ⟨.ref r, rfl, .inl ⟨rfl, _, SqL.of hd2⟩, ?_⟩
      have hrl := dd2.length
      have hil : i < es.length := by rw [← hlen]; omega
      refine ⟨.ref s, rfl, .ref r, rfl, r, rem, rfl, .inl (SqL.of hd2), ?_⟩
      refine ⟨D :: r :: M, s, c, [.int rem.length], [.int rem.length], rfl, go3.sub s hsM, go3.sub c hcM, S3, go3.tr, .cons (.int _) .nil, rfl, ⟨_, rfl, by omega⟩, ?_⟩
      rintro v d H4 k4 S4 dv ⟨m, x, e0, rfl, hx0, hx1⟩
      cases e0
      cases dv
      rw [mx_le (by omega)] at hx1
      have go4 : Go (D :: r :: M) H' (D :: r :: M) H4 := go_kp (go3.sub s hsM) (go3.sub c hcM) go3.tr k4 S4
      have h4r : H4 r = some (.lst rem) := k4 _ _ hrs hrc hd2
      have h4D : H4 D = some (.lst acc) := k4 _ _ hDs hDc hd1
      have hxr : x.toNat < rem.length := by omega
      have go5 := go_set (o := .lst (rem.eraseIdx x.toNat)) go4.tr (List.mem_cons_of_mem D (List.mem_cons_self (a := r) (l := M)))
      refine ⟨r, rem, x, x.toNat, rem[x.toNat], rfl, rfl, h4r, by omega, by omega, seqIx hx0 hx1, List.getElem?_eq_getElem hxr, acc, ?_, ?_, ?_⟩
      · rw [upd_ne hDr]; exact h4D
      · have := dd1.length
        rw [sizeLine_eq]
        omega
      · have go6 := go_set (o := .lst (acc ++ [rem[x.toNat]])) go5.tr (List.mem_cons_self (a := D) (l := r :: M))
        have g46 := (go4.trans go5).trans go6
        have hxd : x.toNat < d2.length := by omega
        refine ⟨?_, go3.trans g46, ?_, acc ++ [rem[x.toNat]], rem.eraseIdx x.toNat, d1 ++ [d2[x.toNat]], d2.eraseIdx x.toNat, upd_same, ?_, ?_, ?_, ?_, ?_, ?_⟩
        · obtain ⟨h0, cl, l, mm, tt, q1, q2, q3⟩ := S4
          exact ⟨h0, cl, l, mm, tt, by rw [upd_ne (Ne.symm hDs), upd_ne (Ne.symm hrs)]; exact q1, by rw [upd_ne (Ne.symm hDc), upd_ne (Ne.symm hrc)]; exact q2, q3⟩
        · intro b o hb1 hb2 e
          have hbD : b ≠ D := fun z => by
            have q := (e1.trans (same_new (o := .lst vs) hrn)) b o e
            rw [z, hD] at q
            cases q
          have hbr : b ≠ r := ne_of_none (e1 _ _ e) hrn
          rw [upd_ne hbD, upd_ne hbr]
          exact k4 _ _ hb1 hb2 (kp3 _ _ hb1 hb2 e)
        · rw [upd_ne (Ne.symm hDr), upd_same]
        · obtain ⟨d, q1, q2⟩ := dd2.getV (List.getElem?_eq_getElem hxr)
          rw [List.getElem?_eq_getElem hxd] at q1
          cases q1
          exact (dms_go dd1 g46).append (.cons (dm_go q2 g46) .nil)
        · have q : Dms K (D :: r :: M) _ rem d2 := dms_go dd2 g46
          have e1 : rem.eraseIdx x.toNat = rem.take x.toNat ++ rem.drop (x.toNat + 1) := List.eraseIdx_eq_take_drop_succ ..
          have e2 : d2.eraseIdx x.toNat = d2.take x.toNat ++ d2.drop (x.toNat + 1) := List.eraseIdx_eq_take_drop_succ ..
          have q2 := (q.take x.toNat).append (q.drop (x.toNat + 1))
          rw [← e1, ← e2] at q2
          exact q2
        · refine List.Perm.trans ?_ hp
          have e2 : d2.eraseIdx x.toNat = d2.take x.toNat ++ d2.drop (x.toNat + 1) := List.eraseIdx_eq_take_drop_succ ..
          have e3 : d2 = d2.take x.toNat ++ d2[x.toNat] :: d2.drop (x.toNat + 1) := by
            rw [List.getElem_cons_drop, List.take_append_drop]
          rw [List.append_assoc, e2]
          refine List.Perm.append_left d1 ?_
          have e4 : ([d2[x.toNat]] ++ (d2.take x.toNat ++ d2.drop (x.toNat + 1))).Perm (d2.take x.toNat ++ d2[x.toNat] :: d2.drop (x.toNat + 1)) := by
            rw [List.singleton_append]
            exact List.perm_middle.symm
          rw [← e3] at e4
          exact e4
        · rw [List.length_append, hi1]
          rfl
        · rw [List.length_append, List.length_eraseIdx, if_pos hxd]
          show d1.length + 1 + (d2.length - 1) = es.length
          omega
    · obtain ⟨S3, go3, kp3, acc, rem, d1, d2, hd1, hd2, dd1, dd2, hp, hi1, hi2⟩ := p
      have hz : d2 = [] := List.eq_nil_of_length_eq_zero (by omega)
      subst hz
      rw [List.append_nil] at hp
      refine k (.ref D) (.list d1) H' kp3 S3 (.lst (xs := acc) ?_ ?_) ⟨es, d1, rfl, rfl, hp⟩
      · rw [mn_out hnM]
        exact hd1
      · refine Das.same (fun b o hb => ?_) _ _ dd1
        obtain ⟨q1, q2⟩ := mn_some hb
        rw [mn_out (fun z => q1 (List.mem_cons_of_mem _ (List.mem_cons_of_mem _ z)))]
        exact q2
end
end Own

namespace Own
open PySem PySem.Spec PyProof.Rows L2 Gd Dq
section
variable {P : Program} {w : World} {K : PySem.W.Frag} {mg : Str → Option Value} {base : Heap} {A : Ads}
theorem shp_ones {α : Type} (xs : List α) : SeqAt.shaped (.list (xs.map fun _ => PyData.int 1)) = true := by
  refine Fit.shaped (n := 1) (k := xs.length * 21) ?_ (by decide)
  have h := Fit.list (n := 0) (k := 20) (ds := xs.map fun _ => PyData.int 1) fun d hd => by
    obtain ⟨a, _, rfl⟩ := List.mem_map.mp hd
    exact Fit.nat (by decide) (by decide)
  rw [List.length_map] at h
  exact h
theorem shp_nil : SeqAt.shaped (.list []) = true := rfl
def Rkeeps (ds : List PyData) (d : PyData) : Prop := ∃ s xs, okS (List.length xs) s ∧ s.ties.length ≤ 1000 ∧ ds = [dS s, dI xs] ∧ d = .bool (keepS s xs)
theorem filt_empty {α : Type} (p : α → Bool) : ∀ l : List α, (!(l.filter p).isEmpty) = l.any p
  | [] => rfl
  | a :: l => by
    rw [List.filter_cons, List.any_cons]
    cases h : p a with
    | true => rfl
    | false =>
      rw [if_neg Bool.false_ne_true]
      exact filt_empty p l
theorem G_lw_keeps (T : Tp K mg A) : FnG P w K mg base 1 A.a_lw_keeps A.d_lw_keeps ["saying", "placing"] (spPure K 2 Rkeeps) := by
  refine fn_ofG T.F_lw_keeps sc_lw_keeps (fun vs H Q E h => spPure_len vs H Q E h) (fun cdv A outer s H vs Q E hg hr h => ?_)
  obtain ⟨M, ds, d, tr, hd, hl, ⟨sy, xs, ok, hz, rfl, rfl⟩, k⟩ := h
  cases hd with
  | @cons v1 _ _ _ h1 h2 =>
    cases h2 with
    | @cons v2 _ _ _ h2 h3 =>
      cases h3
      refine ⟨_, (pss_cons (ps_asg (pv 0) (pg_tup rfl (pgs_cons (pg_name (i := 2) sc_lw_keeps.nd rfl (Or.inl rfl)) (pgs_cons (pg_name (i := 3) sc_lw_keeps.nd rfl (Or.inl rfl)) pgs_nil))))
      (pss_cons (ps_if (pt_cmpR (op_ne_k (K := K) rfl hr.units) (pe_lc (own := [("a", 4), ("b", 5)]) (g := gTup K 2 (gCons (gName 4) (gCons (gName 5) (gNil)))) rfl sc_lw_keeps.nd (pi_tup_k (K := K) rfl (pv 2)) (blkOk_by (N := ["saying", "placing", "ties", "head", "a", "b"]) (sc := defScope s_lw_keeps) (by decide +kernel)) (fun _ _ _ _ _ => (pg_tup rfl (pgs_cons (pg_name (i := 4) sc_lw_keeps.nd rfl (Or.inl rfl)) (pgs_cons (pg_name (i := 5) sc_lw_keeps.nd rfl (Or.inl rfl)) pgs_nil)))) (fun _ _ _ _ _ => (pts_one (pt_cmpR (op_ne_k (K := K) rfl hr.units) (pe_ix (ix_tup_k (K := K) rfl) (pv 1) (pv 4) (fun _ _ => rfl)) (pe_ix (ix_tup_k (K := K) rfl) (pv 1) (pv 5) (fun _ _ => rfl)) (nomark _)))) (fun _ _ _ _ _ => pe_int)) (pe_lst pa_nil) (nomark _))
      (pss_one (ps_ret pe_bl))
      pss_nil)
      (pss_one (ps_ret (pe_and (pe_cmp (pc_notN (pv 3))) (pe_one (pe_cmpR op_le (pe_ix (ix_tup_k (K := K) rfl) (pv 1) (pe_ix (ix_tup_k (K := K) rfl) (pv 3) pe_int (fun _ _ => rfl)) (fun _ _ => rfl)) (pe_ix (ix_tup_k (K := K) rfl) (pv 1) (pe_ix (ix_tup_k (K := K) rfl) (pv 3) pe_int (fun _ _ => rfl)) (fun _ _ => rfl)) (nomark _)))))))), ?_⟩
      refine q_unp tr (ev_var rfl h1) fun v w H1 e1 t1 d1 d2 => ?_
      have pl1 := dm_same h2 tr e1
      refine q_if t1 (eb_test (ev_neD (ev_lcT (enc := dP) (xs := sy.ties) (fun p => !PyData.eqv (.int (ix xs p.1)) (.int (ix xs p.2))) (fun _ => .int 1) (wk_tupT (ev_var rfl d1)) (by omega)
        fun M' H' a x g ha dx => ?_) (ev_lst ea_nil (sz 0)) (shp_ones _) shp_nil)) (fun hb H2 e2 t2 => ?_) (fun hb H2 e2 t2 => ?_)
      · obtain ⟨va, vb, tk, da, db⟩ := tk_pair (i := 4) (j := 5) (σ0 := [some v1, some v2, some v, some w, none, none]) dx
        have hp := ok.1 _ ha
        have pl := dm_go pl1 g
        exact ⟨_, tk, rfl, eb_test (ev_neD (ev_ixT (ev_var rfl pl) (ev_var rfl da) (at_ix hp.1)) (ev_ixT (ev_var rfl pl) (ev_var rfl db) (at_ix hp.2)) (shp_int _) (shp_int _)), fun _ => ev_int⟩
      · refine s_ret (K := K) t2 ev_bl fun v H3 e3 t3 d3 => ?_
        refine k v H3 ((e1.trans e2).trans e3) ?_
        have hk : keepS sy xs = true := by
          unfold keepS
          rw [eqv_nil, List.isEmpty_map, filt_empty] at hb
          have hb2 : (sy.ties.any fun p => ix xs p.1 != ix xs p.2) = true := by
            simp only [eqv_int] at hb
            exact hb
          rw [hb2]
          rfl
        rw [hk]
        exact d3
      · have hb2 : (sy.ties.any fun p => ix xs p.1 != ix xs p.2) = false := by
          rw [eqv_nil, List.isEmpty_map, filt_empty] at hb
          simp only [eqv_int] at hb
          exact hb
        have d2' := dm_same d2 t1 e2
        have pl2 := dm_same pl1 t1 e2
        cases hh : sy.head with
        | none =>
          rw [hh] at d2'
          refine s_ret t2 (ev_andV (b := true) (ev_notN (ev_var rfl d2')) (fun z => nomatch z)) fun v H3 e3 t3 d3 => ?_
          refine k v H3 ((e1.trans e2).trans e3) ?_
          have hk : keepS sy xs = false := by unfold keepS; rw [hb2, hh]; rfl
          rw [hk]
          exact d3
        | some q =>
          rw [hh] at d2'
          have hq := ok.2 q hh
          refine s_ret t2 (ev_andV (ev_notN (ev_var rfl d2')) (fun _ => ev_B0 (ev_ixT (ev_var rfl pl2) (ev_ixT (ev_var rfl d2') ev_int (atI_nat (j := 0) rfl)) (at_ix hq.1)) (ev_ixT (ev_var rfl pl2) (ev_ixT (ev_var rfl d2') ev_int (atI_nat (j := 1) rfl)) (at_ix hq.2)))) fun v H3 e3 t3 d3 => ?_
          refine k v H3 ((e1.trans e2).trans e3) ?_
          have hk : keepS sy xs = decide (ix xs q.1 ≤ ix xs q.2) := by unfold keepS; rw [hb2, hh]; rfl
          rw [hk]
          exact d3
end
end Own

namespace Own
open PySem PySem.Spec PyProof.Rows L2 Gd Dq
section
variable {P : Program} {w : World} {K : PySem.W.Frag} {mg : Str → Option Value} {base : Heap} {A : Ads}
theorem ints_of {p : Int → Prop} : ∀ {ds : List PyData}, (∀ (i : Nat) (e : PyData), ds[i]? = some e → ∃ x : Int, e = PyData.int x ∧ p x) → ∃ xs : List Int, ds = xs.map PyData.int ∧ ∀ x ∈ xs, p x
  | [], _ => ⟨[], rfl, fun _ h => nomatch h⟩
  | d :: ds, h => by
    obtain ⟨x, rfl, hx⟩ := h 0 d rfl
    obtain ⟨xs, rfl, hxs⟩ := ints_of (ds := ds) fun i e he => h (i + 1) e he
    exact ⟨x :: xs, rfl, fun y hy => by
      rcases List.mem_cons.mp hy with rfl | hy
      · exact hx
      · exact hxs y hy⟩
def Rplacing (ds : List PyData) (d : PyData) : Prop := ∃ (n : Int) (xs : List Int), ds = [.int n] ∧ d = dI xs ∧ (xs.length : Int) = n ∧ ∀ x ∈ xs, -100000000 ≤ x ∧ x ≤ 100000000
theorem G_lw_draw_placing (T : Tp K mg A) : FnG P w K mg base 3 A.a_lw_draw_placing A.d_lw_draw_placing ["source", "n"] (spDraw K 1 (fun ds => ∃ n : Int, ds = [.int n] ∧ 0 ≤ n ∧ n ≤ 100) Rplacing) := by
  refine fn_ofG T.F_lw_draw_placing sc_lw_draw_placing (fun vs H Q E h => spDraw_len vs H Q E h) (fun cdv A outer s0 H vs Q E hg hr h => ?_)
  obtain ⟨M, s, c, ws, ds, rfl, hsM, hcM, hS, tr, hd, hl, ⟨n, rfl, h1, h2⟩, k⟩ := h
  cases hd with
  | @cons v1 _ _ _ g1 g2 =>
    cases g2
    refine ⟨_, (pss_cons (ps_set (i := 2) sc_lw_draw_placing.nd rfl (Or.inr rfl) (pe_callG (FnG.mono (G_lw_of T) (by decide)) hg hr (by rfl) T.g_lw_of T.F_lw_of.kp T.b_lw_of .nil (pa_cons (pv 0) (pa_cons (pe_lst (pa_cons pe_int (pa_cons pe_int (pa_cons (pe_op op_add (pv 1) pe_int) (pa_cons (pe_op op_pow pe_int pe_int) pa_nil))))) pa_nil))))
      (pss_one (ps_ret (pe_callTy (call_tup_k (K := K) rfl) (by rfl) T.z_tuple (by decide +kernel) (pa_cons (pe_lc (own := [("moment", 3)]) (g := gName 3) (tt := tYes) rfl sc_lw_draw_placing.nd (pi_range1 (by rfl) T.z_range (pa_cons (pv 1) pa_nil)) (blkOk_by (N := ["source", "n", "most", "moment"]) (sc := defScope s_lw_draw_placing) (by decide +kernel)) (fun _ _ _ _ _ => (pg_name (i := 3) sc_lw_draw_placing.nd rfl (Or.inl rfl))) (fun _ _ _ _ _ => pts_nil) (fun _ _ _ _ _ => (pe_op op_sub (pe_callG (FnG.mono (G_lw_pick T) (by decide)) hg hr (by rfl) T.g_lw_pick T.F_lw_pick.kp T.b_lw_pick .nil (pa_cons (pv 0) (pa_cons (pv 2) pa_nil))) (pe_op op_fdiv (pv 2) pe_int)))) pa_nil))))), ?_⟩
    refine d_asg (K := K) (P := fun d => ∃ mo : Int, d = .int mo ∧ 0 ≤ mo ∧ mo ≤ 100000000) hsM hcM tr hS (Dr.imp (dr_call (n := 1) (i := 0) hsM hcM rfl (ea_cons (ev_lst (ea_cons ev_int (ea_cons ev_int (ea_cons (ev_I0 (ev_var rfl g1) ev_int) (ea_cons (ev_I ev_int ev_int ⟨by decide, by decide, by decide⟩) ea_nil)))) (sz 4)) ea_nil) rfl ⟨_, rfl, by show 1 ≤ 4; decide, by show 4 ≤ 1000; decide⟩) fun d hd => ?_) fun v d H1 k1 S1 go1 dv hd => ?_
    · obtain ⟨es, e0, hm⟩ := hd
      cases e0
      simp only [List.mem_cons, List.not_mem_nil, or_false] at hm
      rcases hm with rfl | rfl | rfl | rfl
      · exact ⟨2, rfl, by decide, by decide⟩
      · exact ⟨3, rfl, by decide, by decide⟩
      · exact ⟨n + 1, rfl, by omega, by omega⟩
      · exact ⟨10 ^ 8, rfl, by decide, by decide⟩
    · obtain ⟨mo, rfl, hm0, hm1⟩ := hd
      cases dv
      have wk := wk_rng1 (K := K) (M := M) (H := H1) (σ := [some (.ref s), some v1, some (.int mo), none]) (as := tCons (tVar 1) tNil) (ea_cons (ev_var rfl (dm_go g1 go1)) ea_nil) (by omega) (by omega)
      refine d_ret (K := K) hsM hcM go1.tr S1 (dr_cb (P := fun d => ∃ xs : List Int, d = dI xs ∧ (xs.length : Int) = n ∧ ∀ x ∈ xs, -100000000 ≤ x ∧ x ≤ 100000000) hsM hcM (dr_lc (fun _ e => ∃ x : Int, e = .int x ∧ -100000000 ≤ x ∧ x ≤ 100000000) hsM hcM wk (by omega) fun M' H' i x g hi dx => ⟨_, tk_name, rfl, ?_⟩) fun M' H' x d g S' dx hd => ?_) fun v d H2 k2 S2 go2 dv hd => ?_
      · refine dr_opl (g.sub s hsM) (g.sub c hcM) (dr_call (n := 1) (i := 0) (g.sub s hsM) (g.sub c hcM) rfl (ea_cons (ev_var rfl (.int mo)) ea_nil) rfl ⟨mo, rfl, by omega⟩) fun M2 H2 y e g2 S2 dy hy => ?_
        obtain ⟨m, r, e0, rfl, hr0, hr1⟩ := hy
        cases e0
        refine dr_ev (ev_I0 (ev_val dy) (ev_I (ev_var rfl (.int mo)) ev_int ⟨by decide, by decide⟩)) ⟨_, rfl, ?_, ?_⟩
        · omega
        · have hx : mx mo ≤ 100000000 := by
            unfold mx
            split <;> omega
          omega
      · obtain ⟨es, rfl, hel, hes⟩ := hd
        obtain ⟨xs, rfl, hxs⟩ := ints_of hes
        rw [List.length_map] at hel
        exact dr_ev (ev_tupOf (ev_val dx) (.inl rfl)) ⟨xs, rfl, by omega, hxs⟩
      · obtain ⟨xs, rfl, hxl, hxs⟩ := hd
        exact k v (dI xs) H2 (k1.trans k2) S2 dv ⟨n, xs, rfl, rfl, hxl, hxs⟩
theorem rg_mem {n : Int} {d : PyData} (h : d ∈ rgD n) : ∃ x : Int, d = .int x ∧ 0 ≤ x ∧ x < n := by
  unfold rgD at h
  obtain ⟨i, hi, rfl⟩ := List.mem_map.mp h
  have := List.mem_range.mp hi
  exact ⟨(i : Nat), rfl, by omega, by omega⟩
theorem rg_len (n : Int) : (rgD n).length = n.toNat := by
  unfold rgD
  rw [List.length_map, List.length_range]
/-- the first two of some arrangement of the moments -/
theorem two_of {n : Int} {fs : List PyData} (hp : fs.Perm (rgD n)) (h2 : 2 ≤ n) : ∃ a b : Int, cutPd fs none (some 2) = [.int a, .int b] ∧ okP n (a, b) := by
  have hl : fs.length = n.toNat := by rw [hp.length_eq, rg_len]
  have hm : ∀ d ∈ fs, ∃ x : Int, d = .int x ∧ 0 ≤ x ∧ x < n := fun d hd => rg_mem (hp.mem_iff.mp hd)
  match fs, hl, hm with
  | [], hl, _ => simp at hl; omega
  | [_], hl, _ => simp at hl; omega
  | d1 :: d2 :: r, hl, hm =>
    obtain ⟨a, rfl, ha⟩ := hm d1 (by simp)
    obtain ⟨b, rfl, hb⟩ := hm d2 (by simp)
    refine ⟨a, b, ?_, ha, hb⟩
    unfold cutPd
    have e1 : HT.sIx (PyData.int a :: .int b :: r).length 0 none = 0 := rfl
    have e2 : HT.sIx (PyData.int a :: .int b :: r).length (PyData.int a :: .int b :: r).length (some 2) = 2 := by
      rw [show (some (2 : Int)) = some ((2 : Nat) : Int) from rfl, HT.sIx_nat, List.length_cons, List.length_cons]
      omega
    rw [e1, e2]
    rfl
theorem dP_eq (p : Int × Int) : dP p = .tuple [.int p.1, .int p.2] := rfl
theorem fit_dP {n : Int} {p : Int × Int} (h : okP n p) (hn : n ≤ 1000) : Fit 1 42 (dP p) := by
  have := Fit.tuple (n := 0) (k := 20) (ds := [PyData.int p.1, .int p.2]) fun d hd => by
    simp only [List.mem_cons, List.not_mem_nil, or_false] at hd
    obtain ⟨⟨h1, h2⟩, h3, h4⟩ := h
    rcases hd with rfl | rfl
    · exact Fit.nat h1 (by omega)
    · exact Fit.nat h3 (by omega)
  exact this
theorem fit_ties {n : Int} {ts : List (Int × Int)} (h : ∀ p ∈ ts, okP n p) (hn : n ≤ 1000) : Fit 2 (ts.length * 43) (.list (ts.map dP)) := by
  have := Fit.list (n := 1) (k := 42) (ds := ts.map dP) fun d hd => by
    obtain ⟨p, hp, rfl⟩ := List.mem_map.mp hd
    exact fit_dP (h p hp) hn
  rw [List.length_map] at this
  exact this
def Rsaying (ds : List PyData) (d : PyData) : Prop := ∃ (n m : Int) (sy : Sy), ds = [.int n, .int m] ∧ d = dS sy ∧ okS n sy ∧ (sy.ties.length : Int) ≤ m + 1
theorem G_lw_draw_saying (T : Tp K mg A) : FnG P w K mg base 3 A.a_lw_draw_saying A.d_lw_draw_saying ["source", "n", "most"] (spDraw K 2 (fun ds => ∃ n m : Int, ds = [.int n, .int m] ∧ 2 ≤ n ∧ n ≤ 60 ∧ 0 ≤ m ∧ m ≤ 60) Rsaying) := by
  refine fn_ofG T.F_lw_draw_saying sc_lw_draw_saying (fun vs H Q E h => spDraw_len vs H Q E h) (fun cdv A outer s0 H vs Q E hg hr h => ?_)
  obtain ⟨M, s, c, ws, ds, rfl, hsM, hcM, hS, tr, hd, hl, ⟨n, m, rfl, h1, h2, h3, h4⟩, k⟩ := h
  cases hd with
  | cons g1 g2 =>
    cases g2 with
    | cons g2 g3 =>
      cases g3
      cases g1
      cases g2
      refine ⟨_, (pss_cons (ps_par (i := 3) (j := 4) rfl sc_lw_draw_saying.nd rfl rfl (by decide) rfl rfl (pa_cons (pe_lst pa_nil) (pa_cons (pe_slice (sl_list_k (K := K) rfl) (pe_callG (FnG.mono (G_lw_mixed T) (by decide)) hg hr (by rfl) T.g_lw_mixed T.F_lw_mixed.kp T.b_lw_mixed .nil (pa_cons (pv 0) (pa_cons (pe_listRg rfl (by rfl) T.z_list (prg_1 (by rfl) T.z_range (pv 1))) pa_nil))) po_none (po_some pe_int)) pa_nil)) (by rfl))
      (pss_cons (ps_for PassesOwn.never rfl (pi_range1 (by rfl) T.z_range (pa_cons (pe_callG (FnG.mono (G_lw_of T) (by decide)) hg hr (by rfl) T.g_lw_of T.F_lw_of.kp T.b_lw_of .nil (pa_cons (pv 0) (pa_cons (pe_lst (pa_cons pe_int (pa_cons pe_int (pa_cons pe_int (pa_cons (pe_callG (FnG.mono (G_lw_pick T) (by decide)) hg hr (by rfl) T.g_lw_pick T.F_lw_pick.kp T.b_lw_pick .nil (pa_cons (pv 0) (pa_cons (pe_op op_add (pv 2) pe_int) pa_nil))) pa_nil))))) pa_nil))) pa_nil)) (pg_name (i := 5) sc_lw_draw_saying.nd rfl (Or.inl rfl))
      (pss_cons (ps_set (i := 6) sc_lw_draw_saying.nd rfl (Or.inl rfl) (pe_callTy (call_tup_k (K := K) rfl) (by rfl) T.z_tuple (by decide +kernel) (pa_cons (pe_callB (cr_sorted_k (K := K) rfl) (by rfl) T.z_sorted (by decide +kernel) (pa_cons (pe_slice (sl_list_k (K := K) rfl) (pe_callG (FnG.mono (G_lw_mixed T) (by decide)) hg hr (by rfl) T.g_lw_mixed T.F_lw_mixed.kp T.b_lw_mixed .nil (pa_cons (pv 0) (pa_cons (pe_listRg rfl (by rfl) T.z_list (prg_1 (by rfl) T.z_range (pv 1))) pa_nil))) po_none (po_some pe_int)) pa_nil)) pa_nil)))
      (pss_one (ps_set (i := 3) sc_lw_draw_saying.nd rfl (Or.inl rfl) (pe_op op_cat (pv 3) (pe_op op_rep (pe_lst (pa_cons (pv 6) pa_nil)) (pe_callTy call_int1 (by rfl) T.z_int (by decide +kernel) (pa_cons (pe_cmpR (op_notIn_k (K := K) rfl hr.units65) (pv 6) (pv 3) (by rfl)) pa_nil))))))))
      (pss_one (ps_ret (pe_tup (pa_cons (pe_callTy (call_tup_k (K := K) rfl) (by rfl) T.z_tuple (by decide +kernel) (pa_cons (pe_callB (cr_sortedQ (K := K) rfl) (by rfl) T.z_sorted (by decide +kernel) (pa_cons (pv 3) pa_nil)) pa_nil)) (pa_cons (pe_ifExp (pt_cmpR op_gt (pe_callG (FnG.mono (G_lw_pick T) (by decide)) hg hr (by rfl) T.g_lw_pick T.F_lw_pick.kp T.b_lw_pick .nil (pa_cons (pv 0) (pa_cons pe_int pa_nil))) pe_int (nomark _)) (pe_callTy (call_tup_k (K := K) rfl) (by rfl) T.z_tuple (by decide +kernel) (pa_cons (pv 4) pa_nil)) pe_non) pa_nil))))))), ?_⟩
      -- two moments out of a mixed row
      have two : ∀ {M' H'} {σ : S}, Go M H M' H' → σ[0]? = some (some (.ref s)) → σ[1]? = some (some (.int n)) → Dr K s c M' (tSl (rSlL K) (tCall (spDraw K 1 (fun ds => ∃ es, ds = [.list es] ∧ es.length ≤ 1000) Rmixed) [] E0 (tCons (tVar 0) (tCons (tLstRg (tRg1 (tVar 1))) tNil))) tNoPart (tPart (tC (.int 2)))) σ H' fun d => ∃ a b : Int, d = .list [.int a, .int b] ∧ okP n (a, b) := by
        intro M' H' σ g e0 e1
        refine dr_sl (g.sub s hsM) (g.sub c hcM) (dr_call (n := 1) (i := 0) (g.sub s hsM) (g.sub c hcM) e0 (ea_cons (ev_listRg (ev_var e1 (.int n)) (by omega) (by omega)) ea_nil) rfl ⟨_, rfl, by rw [rg_len]; omega⟩) fun M2 H2 x d g2 S2 dx hd => ?_
        obtain ⟨es, fs, q0, rfl, hp⟩ := hd
        cases q0
        obtain ⟨a, b, q1, q2⟩ := two_of hp h1
        exact dr_ev (ev_slL (ev_val dx) eo_none (eo_some (K := K) ev_int)) ⟨a, b, by rw [q1], q2⟩
      refine d_par (K := K) (PL := fun ds => ∃ a b : Int, ds = [.list [], .list [.int a, .int b]] ∧ okP n (a, b)) hsM hcM tr hS (dra_cons (P1 := fun d => d = .list []) hsM hcM (dr_ev (ev_lst ea_nil (sz 0)) rfl) fun d M' H' g hd => dra_cons (g.sub s hsM) (g.sub c hcM) (two g rfl rfl) fun d2 M2 H2 g2 hd2 => dra_nil ?_) (fun ds h => ?_) fun v w d1 d2 H1 k1 S1 go1 dv dw hd => ?_
      · obtain ⟨a, b, rfl, hab⟩ := hd2
        exact ⟨a, b, by rw [hd], hab⟩
      · obtain ⟨a, b, rfl, _⟩ := h
        exact ⟨_, _, rfl⟩
      · obtain ⟨a, b, q0, hab⟩ := hd
        cases q0
        refine dq_for (K := K) (PL := fun ds => ∃ j : Int, ds = [.int j] ∧ 0 ≤ j ∧ j ≤ m + 1) hsM hcM go1.tr S1 (dra_cons (P1 := fun d => ∃ j : Int, d = .int j ∧ 0 ≤ j ∧ j ≤ m + 1) hsM hcM ?_ fun d M' H' g hd => dra_nil ?_) (fun ds h => ?_)
          (fun j i σ' H' => Src s c H' ∧ Kp s c H H' ∧ Go M H1 M H' ∧ ∃ (v3 : V) (v5 v6 : Option V) (ts : List (Int × Int)), σ' = [some (.ref s), some (.int n), some (.int m), some v3, some w, v5, v6] ∧ Dm K M H' v3 (.list (ts.map dP)) ∧ (∀ p ∈ ts, okP n p) ∧ ts.length ≤ i) ?_ ?_ ?_
        · refine dr_callA (n := 1) (i := 0) (PL := fun ds => ∃ p : Int, ds = [.list [.int 0, .int 0, .int 1, .int p]] ∧ 0 ≤ p ∧ p ≤ m) hsM hcM rfl (dra_cons hsM hcM (dr_lst (PL := fun ds => ∃ p : Int, ds = [.int 0, .int 0, .int 1, .int p] ∧ 0 ≤ p ∧ p ≤ m) (P := fun d => ∃ p : Int, d = .list [.int 0, .int 0, .int 1, .int p] ∧ 0 ≤ p ∧ p ≤ m) hsM hcM
            (dra_cons (P1 := fun d => d = .int 0) hsM hcM (dr_ev ev_int rfl) fun d Ma Ha ga e1 => dra_cons (P1 := fun d => d = .int 0) (ga.sub s hsM) (ga.sub c hcM) (dr_ev ev_int rfl) fun d Mb Hb gb e2 => dra_cons (P1 := fun d => d = .int 1) (gb.sub s (ga.sub s hsM)) (gb.sub c (ga.sub c hcM)) (dr_ev ev_int rfl) fun d Mc Hc gc e3 =>
              dra_cons (P1 := fun d => ∃ p : Int, d = .int p ∧ 0 ≤ p ∧ p ≤ m) (gc.sub s (gb.sub s (ga.sub s hsM))) (gc.sub c (gb.sub c (ga.sub c hcM))) (Dr.imp (dr_call (n := 1) (i := 0) (gc.sub s (gb.sub s (ga.sub s hsM))) (gc.sub c (gb.sub c (ga.sub c hcM))) rfl (ea_cons (ev_I0 (ev_var rfl (.int m)) ev_int) ea_nil) rfl ⟨_, rfl, by omega⟩) ?_) fun d Md Hd gd e4 => dra_nil ?_) ?_ ?_) fun d M' H' g hd => dra_nil ?_) ?_ ?_
          · rintro d ⟨mm, r, q0, rfl, hr0, hr1⟩
            cases q0
            rw [mx_le (by omega)] at hr1
            exact ⟨r, rfl, hr0, by omega⟩
          · obtain ⟨p, rfl, hp⟩ := e4
            exact ⟨p, by rw [e1, e2, e3], hp⟩
          · rintro ds ⟨p, rfl, _⟩
            show 4 ≤ 1000
            decide
          · rintro ds ⟨p, rfl, hp⟩
            exact ⟨p, rfl, hp⟩
          · obtain ⟨p, rfl, hp⟩ := hd
            exact ⟨p, rfl, hp⟩
          · rintro ds ⟨p, rfl, _⟩
            exact ⟨rfl, _, rfl, by show 1 ≤ 4; decide, by show 4 ≤ 1000; decide⟩
          · rintro ds d ⟨p, rfl, hp⟩ ⟨es, q0, hm⟩
            cases q0
            simp only [List.mem_cons, List.not_mem_nil, or_false] at hm
            rcases hm with rfl | rfl | rfl | rfl
            · exact ⟨0, rfl, by omega, by omega⟩
            · exact ⟨0, rfl, by omega, by omega⟩
            · exact ⟨1, rfl, by omega, by omega⟩
            · exact ⟨p, rfl, by omega, by omega⟩
        · obtain ⟨j, rfl, hj⟩ := hd
          exact ⟨j, rfl, hj⟩
        · obtain ⟨j, rfl, hj⟩ := h
          exact ⟨j, rfl, by omega, by omega⟩
        · rintro j H2 k2 S2 go2 _
          exact ⟨S2, k1.trans k2, go2, v, none, none, [], rfl, dm_go dv go2, (fun p hp => nomatch hp), Nat.le_refl _⟩
        · rintro j i σ' H' ⟨j', q0, hj0, hj1⟩ hi ⟨S2, k2, go2, v3, v5, v6, ts, rfl, dts, hts, hlen⟩
          cases q0
          have goH : Go M H M H' := go1.trans go2
          refine d_asg (K := K) (P := fun d => ∃ a b : Int, d = dP (a, b) ∧ okP n (a, b)) hsM hcM go2.tr S2 (dr_cb (P1 := fun d => ∃ a b : Int, d = .list [.int a, .int b] ∧ okP n (a, b)) hsM hcM (dr_cb hsM hcM (two goH rfl rfl) fun M2 H2 x d g2 S3 dx hd => ?_) fun M2 H2 x d g2 S3 dx hd => ?_) fun v d H3 k3 S3 go3 dv3 hd => ?_
          · obtain ⟨a, b, rfl, hab⟩ := hd
            refine Dr.imp (dr_sortedI (ns := [a, b]) (ev_val dx) (by show 2 < 64; decide)) fun d hd => ?_
            obtain ⟨ms, hp, _, rfl⟩ := hd
            have hl2 : ms.length = 2 := hp.length_eq
            match ms, hl2, hp with
            | [x, y], _, hp =>
              have hx := hp.mem_iff.mp (show x ∈ [x, y] by simp)
              have hy := hp.mem_iff.mp (show y ∈ [x, y] by simp)
              simp only [List.mem_cons, List.not_mem_nil, or_false] at hx hy
              obtain ⟨⟨a1, a2⟩, b1, b2⟩ := hab
              refine ⟨x, y, rfl, ⟨?_, ?_⟩, ?_, ?_⟩
              all_goals
                rcases hx with rfl | rfl <;> rcases hy with rfl | rfl <;> assumption
          · obtain ⟨a, b, rfl, hab⟩ := hd
            exact dr_ev (ev_tupOf (ev_val dx) (.inl rfl)) ⟨a, b, rfl, hab⟩
          · obtain ⟨a, b, rfl, hab⟩ := hd
            have dts3 := dm_go dts go3
            refine s_asg0 (ev_use (K := K) go3.tr (ev_cat (ev_var rfl dts3) (ev_rep (ev_lst (ea_cons (ev_var rfl dv3) ea_nil) (sz 1)) (ev_intB (ev_notInD (ev_var rfl dv3) (ev_var rfl dts3) ((fit_dP hab (by omega)).shaped (by decide)) ((fit_ties hts (by omega)).shaped (by decide)))) ?_ ?_ ?_) ?_) fun v4 H4 e4 t4 d4 => ?_)
            · split <;> decide
            · split <;> decide
            · show 1 ≤ 1000
              decide
            · rw [List.length_map, sizeLine_eq]
              have : ((List.replicate (if (!(ts.map dP).any fun z => PyData.eqv z (dP (a, b))) = true then (1 : Int) else 0).toNat [dP (a, b)]).flatten).length ≤ 1 := by
                split
                · exact Nat.le_refl _
                · exact Nat.zero_le _
              omega
            · have hres : ∃ ts' : List (Int × Int), (ts.map dP ++ (List.replicate (if (!(ts.map dP).any fun z => PyData.eqv z (dP (a, b))) = true then (1 : Int) else 0).toNat [dP (a, b)]).flatten) = ts'.map dP ∧ (∀ p ∈ ts', okP n p) ∧ ts'.length ≤ i + 1 := by
                split
                · refine ⟨ts ++ [(a, b)], by rw [List.map_append]; rfl, fun p hp => ?_, by rw [List.length_append]; show ts.length + 1 ≤ i + 1; omega⟩
                  rcases List.mem_append.mp hp with hp | hp
                  · exact hts p hp
                  · rw [List.mem_singleton.mp hp]
                    exact hab
                · exact ⟨ts, by show ts.map dP ++ [] = _; rw [List.append_nil], hts, by omega⟩
              obtain ⟨ts', q1, q2, q3⟩ := hres
              rw [q1] at d4
              exact ⟨S3.same e4, (k2.trans k3).trans (Kp.of e4), (go2.trans go3).trans ((Go.refl go3.tr).same e4), _, _, _, ts', rfl, d4, q2, q3⟩
        · rintro j σ' H' ⟨j', q0, hj0, hj1⟩ ⟨S2, k2, go2, v3, v5, v6, ts, rfl, dts, hts, hlen⟩
          cases q0
          refine d_ret (K := K) (P := fun d => ∃ sy : Sy, d = dS sy ∧ okS n sy ∧ (sy.ties.length : Int) ≤ m + 1) hsM hcM go2.tr S2 (dr_tup (PL := fun ds => ∃ sy : Sy, ds = [.tuple (sy.ties.map dP), dH sy.head] ∧ okS n sy ∧ (sy.ties.length : Int) ≤ m + 1) hsM hcM
            (dra_cons (P1 := fun d => ∃ qs : List (Int × Int), d = .tuple (qs.map dP) ∧ qs.Perm ts) hsM hcM (dr_cb hsM hcM (dr_sortedQ dP_eq (ev_var rfl dts)) fun M2 H2 x d g2 S3 dx hd => ?_) fun d M' H' g hd => dra_cons (P1 := fun d => ∃ h : Option (Int × Int), d = dH h ∧ ∀ p, h = some p → okP n p) (g.sub s hsM) (g.sub c hcM)
              (dr_if (PB := fun _ => True) (g.sub s hsM) (g.sub c hcM) (drb_test (P1 := fun d => ∃ b, d = .bool b) (dr_opl (g.sub s hsM) (g.sub c hcM) (dr_call (n := 1) (i := 0) (g.sub s hsM) (g.sub c hcM) rfl (ea_cons ev_int ea_nil) rfl ⟨6, rfl, by decide⟩) fun M2 H2 y e g2 S3 dy hy => ?_) fun d hd => ?_) (fun M2 H2 g2 _ => ?_) (fun M2 H2 g2 _ => ?_)) fun d2 M2 H2 g2 hd2 => dra_nil ?_) ?_ ?_) fun v d H3 k3 S3 go3 dv3 hd => ?_
          · obtain ⟨qs, hq, rfl⟩ := hd
            exact dr_ev (ev_tupOf (ev_val dx) (.inl rfl)) ⟨qs, rfl, hq⟩
          · obtain ⟨mm, r, q0, rfl, _⟩ := hy
            exact dr_ev (ev_B0 (ev_val dy) ev_int) ⟨_, rfl⟩
          · obtain ⟨b, rfl⟩ := hd
            exact ⟨b, rfl, trivial⟩
          · exact dr_ev (ev_tupOf (ev_var rfl (dm_go dw ((go2.trans g).trans g2))) (.inl rfl)) ⟨some (a, b), rfl, fun p hp => by cases hp; exact hab⟩
          · exact dr_ev ev_non ⟨none, rfl, fun p hp => nomatch hp⟩
          · obtain ⟨qs, rfl, hq⟩ := hd
            obtain ⟨h, rfl, hh⟩ := hd2
            refine ⟨⟨qs, h⟩, rfl, ⟨fun p hp => hts p (hq.mem_iff.mp hp), hh⟩, ?_⟩
            have := hq.length_eq
            show (qs.length : Int) ≤ m + 1
            omega
          · rintro ds ⟨sy, rfl, _⟩
            show 2 ≤ 1000
            decide
          · rintro ds ⟨sy, rfl, h⟩
            exact ⟨sy, rfl, h⟩
          · obtain ⟨sy, rfl, hok, hle⟩ := hd
            exact k v (dS sy) H3 (k2.trans k3) S3 dv3 ⟨n, m, sy, rfl, rfl, hok, hle⟩
end
end Own

namespace Own
open PySem PySem.Spec PyProof.Rows L2 Gd Dq
def rks (xs : List Int) : List Int := xs.map (rank xs)
section
variable {P : Program} {w : World} {K : PySem.W.Frag} {mg : Str → Option Value} {base : Heap} {A : Ads}
theorem G_order_of (T : Tp K mg A) : FnG P w K mg base 1 A.a_order_of A.d_order_of ["placing"] (spPure K 1 fun ds d => ∃ xs, List.length xs ≤ 60 ∧ ds = [dI xs] ∧ d = dI (rks xs)) := by
  refine fn_ofG T.F_order_of sc_order_of (fun vs H Q E h => spPure_len vs H Q E h) (fun cdv A outer s H vs Q E hg hr h => ?_)
  have hu := hu_of hr
  obtain ⟨M, ds, d, tr, hd, hl, ⟨xs, hx, rfl, rfl⟩, k⟩ := h
  cases hd with
  | @cons v1 _ _ _ h1 h2 =>
    cases h2
    refine ⟨_, (pss_cons (ps_set (i := 1) sc_order_of.nd rfl (Or.inr rfl) (pe_dc (own := [("rank", 2), ("number", 3)]) (g := gTup K 2 (gCons (gName 2) (gCons (gName 3) (gNil)))) (tt := tYes) rfl sc_order_of.nd (pi_k (K := K) (f := fun K => iEnum K _) rfl (pi_enum (by rfl) T.z_enumerate (pa_cons (pe_callB (cr_sortedSet_k (w := w) rfl rfl) (by rfl) T.z_sorted (by decide +kernel) (pa_cons (pe_callTy (cr_setI (K := K) (w := w) rfl rfl rfl) (by rfl) T.z_set (by decide +kernel) (pa_cons (pv 0) pa_nil)) pa_nil)) pa_nil))) (blkOk_by (N := ["placing", "ranks", "rank", "number"]) (sc := defScope s_order_of) (by decide +kernel)) (fun _ _ _ _ _ => (pg_tup rfl (pgs_cons (pg_name (i := 2) sc_order_of.nd rfl (Or.inl rfl)) (pgs_cons (pg_name (i := 3) sc_order_of.nd rfl (Or.inl rfl)) pgs_nil)))) (fun _ _ _ _ _ => pts_nil) (fun _ _ _ _ _ => (pv 3)) (fun _ _ _ _ _ => (pv 2))))
      (pss_one (ps_ret (pe_callTy (call_tup_k (K := K) rfl) (by rfl) T.z_tuple (by decide +kernel) (pa_cons (pe_lc (own := [("number", 3)]) (g := gName 3) (tt := tYes) rfl sc_order_of.nd (pi_tup_k (K := K) rfl (pv 0)) (blkOk_by (N := ["placing", "ranks", "rank", "number"]) (sc := defScope s_order_of) (by decide +kernel)) (fun _ _ _ _ _ => (pg_name (i := 3) sc_order_of.nd rfl (Or.inl rfl))) (fun _ _ _ _ _ => pts_nil) (fun _ _ _ _ _ => (pe_dget hu (pv 1) (pv 3) (fun _ _ => rfl)))) pa_nil))))), ?_⟩
    have hll := lvl_len xs
    have wk := wk_enum (K := K) (M := M) (σ := [some v1, none, none, none]) (H := H) (ea_cons (ev_lvl (w := w) (ev_var (i := 0) rfl h1) hx) ea_nil)
    rw [List.length_map] at wk
    have gd : ∀ i, i < (lvl xs).length → (lvl xs)[i]? = some ((lvl xs).getD i 0) := fun i hi => by
      rw [List.getD_eq_getElem?_getD, List.getElem?_eq_getElem hi]
      rfl
    refine q_asg0 (dc_new (K := K) (fun i => (lvl xs).getD i 0) (fun i => (i : Int)) tr wk (by omega) (fun i j hij hj => ?_) (fun M' H' i x g hi dx => ?_) fun D H1 kvs e1 t1 DM hD0 hD hv => ?_)
    · have h3 := List.pairwise_iff_getElem.mp (pw_lvl xs) i j (by omega) hj hij
      have a1 := gd i (by omega)
      have a2 := gd j hj
      rw [List.getElem?_eq_getElem (by omega)] at a1 a2
      have b1 := Option.some.inj a1
      have b2 := Option.some.inj a2
      show (lvl xs).getD i 0 ≠ (lvl xs).getD j 0
      omega
    · have ea : at0 ((lvl xs).map PyData.int) i = .int ((lvl xs).getD i 0) := by
        rw [at0_map hi]
        have a1 := gd i hi
        rw [List.getElem?_eq_getElem hi] at a1
        rw [Option.some.inj a1]
      rw [ea] at dx
      obtain ⟨va, vb, tk, da, db⟩ := tk_pair (i := 2) (j := 3) (σ0 := [some v1, none, none, none]) dx
      exact ⟨_, tk, rfl, ev_var rfl db, ev_var rfl da⟩
    · refine s_ret t1 (ev_tupOf (ev_lcA (enc := PyData.int) (xs := xs) (fun x => .int (rank xs x)) (wk_tupT (ev_var rfl (dm_same h1 tr e1))) (by omega) fun M' H' a x g ha dx => ⟨_, tk_name, rfl, ev_dget (k := a) (r := rank xs a) rfl (g.mn _ _ (by rw [mn_out DM]; exact hD)) ?_ (ev_var rfl dx)⟩) (.inl rfl)) fun v2 H2 e2 t2 d2 => ?_
      · have hm : a ∈ lvl xs := mem_lvl.mpr ha
        have hlt : (lvl xs).idxOf a < (lvl xs).length := List.idxOf_lt_length_of_mem hm
        have := hv _ hlt
        have a1 := gd _ hlt
        rw [List.getElem?_eq_getElem hlt, List.getElem_idxOf hlt] at a1
        rw [← Option.some.inj a1] at this
        exact this
      · refine k v2 H2 (e1.trans e2) ?_
        have e : dI (rks xs) = .tuple (xs.map fun x => .int (rank xs x)) := by
          unfold dI rks
          rw [List.map_map]
          rfl
        rw [e]
        exact d2
theorem G_lw_order_of (T : Tp K mg A) : FnG P w K mg base 1 A.a_lw_order_of A.d_lw_order_of ["placing"] (spPure K 1 fun ds d => ∃ xs, List.length xs ≤ 60 ∧ ds = [dI xs] ∧ d = dI (rks xs)) := by
  refine fn_ofG T.F_lw_order_of sc_lw_order_of (fun vs H Q E h => spPure_len vs H Q E h) (fun cdv A outer s H vs Q E hg hr h => ?_)
  obtain ⟨M, ds, d, tr, hd, hl, ⟨xs, hx, rfl, rfl⟩, k⟩ := h
  cases hd with
  | @cons v1 _ _ _ h1 h2 =>
    cases h2
    refine ⟨_, (pss_cons (ps_set (i := 1) sc_lw_order_of.nd rfl (Or.inr rfl) (pe_callB (cr_sortedSet_k (w := w) rfl rfl) (by rfl) T.z_sorted (by decide +kernel) (pa_cons (pe_callTy (cr_setI (K := K) (w := w) rfl rfl rfl) (by rfl) T.z_set (by decide +kernel) (pa_cons (pv 0) pa_nil)) pa_nil)))
      (pss_one (ps_ret (pe_callTy (call_tup_k (K := K) rfl) (by rfl) T.z_tuple (by decide +kernel) (pa_cons (pe_lc (own := [("one", 2)]) (g := gName 2) (tt := tYes) rfl sc_lw_order_of.nd (pi_tup_k (K := K) rfl (pv 0)) (blkOk_by (N := ["placing", "levels", "one"]) (sc := defScope s_lw_order_of) (by decide +kernel)) (fun _ _ _ _ _ => (pg_name (i := 2) sc_lw_order_of.nd rfl (Or.inl rfl))) (fun _ _ _ _ _ => pts_nil) (fun _ _ _ _ _ => (pe_k (K := K) (f := fun K => tBM K "list" _ _ _) rfl (pe_bm PySem.F.plainAttrs_list PySem.F.slot_list_index PySem.F.type_list_index (mt_index_k (K := K) rfl) (pv 1) (pa_cons (pv 2) pa_nil))))) pa_nil))))), ?_⟩
    refine q_asg (K := K) tr (ev_lvl (ev_var rfl h1) hx) fun v H1 e1 t1 d1 => ?_
    refine s_ret t1 (ev_tupOf (ev_lcA (enc := PyData.int) (xs := xs) (fun x => .int (rank xs x)) (wk_tupT (ev_var rfl (dm_same h1 tr e1))) (by omega) fun M' H' a x g ha dx => ⟨_, tk_name, rfl, ev_index rfl (dm_go d1 g) (ev_var rfl dx) (mem_lvl.mpr ha)⟩) (.inl rfl)) fun v2 H2 e2 t2 d2 => ?_
    refine k v2 H2 (e1.trans e2) ?_
    have e : dI (rks xs) = .tuple (xs.map fun x => .int (rank xs x)) := by
      unfold dI rks
      rw [List.map_map]
      rfl
    rw [e]
    exact d2
end
end Own

namespace Own
open PySem PySem.Spec PyProof.Rows L2 Gd Dq
/-! the first pair at which two placings part -/
theorem fs_none {α : Type} {f : Nat → Option α} : ∀ {n : Nat}, (∀ j, j < n → f j = none) → (List.range n).findSome? f = none
  | n, h => List.findSome?_eq_none_iff.mpr fun j hj => h j (List.mem_range.mp hj)
theorem fs_at {α : Type} {f : Nat → Option α} {i : Nat} {b : α} (h : ∀ j, j < i → f j = none) (e : f i = some b) : ∀ {n : Nat}, i < n → (List.range n).findSome? f = some b
  | 0, hi => absurd hi (Nat.not_lt_zero i)
  | n + 1, hi => by
    rw [List.range_succ, List.findSome?_append]
    by_cases c : i = n
    · subst c
      rw [fs_none h]
      show (none.or ([i].findSome? f)) = some b
      simp [e]
    · rw [fs_at h e (show i < n by omega)]
      rfl
def df (xs ys : List Int) (u v : Nat) : Bool := decide (ix xs (u : Nat) ≤ ix xs (v : Nat)) != decide (ix ys (u : Nat) ≤ ix ys (v : Nat))
def prow (xs ys : List Int) (u : Nat) : Option (Int × Int) := (List.range xs.length).findSome? fun v => if df xs ys u v then some (((u : Nat) : Int), ((v : Nat) : Int)) else none
def part (xs ys : List Int) : Option (Int × Int) := (List.range xs.length).findSome? (prow xs ys)
def dO : Option (Int × Int) → PyData
  | none => .none
  | some p => dS ⟨[], some p⟩
theorem eqv_bool (a b : Bool) : PyData.eqv (.bool a) (.bool b) = (a == b) := by unfold PyData.eqv; cases a <;> cases b <;> rfl
theorem shp_bool (b : Bool) : SeqAt.shaped (.bool b) = true := by
  unfold SeqAt.shaped PyData.canLay0 PyData.depth
  rfl
section
variable {P : Program} {w : World} {K : PySem.W.Frag} {mg : Str → Option Value} {base : Heap} {A : Ads}
theorem G_parting (T : Tp K mg A) : FnG P w K mg base 1 A.a_parting A.d_parting ["one", "other"] (spPure K 2 fun ds d => ∃ xs ys, List.length ys = List.length xs ∧ List.length xs ≤ 1000 ∧ ds = [dI xs, dI ys] ∧ d = dO (part xs ys)) := by
  refine fn_ofG T.F_parting sc_parting (fun vs H Q E h => spPure_len vs H Q E h) (fun cdv A outer s H vs Q E hg hr h => ?_)
  obtain ⟨M, ds, d, tr, hd, hl, ⟨xs, ys, hxy, hx, rfl, rfl⟩, k⟩ := h
  cases hd with
  | @cons v1 _ _ _ h1 h2 =>
    cases h2 with
    | @cons v2 _ _ _ h2 h3 =>
      cases h3
      refine ⟨_, (pss_cons (ps_for PassesOwn.never rfl (pi_range1 (by rfl) T.z_range (pa_cons (pe_callB (call_len_k (K := K) rfl) (by rfl) T.z_len (by decide +kernel) (pa_cons (pv 0) pa_nil)) pa_nil)) (pg_name (i := 2) sc_parting.nd rfl (Or.inl rfl))
      (pss_one (ps_for PassesOwn.never rfl (pi_range1 (by rfl) T.z_range (pa_cons (pe_callB (call_len_k (K := K) rfl) (by rfl) T.z_len (by decide +kernel) (pa_cons (pv 0) pa_nil)) pa_nil)) (pg_name (i := 3) sc_parting.nd rfl (Or.inl rfl))
      (pss_one (ps_if (pt_cmpR (op_ne_k (K := K) rfl hr.units) (pe_cmpR op_le (pe_ix (ix_tup_k (K := K) rfl) (pv 0) (pv 2) (fun _ _ => rfl)) (pe_ix (ix_tup_k (K := K) rfl) (pv 0) (pv 3) (fun _ _ => rfl)) (nomark _)) (pe_cmpR op_le (pe_ix (ix_tup_k (K := K) rfl) (pv 1) (pv 2) (fun _ _ => rfl)) (pe_ix (ix_tup_k (K := K) rfl) (pv 1) (pv 3) (fun _ _ => rfl)) (nomark _)) (nomark _))
      (pss_one (ps_ret (pe_tup (pa_cons (pe_tup pa_nil) (pa_cons (pe_tup (pa_cons (pv 2) (pa_cons (pv 3) pa_nil))) pa_nil)))))
      pss_nil)))))
      (pss_one (ps_ret pe_non))), ?_⟩
      have hlm : ∀ zs : List Int, ((zs.map PyData.int).length : Nat) = zs.length := fun zs => List.length_map ..
      refine q_for (K := K) tr (wk_rng1 (ea_cons (ev_len (ev_var rfl h1) (.inr rfl)) ea_nil) (by rw [hlm]; omega) (by rw [hlm]; omega)) (fun H1 i σ' H' => (∃ o2 o3, σ' = [some v1, some v2, o2, o3]) ∧ Same H1 H' ∧ Tr M H' ∧ ∀ j, j < i → prow xs ys j = none)
        (fun H1 e1 t1 => ⟨⟨_, _, rfl⟩, Same.refl _, t1, fun j hj => absurd hj (Nat.not_lt_zero j)⟩) (fun H1 i σ' H' e1 p => (Go.refl (Tr.same tr e1)).same p.2.1) ?_ ?_
      · rintro H2 u σ' H3 x H4 e2 hu ⟨⟨o2, o3, rfl⟩, s3, t3, p⟩ e4 dx
        rw [Int.toNat_natCast, hlm] at hu
        have t4 := Tr.same t3 e4
        have s4 : Same H H4 := (e2.trans s3).trans e4
        have g1 := dm_same h1 tr s4
        refine s_for (K := K) t4 (wk_rng1 (ea_cons (ev_len (ev_var rfl g1) (.inr rfl)) ea_nil) (by rw [hlm]; omega) (by rw [hlm]; omega)) (fun H5 i σ' H' => (∃ o3, σ' = [some v1, some v2, some x, o3]) ∧ Same H5 H' ∧ Tr M H' ∧ ∀ j, j < i → df xs ys u j = false)
          (fun H5 e5 t5 => ⟨⟨_, rfl⟩, Same.refl _, t5, fun j hj => absurd hj (Nat.not_lt_zero j)⟩) (fun H5 i σ' H' e5 p => (Go.refl (Tr.same t4 e5)).same p.2.1) ?_ ?_
        · rintro H5 v σ' H6 y H7 e5 hv ⟨⟨o3, rfl⟩, s6, t6, r⟩ e7 dy
          rw [Int.toNat_natCast, hlm] at hv
          have t7 := Tr.same t6 e7
          have s7 : Same H4 H7 := (e5.trans s6).trans e7
          have a1 := dm_same g1 t4 s7
          have a2 := dm_same h2 tr (s4.trans s7)
          have ax := dm_same dx t4 s7
          have bu : 0 ≤ ((u : Nat) : Int) ∧ ((u : Nat) : Int) < (xs.length : Nat) := by omega
          have bv : 0 ≤ ((v : Nat) : Int) ∧ ((v : Nat) : Int) < (xs.length : Nat) := by omega
          refine s_if t7 (eb_test (ev_neD (ev_B0 (g := fun i j => decide (i ≤ j)) (ev_ixT (ev_var rfl a1) (ev_var rfl ax) (at_ix bu)) (ev_ixT (ev_var rfl a1) (ev_var rfl dy) (at_ix bv))) (ev_B0 (g := fun i j => decide (i ≤ j)) (ev_ixT (ev_var rfl a2) (ev_var rfl ax) (at_ix (by rw [hxy]; exact bu))) (ev_ixT (ev_var rfl a2) (ev_var rfl dy) (at_ix (by rw [hxy]; exact bv)))) (shp_bool _) (shp_bool _))) (fun hb H8 e8 t8 => ?_) (fun hb H8 e8 t8 => ?_)
          · rw [eqv_bool] at hb
            have hd : df xs ys u v = true := hb
            have hp : part xs ys = some (((u : Nat) : Int), ((v : Nat) : Int)) := fs_at p (fs_at (fun j hj => by rw [r j hj]; rfl) (by rw [hd]; rfl) hv) hu
            refine s_ret t8 (Ev.is (ev_tup (ea_cons (ev_tup ea_nil (sz 0)) (ea_cons (ev_tup (ea_cons (ev_var rfl (dm_same ax t7 e8)) (ea_cons (ev_var rfl (dm_same dy t7 e8)) ea_nil)) (sz 2)) ea_nil)) (sz 2)) (by rw [hp]; rfl)) fun z H9 e9 t9 d9 => k z H9 (((s4.trans s7).trans e8).trans e9) d9
          · rw [eqv_bool] at hb
            refine ⟨⟨_, rfl⟩, (s6.trans e7).trans e8, t8, fun j hj => ?_⟩
            by_cases c : j = v
            · subst c
              exact hb
            · exact r j (by omega)
        · rintro H5 σ' H6 e5 ⟨⟨o3, rfl⟩, s6, t6, r⟩
          rw [Int.toNat_natCast, hlm] at r
          refine ⟨⟨_, _, rfl⟩, ((s3.trans e4).trans e5).trans s6, t6, fun j hj => ?_⟩
          by_cases c : j = u
          · subst c
            exact fs_none fun v hv => by rw [r v hv]; rfl
          · exact p j (by omega)
      · rintro H2 σ' H3 e2 ⟨⟨o2, o3, rfl⟩, s3, t3, p⟩
        rw [Int.toNat_natCast, hlm] at p
        have hp : part xs ys = none := fs_none p
        refine s_ret (K := K) t3 (Ev.is ev_non (by rw [hp]; rfl)) fun z H6 e6 t6 d6 => k z H6 ((e2.trans s3).trans e6) d6
end
end Own

namespace Own
open PySem PySem.Spec PyProof.Rows L2 Gd Dq
def Ralike (ds : List PyData) (d : PyData) : Prop := ∃ xs ys : List Int, ds = [dI xs] ∧ d = dI ys ∧ ys.length = xs.length ∧ ∀ y ∈ ys, -10 ≤ y ∧ y ≤ 10000000000000000000000
/-- what a dict of ints has at a key -/
def dval (kvs : List (Key × V)) (k : Int) : Int := match valV kvs (.inl k) with
  | some (.int y) => y
  | _ => 0
theorem putK_le (kvs : List (Key × V)) (k : Key) (y : V) : (putK kvs k y).length ≤ kvs.length + 1 := by
  unfold putK
  split
  · rw [List.length_map]
    omega
  · rw [List.length_append]
    exact Nat.le_refl _
theorem asgT_0 {g : TG} {as : TA} {u : TS} {D : Ends} {σ : S} {H : Hp} (h : as σ H fun vs H1 => vs.length ≤ sizeLine ∧ ∀ p, H1 p = none → g (.ref p) σ (upd H1 p (.tup vs)) (u D)) : tSeq (tAsg (tTup as) g) u D σ H := h
theorem dnew_0 {σ : S} {H : Hp} {Q : VK} (h : ∀ p, H p = none → Q (.ref p) (upd H p (.dK []))) : tDNewK σ H Q := h
section
variable {P : Program} {w : World} {K : PySem.W.Frag} {mg : Str → Option Value} {base : Heap} {A : Ads}
theorem G_lw_alike_placing (T : Tp K mg A) : FnG P w K mg base 3 A.a_lw_alike_placing A.d_lw_alike_placing ["source", "placing"] (spDraw K 1 (fun ds => ∃ xs : List Int, ds = [dI xs] ∧ xs.length ≤ 60) Ralike) := by
  refine fn_ofG T.F_lw_alike_placing sc_lw_alike_placing (fun vs H Q E h => spDraw_len vs H Q E h) (fun cdv A outer s0 H vs Q E hg hr h => ?_)
  have hu := hu_of hr
  obtain ⟨M, s, c, ws, ds, rfl, hsM, hcM, hS, tr, hd, hl, ⟨xs, rfl, hx⟩, k⟩ := h
  cases hd with
  | @cons v1 _ _ _ g1 g2 =>
    cases g2
    refine ⟨_, (pss_cons (ps_asg (pe_tup (pa_cons (pe_callB (cr_sortedSet_k (w := w) rfl rfl) (by rfl) T.z_sorted (by decide +kernel) (pa_cons (pe_callTy (cr_setI (K := K) (w := w) rfl rfl rfl) (by rfl) T.z_set (by decide +kernel) (pa_cons (pv 1) pa_nil)) pa_nil)) (pa_cons (pe_op op_sub (pe_callG (FnG.mono (G_lw_pick T) (by decide)) hg hr (by rfl) T.g_lw_pick T.F_lw_pick.kp T.b_lw_pick .nil (pa_cons (pv 0) (pa_cons pe_int pa_nil))) pe_int) (pa_cons pe_dnewK pa_nil)))) (pg_tup rfl (pgs_cons (pg_name (i := 2) sc_lw_alike_placing.nd rfl (Or.inl rfl)) (pgs_cons (pg_name (i := 3) sc_lw_alike_placing.nd rfl (Or.inl rfl)) (pgs_cons (pg_name (i := 4) sc_lw_alike_placing.nd rfl (Or.inr rfl)) pgs_nil)))))
      (pss_cons (ps_for PassesOwn.never rfl (pi_list_k (K := K) rfl (pv 2)) (pg_name (i := 5) sc_lw_alike_placing.nd rfl (Or.inl rfl))
      (pss_cons (ps_set (i := 3) sc_lw_alike_placing.nd rfl (Or.inl rfl) (pe_op op_add (pe_op op_add (pv 3) pe_int) (pe_callG (FnG.mono (G_lw_pick T) (by decide)) hg hr (by rfl) T.g_lw_pick T.F_lw_pick.kp T.b_lw_pick .nil (pa_cons (pv 0) (pa_cons (pe_callG (FnG.mono (G_lw_of T) (by decide)) hg hr (by rfl) T.g_lw_of T.F_lw_of.kp T.b_lw_of .nil (pa_cons (pv 0) (pa_cons (pe_lst (pa_cons pe_int (pa_cons pe_int (pa_cons (pe_op op_pow pe_int pe_int) pa_nil)))) pa_nil))) pa_nil)))))
      (pss_one (ps_dput hu (pv 4) (pv 5) (pv 3) rfl))))
      (pss_one (ps_ret (pe_callTy (call_tup_k (K := K) rfl) (by rfl) T.z_tuple (by decide +kernel) (pa_cons (pe_lc (own := [("one", 6)]) (g := gName 6) (tt := tYes) rfl sc_lw_alike_placing.nd (pi_tup_k (K := K) rfl (pv 1)) (blkOk_by (N := ["source", "placing", "levels", "here", "far", "level", "one"]) (sc := defScope s_lw_alike_placing) (by decide +kernel)) (fun _ _ _ _ _ => (pg_name (i := 6) sc_lw_alike_placing.nd rfl (Or.inl rfl))) (fun _ _ _ _ _ => pts_nil) (fun _ _ _ _ _ => (pe_dget hu (pv 4) (pv 6) (fun _ _ => rfl)))) pa_nil)))))), ?_⟩
    have hll := lvl_len xs
    refine asgT_0 (cons_0 (ev_use (K := K) tr (ev_lvl (w := w) (ev_var rfl g1) hx) fun vl H1 e1 t1 dl => ?_))
    refine cons_0 (dr_use (K := K) (P := fun d => ∃ h : Int, d = .int h ∧ -9 ≤ h ∧ h ≤ -1) hsM hcM t1 (hS.same e1) (dr_opl hsM hcM (dr_call (n := 1) (i := 0) hsM hcM rfl (ea_cons ev_int ea_nil) rfl ⟨9, rfl, by decide⟩) fun M' H' y d g S' dy hy => ?_) fun vh dh H2 k2 S2 go2 dvh hd => ?_)
    · obtain ⟨m, r, q0, rfl, hr0, hr1⟩ := hy
      cases q0
      have e8 : mx 9 = 9 := rfl
      rw [e8] at hr1
      exact dr_ev (ev_I0 (ev_val dy) ev_int) ⟨r - 9, rfl, by omega, by omega⟩
    obtain ⟨h0, rfl, hh0, hh1⟩ := hd
    cases dvh
    refine cons_0 (dnew_0 fun D hD => nil_0 ⟨sz 3, fun p hp => ?_⟩)
    have t2 := go2.tr
    have DM : D ∉ M := fun z => t2 D z hD
    have goM : Go M H2 (D :: M) (upd H2 D (.dK [])) := go_mut t2 hD
    have e3 : Same (upd H2 D (.dK [])) (upd (upd H2 D (.dK [])) p (.tup [vl, .int h0, .ref D])) := same_new hp
    refine tk_three (K := K) (SqT.of upd_same) _ ?_
    have hD3 : (upd (upd H2 D (.dK [])) p (.tup [vl, .int h0, .ref D])) D = some (.dK []) := e3 _ _ upd_same
    generalize upd (upd H2 D (.dK [])) p (.tup [vl, .int h0, .ref D]) = H3 at e3 hD3
    have go3 : Go M H2 (D :: M) H3 := goM.same e3
    have k3 : Kp s c H H3 := ((Kp.of e1).trans k2).trans ((Kp.of (same_new hD)).trans (Kp.of e3))
    have S3 : Src s c H3 := (S2.same (same_new hD)).same e3
    have goH : Go M H (D :: M) H3 := (((Go.refl tr).same e1).trans go2).trans go3
    have dl3 : Dm K (D :: M) H3 vl (.list ((lvl xs).map PyData.int)) := dm_go (dm_go dl go2) go3
    have hsM3 : s ∈ D :: M := List.mem_cons_of_mem _ hsM
    have hcM3 : c ∈ D :: M := List.mem_cons_of_mem _ hcM
    have sD : D ≠ s := fun z => DM (z ▸ hsM)
    have cD : D ≠ c := fun z => DM (z ▸ hcM)
    have hHD : H D = none := by
      cases q : H D with
      | none => rfl
      | some o =>
        have := k2 D o sD cD (e1 _ _ q)
        rw [hD] at this
        cases this
    refine q_for (K := K) (M := D :: M) go3.tr (wk_listT (xs := lvl xs) (enc := PyData.int) (ev_var rfl dl3)) (fun H4 i σ' H' => (∃ (h : Int) (o5 o6 : Option V), σ' = [some (.ref s), some v1, some vl, some (.int h), some (.ref D), o5, o6] ∧ -9 ≤ h ∧ h ≤ -1 + i * 100000000000000000000) ∧ Src s c H' ∧ Go (D :: M) H4 (D :: M) H' ∧ Kp s c H H' ∧ ∃ kvs : List (Key × V), H' D = some (.dK kvs) ∧ kvs.length ≤ i ∧ ∀ j (hj : j < (lvl xs).length), j < i → ∃ y : Int, valV kvs (.inl (lvl xs)[j]) = some (.int y) ∧ -10 ≤ y ∧ y ≤ 10000000000000000000000)
      (fun H4 e4 t4 => ⟨⟨h0, _, _, rfl, hh0, by omega⟩, S3.same e4, Go.refl t4, k3.trans (Kp.of e4), [], e4 _ _ hD3, Nat.le_refl _, fun j hj hj0 => absurd hj0 (Nat.not_lt_zero j)⟩) (fun H4 i σ' H' e4 p => p.2.2.1) ?_ ?_
    · rintro H4 i σ' H5 x H6 e4 hi ⟨⟨h, o5, o6, rfl, hA, hB⟩, S5, go5, k5, kvs, hD5, hkl, hkv⟩ e6 dx
      rw [at0_map hi] at dx
      have go6 := go5.same e6
      have S6 := S5.same e6
      cases dx
      refine d_asg (K := K) (P := fun d => ∃ h' : Int, d = .int h' ∧ -9 ≤ h' ∧ h' ≤ -1 + (((i + 1 : Nat) : Nat) : Int) * 100000000000000000000) hsM3 hcM3 go6.tr S6 (dr_opl (P1 := fun d => d = .int (h + 1)) hsM3 hcM3 (dr_ev (ev_I0 (ev_var rfl (.int h)) ev_int) rfl) fun Ma Ha y d ga Sa dy hy => dr_opr (P1 := fun d => ∃ r : Int, d = .int r ∧ 0 ≤ r ∧ r < 100000000000000000000) (ga.sub s hsM3) (ga.sub c hcM3)
        (dr_callA (PL := fun ds => ∃ m : Int, ds = [.int m] ∧ 1 ≤ m ∧ m ≤ 100000000000000000000) (n := 1) (i := 0) (ga.sub s hsM3) (ga.sub c hcM3) rfl (dra_cons (P1 := fun d => ∃ m : Int, d = .int m ∧ 1 ≤ m ∧ m ≤ 100000000000000000000) (ga.sub s hsM3) (ga.sub c hcM3) (Dr.imp (dr_call (n := 1) (i := 0) (ga.sub s hsM3) (ga.sub c hcM3) rfl (ea_cons (ev_lst (ea_cons ev_int (ea_cons ev_int (ea_cons (ev_I ev_int ev_int ⟨by decide, by decide, by decide⟩) ea_nil))) (sz 3)) ea_nil) rfl ⟨_, rfl, by show 1 ≤ 3; decide, by show 3 ≤ 1000; decide⟩) fun d hd => ?_) fun d Mb Hb gb hd => dra_nil ?_) ?_ ?_) fun Mb Hb z e gb Sb dz hz => ?_) fun vh' d H7 k7 S7 go7 dh hd => ?_
      · obtain ⟨es, e0, hm⟩ := hd
        cases e0
        simp only [List.mem_cons, List.not_mem_nil, or_false] at hm
        rcases hm with rfl | rfl | rfl
        · exact ⟨1, rfl, by decide, by decide⟩
        · exact ⟨5, rfl, by decide, by decide⟩
        · exact ⟨10 ^ 20, rfl, by decide, by decide⟩
      · obtain ⟨m, rfl, h⟩ := hd
        exact ⟨m, rfl, h⟩
      · rintro ds ⟨m, rfl, h1, h2⟩
        exact ⟨rfl, m, rfl, by omega⟩
      · rintro ds d ⟨m, rfl, h1, h2⟩ ⟨m', r, q0, rfl, hr0, hr1⟩
        cases q0
        rw [mx_le h1] at hr1
        exact ⟨r, rfl, hr0, by omega⟩
      · obtain ⟨r, rfl, hr0, hr1⟩ := hz
        rw [hy] at dy
        exact dr_ev (ev_I0 (ev_val (dm_go dy gb)) (ev_val dz)) ⟨h + 1 + r, rfl, by omega, by omega⟩
      · obtain ⟨h', rfl, hA', hB'⟩ := hd
        cases dh
        have hD7 : H7 D = some (.dK kvs) := k7 D _ sD cD (e6 _ _ hD5)
        refine ⟨.int h', rfl, .ref D, rfl, .int (lvl xs)[i], rfl, D, _, rfl, DPut.k (k := .inl (lvl xs)[i]) hD7 (by rw [sizeLine_eq]; omega), ?_⟩
        have gD : Go (D :: M) H7 (D :: M) (upd H7 D (.dK (putK kvs (.inl (lvl xs)[i]) (.int h')))) := go_set go7.tr (List.mem_cons_self ..)
        refine ⟨⟨h', _, _, rfl, hA', hB'⟩, src_set S7 sD cD, (go6.trans go7).trans gD, (fun b o hb1 hb2 e => ?_), _, upd_same, ?_, fun j hj hji => ?_⟩
        · rw [upd_ne (ne_of_none e hHD)]
          exact ((k5.trans (Kp.of e6)).trans k7) b o hb1 hb2 e
        · have := putK_le kvs (.inl (lvl xs)[i]) (.int h')
          omega
        · rw [valV_put]
          by_cases c : j = i
          · subst c
            rw [if_pos rfl]
            exact ⟨h', rfl, by omega, by omega⟩
          · have h3 := List.pairwise_iff_getElem.mp (pw_lvl xs)
            have hne : ¬ (Sum.inl (lvl xs)[j] : Key) = Sum.inl (lvl xs)[i] := fun z => by
              have z := Sum.inl.inj z
              have := h3 j i hj hi (by omega)
              omega
            rw [if_neg hne]
            exact hkv j hj (by omega)
    · rintro H4 σ' H5 e4 ⟨⟨h, o5, o6, rfl, hA, hB⟩, S5, go5, k5, kvs, hD5, hkl, hkv⟩
      have gH5 : Go M H (D :: M) H5 := (goH.same e4).trans go5
      have gM : Go M H M H5 := go_drop gH5 hHD
      have key : ∀ a ∈ xs, ∃ y : Int, valV kvs (.inl a) = some (.int y) ∧ -10 ≤ y ∧ y ≤ 10000000000000000000000 := fun a ha => by
        have hlt : (lvl xs).idxOf a < (lvl xs).length := List.idxOf_lt_length_of_mem (mem_lvl.mpr ha)
        have := hkv _ hlt hlt
        rw [List.getElem_idxOf hlt] at this
        exact this
      have key2 : ∀ a ∈ xs, valV kvs (.inl a) = some (.int (dval kvs a)) ∧ -10 ≤ dval kvs a ∧ dval kvs a ≤ 10000000000000000000000 := fun a ha => by
        obtain ⟨y, e, h1, h2⟩ := key a ha
        have : dval kvs a = y := by
          unfold dval
          rw [e]
        rw [this]
        exact ⟨e, h1, h2⟩
      refine s_ret (K := K) gM.tr (ev_tupOf (ev_lcA (enc := PyData.int) (xs := xs) (fun x => .int (dval kvs x)) (wk_tupT (ev_var rfl (dm_go g1 gM))) (by omega) fun M' H' a x g ha dx => ⟨_, tk_name, rfl, ev_dget (k := a) (r := dval kvs a) rfl (g.mn _ _ (by rw [mn_out DM]; exact hD5)) (key2 a ha).1 (ev_var rfl dx)⟩) (.inl rfl)) fun v2 H6 e6 t6 d6 => ?_
      refine k v2 (dI (xs.map (dval kvs))) H6 (k5.trans (Kp.of e6)) (S5.same e6) ?_ ⟨xs, xs.map (dval kvs), rfl, rfl, List.length_map .., fun y hy => ?_⟩
      · have e : dI (xs.map (dval kvs)) = .tuple (xs.map fun x => .int (dval kvs x)) := by
          unfold dI
          rw [List.map_map]
          rfl
        rw [e]
        exact d6
      · obtain ⟨a, ha, rfl⟩ := List.mem_map.mp hy
        exact (key2 a ha).2
end
end Own

namespace Own
open PySem PySem.Spec PyProof.Rows L2 Gd Dq
theorem eqv_nil2 : PyData.eqv (.list []) (.list []) = true := by rw [eqv_nil]; rfl
theorem neI (i j : Int) (h : (i == j) = true) : (!PyData.eqv (.int i) (.int j)) = false := by
  rw [eqv_int, h]
  rfl
section
variable {P : Program} {w : World} {K : PySem.W.Frag} {mg : Str → Option Value} {base : Heap} {A : Ads}
theorem G_lw_is_saying (T : Tp K mg A) : FnG P w K mg base 1 A.a_lw_is_saying A.d_lw_is_saying ["n", "value"] (spPure K 2 fun ds d => ∃ (n : Int) (p : Int × Int), okP n p ∧ p.1 ≠ p.2 ∧ ds = [.int n, dS ⟨[], some p⟩] ∧ d = .bool true) := by
  refine fn_ofG T.F_lw_is_saying sc_lw_is_saying (fun vs H Q E h => spPure_len vs H Q E h) (fun cdv A outer s H vs Q E hg hr h => ?_)
  have hu := hu_of hr
  obtain ⟨M, ds, d, tr, hd, hl, ⟨n, p, hp, hne, rfl, rfl⟩, k⟩ := h
  cases hd with
  | @cons v1 _ _ _ h1 h2 =>
    cases h2 with
    | @cons v2 _ _ _ h2 h3 =>
      cases h3
      cases h1
      refine ⟨_, (pss_cons (ps_if (PW.pt (pw_or (pt_not (pt_val (pe_callB (call_isi_k (K := K) rfl) (by rfl) T.z_isinstance (by decide +kernel) (pa_cons (pv 1) (pa_cons (pe_bltn (v := .ty "tuple") (u := .type "tuple") (by rfl) T.z_tuple (by decide +kernel) rfl) pa_nil))))) (pw_or (pt_cmpR (op_ne_k (K := K) rfl hr.units) (pe_callB (call_len_k (K := K) rfl) (by rfl) T.z_len (by decide +kernel) (pa_cons (pv 1) pa_nil)) pe_int (nomark _)) (pw_or1 (pt_not (pt_val (pe_callB (call_isi_k (K := K) rfl) (by rfl) T.z_isinstance (by decide +kernel) (pa_cons (pe_ix (ix_tup_k (K := K) rfl) (pv 1) pe_int (fun _ _ => rfl)) (pa_cons (pe_bltn (v := .ty "tuple") (u := .type "tuple") (by rfl) T.z_tuple (by decide +kernel) rfl) pa_nil)))))))))
      (pss_one (ps_ret pe_bl))
      pss_nil)
      (pss_cons (ps_set (i := 2) sc_lw_is_saying.nd rfl (Or.inl rfl) (pe_op op_cat (pe_callTy (call_list_k (K := K) rfl) (by rfl) T.z_list (by decide +kernel) (pa_cons (pe_ix (ix_tup_k (K := K) rfl) (pv 1) pe_int (fun _ _ => rfl)) pa_nil)) (pe_ifExp (pt_cmp (pc_notN (pe_ix (ix_tup_k (K := K) rfl) (pv 1) pe_int (fun _ _ => rfl)))) (pe_lst (pa_cons (pe_ix (ix_tup_k (K := K) rfl) (pv 1) pe_int (fun _ _ => rfl)) pa_nil)) (pe_lst pa_nil))))
      (pss_cons (ps_for PassesOwn.never rfl (pi_list_k (K := K) rfl (pv 2)) (pg_name (i := 3) sc_lw_is_saying.nd rfl (Or.inl rfl))
      (pss_cons (ps_if (PW.pt (pw_or (pt_not (pt_val (pe_callB (call_isi_k (K := K) rfl) (by rfl) T.z_isinstance (by decide +kernel) (pa_cons (pv 3) (pa_cons (pe_bltn (v := .ty "tuple") (u := .type "tuple") (by rfl) T.z_tuple (by decide +kernel) rfl) pa_nil))))) (pw_or (pt_cmpR (op_ne_k (K := K) rfl hr.units) (pe_callB (call_len_k (K := K) rfl) (by rfl) T.z_len (by decide +kernel) (pa_cons (pv 3) pa_nil)) pe_int (nomark _)) (pw_or1 (pt_cmpR (op_eq_k (K := K) rfl hr.units) (pe_ix (ix_tup_k (K := K) rfl) (pv 3) pe_int (fun _ _ => rfl)) (pe_ix (ix_tup_k (K := K) rfl) (pv 3) pe_int (fun _ _ => rfl)) (nomark _))))))
      (pss_one (ps_ret pe_bl))
      pss_nil)
      (pss_one (ps_if (pt_cmpR (op_ne_k (K := K) rfl hr.units) (pe_lc (own := [("one", 5)]) (g := gName 5) rfl sc_lw_is_saying.nd (pi_tup_k (K := K) rfl (pv 3)) (blkOk_by (N := ["n", "value", "pairs", "pair", "ties", "one", "a", "b"]) (sc := defScope s_lw_is_saying) (by decide +kernel)) (fun _ _ _ _ _ => (pg_name (i := 5) sc_lw_is_saying.nd rfl (Or.inl rfl))) (fun _ _ _ _ _ => (pts_one (PW.pt (pw_or (pt_val (pe_callB (call_isi_k (K := K) rfl) (by rfl) T.z_isinstance (by decide +kernel) (pa_cons (pv 5) (pa_cons (pe_bltn (v := .ty "bool") (u := .type "bool") (by rfl) T.z_bool (by decide +kernel) rfl) pa_nil)))) (pw_or (pt_not (pt_val (pe_callB (call_isi_k (K := K) rfl) (by rfl) T.z_isinstance (by decide +kernel) (pa_cons (pv 5) (pa_cons (pe_bltn (v := .ty "int") (u := .type "int") (by rfl) T.z_int (by decide +kernel) rfl) pa_nil))))) (pw_or1 (pt_not (pt_chain op_le op_lt pe_int (pv 5) (pv 0))))))))) (fun _ _ _ _ _ => (pv 5))) (pe_lst pa_nil) (nomark _))
      (pss_one (ps_ret pe_bl))
      pss_nil))))
      (pss_cons (ps_set (i := 4) sc_lw_is_saying.nd rfl (Or.inl rfl) (pe_callTy (call_list_k (K := K) rfl) (by rfl) T.z_list (by decide +kernel) (pa_cons (pe_ix (ix_tup_k (K := K) rfl) (pv 1) pe_int (fun _ _ => rfl)) pa_nil)))
      (pss_one (ps_ret (pe_and (pe_cmpR (op_eq_k (K := K) rfl hr.units) (pv 4) (pe_callB (cr_sortedSet_k (w := w) rfl rfl) (by rfl) T.z_sorted (by decide +kernel) (pa_cons (pe_callTy (cr_setL (K := K) (w := w) rfl rfl rfl) (by rfl) T.z_set (by decide +kernel) (pa_cons (pv 4) pa_nil)) pa_nil)) (nomark _)) (pe_one (pe_cmpR (op_eq_k (K := K) rfl hr.units) (pe_lc (own := [("a", 6), ("b", 7)]) (g := gTup K 2 (gCons (gName 6) (gCons (gName 7) (gNil)))) rfl sc_lw_is_saying.nd (pi_list_k (K := K) rfl (pv 4)) (blkOk_by (N := ["n", "value", "pairs", "pair", "ties", "one", "a", "b"]) (sc := defScope s_lw_is_saying) (by decide +kernel)) (fun _ _ _ _ _ => (pg_tup rfl (pgs_cons (pg_name (i := 6) sc_lw_is_saying.nd rfl (Or.inl rfl)) (pgs_cons (pg_name (i := 7) sc_lw_is_saying.nd rfl (Or.inl rfl)) pgs_nil)))) (fun _ _ _ _ _ => (pts_one (pt_cmpR op_gt (pv 6) (pv 7) (nomark _)))) (fun _ _ _ _ _ => pe_int)) (pe_lst pa_nil) (nomark _)))))))))), ?_⟩
      refine q_if tr (eb_or (eb_not (eb_test (ev_isi (a := "tuple") (k := true) (ev_var rfl h2) tyx_tup (by decide +kernel)))) fun _ => eb_or (eb_test (ev_neD (ev_len (ev_var rfl h2) (.inr rfl)) ev_int (shp_int _) (shp_int _))) fun _ => eb_not (eb_test (ev_isi (a := "tuple") (k := true) (ev_ixT (ev_var rfl h2) ev_int (atI_nat (j := 0) rfl)) tyx_tup (by decide +kernel)))) (fun hb => ?_) (fun _ H1 e1 t1 => ?_)
      · rw [neI _ _ rfl] at hb
        cases hb
      have d2 := dm_same h2 tr e1
      refine q_asg (K := K) (d := .list [dP p]) t1 (ev_cat (ds := []) (es := [dP p]) (ev_listOf (ev_ixT (ev_var rfl d2) ev_int (atI_nat (j := 0) rfl)) (.inr rfl)) (ev_if (b := true) (eb_B (ev_notN (ev_ixT (ev_var rfl d2) ev_int (atI_nat (j := 1) rfl)))) (fun _ => ev_lst (ea_cons (ev_ixT (ev_var rfl d2) ev_int (atI_nat (j := 1) rfl)) ea_nil) (sz 1)) (fun z => nomatch z)) (sz 1)) fun v3 H2 e2 t2 d3 => ?_
      have d22 := dm_same d2 t1 e2
      refine q_for (K := K) t2 (wk_listT (xs := [p]) (enc := dP) (ev_var rfl d3)) (fun H3 i σ' H' => (∃ o3 o4 o5 o6 o7, σ' = [some (.int n), some v2, some v3, o3, o4, o5, o6, o7]) ∧ Same H3 H' ∧ Tr M H')
        (fun H3 e3 t3 => ⟨⟨_, _, _, _, _, rfl⟩, Same.refl _, t3⟩) (fun H3 i σ' H' e3 q => (Go.refl (Tr.same t2 e3)).same q.2.1) ?_ ?_
      · rintro H3 i σ' H4 x H5 e3 hi ⟨⟨o3, o4, o5, o6, o7, rfl⟩, s4, t4⟩ e5 dx
        rw [at0_map hi] at dx
        have e0 : ([p])[i] = p := List.mem_singleton.mp (List.getElem_mem hi)
        rw [e0] at dx
        have t5 := Tr.same t4 e5
        refine q_if t5 (eb_or (eb_not (eb_test (ev_isi (a := "tuple") (k := true) (ev_var rfl dx) tyx_tup (by decide +kernel)))) fun _ => eb_or (eb_test (ev_neD (ev_len (ev_var rfl dx) (.inr rfl)) ev_int (shp_int _) (shp_int _))) fun _ => eb_test (ev_eqD (ev_ixT (ev_var rfl dx) ev_int (atI_nat (j := 0) rfl)) (ev_ixT (ev_var rfl dx) ev_int (atI_nat (j := 1) rfl)) (shp_int _) (shp_int _))) (fun hb => ?_) (fun _ H6 e6 t6 => ?_)
        · rw [neI _ _ rfl, eqv_int] at hb
          have hb : (p.1 == p.2) = true := hb
          exact absurd (beq_iff_eq.mp hb) hne
        have dx6 := dm_same dx t5 e6
        refine s_if t6 (eb_test (ev_neD (ev_lcT (enc := PyData.int) (xs := [p.1, p.2]) (fun _ => false) PyData.int (wk_tupT (ev_var rfl dx6)) (by show 2 ≤ 1000000; decide) fun M' H' z y g hi dy => ⟨_, tk_name, rfl, Eb.is (eb_or (eb_test (ev_isi (a := "int") (k := false) (ev_var rfl dy) tyx_int (by decide +kernel))) fun _ => eb_or (eb_not (eb_test (ev_isi (a := "int") (k := true) (ev_var rfl dy) tyx_int (by decide +kernel)))) fun _ => eb_not (eb_test (ev_chain (g1 := fun i j => decide (i ≤ j)) (g2 := fun i j => decide (i < j)) ev_int (ev_var rfl dy) (ev_var rfl (.int n))))) ?_, fun z => nomatch z⟩) (ev_lst ea_nil (sz 0)) rfl rfl)) (fun hb => ?_) (fun _ H7 e7 t7 => ⟨⟨_, _, _, _, _, rfl⟩, ((s4.trans e5).trans e6).trans e7, t7⟩)
        · have hz : 0 ≤ z ∧ z < n := by
            simp only [List.mem_cons, List.not_mem_nil, or_false] at hi
            rcases hi with rfl | rfl
            · exact hp.1
            · exact hp.2
          rw [decide_eq_true hz.1, decide_eq_true hz.2]
          rfl
        · have hb : (!PyData.eqv (.list []) (.list [])) = true := hb
          rw [eqv_nil2] at hb
          cases hb
      · rintro H3 σ' H4 e3 ⟨⟨o3, o4, o5, o6, o7, rfl⟩, s4, t4⟩
        have d23 := dm_same d22 t2 (e3.trans s4)
        refine q_asg (K := K) (d := .list []) t4 (ev_listOf (ev_ixT (ev_var rfl d23) ev_int (atI_nat (j := 0) rfl)) (.inr rfl)) fun v4 H5 e5 t5 d4 => ?_
        refine s_ret (K := K) t5 (ev_andV (a := true) (b := true) (Ev.is (ev_eqD (ev_var rfl d4) (ev_lvlL (w := w) (xs := []) (ev_var rfl d4) (by decide) (by decide)) rfl rfl) (congrArg PyData.bool eqv_nil2)) fun _ => Ev.is (ev_eqD (ev_lcT (enc := dP) (xs := []) (fun _ => false) (fun _ => .int 1) (wk_listT (ev_var rfl d4)) (by decide) fun M' H' i y g hi dy => nomatch hi) (ev_lst ea_nil (sz 0)) rfl rfl) (congrArg PyData.bool eqv_nil2)) fun v H9 e9 t9 d9 => k v H9 (((((e1.trans e2).trans e3).trans s4).trans e5).trans e9) d9
end
end Own

namespace Own
open PySem PySem.Spec PyProof.Rows L2 Gd Dq
theorem rank_lt {xs : List Int} {a b : Int} (ha : a ∈ xs) (hb : b ∈ xs) (h : a < b) : rank xs a < rank xs b := by
  have h1 : (lvl xs).idxOf a < (lvl xs).length := List.idxOf_lt_length_of_mem (mem_lvl.mpr ha)
  have h2 : (lvl xs).idxOf b < (lvl xs).length := List.idxOf_lt_length_of_mem (mem_lvl.mpr hb)
  have e1 : (lvl xs)[(lvl xs).idxOf a] = a := List.getElem_idxOf h1
  have e2 : (lvl xs)[(lvl xs).idxOf b] = b := List.getElem_idxOf h2
  show (((lvl xs).idxOf a : Nat) : Int) < ((lvl xs).idxOf b : Nat)
  by_cases c : (lvl xs).idxOf a < (lvl xs).idxOf b
  · omega
  · by_cases c2 : (lvl xs).idxOf b < (lvl xs).idxOf a
    · have := List.pairwise_iff_getElem.mp (pw_lvl xs) _ _ h2 h1 c2
      omega
    · have e : (lvl xs).idxOf a = (lvl xs).idxOf b := by omega
      have e3 : a = b := by
        rw [← e1, ← e2]
        congr 1
      omega
theorem ix_rks {xs : List Int} {i : Int} (h : 0 ≤ i ∧ i < xs.length) : ix (rks xs) i = rank xs (ix xs i) ∧ ix xs i ∈ xs := by
  obtain ⟨j, rfl⟩ : ∃ j : Nat, i = (j : Int) := ⟨i.toNat, by omega⟩
  have hj : j < xs.length := by omega
  unfold ix rks
  rw [Int.toNat_natCast, List.getD_eq_getElem?_getD, List.getD_eq_getElem?_getD, List.getElem?_map, List.getElem?_eq_getElem hj]
  exact ⟨rfl, List.getElem_mem hj⟩
theorem keep_rks {s : Sy} {xs : List Int} (h : okS (xs.length : Nat) s) : keepS s (rks xs) = keepS s xs := by
  have le : ∀ i j : Int, 0 ≤ i ∧ i < xs.length → 0 ≤ j ∧ j < xs.length → (ix (rks xs) i < ix (rks xs) j ↔ ix xs i < ix xs j) := fun i j hi hj => by
    obtain ⟨e1, m1⟩ := ix_rks hi
    obtain ⟨e2, m2⟩ := ix_rks hj
    rw [e1, e2]
    constructor
    · intro a
      by_cases c : ix xs i < ix xs j
      · exact c
      · by_cases c2 : ix xs j < ix xs i
        · have := rank_lt m2 m1 c2
          omega
        · have e : ix xs i = ix xs j := by omega
          rw [e] at a
          omega
    · exact rank_lt m1 m2
  unfold keepS
  have h1 : (s.ties.any fun p => ix (rks xs) p.1 != ix (rks xs) p.2) = (s.ties.any fun p => ix xs p.1 != ix xs p.2) := by
    rw [Bool.eq_iff_iff, List.any_eq_true, List.any_eq_true]
    have key : ∀ p ∈ s.ties, ((ix (rks xs) p.1 != ix (rks xs) p.2) = true ↔ (ix xs p.1 != ix xs p.2) = true) := fun p hp => by
      have a := le p.1 p.2 (h.1 p hp).1 (h.1 p hp).2
      have b := le p.2 p.1 (h.1 p hp).2 (h.1 p hp).1
      rw [bne_iff_ne, bne_iff_ne]
      omega
    exact ⟨fun ⟨p, hp, q⟩ => ⟨p, hp, (key p hp).mp q⟩, fun ⟨p, hp, q⟩ => ⟨p, hp, (key p hp).mpr q⟩⟩
  rw [h1]
  cases hh : s.head with
  | none => rfl
  | some p =>
    have hp := h.2 p hh
    have b := le p.2 p.1 hp.2 hp.1
    refine congrArg (_ || ·) ?_
    exact decide_eq_decide.mpr (by omega)
def okW (n : Int) (s : Sy) : Prop := okS n s ∧ s.ties.length ≤ 7
theorem fitW {n : Int} (hn : n ≤ 60) {s : Sy} (h : okW n s) : Fit 3 604 (dS s) := by
  have fp : ∀ p, okP n p → Fit 1 42 (dP p) := fun p hp => fit_dP hp (by omega)
  have h1 : Fit 2 301 (.tuple (s.ties.map dP)) := (Fit.tuple (n := 1) (k := 42) fun d hd => by
    obtain ⟨p, hp, rfl⟩ := List.mem_map.mp hd
    exact fp p (h.1.1 p hp)).mono (by omega) (by rw [List.length_map]; have := h.2; omega)
  have h2 : Fit 2 301 (dH s.head) := by
    cases hh : s.head with
    | none => exact Fit.non.mono (by omega) (by omega)
    | some p => exact (fp p (h.1.2 p hh)).mono (by omega) (by omega)
  exact (Fit.tuple (n := 2) (k := 301) (ds := [.tuple (s.ties.map dP), dH s.head]) fun d hd => by
    simp only [List.mem_cons, List.not_mem_nil, or_false] at hd
    rcases hd with rfl | rfl
    · exact h1
    · exact h2).mono (by omega) (by show 2 * 302 ≤ 604; decide)
theorem fitI {xs : List Int} (h : ∀ x ∈ xs, -(10 ^ 30) ≤ x ∧ x ≤ 10 ^ 30) (hl : xs.length ≤ 60) : Fit 1 6120 (dI xs) :=
  (Fit.tuple (n := 0) (k := 101) fun d hd => by
    obtain ⟨x, hx, rfl⟩ := List.mem_map.mp hd
    have := h x hx
    exact Fit.int 101 (by decide) (by decide) (by omega)).mono (by omega) (by rw [List.length_map]; omega)
theorem rank_le {xs : List Int} {x : Int} (hx : x ∈ xs) : 0 ≤ rank xs x ∧ rank xs x < xs.length := by
  have h1 : (lvl xs).idxOf x < (lvl xs).length := List.idxOf_lt_length_of_mem (mem_lvl.mpr hx)
  have h2 := lvl_len xs
  unfold rank
  omega
theorem rks_len (xs : List Int) : (rks xs).length = xs.length := List.length_map ..
theorem cut_from {rs : List Int} {k : Nat} (h : k ≤ rs.length) : cutPd (rs.map PyData.int) (some (k : Int)) none = (rs.drop k).map PyData.int := by
  unfold cutPd
  have e : HT.sIx (rs.map PyData.int).length 0 (some (k : Int)) = k := by
    rw [HT.sIx_nat, List.length_map]
    omega
  rw [e, HT.sIx_none, List.map_drop, List.take_of_length_le]
  rw [List.length_drop]
  omega
theorem cut_to {rs : List Int} (k : Nat) : cutPd (rs.map PyData.int) none (some (k : Int)) = (rs.take k).map PyData.int := by
  rw [cut_take, HT.sIx_nat, List.length_map, ← List.map_take]
  by_cases h : k ≤ rs.length
  · rw [Nat.min_eq_left h]
  · rw [Nat.min_eq_right (by omega), List.take_of_length_le (Nat.le_refl _), List.take_of_length_le (by omega)]
theorem nd_lvl (xs : List Int) : (lvl xs).Nodup := (pw_lvl xs).imp fun h => Int.ne_of_lt h
theorem rks_lt {xs : List Int} {i j : Int} (hi : 0 ≤ i ∧ i < xs.length) (hj : 0 ≤ j ∧ j < xs.length) : ix (rks xs) i < ix (rks xs) j ↔ ix xs i < ix xs j := by
  obtain ⟨e1, m1⟩ := ix_rks hi
  obtain ⟨e2, m2⟩ := ix_rks hj
  rw [e1, e2]
  constructor
  · intro a
    by_cases c : ix xs i < ix xs j
    · exact c
    · by_cases c2 : ix xs j < ix xs i
      · have := rank_lt m2 m1 c2
        omega
      · have e : ix xs i = ix xs j := by omega
        rw [e] at a
        omega
  · exact rank_lt m1 m2
/-- ranks are told by the comparisons alone -/
theorem rank_mono {xs ys : List Int} (hl : ys.length = xs.length) (h : ∀ i j (hi : i < xs.length) (hj : j < xs.length), xs[i] < xs[j] → ys[i] < ys[j]) : ∀ (k i : Nat) (hi : i < xs.length), (lvl xs).idxOf xs[i] = k → k ≤ (lvl ys).idxOf ys[i]
  | 0, i, hi, e => Nat.zero_le _
  | k + 1, i, hi, e => by
    have hlt : (lvl xs).idxOf xs[i] < (lvl xs).length := List.idxOf_lt_length_of_mem (mem_lvl.mpr (List.getElem_mem hi))
    have hk : k < (lvl xs).length := by omega
    obtain ⟨j, hj, ej⟩ := List.getElem_of_mem (mem_lvl.mp (List.getElem_mem hk))
    have e2 : (lvl xs).idxOf xs[j] = k := by
      rw [ej]
      exact (nd_lvl xs).idxOf_getElem k hk
    have hlt2 : xs[j] < xs[i] := by
      have := List.pairwise_iff_getElem.mp (pw_lvl xs) k (k + 1) hk (by omega) (by omega)
      have e3 : (lvl xs)[(lvl xs).idxOf xs[i]] = xs[i] := List.getElem_idxOf hlt
      have e4 : (lvl xs)[k + 1]'(by omega) = xs[i] := by
        rw [← e3]
        congr 1
        exact e.symm
      omega
    have h1 := h j i hj hi hlt2
    have h2 := rank_mono hl h k j hj e2
    have h3 := rank_lt (List.getElem_mem (show j < ys.length by omega)) (List.getElem_mem (show i < ys.length by omega)) h1
    have h3 : (((lvl ys).idxOf ys[j] : Nat) : Int) < ((lvl ys).idxOf ys[i] : Nat) := h3
    omega
theorem ixn {xs : List Int} {i : Nat} (h : i < xs.length) : ix xs ((i : Nat) : Int) = xs[i] := by
  unfold ix
  rw [Int.toNat_natCast, List.getD_eq_getElem?_getD, List.getElem?_eq_getElem h]
  rfl
theorem df_no {xs ys : List Int} (h : part xs ys = none) {u v : Nat} (hu : u < xs.length) (hv : v < xs.length) : df xs ys u v = false := by
  have h1 : prow xs ys u = none := List.findSome?_eq_none_iff.mp h u (List.mem_range.mpr hu)
  have h2 := List.findSome?_eq_none_iff.mp h1 v (List.mem_range.mpr hv)
  cases q : df xs ys u v with
  | false => rfl
  | true =>
    rw [q] at h2
    cases h2
theorem part_rks {xs ys : List Int} (hl : ys.length = xs.length) : (part xs ys).isNone = decide (rks xs = rks ys) := by
  have tr : ∀ {a b : Nat} (ha : a < xs.length) (hb : b < xs.length), rks xs = rks ys → (xs[a] ≤ xs[b] ↔ ys[a] ≤ ys[b]) := fun {a b} ha hb e => by
    have r1 := rks_lt (xs := xs) (i := (b : Nat)) (j := (a : Nat)) (by omega) (by omega)
    have r2 := rks_lt (xs := ys) (i := (b : Nat)) (j := (a : Nat)) (by omega) (by omega)
    rw [← e, ixn (show b < ys.length by omega), ixn (show a < ys.length by omega)] at r2
    rw [ixn hb, ixn ha] at r1
    omega
  cases q : part xs ys with
  | none =>
    refine (decide_eq_true ?_).symm
    have hd : ∀ {u v : Nat} (hu : u < xs.length) (hv : v < xs.length), (xs[u] ≤ xs[v] ↔ ys[u] ≤ ys[v]) := fun {u v} hu hv => by
      have := df_no q hu hv
      unfold df at this
      rw [ixn hu, ixn hv, ixn (show u < ys.length by omega), ixn (show v < ys.length by omega), bne_eq_false_iff_eq] at this
      exact decide_eq_decide.mp this
    unfold rks
    refine List.ext_getElem (by rw [List.length_map, List.length_map, hl]) fun i h1 h2 => ?_
    rw [List.length_map] at h1 h2
    rw [List.getElem_map, List.getElem_map]
    have a1 := rank_mono hl (fun i j hi hj h => by have := hd hj hi; omega) _ i h1 rfl
    have a2 := rank_mono (xs := ys) (ys := xs) hl.symm (fun i j hi hj h => by have := hd (show j < xs.length by omega) (show i < xs.length by omega); omega) _ i h2 rfl
    show (((lvl xs).idxOf xs[i] : Nat) : Int) = ((lvl ys).idxOf ys[i] : Nat)
    omega
  | some p =>
    refine (decide_eq_false fun e => ?_).symm
    obtain ⟨u, hu, h1⟩ := List.exists_of_findSome?_eq_some q
    obtain ⟨v, hv, h2⟩ := List.exists_of_findSome?_eq_some h1
    have hu := List.mem_range.mp hu
    have hv := List.mem_range.mp hv
    have h3 : df xs ys u v = false := by
      unfold df
      rw [ixn hu, ixn hv, ixn (show u < ys.length by omega), ixn (show v < ys.length by omega), bne_eq_false_iff_eq]
      exact decide_eq_decide.mpr (tr hu hv e)
    rw [h3] at h2
    cases h2
/-- what is told parts them -/
theorem part_some {xs ys : List Int} {p : Int × Int} (h : part xs ys = some p) : okP (xs.length : Nat) p ∧ p.1 ≠ p.2 ∧ keepS ⟨[], some p⟩ xs ≠ keepS ⟨[], some p⟩ ys := by
  obtain ⟨u, hu, h1⟩ := List.exists_of_findSome?_eq_some h
  obtain ⟨v, hv, h2⟩ := List.exists_of_findSome?_eq_some h1
  have hu := List.mem_range.mp hu
  have hv := List.mem_range.mp hv
  cases q : df xs ys u v with
  | false =>
    rw [q] at h2
    cases h2
  | true =>
    rw [q] at h2
    cases h2
    have hn : decide (ix xs (u : Nat) ≤ ix xs (v : Nat)) ≠ decide (ix ys (u : Nat) ≤ ix ys (v : Nat)) := by
      unfold df at q
      exact bne_iff_ne.mp q
    refine ⟨⟨⟨by show (0 : Int) ≤ (u : Nat); omega, by show ((u : Nat) : Int) < _; omega⟩, by show (0 : Int) ≤ (v : Nat); omega, by show ((v : Nat) : Int) < _; omega⟩, fun e => ?_, hn⟩
    have e : ((u : Nat) : Int) = ((v : Nat) : Int) := e
    rw [e] at hn
    exact hn (by rw [decide_eq_true (Int.le_refl _), decide_eq_true (Int.le_refl _)])
theorem keep_part {xs ys : List Int} (hl : ys.length = xs.length) (h : part xs ys = none) {s : Sy} (ok : okS (xs.length : Nat) s) : keepS s xs = keepS s ys := by
  have e := part_rks hl
  rw [h] at e
  have e := of_decide_eq_true e.symm
  rw [← keep_rks ok, e, keep_rks (by rw [hl]; exact ok)]
theorem dO_none (p : Option (Int × Int)) : isNone (dO p) = p.isNone := by cases p <;> rfl
theorem fit_dO {n : Int} (hn : n ≤ 60) {p : Option (Int × Int)} (h : ∀ q, p = some q → okP n q) : Fit 3 604 (dO p) := by
  cases p with
  | none => exact Fit.non.mono (by omega) (by omega)
  | some q => exact fitW hn ⟨⟨(fun p hp => nomatch hp), fun r hr => by cases hr; exact h q rfl⟩, by show 0 ≤ 7; decide⟩
theorem fit_pair {d e : PyData} {n k : Nat} (hd : Fit n k d) (he : Fit n k e) : Fit (n + 1) (2 * (k + 1)) (.list [d, e]) :=
  Fit.list (ds := [d, e]) (n := n) (k := k) fun z hz => by
    simp only [List.mem_cons, List.not_mem_nil, or_false] at hz
    rcases hz with rfl | rfl
    · exact hd
    · exact he
theorem fit_bb (a b : Bool) : Fit 1 2 (.list [.bool a, .bool b]) := (fit_pair (Fit.bl a) (Fit.bl b)).mono (by omega) (by omega)
end Own

namespace Own
open PySem PySem.Spec PyProof.Rows L2 Gd Dq
section
variable {P : Program} {w : World} {K : PySem.W.Frag} {mg : Str → Option Value} {base : Heap} {A : Ads}
theorem G_law (T : Tp K mg A) : FnG P w K mg base 4 A.a_law A.d_law ["script"] (spLaw K) := by
  refine fn_ofG T.F_law sc_law (fun vs H Q E h => ?_) (fun cdv A outer s0 H vs Q E hg hr h => ?_)
  · obtain ⟨a, ns, rfl, _⟩ := h
    rfl
  · obtain ⟨a, ns, rfl, hS, hl, k⟩ := h
    refine ⟨_, (pss_cons (ps_set (i := 1) sc_law.nd rfl (Or.inl rfl) (pe_callG (FnG.mono (G_lw_source T) (by decide)) hg hr (by rfl) T.g_lw_source T.F_lw_source.kp T.b_lw_source .nil (pa_cons (pv 0) pa_nil)))
      (pss_cons (ps_for PassesOwn.never rfl (pi_range1 (by rfl) T.z_range (pa_cons pe_int pa_nil)) (pg_name (i := 2) sc_law.nd rfl (Or.inl rfl))
      (pss_cons (ps_set (i := 3) sc_law.nd rfl (Or.inl rfl) (pe_op op_add pe_int (pe_callG (FnG.mono (G_lw_pick T) (by decide)) hg hr (by rfl) T.g_lw_pick T.F_lw_pick.kp T.b_lw_pick .nil (pa_cons (pv 1) (pa_cons pe_int pa_nil)))))
      (pss_cons (ps_set (i := 4) sc_law.nd rfl (Or.inl rfl) (pe_callG (FnG.mono (G_lw_draw_placing T) (by decide)) hg hr (by rfl) T.g_lw_draw_placing T.F_lw_draw_placing.kp T.b_lw_draw_placing .nil (pa_cons (pv 1) (pa_cons (pv 3) pa_nil))))
      (pss_cons (ps_par (i := 5) (j := 6) rfl sc_law.nd rfl rfl (by decide) rfl rfl (pa_cons (pe_callG (FnG.mono (G_lw_alike_placing T) (by decide)) hg hr (by rfl) T.g_lw_alike_placing T.F_lw_alike_placing.kp T.b_lw_alike_placing .nil (pa_cons (pv 1) (pa_cons (pv 4) pa_nil))) (pa_cons (pe_callG (FnG.mono (G_lw_pick T) (by decide)) hg hr (by rfl) T.g_lw_pick T.F_lw_pick.kp T.b_lw_pick .nil (pa_cons (pv 1) (pa_cons pe_int pa_nil))) pa_nil)) (by rfl))
      (Evl.pss_cut (ps_if (pt_cmpR (op_eq_k (K := K) rfl hr.units) (pv 6) pe_int (nomark _))
      (pss_cons (ps_set (i := 7) sc_law.nd rfl (Or.inl rfl) (pe_callG (FnG.mono (G_lw_pick T) (by decide)) hg hr (by rfl) T.g_lw_pick T.F_lw_pick.kp T.b_lw_pick .nil (pa_cons (pv 1) (pa_cons (pv 3) pa_nil))))
      (pss_one (ps_set (i := 5) sc_law.nd rfl (Or.inl rfl) (pe_op (op_catT_k (K := K) rfl) (pe_op (op_catT_k (K := K) rfl) (pe_slice (sl_tup_k (K := K) rfl) (pv 5) po_none (po_some (pv 7))) (pe_tup (pa_cons (pe_op op_add (pe_ix (ix_tup_k (K := K) rfl) (pv 5) (pv 7) (fun _ _ => rfl)) (pe_callG (FnG.mono (G_lw_of T) (by decide)) hg hr (by rfl) T.g_lw_of T.F_lw_of.kp T.b_lw_of .nil (pa_cons (pv 1) (pa_cons (pe_lst (pa_cons pe_int (pa_cons (pe_un un_neg pe_int) (pa_cons (pe_op op_pow pe_int pe_int) pa_nil)))) pa_nil)))) pa_nil))) (pe_slice (sl_tup_k (K := K) rfl) (pv 5) (po_some (pe_op op_add (pv 7) pe_int)) po_none)))))
      pss_nil)
      (pss_cons (ps_set (i := 5) sc_law.nd rfl (Or.inl rfl) (pe_ifExp (pt_cmpR (op_eq_k (K := K) rfl hr.units) (pv 6) pe_int (nomark _)) (pe_callG (FnG.mono (G_lw_draw_placing T) (by decide)) hg hr (by rfl) T.g_lw_draw_placing T.F_lw_draw_placing.kp T.b_lw_draw_placing .nil (pa_cons (pv 1) (pa_cons (pv 3) pa_nil))) (pv 5)))
      (pss_cons (ps_par3 (i := 8) (j := 9) (l := 10) rfl sc_law.nd rfl rfl rfl (by decide) (by decide) (by decide) rfl rfl rfl (pa_cons (pe_cmpR (op_eq_k (K := K) rfl hr.units) (pe_callG (FnG.mono (G_lw_order_of T) (by decide)) hg hr (by rfl) T.g_lw_order_of T.F_lw_order_of.kp T.b_lw_order_of .nil (pa_cons (pv 4) pa_nil)) (pe_callG (FnG.mono (G_lw_order_of T) (by decide)) hg hr (by rfl) T.g_lw_order_of T.F_lw_order_of.kp T.b_lw_order_of .nil (pa_cons (pv 5) pa_nil)) (nomark _)) (pa_cons (pe_callB (call_reprZ_k (K := K) rfl hg hr.units) (by rfl) T.z_repr (by decide +kernel) (pa_cons (pe_lst (pa_cons (pv 4) (pa_cons (pv 5) pa_nil))) pa_nil)) (pa_cons (pe_callG (FnG.mono (G_parting T) (by decide)) hg hr (by rfl) T.g_parting T.F_parting.kp T.b_parting .nil (pa_cons (pv 4) (pa_cons (pv 5) pa_nil))) pa_nil))) (by rfl))
      (pss_cons (ps_if (PW.pt (pw_or (pt_cmpR (op_ne_k (K := K) rfl hr.units) (pe_cmp (pc_isN (pv 10))) (pv 8) (nomark _)) (pw_or (pt_cmpR op_ne (pe_callB (call_reprZ_k (K := K) rfl hg hr.units) (by rfl) T.z_repr (by decide +kernel) (pa_cons (pe_callG (FnG.mono (G_parting T) (by decide)) hg hr (by rfl) T.g_parting T.F_parting.kp T.b_parting .nil (pa_cons (pv 4) (pa_cons (pv 5) pa_nil))) pa_nil)) (pe_callB (call_reprZ_k (K := K) rfl hg hr.units) (by rfl) T.z_repr (by decide +kernel) (pa_cons (pv 10) pa_nil)) (nomark _)) (pw_or1 (pt_cmpR op_ne (pe_callB (call_reprZ_k (K := K) rfl hg hr.units) (by rfl) T.z_repr (by decide +kernel) (pa_cons (pe_lst (pa_cons (pv 4) (pa_cons (pv 5) pa_nil))) pa_nil)) (pv 9) (nomark _))))))
      (pss_one (ps_ret pe_bl))
      pss_nil)
      (pss_cons (ps_if (pt_cmpR (op_ne_k (K := K) rfl hr.units) (pe_cmpR (op_eq_k (K := K) rfl hr.units) (pe_callG (FnG.mono (G_order_of T) (by decide)) hg hr (by rfl) T.g_order_of T.F_order_of.kp T.b_order_of .nil (pa_cons (pv 4) pa_nil)) (pe_callG (FnG.mono (G_order_of T) (by decide)) hg hr (by rfl) T.g_order_of T.F_order_of.kp T.b_order_of .nil (pa_cons (pv 5) pa_nil)) (nomark _)) (pv 8) (nomark _))
      (pss_one (ps_ret pe_bl))
      pss_nil)
      (Evl.pss_cut (ps_if (pt_cmp (pc_notN (pv 10)))
      (pss_cons (ps_if (PW.pt (pw_or (pt_not (pt_val (pe_callG (FnG.mono (G_lw_is_saying T) (by decide)) hg hr (by rfl) T.g_lw_is_saying T.F_lw_is_saying.kp T.b_lw_is_saying .nil (pa_cons (pv 3) (pa_cons (pv 10) pa_nil))))) (pw_or1 (pt_cmpR (op_eq_k (K := K) rfl hr.units) (pe_callG (FnG.mono (G_lw_keeps T) (by decide)) hg hr (by rfl) T.g_lw_keeps T.F_lw_keeps.kp T.b_lw_keeps .nil (pa_cons (pv 10) (pa_cons (pv 4) pa_nil))) (pe_callG (FnG.mono (G_lw_keeps T) (by decide)) hg hr (by rfl) T.g_lw_keeps T.F_lw_keeps.kp T.b_lw_keeps .nil (pa_cons (pv 10) (pa_cons (pv 5) pa_nil))) (nomark _)))))
      (pss_one (ps_ret pe_bl))
      pss_nil)
      (pss_one (ps_if (pt_cmpR op_ne (pe_callB (call_reprZ_k (K := K) rfl hg hr.units) (by rfl) T.z_repr (by decide +kernel) (pa_cons (pe_lst (pa_cons (pe_callG (FnG.mono (G_keeps T) (by decide)) hg hr (by rfl) T.g_keeps T.F_keeps.kp T.b_keeps .nil (pa_cons (pv 10) (pa_cons (pv 4) pa_nil))) (pa_cons (pe_callG (FnG.mono (G_keeps T) (by decide)) hg hr (by rfl) T.g_keeps T.F_keeps.kp T.b_keeps .nil (pa_cons (pv 10) (pa_cons (pv 5) pa_nil))) pa_nil))) pa_nil)) (pe_callB (call_reprZ_k (K := K) rfl hg hr.units) (by rfl) T.z_repr (by decide +kernel) (pa_cons (pe_lst (pa_cons (pe_callG (FnG.mono (G_lw_keeps T) (by decide)) hg hr (by rfl) T.g_lw_keeps T.F_lw_keeps.kp T.b_lw_keeps .nil (pa_cons (pv 10) (pa_cons (pv 4) pa_nil))) (pa_cons (pe_callG (FnG.mono (G_lw_keeps T) (by decide)) hg hr (by rfl) T.g_lw_keeps T.F_lw_keeps.kp T.b_lw_keeps .nil (pa_cons (pv 10) (pa_cons (pv 5) pa_nil))) pa_nil))) pa_nil)) (nomark _))
      (pss_one (ps_ret pe_bl))
      pss_nil)))
      pss_nil)
      (pss_one (ps_for PassesOwn.never rfl (pi_range1 (by rfl) T.z_range (pa_cons (pe_ifExp (PW.pt (pw_and (pt_val (pv 8)) (pw_and1 (pt_cmpR op_gt (pv 3) pe_int (nomark _))))) pe_int pe_int) pa_nil)) (pg_name (i := 11) sc_law.nd rfl (Or.inl rfl))
      (pss_cons (ps_set (i := 12) sc_law.nd rfl (Or.inl rfl) (pe_callG (FnG.mono (G_lw_draw_saying T) (by decide)) hg hr (by rfl) T.g_lw_draw_saying T.F_lw_draw_saying.kp T.b_lw_draw_saying .nil (pa_cons (pv 1) (pa_cons (pv 3) (pa_cons pe_int pa_nil)))))
      (pss_one (ps_if (pt_cmpR op_ne (pe_callB (call_reprZ_k (K := K) rfl hg hr.units) (by rfl) T.z_repr (by decide +kernel) (pa_cons (pe_lst (pa_cons (pe_callG (FnG.mono (G_keeps T) (by decide)) hg hr (by rfl) T.g_keeps T.F_keeps.kp T.b_keeps .nil (pa_cons (pv 12) (pa_cons (pv 4) pa_nil))) (pa_cons (pe_callG (FnG.mono (G_keeps T) (by decide)) hg hr (by rfl) T.g_keeps T.F_keeps.kp T.b_keeps .nil (pa_cons (pv 12) (pa_cons (pv 5) pa_nil))) pa_nil))) pa_nil)) (pe_callB (call_reprZ_k (K := K) rfl hg hr.units) (by rfl) T.z_repr (by decide +kernel) (pa_cons (pe_op op_rep (pe_lst (pa_cons (pe_callG (FnG.mono (G_lw_keeps T) (by decide)) hg hr (by rfl) T.g_lw_keeps T.F_lw_keeps.kp T.b_lw_keeps .nil (pa_cons (pv 12) (pa_cons (pv 4) pa_nil))) pa_nil)) pe_int) pa_nil)) (nomark _))
      (pss_one (ps_ret pe_bl))
      pss_nil)))))))))))))))
      (pss_one (ps_ret (pe_and (pe_cmp (pc_isN (pe_callG (FnG.mono (G_parting T) (by decide)) hg hr (by rfl) T.g_parting T.F_parting.kp T.b_parting .nil (pa_cons (pe_tup pa_nil) (pa_cons (pe_tup pa_nil) pa_nil))))) (pe_and (pe_cmp (pc_isN (pe_callG (FnG.mono (G_parting T) (by decide)) hg hr (by rfl) T.g_parting T.F_parting.kp T.b_parting .nil (pa_cons (pe_tup (pa_cons pe_int pa_nil)) (pa_cons (pe_tup (pa_cons (pe_un un_neg pe_int) pa_nil)) pa_nil))))) (pe_one (pe_cmp (pc_notN (pe_callG (FnG.mono (G_parting T) (by decide)) hg hr (by rfl) T.g_parting T.F_parting.kp T.b_parting .nil (pa_cons (pe_tup (pa_cons pe_int (pa_cons pe_int pa_nil))) (pa_cons (pe_tup (pa_cons pe_int (pa_cons pe_int pa_nil))) pa_nil)))))))))))), ?_⟩
    refine q_asg0 ⟨.ref a, rfl, a, ns, rfl, hS, hl, fun s c H1 e1 hs0 hc0 S1 => ?_⟩
    have tr1 : Tr [s, c] H1 := fun b hb => by
      simp only [List.mem_cons, List.not_mem_nil, or_false] at hb
      rcases hb with rfl | rfl
      · exact S1.nn.1
      · exact S1.nn.2
    have hsM : s ∈ [s, c] := List.mem_cons_self ..
    have hcM : c ∈ [s, c] := List.mem_cons_of_mem _ (List.mem_cons_self ..)
    refine q_for (K := K) tr1 (wk_rng1 (ea_cons ev_int ea_nil) (by decide) (by decide)) (fun H2 i σ' H' => (∃ o2 o3 o4 o5 o6 o7 o8 o9 o10 o11 o12, σ' = [some (.ref a), some (.ref s), o2, o3, o4, o5, o6, o7, o8, o9, o10, o11, o12]) ∧ Src s c H' ∧ Go [s, c] H2 [s, c] H')
      (fun H2 e2 t2 => ⟨⟨_, _, _, _, _, _, _, _, _, _, _, rfl⟩, S1.same e2, Go.refl t2⟩) (fun H2 i σ' H' e2 p => p.2.2) ?_ ?_
    · rintro H2 lap σ' H3 x H4 e2 hlap ⟨⟨o2, o3, o4, o5, o6, o7, o8, o9, o10, o11, o12, rfl⟩, S3, go3⟩ e4 dx
      have S4 := S3.same e4
      have go4 := go3.same e4
      refine d_asg (K := K) (P := fun d => ∃ n : Int, d = .int n ∧ 1 ≤ n ∧ n ≤ 9) hsM hcM go4.tr S4 (dr_opr hsM hcM (dr_call (n := 1) (i := 1) hsM hcM rfl (ea_cons ev_int ea_nil) rfl ⟨9, rfl, by decide⟩) fun M' H' y d g S' dy hy => ?_) fun v d H5 k5 S5 go5 dv hd => ?_
      · obtain ⟨m, r, q0, rfl, hr0, hr1⟩ := hy
        cases q0
        have e8 : mx 9 = 9 := rfl
        rw [e8] at hr1
        exact dr_ev (ev_I0 ev_int (ev_val dy)) ⟨1 + r, rfl, by omega, by omega⟩
      obtain ⟨n, rfl, hn1, hn9⟩ := hd
      cases dv
      refine d_asg (K := K) (P := Rplacing [.int n]) hsM hcM go5.tr S5 (dr_call (n := 1) (i := 1) hsM hcM rfl (ea_cons (ev_var rfl (.int n)) ea_nil) rfl ⟨n, rfl, by omega, by omega⟩) fun v1 d H6 k6 S6 go6 d1 hd => ?_
      obtain ⟨n2, xs, q0, rfl, hxl, hxb⟩ := hd
      cases q0
      refine d_par (K := K) (PL := fun ds => ∃ (ys : List Int) (wy : Int), ds = [dI ys, .int wy] ∧ ys.length = xs.length ∧ ∀ y ∈ ys, -10 ≤ y ∧ y ≤ 10000000000000000000000) hsM hcM go6.tr S6
        (dra_cons (P1 := Ralike [dI xs]) hsM hcM (dr_call (n := 1) (i := 1) hsM hcM rfl (ea_cons (ev_var rfl d1) ea_nil) rfl ⟨xs, rfl, by omega⟩) fun d Ma Ha ga hd =>
          dra_cons (P1 := fun d => ∃ wy : Int, d = .int wy) (ga.sub s hsM) (ga.sub c hcM) (Dr.imp (dr_call (n := 1) (i := 1) (ga.sub s hsM) (ga.sub c hcM) rfl (ea_cons ev_int ea_nil) rfl ⟨3, rfl, by decide⟩) fun d ⟨m, r, _, e, _⟩ => ⟨r, e⟩) fun d' Mb Hb gb hd' => dra_nil ?_) ?_ fun v2 vw dd1 dd2 H7 k7 S7 go7 d2 dw hd => ?_
      · obtain ⟨xs', ys, q0, rfl, hyl, hyb⟩ := hd
        have q0 : xs.map PyData.int = xs'.map PyData.int := by
          have := List.cons.inj q0
          exact PyData.tuple.inj this.1
        have hx : xs.length = xs'.length := by
          have := congrArg List.length q0
          rwa [List.length_map, List.length_map] at this
        obtain ⟨wy, rfl⟩ := hd'
        exact ⟨ys, wy, rfl, by omega, hyb⟩
      · rintro ds ⟨ys, wy, rfl, h⟩
        exact ⟨_, _, rfl⟩
      obtain ⟨ys0, wy, q0, hyl0, hyb0⟩ := hd
      cases q0
      cases dw
      have d17 := dm_go d1 go7
      have go7A : Go [s, c] H2 [s, c] H7 := ((go4.trans go5).trans go6).trans go7
      -- the other placing, changed or not
      refine ⟨fun σ' H' => ∃ vy ys o7 o8 o9 o10 o11 o12, σ' = [some (.ref a), some (.ref s), some x, some (.int n), some v1, some vy, some (.int wy), o7, o8, o9, o10, o11, o12] ∧ Src s c H' ∧ Go [s, c] H7 [s, c] H' ∧ Dm K [s, c] H' vy (dI ys) ∧ ys.length = xs.length ∧ ∀ y ∈ ys, -(10 ^ 30) ≤ y ∧ y ≤ 10 ^ 30, ?_, ?_⟩
      · refine s_if go7.tr (eb_test (ev_eqD (ev_var rfl (.int wy)) ev_int (shp_int _) (shp_int _))) (fun _ H8 e8 t8 => ?_) (fun _ H8 e8 t8 => ?_)
        · have S8 := S7.same e8
          have go8 := (Go.refl go7.tr).same e8
          refine d_asg (K := K) (P := fun d => ∃ j : Nat, d = .int (j : Int) ∧ (j : Int) < n) hsM hcM t8 S8 (Dr.imp (dr_call (n := 1) (i := 1) hsM hcM rfl (ea_cons (ev_var rfl (.int n)) ea_nil) rfl ⟨n, rfl, by omega⟩) fun d hd => ?_) fun vk d H9 k9 S9 go9 dk hd => ?_
          · obtain ⟨m, r, q0, rfl, hr0, hr1⟩ := hd
            cases q0
            rw [mx_le hn1] at hr1
            exact ⟨r.toNat, by rw [Int.toNat_of_nonneg hr0], by omega⟩
          obtain ⟨j, rfl, hj⟩ := hd
          cases dk
          have go9A := go8.trans go9
          have d29 := dm_go d2 go9A
          have hjl : j < ys0.length := by omega
          refine s_asg0 (dr_use (K := K) (P := fun d => ∃ ys : List Int, d = dI ys ∧ ys.length = xs.length ∧ ∀ y ∈ ys, -(10 ^ 30) ≤ y ∧ y ≤ 10 ^ 30) hsM hcM go9.tr S9
            (dr_opl (P1 := fun d => ∃ z : Int, d = dI (ys0.take j ++ [z]) ∧ -(10 ^ 30) ≤ z ∧ z ≤ 10 ^ 30) hsM hcM
              (dr_opl (P1 := fun d => d = dI (ys0.take j)) hsM hcM (dr_ev (ev_slT (hi := some (j : Int)) (ev_var rfl d29) eo_none (eo_some (K := K) (ev_var rfl (.int (j : Int))))) (by rw [cut_to]; rfl)) fun Ma Ha y d ga Sa dy hy =>
                dr_opr (P1 := fun d => ∃ z : Int, d = dI [z] ∧ -(10 ^ 30) ≤ z ∧ z ≤ 10 ^ 30) (ga.sub s hsM) (ga.sub c hcM)
                  (dr_tup (PL := fun ds => ∃ z : Int, ds = [.int z] ∧ -(10 ^ 30) ≤ z ∧ z ≤ 10 ^ 30) (ga.sub s hsM) (ga.sub c hcM)
                    (dra_cons (P1 := fun d => ∃ z : Int, d = .int z ∧ -(10 ^ 30) ≤ z ∧ z ≤ 10 ^ 30) (ga.sub s hsM) (ga.sub c hcM)
                      (dr_opl (P1 := fun d => d = .int (ix ys0 (j : Int))) (ga.sub s hsM) (ga.sub c hcM) (dr_ev (ev_ixT (ev_var rfl (dm_go d29 ga)) (ev_var rfl (.int (j : Int))) (at_ix (by omega))) rfl) fun Mb Hb y2 d2' gb Sb dy2 hy2 =>
                        dr_opr (P1 := fun d => ∃ z : Int, d = .int z ∧ -(10 ^ 21) ≤ z ∧ z ≤ 10 ^ 21) (gb.sub s (ga.sub s hsM)) (gb.sub c (ga.sub c hcM))
                          (Dr.imp (dr_call (n := 1) (i := 1) (gb.sub s (ga.sub s hsM)) (gb.sub c (ga.sub c hcM)) rfl (ea_cons (ev_lst (ea_cons ev_int (ea_cons (ev_neg ev_int) (ea_cons (ev_I ev_int ev_int ⟨by decide, by decide, by decide⟩) ea_nil))) (sz 3)) ea_nil) rfl ⟨_, rfl, by show 1 ≤ 3; decide, by show 3 ≤ 1000; decide⟩) fun d hd => ?_)
                          fun Mc Hc y3 d3 gc Sc dy3 hy3 => ?_)
                      fun d Md Hd gd hd => dra_nil ?_) ?_ ?_)
                  fun Mb Hb y2 d2' gb Sb dy2 hy2 => ?_)
              fun Ma Ha y d ga Sa dy hy => ?_) fun vy d H10 k10 S10 go10 dvy hd => ?_)
          · obtain ⟨es, q0, hm⟩ := hd
            cases q0
            simp only [List.mem_cons, List.not_mem_nil, or_false] at hm
            rcases hm with rfl | rfl | rfl
            · exact ⟨1, rfl, by decide, by decide⟩
            · exact ⟨-1, rfl, by decide, by decide⟩
            · exact ⟨10 ^ 21, rfl, by decide, by decide⟩
          · obtain ⟨z, rfl, hz0, hz1⟩ := hy3
            rw [hy2] at dy2
            have hb := hyb0 _ (List.getElem_mem hjl)
            rw [← ixn hjl] at hb
            exact dr_ev (ev_I0 (ev_val (dm_go dy2 gc)) (ev_val dy3)) ⟨ix ys0 (j : Int) + z, rfl, by omega, by omega⟩
          · obtain ⟨z, rfl, h⟩ := hd
            exact ⟨z, rfl, h⟩
          · rintro ds ⟨z, rfl, _⟩
            show 1 ≤ 1000
            decide
          · rintro ds ⟨z, rfl, h⟩
            exact ⟨z, rfl, h⟩
          · obtain ⟨z, rfl, h⟩ := hy2
            rw [hy] at dy
            refine dr_ev (ev_catT (ds := (ys0.take j).map PyData.int) (es := [z].map PyData.int) (ev_val (dm_go dy gb)) (ev_val dy2) ?_) ⟨z, by rw [← List.map_append]; rfl, h⟩
            rw [List.length_map, List.length_take, sizeLine_eq]
            show min j ys0.length + 1 ≤ _
            omega
          · obtain ⟨z, rfl, h0, h1⟩ := hy
            refine dr_ev (ev_catT (ds := (ys0.take j ++ [z]).map PyData.int) (es := (ys0.drop (j + 1)).map PyData.int) (ev_val dy) (Ev.is (ev_slT (lo := some ((j + 1 : Nat) : Int)) (ev_var rfl (dm_go d29 ga)) (eo_some (K := K) (ev_I0 (ev_var rfl (.int (j : Int))) ev_int)) eo_none) (by rw [cut_from (by omega)])) ?_) ⟨ys0.take j ++ [z] ++ ys0.drop (j + 1), by rw [← List.map_append]; rfl, ?_, fun u hu => ?_⟩
            · rw [List.length_map, List.length_map, List.length_append, List.length_take, List.length_drop, sizeLine_eq]
              show min j ys0.length + 1 + _ ≤ _
              omega
            · rw [List.length_append, List.length_append, List.length_take, List.length_drop]
              show min j ys0.length + 1 + _ = _
              omega
            · rcases List.mem_append.mp hu with hu | hu
              · rcases List.mem_append.mp hu with hu | hu
                · have := hyb0 u (List.mem_of_mem_take hu)
                  omega
                · rw [List.mem_singleton.mp hu]
                  exact ⟨h0, h1⟩
              · have := hyb0 u (List.mem_of_mem_drop hu)
                omega
          · obtain ⟨ys, rfl, hyl, hyb⟩ := hd
            exact ⟨_, ys, _, _, _, _, _, _, rfl, S10, go9A.trans go10, dvy, hyl, hyb⟩
        · exact ⟨_, ys0, _, _, _, _, _, _, rfl, S7.same e8, (Go.refl go7.tr).same e8, dm_same d2 go7.tr e8, hyl0, fun y hy => by have := hyb0 y hy; omega⟩
      · rintro σ' H8 ⟨vy0, ys1, o7, o8, o9, o10, o11, o12, rfl, S8, go8, dy8, hyl1, hyb1⟩
        refine d_asg (K := K) (P := fun d => ∃ ys : List Int, d = dI ys ∧ ys.length = xs.length ∧ ∀ y ∈ ys, -(10 ^ 30) ≤ y ∧ y ≤ 10 ^ 30) hsM hcM go8.tr S8 (dr_if (PB := fun _ => True) hsM hcM (drb_test (K := K) (P1 := fun d => ∃ b, d = .bool b) (dr_ev (ev_eqD (ev_var rfl (.int wy)) ev_int (shp_int _) (shp_int _)) ⟨_, rfl⟩) fun d hd => ?_) (fun M' H' g _ => Dr.imp (dr_call (n := 1) (i := 1) (g.sub s hsM) (g.sub c hcM) rfl (ea_cons (ev_var rfl (.int n)) ea_nil) rfl ⟨n, rfl, by omega, by omega⟩) fun d hd => ?_) (fun M' H' g _ => dr_ev (ev_var rfl (dm_go dy8 g)) ⟨ys1, rfl, hyl1, hyb1⟩)) fun vy d H9 k9 S9 go9 dy9 hd => ?_
        · obtain ⟨b, rfl⟩ := hd
          exact ⟨b, rfl, trivial⟩
        · obtain ⟨n3, zs, q0, rfl, hzl, hzb⟩ := hd
          cases q0
          exact ⟨zs, rfl, by omega, fun z hz => by have := hzb z hz; omega⟩
        obtain ⟨ys, rfl, hyl, hyb⟩ := hd
        have go9A := go8.trans go9
        have t9 := go9.tr
        have dx9 := dm_go d17 go9A
        have fX : Fit 1 6120 (dI xs) := fitI (fun z hz => by have := hxb z hz; omega) (by omega)
        have fY : Fit 1 6120 (dI ys) := fitI hyb (by omega)
        have fXY := fit_pair fX fY
        have rkxs : ∀ zs : List Int, zs.length ≤ 60 → SeqAt.shaped (dI (rks zs)) = true := fun zs hz => (fitI (xs := rks zs) (fun z hz2 => by
          obtain ⟨y, hy, rfl⟩ := List.mem_map.mp hz2
          have := rank_le hy
          omega) (by rw [rks_len]; exact hz)).shaped (by decide)
        -- is_one, kept, told
        refine q_par3 (K := K) (d1 := .bool (part xs ys).isNone) (d2 := .str (PyData.shown (.list [dI xs, dI ys]))) (d3 := dO (part xs ys)) t9
          (ea_cons (Ev.is (ev_eqD (ev_call (ea_cons (ev_var rfl dx9) ea_nil) rfl ⟨xs, by omega, rfl, rfl⟩) (ev_call (ea_cons (ev_var rfl dy9) ea_nil) rfl ⟨ys, by omega, rfl, rfl⟩) (rkxs _ (by omega)) (rkxs _ (by omega))) (congrArg PyData.bool ((eqv_tupI _ _).trans (part_rks hyl).symm)))
          (ea_cons (ev_reprZ (ev_lst (ea_cons (ev_var rfl dx9) (ea_cons (ev_var rfl dy9) ea_nil)) (sz 2)) rfl fXY (by decide) (by decide))
          (ea_cons (ev_call (ea_cons (ev_var rfl dx9) (ea_cons (ev_var rfl dy9) ea_nil)) rfl ⟨xs, ys, hyl, by omega, rfl, rfl⟩) ea_nil))) fun vi vk vt H10 e10 t10 di dk dt => ?_
        have dx10 := dm_same dx9 t9 e10
        have dy10 := dm_same dy9 t9 e10
        have okp : ∀ q, part xs ys = some q → okP (xs.length : Nat) q := fun q hq => (part_some hq).1
        have fT : Fit 3 604 (dO (part xs ys)) := fit_dO (by omega) okp
        have pT : plainD (dO (part xs ys)) = true := by cases part xs ys <;> rfl
        refine q_if t10 (eb_or (eb_test (ev_neD (ev_isN (ev_var rfl dt)) (ev_var rfl di) (shp_bool _) (shp_bool _))) fun _ => eb_or (eb_test (ev_neS (ev_reprZ (ev_call (ea_cons (ev_var rfl dx10) (ea_cons (ev_var rfl dy10) ea_nil)) rfl ⟨xs, ys, hyl, by omega, rfl, rfl⟩) pT fT (by decide) (by decide)) (ev_reprZ (ev_var rfl dt) pT fT (by decide) (by decide)))) fun _ => eb_test (ev_neS (ev_reprZ (ev_lst (ea_cons (ev_var rfl dx10) (ea_cons (ev_var rfl dy10) ea_nil)) (sz 2)) rfl fXY (by decide) (by decide)) (ev_var rfl dk))) (fun hb => ?_) (fun _ H11 e11 t11 => ?_)
        · exfalso
          rw [dO_none, eqv_bool, Bool.or_eq_true, Bool.or_eq_true, Bool.not_eq_true', Bool.not_eq_true', Bool.not_eq_true', decide_eq_false_iff_not, decide_eq_false_iff_not] at hb
          rcases hb with hb | hb | hb
          · rw [beq_self_eq_true] at hb
            cases hb
          · exact hb rfl
          · exact hb rfl
        have dx11 := dm_same dx10 t10 e11
        have dy11 := dm_same dy10 t10 e11
        have dt11 := dm_same dt t10 e11
        have di11 := dm_same di t10 e11
        refine q_if t11 (eb_test (ev_neD (ev_eqD (ev_call (ea_cons (ev_var rfl dx11) ea_nil) rfl ⟨xs, by omega, rfl, rfl⟩) (ev_call (ea_cons (ev_var rfl dy11) ea_nil) rfl ⟨ys, by omega, rfl, rfl⟩) (rkxs _ (by omega)) (rkxs _ (by omega))) (ev_var rfl di11) (shp_bool _) (shp_bool _))) (fun hb => ?_) (fun _ H12 e12 t12 => ?_)
        · exfalso
          rw [show PyData.eqv (dI (rks xs)) (dI (rks ys)) = (part xs ys).isNone from (eqv_tupI _ _).trans (part_rks hyl).symm, eqv_bool, beq_self_eq_true] at hb
          cases hb
        have dx12 := dm_same dx11 t11 e12
        have dy12 := dm_same dy11 t11 e12
        have dt12 := dm_same dt11 t11 e12
        have di12 := dm_same di11 t11 e12
        have S12 : Src s c H12 := ((S9.same e10).same e11).same e12
        have go12 : Go [s, c] H2 [s, c] H12 := ((((go7A.trans go9A).same e10).same e11).same e12)
        have hyn : (ys.length : Int) = n := by omega
        -- what is told parts them
        refine ⟨fun σ' H' => (∃ o11, σ' = [some (.ref a), some (.ref s), some x, some (.int n), some v1, some vy, some (.int wy), o7, some vi, some vk, some vt, o11, o12]) ∧ Same H12 H' ∧ Tr [s, c] H', ?_, ?_⟩
        · refine s_if t12 (eb_B (ev_notN (ev_var rfl dt12))) (fun hb H13 e13 t13 => ?_) (fun hb H13 e13 t13 => ⟨⟨_, rfl⟩, e13, t13⟩)
          rw [dO_none] at hb
          cases hp : part xs ys with
          | none =>
            rw [hp] at hb
            cases hb
          | some q =>
            obtain ⟨okq, qne, kne⟩ := part_some hp
            have dt13 := dm_same dt12 t12 e13
            rw [hp] at dt13
            have dx13 := dm_same dx12 t12 e13
            have dy13 := dm_same dy12 t12 e13
            have okx : okS (xs.length : Nat) ⟨[], some q⟩ := ⟨(fun p hp => nomatch hp), fun p hp => by cases hp; exact okq⟩
            have oky : okS (ys.length : Nat) ⟨[], some q⟩ := by rw [hyl]; exact okx
            refine q_if t13 (eb_or (eb_not (eb_test (ev_call (ea_cons (ev_var rfl (.int n)) (ea_cons (ev_var rfl dt13) ea_nil)) rfl ⟨n, q, by rw [← hxl]; exact okq, qne, rfl, rfl⟩))) fun _ => eb_test (ev_eqD (ev_call (ea_cons (ev_var rfl dt13) (ea_cons (ev_var rfl dx13) ea_nil)) rfl ⟨⟨[], some q⟩, xs, okx, by show 0 ≤ 1000; decide, rfl, rfl⟩) (ev_call (ea_cons (ev_var rfl dt13) (ea_cons (ev_var rfl dy13) ea_nil)) rfl ⟨⟨[], some q⟩, ys, oky, by show 0 ≤ 1000; decide, rfl, rfl⟩) (shp_bool _) (shp_bool _))) (fun hb2 => ?_) (fun _ H14 e14 t14 => ?_)
            · exfalso
              rw [eqv_bool] at hb2
              have hb2 : (keepS ⟨[], some q⟩ xs == keepS ⟨[], some q⟩ ys) = true := hb2
              exact kne (beq_iff_eq.mp hb2)
            have dt14 := dm_same dt13 t13 e14
            have dx14 := dm_same dx13 t13 e14
            have dy14 := dm_same dy13 t13 e14
            refine s_if t14 (eb_test (ev_neS (ev_reprZ (d := .list [.bool (keepS ⟨[], some q⟩ xs), .bool (keepS ⟨[], some q⟩ ys)]) (ev_lst (ea_cons (ev_call (ea_cons (ev_var rfl dt14) (ea_cons (ev_var rfl dx14) ea_nil)) rfl ⟨⟨[], some q⟩, xs, okx, rfl, rfl⟩) (ea_cons (ev_call (ea_cons (ev_var rfl dt14) (ea_cons (ev_var rfl dy14) ea_nil)) rfl ⟨⟨[], some q⟩, ys, oky, rfl, rfl⟩) ea_nil)) (sz 2)) rfl (fit_bb _ _) (by decide) (by decide))
              (ev_reprZ (d := .list [.bool (keepS ⟨[], some q⟩ xs), .bool (keepS ⟨[], some q⟩ ys)]) (ev_lst (ea_cons (ev_call (ea_cons (ev_var rfl dt14) (ea_cons (ev_var rfl dx14) ea_nil)) rfl ⟨⟨[], some q⟩, xs, okx, by show 0 ≤ 1000; decide, rfl, rfl⟩) (ea_cons (ev_call (ea_cons (ev_var rfl dt14) (ea_cons (ev_var rfl dy14) ea_nil)) rfl ⟨⟨[], some q⟩, ys, oky, by show 0 ≤ 1000; decide, rfl, rfl⟩) ea_nil)) (sz 2)) rfl (fit_bb _ _) (by decide) (by decide)))) (fun hb2 => ?_) (fun _ H15 e15 t15 => ⟨⟨_, rfl⟩, (e13.trans e14).trans e15, t15⟩)
            exfalso
            rw [Bool.not_eq_true', decide_eq_false_iff_not] at hb2
            exact hb2 rfl
        · rintro σ' H13 ⟨⟨o11, rfl⟩, e13, t13⟩
          have S13 := S12.same e13
          have go13 := go12.same e13
          have dx13 := dm_same dx12 t12 e13
          have dy13 := dm_same dy12 t12 e13
          have di13 := dm_same di12 t12 e13
          refine s_for (K := K) t13 (wk_rng1 (n := if ((part xs ys).isNone && decide (n > 1)) = true then 4 else 0) (ea_cons (ev_if (b := (part xs ys).isNone && decide (n > 1)) (eb_and (eb_B (ev_var rfl di13)) fun _ => eb_test (K := K) (ev_B0 (g := fun i j => decide (i > j)) (ev_var rfl (.int n)) ev_int)) (fun hb => Ev.is ev_int (by rw [if_pos hb])) (fun hb => Ev.is ev_int (by rw [if_neg (by rw [hb]; decide)]))) ea_nil) (by split <;> decide) (by split <;> decide)) (fun H14 i σ' H' => (∃ o11 o12, σ' = [some (.ref a), some (.ref s), some x, some (.int n), some v1, some vy, some (.int wy), o7, some vi, some vk, some vt, o11, o12]) ∧ Src s c H' ∧ Go [s, c] H14 [s, c] H')
            (fun H14 e14 t14 => ⟨⟨_, _, rfl⟩, S13.same e14, Go.refl t14⟩) (fun H14 i σ' H' e14 p => p.2.2) ?_ ?_
          · rintro H14 i σ' H15 y H16 e14 hi ⟨⟨o11, o12, rfl⟩, S15, go15⟩ e16 dy'
            have hb : ((part xs ys).isNone && decide (n > 1)) = true := by
              cases q : ((part xs ys).isNone && decide (n > 1)) with
              | true => rfl
              | false =>
                rw [q] at hi
                exact absurd hi (Nat.not_lt_zero i)
            rw [Bool.and_eq_true] at hb
            have hpn : part xs ys = none := Option.isNone_iff_eq_none.mp hb.1
            have hn2 : n > 1 := of_decide_eq_true hb.2
            have go16 := go15.same e16
            have S16 := S15.same e16
            have g16 : Go [s, c] H13 [s, c] H16 := ((Go.refl t13).same e14).trans go16
            refine d_asg (K := K) (P := Rsaying [.int n, .int 3]) hsM hcM go16.tr S16 (dr_call (n := 2) (i := 1) hsM hcM rfl (ea_cons (ev_var rfl (.int n)) (ea_cons ev_int ea_nil)) rfl ⟨n, 3, rfl, by omega, by omega, by decide, by decide⟩) fun vs d H17 k17 S17 go17 dvs hd => ?_
            obtain ⟨n1, m1, sy, q0, rfl, hoks, hle⟩ := hd
            cases q0
            have g17 := g16.trans go17
            have dx17 := dm_go dx13 g17
            have dy17 := dm_go dy13 g17
            have okx : okS (xs.length : Nat) sy := by rw [hxl]; exact hoks
            have oky : okS (ys.length : Nat) sy := by rw [hyl]; exact okx
            have ek := keep_part hyl hpn okx
            refine s_if go17.tr (eb_test (ev_neS (ev_reprZ (d := .list [.bool (keepS sy xs), .bool (keepS sy xs)]) (ev_lst (ea_cons (ev_call (ea_cons (ev_var rfl dvs) (ea_cons (ev_var rfl dx17) ea_nil)) rfl ⟨sy, xs, okx, rfl, rfl⟩) (ea_cons (Ev.is (ev_call (ea_cons (ev_var rfl dvs) (ea_cons (ev_var rfl dy17) ea_nil)) rfl ⟨sy, ys, oky, rfl, rfl⟩) (by rw [ek])) ea_nil)) (sz 2)) rfl (fit_bb _ _) (by decide) (by decide))
              (ev_reprZ (d := .list [.bool (keepS sy xs), .bool (keepS sy xs)]) (Ev.is (ev_rep (k := 2) (ev_lst (ea_cons (ev_call (ea_cons (ev_var rfl dvs) (ea_cons (ev_var rfl dx17) ea_nil)) rfl ⟨sy, xs, okx, by omega, rfl, rfl⟩) ea_nil) (sz 1)) ev_int (by decide) (by decide) (by show 1 ≤ 1000; decide)) rfl) rfl (fit_bb _ _) (by decide) (by decide)))) (fun hb2 => ?_) (fun _ H18 e18 t18 => ⟨⟨_, _, rfl⟩, S17.same e18, (go16.trans go17).same e18⟩)
            exfalso
            rw [Bool.not_eq_true', decide_eq_false_iff_not] at hb2
            exact hb2 rfl
          · rintro H14 σ' H15 e14 ⟨⟨o11, o12, rfl⟩, S15, go15⟩
            exact ⟨⟨_, _, _, _, _, _, _, _, _, _, _, rfl⟩, S15, (go13.same e14).trans go15⟩
    · rintro H2 σ' H3 e2 ⟨⟨o2, o3, o4, o5, o6, o7, o8, o9, o10, o11, o12, rfl⟩, S3, go3⟩
      have t3 := go3.tr
      refine s_ret (K := K) t3 (ev_andV (ev_isN (ev_call (ea_cons (ev_tup ea_nil (sz 0)) (ea_cons (ev_tup ea_nil (sz 0)) ea_nil)) rfl ⟨[], [], rfl, by decide, rfl, rfl⟩)) fun _ => ev_andV (ev_isN (ev_call (ea_cons (ev_tup (ea_cons ev_int ea_nil) (sz 1)) (ea_cons (ev_tup (ea_cons (ev_neg ev_int) ea_nil) (sz 1)) ea_nil)) rfl ⟨[5], [-1], rfl, by decide, rfl, rfl⟩)) fun _ => ev_notN (ev_call (ea_cons (ev_tup (ea_cons ev_int (ea_cons ev_int ea_nil)) (sz 2)) (ea_cons (ev_tup (ea_cons ev_int (ea_cons ev_int ea_nil)) (sz 2)) ea_nil)) rfl ⟨[0, 0], [0, 1], rfl, by decide, rfl, rfl⟩)) fun v H13 e13 t13 dv => ?_
      have e : (isNone (dO (part [] [])) && (isNone (dO (part [5] [-1])) && !isNone (dO (part [0, 0] [0, 1])))) = true := by decide
      rw [e] at dv
      cases dv
      exact k _
end
end Own

namespace Own
open PySem PySem.Spec PyProof.Rows L2 Gd Dq
theorem all_mk {l : PySem.W.OpenLaw} {w : World} {K : PySem.W.Frag} {h : Heap} {mg : Str → Option Value} {fa : Addr} (X : K.In h) (G : h.Ns mainGlobals mg) (hfa : mg "law" = some (.ref fa))
    {f0 : Addr} {od0 an0 : Option Addr} {sl0 : Array (Option Value)} {oc0 kV0 dc0 pm0 cd0 ct0 : Value}
    {f1 : Addr} {od1 an1 : Option Addr} {sl1 : Array (Option Value)} {oc1 kV1 dc1 pm1 cd1 ct1 : Value}
    {f2 : Addr} {od2 an2 : Option Addr} {sl2 : Array (Option Value)} {oc2 kV2 dc2 pm2 cd2 ct2 : Value}
    {f3 : Addr} {od3 an3 : Option Addr} {sl3 : Array (Option Value)} {oc3 kV3 dc3 pm3 cd3 ct3 : Value}
    {f4 : Addr} {od4 an4 : Option Addr} {sl4 : Array (Option Value)} {oc4 kV4 dc4 pm4 cd4 ct4 : Value}
    {f5 : Addr} {od5 an5 : Option Addr} {sl5 : Array (Option Value)} {oc5 kV5 dc5 pm5 cd5 ct5 : Value}
    {f6 : Addr} {od6 an6 : Option Addr} {sl6 : Array (Option Value)} {oc6 kV6 dc6 pm6 cd6 ct6 : Value}
    {f7 : Addr} {od7 an7 : Option Addr} {sl7 : Array (Option Value)} {oc7 kV7 dc7 pm7 cd7 ct7 : Value}
    {f8 : Addr} {od8 an8 : Option Addr} {sl8 : Array (Option Value)} {oc8 kV8 dc8 pm8 cd8 ct8 : Value}
    {f9 : Addr} {od9 an9 : Option Addr} {sl9 : Array (Option Value)} {oc9 kV9 dc9 pm9 cd9 ct9 : Value}
    {f10 : Addr} {od10 an10 : Option Addr} {sl10 : Array (Option Value)} {oc10 kV10 dc10 pm10 cd10 ct10 : Value}
    {f11 : Addr} {od11 an11 : Option Addr} {sl11 : Array (Option Value)} {oc11 kV11 dc11 pm11 cd11 ct11 : Value}
    {f12 : Addr} {od12 an12 : Option Addr} {sl12 : Array (Option Value)} {oc12 kV12 dc12 pm12 cd12 ct12 : Value}
    {f13 : Addr} {od13 an13 : Option Addr} {sl13 : Array (Option Value)} {oc13 kV13 dc13 pm13 cd13 ct13 : Value}
    (a0 : PySem.W.nsIn K mainGlobals "keeps" = some (some (.ref f0))) (l0 : K.lookup f0 = some ⟨oc0, od0, .func (PySem.W.fnOf "keeps" "keeps" (defArgs s_keeps) (defBody s_keeps) (defScope s_keeps) .none kV0 dc0 pm0 an0 cd0 ct0), sl0⟩) (c0 : PySem.W.codeIn K cd0 "keeps" = true) (k0 : PySem.W.keepIn K (.ref f0) = true)
    (a1 : PySem.W.nsIn K mainGlobals "order_of" = some (some (.ref f1))) (l1 : K.lookup f1 = some ⟨oc1, od1, .func (PySem.W.fnOf "order_of" "order_of" (defArgs s_order_of) (defBody s_order_of) (defScope s_order_of) .none kV1 dc1 pm1 an1 cd1 ct1), sl1⟩) (c1 : PySem.W.codeIn K cd1 "order_of" = true) (k1 : PySem.W.keepIn K (.ref f1) = true)
    (a2 : PySem.W.nsIn K mainGlobals "parting" = some (some (.ref f2))) (l2 : K.lookup f2 = some ⟨oc2, od2, .func (PySem.W.fnOf "parting" "parting" (defArgs s_parting) (defBody s_parting) (defScope s_parting) .none kV2 dc2 pm2 an2 cd2 ct2), sl2⟩) (c2 : PySem.W.codeIn K cd2 "parting" = true) (k2 : PySem.W.keepIn K (.ref f2) = true)
    (a3 : PySem.W.nsIn K mainGlobals "_law_source" = some (some (.ref f3))) (l3 : K.lookup f3 = some ⟨oc3, od3, .func (PySem.W.fnOf "_law_source" "_law_source" (defArgs s_lw_source) (defBody s_lw_source) (defScope s_lw_source) .none kV3 dc3 pm3 an3 cd3 ct3), sl3⟩) (c3 : PySem.W.codeIn K cd3 "_law_source" = true) (k3 : PySem.W.keepIn K (.ref f3) = true)
    (a4 : PySem.W.nsIn K mainGlobals "_law_pick" = some (some (.ref f4))) (l4 : K.lookup f4 = some ⟨oc4, od4, .func (PySem.W.fnOf "_law_pick" "_law_pick" (defArgs s_lw_pick) (defBody s_lw_pick) (defScope s_lw_pick) .none kV4 dc4 pm4 an4 cd4 ct4), sl4⟩) (c4 : PySem.W.codeIn K cd4 "_law_pick" = true) (k4 : PySem.W.keepIn K (.ref f4) = true)
    (a5 : PySem.W.nsIn K mainGlobals "_law_of" = some (some (.ref f5))) (l5 : K.lookup f5 = some ⟨oc5, od5, .func (PySem.W.fnOf "_law_of" "_law_of" (defArgs s_lw_of) (defBody s_lw_of) (defScope s_lw_of) .none kV5 dc5 pm5 an5 cd5 ct5), sl5⟩) (c5 : PySem.W.codeIn K cd5 "_law_of" = true) (k5 : PySem.W.keepIn K (.ref f5) = true)
    (a6 : PySem.W.nsIn K mainGlobals "_law_mixed" = some (some (.ref f6))) (l6 : K.lookup f6 = some ⟨oc6, od6, .func (PySem.W.fnOf "_law_mixed" "_law_mixed" (defArgs s_lw_mixed) (defBody s_lw_mixed) (defScope s_lw_mixed) .none kV6 dc6 pm6 an6 cd6 ct6), sl6⟩) (c6 : PySem.W.codeIn K cd6 "_law_mixed" = true) (k6 : PySem.W.keepIn K (.ref f6) = true)
    (a7 : PySem.W.nsIn K mainGlobals "_law_order_of" = some (some (.ref f7))) (l7 : K.lookup f7 = some ⟨oc7, od7, .func (PySem.W.fnOf "_law_order_of" "_law_order_of" (defArgs s_lw_order_of) (defBody s_lw_order_of) (defScope s_lw_order_of) .none kV7 dc7 pm7 an7 cd7 ct7), sl7⟩) (c7 : PySem.W.codeIn K cd7 "_law_order_of" = true) (k7 : PySem.W.keepIn K (.ref f7) = true)
    (a8 : PySem.W.nsIn K mainGlobals "_law_keeps" = some (some (.ref f8))) (l8 : K.lookup f8 = some ⟨oc8, od8, .func (PySem.W.fnOf "_law_keeps" "_law_keeps" (defArgs s_lw_keeps) (defBody s_lw_keeps) (defScope s_lw_keeps) .none kV8 dc8 pm8 an8 cd8 ct8), sl8⟩) (c8 : PySem.W.codeIn K cd8 "_law_keeps" = true) (k8 : PySem.W.keepIn K (.ref f8) = true)
    (a9 : PySem.W.nsIn K mainGlobals "_law_draw_saying" = some (some (.ref f9))) (l9 : K.lookup f9 = some ⟨oc9, od9, .func (PySem.W.fnOf "_law_draw_saying" "_law_draw_saying" (defArgs s_lw_draw_saying) (defBody s_lw_draw_saying) (defScope s_lw_draw_saying) .none kV9 dc9 pm9 an9 cd9 ct9), sl9⟩) (c9 : PySem.W.codeIn K cd9 "_law_draw_saying" = true) (k9 : PySem.W.keepIn K (.ref f9) = true)
    (a10 : PySem.W.nsIn K mainGlobals "_law_draw_placing" = some (some (.ref f10))) (l10 : K.lookup f10 = some ⟨oc10, od10, .func (PySem.W.fnOf "_law_draw_placing" "_law_draw_placing" (defArgs s_lw_draw_placing) (defBody s_lw_draw_placing) (defScope s_lw_draw_placing) .none kV10 dc10 pm10 an10 cd10 ct10), sl10⟩) (c10 : PySem.W.codeIn K cd10 "_law_draw_placing" = true) (k10 : PySem.W.keepIn K (.ref f10) = true)
    (a11 : PySem.W.nsIn K mainGlobals "_law_alike_placing" = some (some (.ref f11))) (l11 : K.lookup f11 = some ⟨oc11, od11, .func (PySem.W.fnOf "_law_alike_placing" "_law_alike_placing" (defArgs s_lw_alike_placing) (defBody s_lw_alike_placing) (defScope s_lw_alike_placing) .none kV11 dc11 pm11 an11 cd11 ct11), sl11⟩) (c11 : PySem.W.codeIn K cd11 "_law_alike_placing" = true) (k11 : PySem.W.keepIn K (.ref f11) = true)
    (a12 : PySem.W.nsIn K mainGlobals "_law_is_saying" = some (some (.ref f12))) (l12 : K.lookup f12 = some ⟨oc12, od12, .func (PySem.W.fnOf "_law_is_saying" "_law_is_saying" (defArgs s_lw_is_saying) (defBody s_lw_is_saying) (defScope s_lw_is_saying) .none kV12 dc12 pm12 an12 cd12 ct12), sl12⟩) (c12 : PySem.W.codeIn K cd12 "_law_is_saying" = true) (k12 : PySem.W.keepIn K (.ref f12) = true)
    (a13 : PySem.W.nsIn K mainGlobals "law" = some (some (.ref f13))) (l13 : K.lookup f13 = some ⟨oc13, od13, .func (PySem.W.fnOf "law" "law" (defArgs s_law) (defBody s_law) (defScope s_law) .none kV13 dc13 pm13 an13 cd13 ct13), sl13⟩) (c13 : PySem.W.codeIn K cd13 "law" = true) (k13 : PySem.W.keepIn K (.ref f13) = true)
    (z_abs : PySem.W.nsIn K mainGlobals "abs" = some none)
    (z_bool : PySem.W.nsIn K mainGlobals "bool" = some none)
    (z_enumerate : PySem.W.nsIn K mainGlobals "enumerate" = some none)
    (z_int : PySem.W.nsIn K mainGlobals "int" = some none)
    (z_isinstance : PySem.W.nsIn K mainGlobals "isinstance" = some none)
    (z_len : PySem.W.nsIn K mainGlobals "len" = some none)
    (z_list : PySem.W.nsIn K mainGlobals "list" = some none)
    (z_max : PySem.W.nsIn K mainGlobals "max" = some none)
    (z_range : PySem.W.nsIn K mainGlobals "range" = some none)
    (z_repr : PySem.W.nsIn K mainGlobals "repr" = some none)
    (z_set : PySem.W.nsIn K mainGlobals "set" = some none)
    (z_sorted : PySem.W.nsIn K mainGlobals "sorted" = some none)
    (z_tuple : PySem.W.nsIn K mainGlobals "tuple" = some none)
    : ∃ fd : FuncData, (∀ (s : Shared) (v : Value), BindsTo s fd ⟨[v], []⟩ [("script", v)]) ∧ ∀ base : Heap, K.In base → base.Ns mainGlobals mg → FnG l.prog w K mg base 4 fa fd ["script"] (spLaw K) := by
  have e := (PySem.W.mg_of X G a13).symm.trans hfa
  have e2 : f13 = fa := by
    cases e
    rfl
  subst e2
  have F0 := fun_mk (st := s_keeps) l0 c0 k0
  have b0 := F0.binds (ps := ["saying", "placing"]) fun _ _ _ _ _ _ us hl => match us, hl with | [_, _], _ => rfl
  have F1 := fun_mk (st := s_order_of) l1 c1 k1
  have b1 := F1.binds (ps := ["placing"]) fun _ _ _ _ _ _ us hl => match us, hl with | [_], _ => rfl
  have F2 := fun_mk (st := s_parting) l2 c2 k2
  have b2 := F2.binds (ps := ["one", "other"]) fun _ _ _ _ _ _ us hl => match us, hl with | [_, _], _ => rfl
  have F3 := fun_mk (st := s_lw_source) l3 c3 k3
  have b3 := F3.binds (ps := ["script"]) fun _ _ _ _ _ _ us hl => match us, hl with | [_], _ => rfl
  have F4 := fun_mk (st := s_lw_pick) l4 c4 k4
  have b4 := F4.binds (ps := ["source", "many"]) fun _ _ _ _ _ _ us hl => match us, hl with | [_, _], _ => rfl
  have F5 := fun_mk (st := s_lw_of) l5 c5 k5
  have b5 := F5.binds (ps := ["source", "some"]) fun _ _ _ _ _ _ us hl => match us, hl with | [_, _], _ => rfl
  have F6 := fun_mk (st := s_lw_mixed) l6 c6 k6
  have b6 := F6.binds (ps := ["source", "things"]) fun _ _ _ _ _ _ us hl => match us, hl with | [_, _], _ => rfl
  have F7 := fun_mk (st := s_lw_order_of) l7 c7 k7
  have b7 := F7.binds (ps := ["placing"]) fun _ _ _ _ _ _ us hl => match us, hl with | [_], _ => rfl
  have F8 := fun_mk (st := s_lw_keeps) l8 c8 k8
  have b8 := F8.binds (ps := ["saying", "placing"]) fun _ _ _ _ _ _ us hl => match us, hl with | [_, _], _ => rfl
  have F9 := fun_mk (st := s_lw_draw_saying) l9 c9 k9
  have b9 := F9.binds (ps := ["source", "n", "most"]) fun _ _ _ _ _ _ us hl => match us, hl with | [_, _, _], _ => rfl
  have F10 := fun_mk (st := s_lw_draw_placing) l10 c10 k10
  have b10 := F10.binds (ps := ["source", "n"]) fun _ _ _ _ _ _ us hl => match us, hl with | [_, _], _ => rfl
  have F11 := fun_mk (st := s_lw_alike_placing) l11 c11 k11
  have b11 := F11.binds (ps := ["source", "placing"]) fun _ _ _ _ _ _ us hl => match us, hl with | [_, _], _ => rfl
  have F12 := fun_mk (st := s_lw_is_saying) l12 c12 k12
  have b12 := F12.binds (ps := ["n", "value"]) fun _ _ _ _ _ _ us hl => match us, hl with | [_, _], _ => rfl
  have F13 := fun_mk (st := s_law) l13 c13 k13
  have b13 := F13.binds (ps := ["script"]) fun _ _ _ _ _ _ us hl => match us, hl with | [_], _ => rfl
  have T : Tp K mg ⟨f0, (PySem.W.fnOf "keeps" "keeps" (defArgs s_keeps) (defBody s_keeps) (defScope s_keeps) .none kV0 dc0 pm0 an0 cd0 ct0), f1, (PySem.W.fnOf "order_of" "order_of" (defArgs s_order_of) (defBody s_order_of) (defScope s_order_of) .none kV1 dc1 pm1 an1 cd1 ct1), f2, (PySem.W.fnOf "parting" "parting" (defArgs s_parting) (defBody s_parting) (defScope s_parting) .none kV2 dc2 pm2 an2 cd2 ct2), f3, (PySem.W.fnOf "_law_source" "_law_source" (defArgs s_lw_source) (defBody s_lw_source) (defScope s_lw_source) .none kV3 dc3 pm3 an3 cd3 ct3), f4, (PySem.W.fnOf "_law_pick" "_law_pick" (defArgs s_lw_pick) (defBody s_lw_pick) (defScope s_lw_pick) .none kV4 dc4 pm4 an4 cd4 ct4), f5, (PySem.W.fnOf "_law_of" "_law_of" (defArgs s_lw_of) (defBody s_lw_of) (defScope s_lw_of) .none kV5 dc5 pm5 an5 cd5 ct5), f6, (PySem.W.fnOf "_law_mixed" "_law_mixed" (defArgs s_lw_mixed) (defBody s_lw_mixed) (defScope s_lw_mixed) .none kV6 dc6 pm6 an6 cd6 ct6), f7, (PySem.W.fnOf "_law_order_of" "_law_order_of" (defArgs s_lw_order_of) (defBody s_lw_order_of) (defScope s_lw_order_of) .none kV7 dc7 pm7 an7 cd7 ct7), f8, (PySem.W.fnOf "_law_keeps" "_law_keeps" (defArgs s_lw_keeps) (defBody s_lw_keeps) (defScope s_lw_keeps) .none kV8 dc8 pm8 an8 cd8 ct8), f9, (PySem.W.fnOf "_law_draw_saying" "_law_draw_saying" (defArgs s_lw_draw_saying) (defBody s_lw_draw_saying) (defScope s_lw_draw_saying) .none kV9 dc9 pm9 an9 cd9 ct9), f10, (PySem.W.fnOf "_law_draw_placing" "_law_draw_placing" (defArgs s_lw_draw_placing) (defBody s_lw_draw_placing) (defScope s_lw_draw_placing) .none kV10 dc10 pm10 an10 cd10 ct10), f11, (PySem.W.fnOf "_law_alike_placing" "_law_alike_placing" (defArgs s_lw_alike_placing) (defBody s_lw_alike_placing) (defScope s_lw_alike_placing) .none kV11 dc11 pm11 an11 cd11 ct11), f12, (PySem.W.fnOf "_law_is_saying" "_law_is_saying" (defArgs s_lw_is_saying) (defBody s_lw_is_saying) (defScope s_lw_is_saying) .none kV12 dc12 pm12 an12 cd12 ct12), f13, (PySem.W.fnOf "law" "law" (defArgs s_law) (defBody s_law) (defScope s_law) .none kV13 dc13 pm13 an13 cd13 ct13)⟩ := ⟨F0, PySem.W.mg_of X G a0, b0, F1, PySem.W.mg_of X G a1, b1, F2, PySem.W.mg_of X G a2, b2, F3, PySem.W.mg_of X G a3, b3, F4, PySem.W.mg_of X G a4, b4, F5, PySem.W.mg_of X G a5, b5, F6, PySem.W.mg_of X G a6, b6, F7, PySem.W.mg_of X G a7, b7, F8, PySem.W.mg_of X G a8, b8, F9, PySem.W.mg_of X G a9, b9, F10, PySem.W.mg_of X G a10, b10, F11, PySem.W.mg_of X G a11, b11, F12, PySem.W.mg_of X G a12, b12, F13, PySem.W.mg_of X G a13, b13, PySem.W.mg_none_of X G z_abs, PySem.W.mg_none_of X G z_bool, PySem.W.mg_none_of X G z_enumerate, PySem.W.mg_none_of X G z_int, PySem.W.mg_none_of X G z_isinstance, PySem.W.mg_none_of X G z_len, PySem.W.mg_none_of X G z_list, PySem.W.mg_none_of X G z_max, PySem.W.mg_none_of X G z_range, PySem.W.mg_none_of X G z_repr, PySem.W.mg_none_of X G z_set, PySem.W.mg_none_of X G z_sorted, PySem.W.mg_none_of X G z_tuple⟩
  exact ⟨_, fun s v => .of_eq rfl, fun base _ _ => G_law T⟩
end Own
open PySem PySem.W PyProof.Rows
set_option maxRecDepth 100000 in
set_option maxHeartbeats 0 in
theorem PySem.Challenge.cw_soonerornot_k12_whole_placings_of_one_or_holds : PySem.Challenge.rw_soonerornot_k12_whole_placings_of_one_or.Holds := by
  w_on; o_law; k_head; (case hw => w_witness2)
  k_fill
  refine Gd.walk_ofG (l := PySem.Challenge.rw_soonerornot_k12_whole_placings_of_one_or) (n := 63) (k := 4) (x := "script") (sp := fun K => Own.spLaw K) rfl (by decide) rfl ⟨rfl, by decide, by decide⟩ (fun w h Y => PySem.W.kIn_of Y) ?F (fun _ _ a ns hl _ hS => ⟨a, ns, rfl, hS, hl, fun _ => rfl⟩)
  case F =>
    intro w mg fa h KX G hmg
    refine' Own.all_mk KX G hmg ?a0 ?l0 ?c0 ?k0 ?a1 ?l1 ?c1 ?k1 ?a2 ?l2 ?c2 ?k2 ?a3 ?l3 ?c3 ?k3 ?a4 ?l4 ?c4 ?k4 ?a5 ?l5 ?c5 ?k5 ?a6 ?l6 ?c6 ?k6 ?a7 ?l7 ?c7 ?k7 ?a8 ?l8 ?c8 ?k8 ?a9 ?l9 ?c9 ?k9 ?a10 ?l10 ?c10 ?k10 ?a11 ?l11 ?c11 ?k11 ?a12 ?l12 ?c12 ?k12 ?a13 ?l13 ?c13 ?k13 ?z_abs ?z_bool ?z_enumerate ?z_int ?z_isinstance ?z_len ?z_list ?z_max ?z_range ?z_repr ?z_set ?z_sorted ?z_tuple
    (case a0 => k_is)
    (case l0 => k_is)
    (case c0 => k_is)
    (case k0 => k_is)
    (case a1 => k_is)
    (case l1 => k_is)
    (case c1 => k_is)
    (case k1 => k_is)
    (case a2 => k_is)
    (case l2 => k_is)
    (case c2 => k_is)
    (case k2 => k_is)
    (case a3 => k_is)
    (case l3 => k_is)
    (case c3 => k_is)
    (case k3 => k_is)
    (case a4 => k_is)
    (case l4 => k_is)
    (case c4 => k_is)
    (case k4 => k_is)
    (case a5 => k_is)
    (case l5 => k_is)
    (case c5 => k_is)
    (case k5 => k_is)
    (case a6 => k_is)
    (case l6 => k_is)
    (case c6 => k_is)
    (case k6 => k_is)
    (case a7 => k_is)
    (case l7 => k_is)
    (case c7 => k_is)
    (case k7 => k_is)
    (case a8 => k_is)
    (case l8 => k_is)
    (case c8 => k_is)
    (case k8 => k_is)
    (case a9 => k_is)
    (case l9 => k_is)
    (case c9 => k_is)
    (case k9 => k_is)
    (case a10 => k_is)
    (case l10 => k_is)
    (case c10 => k_is)
    (case k10 => k_is)
    (case a11 => k_is)
    (case l11 => k_is)
    (case c11 => k_is)
    (case k11 => k_is)
    (case a12 => k_is)
    (case l12 => k_is)
    (case c12 => k_is)
    (case k12 => k_is)
    (case a13 => k_is)
    (case l13 => k_is)
    (case c13 => k_is)
    (case k13 => k_is)
    (case z_abs => k_is)
    (case z_bool => k_is)
    (case z_enumerate => k_is)
    (case z_int => k_is)
    (case z_isinstance => k_is)
    (case z_len => k_is)
    (case z_list => k_is)
    (case z_max => k_is)
    (case z_range => k_is)
    (case z_repr => k_is)
    (case z_set => k_is)
    (case z_sorted => k_is)
    (case z_tuple => k_is)

