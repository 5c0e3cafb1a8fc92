import PyProof.Rows.All
import Wide.All
import OpenK.AllK
import Wide.FinOn
import HandS.ForMost
import HandS.ForExc
import HandS.ExcInit
import HandS.ExcValue
import HandS.IsInst
import KE.KExcIs
import HandS.ExcField
import HandS.TupSets
import HandS.Deep
import HandS.Conv
import HandS.Style
import KE.DatumOrd
import HandS.Walk
import HandS.Iter
import HandS.Text
import HandS.StrMore
import HandS.SortRule
import PyProof.ListStr
import PyProof.CollectIter
import PyProof.Walks
import HandS.Zip
import HandS.TupAny
import HandS.ExcOwn
import PyProof.StrLawsRepr
import PyProof.StrOps2
import PySem.Challenge.RW_perfectgraphs_k04_whole_graph6_by_own_bi
set_option Elab.async false
set_option linter.all false
set_option maxRecDepth 100000
set_option maxHeartbeats 2000000
/-! Defs that are asked where nothing is being displayed: repr of data, whatever it holds. -/
namespace My
open PySem PySem.Spec PyProof.Rows L2

/-- like FnOk, for calls outside of any display -/
structure FnG (P : Program) (w : World) (K : PySem.W.Frag) (mg : Str → Option Value) (base : Heap) (C : CXT) (n : Nat) (f : Addr) (fd : FuncData) (ps : List Str) (sp : Sp) : Prop where
  arity : ∀ xs H Q E, sp xs H Q E → xs.length = ps.length
  goes : ∀ (A : Around) (out : List Env) (s : Shared) (H : Hp) (args : Args) (us : List Value) (xs : List V) (Q : VK) (E : XK), A.guards = some [] → Room n A → Env0 P w K mg base A out s H →
    BindsTo s fd args (ps.zip us) → Vals xs us → sp xs H Q E → codeAny (model P w) A (.call (.ref f) args) (CR C out P w H s Q E) s
section
variable {P : Program} {w : World} {K : PySem.W.Frag} {mg : Str → Option Value} {base : Heap} {C : CXT} {n : Nat} {f : Addr} {fd : FuncData} {ps : List Str} {sp : Sp}
theorem FnG.of (F : FnOk P w K mg base C n f fd ps sp) : FnG P w K mg base C n f fd ps sp :=
  { arity := F.len, goes := fun A out s H args us xs Q E _ r e b v h => F.run A out s H args us xs Q E r e b v h }
end

section
variable {X : Cx} {C : CXT} {n : Nat} {f : Addr} {fd : FuncData} {ps : List Str} {sp : Sp} {E : XK} {nm : Str} {p pos : Pos} {a : Expr} {as : List Expr} {t : TA}
theorem FnG.call_at {pins : List (Addr × Obj)} {σ : L2.St} {H : Hp} {s : Shared} {Q : VK} {us : List Value} {xs : List V} (F : FnG X.prog X.w X.K X.mg X.base C n f fd ps sp) (gd : X.A.guards = some []) (r : Room n X.A) (b : Binds X.K fd ps []) (x : Passes C X E)
    (I : Inv X pins σ H s) (v : Vals xs us) (h : sp xs H Q E) : wpAny (model X.prog X.w) X.A (call (.ref f) us) (EP X pins σ Q) X.xe s := by
  have len : (us ++ []).length = ps.length := by
    rw [List.append_nil, ← v.length]
    exact F.arity _ _ _ _ h
  have bd := b s us I.kIn len
  rw [List.append_nil] at bd
  refine wpAny_call (codeAny_mono (F.goes X.A X.stack s H ⟨us, []⟩ us xs Q E gd r I.env0 bd v h) ?_)
  rintro (er | fl) s' hq
  · exact x pins σ H s er s' I hq
  · cases fl <;> first | exact hq.elim | exact I.after hq
/-- f(a, ..), f such a def -/
theorem pe_callG (F : FnG X.prog X.w X.K X.mg X.base C n f fd ps sp) (gd : X.A.guards = some []) (r : Room n X.A) (g : Gl X nm) (m : X.mg nm = some (.ref f)) (kp : PySem.W.keepIn X.K (.ref f) = true) (b : Binds X.K fd ps []) (x : Passes C X E)
    (ha : PA X (a :: as) t) (nd : (nm == ("__debug__" : Str)) = false := by decide) (st : starEach (a :: as) X.env = (false, eval a X.env) :: starEach as X.env := by rfl) (pl : (backTo pos (starEach as X.env)).any (·.1) = false := by rfl) :
    PE X (.Call (.Name nm p) (a :: as) [] pos) (tCall sp [] E t) := by
  constructor
  intro pins s σ H Q I h
  refine wpAny_Call_Name_kw (ld_glob I g m ?_ nd)
  refine PySem.W.callWith_K (h₀ := X.base) I.ok.mod.kin kp (thn (ha.run pos pins s σ H _ I h) ?_) st pl
  rintro us s1 ⟨xs, H1, I1, v, q⟩
  rw [List.append_nil] at q
  exact ⟨I1.kIn, F.call_at gd r b x I1 v q⟩
end

section
variable {P : Program} {w : World} {K : PySem.W.Frag} {mg : Str → Option Value} {base : Heap} {C : CXT} {n : Nat} {f : Addr} {ps N : List Str} {sp : Sp}
/-- such a def by its body -/
theorem fnG_of {name qual : Str} {pm : Arguments} {body : List Stmt} {sc : Scope} {dV kV doc md cdv ct oc : Value} {an od : Option Addr} {sl : Array (Option Value)}
    (lk : K.lookup f = some ⟨oc, od, .func (PySem.W.fnOf name qual pm body sc dV kV doc md an cdv ct), sl⟩) (cd : PySem.W.codeIn K cdv qual = true) (S : FnScope N ps sc) (ar : ∀ xs H Q E, sp xs H Q E → xs.length = ps.length)
    (hb : ∀ (A : Around) (out : List Env) (s : Shared) (H : Hp) (xs : List V) (Q : VK) (E : XK), A.guards = some [] → Room n (A.deeper (envOfC qual sc s.heap.objs.size f cdv)) → sp xs H Q E →
      ∃ t, PSs (cxOf C P w K mg base N qual sc f cdv A out s H E) body t ∧ t { nx := fun _ H' => Q .non H', rt := Q } (start N xs) H) :
    FnG P w K mg base C (n + 1) f (PySem.W.fnOf name qual pm body sc dV kV doc md an cdv ct) ps sp := by
  refine { arity := ar, goes := ?_ }
  intro A out s H args us xs Q E gd r e bd v h
  have all : K.In s.heap := e.mod.kin.keeps fun b o z => (e.bs b o z).1
  have nolim : s.heap.NoLimit := e.mod.nolimit.keeps fun b o z => (e.bs b o z).1
  have kinds : ∀ y ∈ ps.zip us, sc.names.lookup y.1 = some .local ∨ (sc.names.lookup y.1 = some .cell ∧ ((cellsFrom (s.heap.objs.size + 1) sc.names []).lookup y.1).isSome = true) := by
    rintro ⟨y, u⟩ hy
    exact (S.par y (List.of_mem_zip hy).1).imp id fun z => ⟨z, PySem.W.cellsFrom_some _ _ _ (.inl z)⟩
  refine codeAny_call_function r.depth (all _ _ lk) rfl S.co S.gen rfl (PySem.W.codeRec_of all cd) (bd _ _ _ _ (wpAny_newFunctionEnv_cells S.kind kinds ?_))
  intro env he s1 x
  cases he
  obtain ⟨t, ht, hq⟩ := hb A out s H xs Q E gd (r.deeper _) h
  refine ⟨nolim.keeps x.toInCall.keep, codeAny_func (wpAny_mono (ht.run [] s1 (start N xs) H _ (inv_start S r.hd e (ar _ _ _ _ h) v x) hq) ?_ fun _ _ z => z)⟩
  rintro fl s' hs
  cases fl with
  | ret u =>
    obtain ⟨y, σ', H', J, ry, q⟩ := hs
    exact ⟨y, H', J.os, J.bare, J.base, J.hok, ry, q⟩
  | next =>
    obtain ⟨σ', H', J, q⟩ := hs
    exact ⟨.non, H', J.os, J.bare, J.base, J.hok, rfl, q⟩
  | brk => exact hs.choose_spec.choose_spec.2.elim
  | cont => exact hs.choose_spec.choose_spec.2.elim
theorem okG {name qual : Str} {st : Stmt} {fd : FuncData} (F : L2.Fun K name qual st f fd) (S : FnScope N ps (defScope st)) (ar : ∀ xs H Q E, sp xs H Q E → xs.length = ps.length)
    (hb : ∀ (cdv : Value) (A : Around) (out : List Env) (s : Shared) (H : Hp) (xs : List V) (Q : VK) (E : XK), A.guards = some [] → Room n (A.deeper (envOfC qual (defScope st) s.heap.objs.size f cdv)) → sp xs H Q E →
      ∃ t, PSs (cxOf CX0 P w K mg base N qual (defScope st) f cdv A out s H E).nox (defBody st) t ∧ t { nx := fun _ H' => Q .non H', rt := Q } (start N xs) H) : FnG P w K mg base CX0 (n + 1) f fd ps sp := by
  obtain ⟨_, _, _, _, _, _, cdv, _, _, rfl, lk, cd⟩ := F.ex
  refine fnG_of lk cd S ar ?_
  intro A out s H xs Q E gd r h
  obtain ⟨t, ht, q⟩ := hb cdv A out s H xs Q E gd r h
  exact ⟨t, ht.nox, q⟩
end

/-! ### the end of a law's row -/
/-- the call of the law itself, over one abstract heap -/
theorem law_at {P : Program} {w : World} {K : PySem.W.Frag} {mg mb : Str → Option Value} {n : Nat} {fa a : Addr} {fd : FuncData} {x : Str} {sp : Sp} {s : Shared} {vs : List Value} {H : Hp}
    (KX : K.In s.heap) (hns : s.heap.Ns mainGlobals mg) (hb : s.heap.Ns builtinsNs mb) (hbb : ∀ x : Str, x ≠ "__name__" → mb x = bootBuiltins x) (lim : s.heap.NoLimit) (ng : s.gens = #[])
    (ha : s.heap.get? a = some { cls := .type "list", data := .seq vs.toArray }) (hr : Room n callerA)
    (F : ∀ base : Heap, K.In base → base.Ns mainGlobals mg → FnG P w K mg base CX0 n fa fd [x] sp) (bd : BindsTo s fd ⟨[.ref a], []⟩ [(x, .ref a)])
    (hsp : sp [.ref a] H (fun v _ => v = .bl true) E0) (hO : Only H) (hok : HOk P w H s.heap) (one : ∀ b, H b ≠ none → b = a) (apart : H a ≠ none → K.lookup a = none) :
    codeAny (model P w) callerA (.call (.ref fa) ⟨[.ref a], []⟩) (fun r s' => r = .ok (.ret (.bool true)) ∧ OldK s.heap s'.heap ∧ s'.os = s.os ∧ AllBare s'.gens) s := by
  have no : ∀ {b : Addr} {o : Obj}, s.heap.get? b = some o → (∀ its m, o.data ≠ .seq its m) → H b = none := by
    intro b o e d
    refine Classical.byContradiction fun z => ?_
    cases one b z
    rw [ha] at e
    cases e
    exact d _ _ rfl
  have keep : ∀ {b : Addr} {m : Str → Option Value}, s.heap.Ns b m → (hidT s.heap H).Ns b m := by
    rintro b m ⟨o, es, ep, e, d, r⟩
    exact ⟨o, es, ep, hidT_get e (no e fun its m z => by rw [d] at z; cases z), d, r⟩
  have inb : K.In (hidT s.heap H) := by
    intro b o e
    refine hidT_get (KX b o e) (Classical.byContradiction fun z => ?_)
    have eb := one b z
    rw [eb] at z e
    rw [apart z] at e
    cases e
  obtain ⟨mc, l1, l2⟩ := lim
  have M : Mod K mg (hidT s.heap H) := ⟨inb, keep hns, ⟨mb, keep hb, hbb⟩, ⟨mc, keep l1, l2⟩⟩
  have e0 : Env0 P w K mg (hidT s.heap H) callerA [] s H :=
    { frames := rfl, mod := M, bs := fun b o e => of_hidT e, bsz := Nat.le_of_eq (hidT_size _ _), funs := trivial, frf := fun b z => absurd (show b ∈ ([] : List Addr) from z) List.not_mem_nil, hok := hok, bare := .of_eq ng }
  refine codeAny_mono ((F _ inb (keep hns)).goes callerA [] s H ⟨[.ref a], []⟩ [.ref a] [.ref a] _ _ rfl hr e0 bd (.cons rfl .nil) hsp) ?_
  rintro (er | fl) s' h
  · exact False.elim h
  · cases fl with
    | ret u =>
      obtain ⟨v, H', os, bare, un, hok', rv, q⟩ := h
      cases (show v = .bl true from q)
      cases (show u = Value.bool true from rv)
      refine ⟨rfl, OldK.of_keep ?_, os, bare⟩
      intro b o e
      rcases hO b with z | ⟨ob, xs, z⟩
      · exact un.keep b o e z (fun y => absurd (show b ∈ ([] : List Addr) from y) List.not_mem_nil) List.not_mem_nil
      · have i1 := (hok b _ z).1
        rw [e] at i1
        rw [i1]
        exact (hok' b _ (un.frzs b ob _ z)).1
    | next => exact False.elim h
    | brk => exact False.elim h
    | cont => exact False.elim h
theorem walkG {l : PySem.W.OpenLaw} {m n : Nat} {q : Program} {loose : List Str} {XP : (Str → Option Value) → Heap → Prop} {YP : World → Heap → Prop} {d : DefRec} {K : Params → PySem.W.Frag} {sp : PySem.W.Frag → Sp} {x : Str}
    (hm : l.most = some m) (hm2 : m ≤ sizeLine) (hdf : d.params.defaults = []) (hr : Room n callerA) (hY : ∀ (w : World) (h : Heap), YP w h → (K w.params).In h)
    (F : ∀ (w : World) (mg : Str → Option Value) (fa : Addr) (h : Heap), (K w.params).In h → h.Ns mainGlobals mg → mg d.name = some (.ref fa) →
      ∃ fd : FuncData, (∀ (s : Shared) (u : Value), BindsTo s fd ⟨[u], []⟩ [(x, u)]) ∧
        ∀ base : Heap, (K w.params).In base → base.Ns mainGlobals mg → FnG l.prog w (K w.params) mg base CX0 n fa fd [x] (sp (K w.params)))
    (hsp : ∀ (K : PySem.W.Frag) (H : Hp) (a : Addr) (ns : List Int), ns.length ≤ m → Only H → SqL K H a (ns.map V.int) → sp K [.ref a] H (fun v _ => v = .bl true) E0) :
    PySem.W.WalkO q loose XP YP l.row.toRowW d [] (fun f vs => PySem.call f vs) := by
  refine Att.attach_call hm hdf ?_
  intro w s₀ s mg mb fa o pm cd doc a vs ns G Y ho hd hcd hmg hobj hints hlen hg
  have KX := hY w _ Y
  obtain ⟨fd, hb, hF⟩ := F w mg fa _ KX G.T.g hmg
  have rv := vals_ints hints
  have hl : (ns.map V.int).length ≤ sizeLine := by
    rw [List.length_map]
    exact Nat.le_trans hlen hm2
  cases hk : (K w.params).lookup a with
  | some ob =>
    have e := KX a ob hk
    rw [hobj] at e
    cases e
    refine law_at KX G.T.g G.T.b G.T.builtins G.T.nolimit hg hobj hr hF (hb s _) (H := fun _ => none) (hsp _ _ a ns hlen (fun _ => .inl rfl) (.inr ?_)) (fun _ => .inl rfl) (fun b u z => nomatch (show (none : Option HO) = some u from z)) (fun b z => absurd rfl z) fun z => absurd rfl z
    exact ⟨_, vs.toArray, _, hk, rfl, rfl, rfl, by rw [List.size_toArray, ← rv.length]; exact hl, by simpa using rv⟩
  | none =>
    let T : HO := .frz { cls := .type "list", data := .seq vs.toArray } (.lst (ns.map V.int))
    let H0 : Hp := fun _ => none
    have at_a : upd H0 a T a = some T := upd_same
    have off : ∀ b, b ≠ a → upd H0 a T b = none := fun b z => upd_ne z
    refine law_at KX G.T.g G.T.b G.T.builtins G.T.nolimit hg hobj hr hF (hb s _) (H := upd H0 a T) (hsp _ _ a ns hlen ?_ (.inl (.inr ⟨_, at_a⟩))) ?_ ?_ ?_ fun _ => hk
    · intro b
      by_cases z : b = a
      · cases z
        exact .inr ⟨_, _, at_a⟩
      · exact .inl (off b z)
    · intro b
      by_cases z : b = a
      · cases z
        exact .inr ⟨_, _, at_a⟩
      · exact .inl (off b z)
    · intro b u e
      by_cases z : b = a
      · cases z
        cases at_a.symm.trans e
        exact ⟨hobj, hl, vs, _, rv, hobj⟩
      · rw [off b z] at e
        cases e
    · intro b z
      exact Classical.byContradiction fun y => z (off b y)
end My

set_option maxHeartbeats 2000000
/-! repr of data: flat things, lists, tuples at any depth, and dicts of flat things. -/
namespace My
open PySem PySem.Spec PyProof.Rows L2

def flatD : V → Option PyData
  | .non => some .none
  | .bl b => some (.bool b)
  | .int i => some (.int i)
  | .str x => some (.str x)
  | _ => none
def keyD : Key → PyData
  | .inl i => .int i
  | .inr x => .str x
/-- the value v is the datum d -/
inductive Dd (K : PySem.W.Frag) (H : Hp) : V → PyData → Prop
  | dat {v : V} {d : PyData} : Dp K H v d → d.hasDict = false → Dd K H v d
  | dct {a : Addr} {kvs : List (Key × V)} {ds : List PyData} : H a = some (.dK kvs) → kvs.map (fun p => flatD p.2) = ds.map some → Dd K H (.ref a) (.dict ((kvs.map fun p => keyD p.1).zip ds))
theorem flat_reads {h : Heap} {v : V} {u : Value} {d : PyData} (e : flatD v = some d) (r : RelV v u) : Reads h u d [] := by
  cases v with
  | non => cases e; cases (show u = Value.none from r); exact .none
  | bl b => cases e; cases (show u = Value.bool b from r); exact .bool b
  | int i => cases e; obtain ⟨t, rfl⟩ := (show ∃ t, u = Value.int i t from r); exact .int i t
  | str x => cases e; obtain ⟨t, rfl⟩ := (show ∃ t, u = Value.str x t from r); exact .str x t
  | byt b => cases e
  | flt b => cases e
  | ref a => cases e
  | ty n => cases e
theorem key_reads {h : Heap} {k : Key} {u : Value} (e : keyIs k u = true) : Reads h u (keyD k) [] := by
  rcases keyIs_shape e with ⟨i, t, rfl, rfl⟩ | ⟨x, t, rfl, rfl⟩
  · exact .int i t
  · exact .str x t
theorem pairs_reads {P : Program} {w : World} {h : Heap} : ∀ {kvs : List (Key × V)} {vs : List (Key × Value)} {es : List DictEntry} {ds : List PyData}, KV kvs vs → Pairs (mixKind P w) es vs → kvs.map (fun p => flatD p.2) = ds.map some →
    ReadsAll h (es.map (·.key)) (((kvs.map fun p => keyD p.1).zip ds).map (·.1)) [] ∧ ReadsAll h (es.map (·.val)) (((kvs.map fun p => keyD p.1).zip ds).map (·.2)) []
  | [], _, _, [], .nil, .nil, _ => ⟨.nil, .nil⟩
  | [], _, _, _ :: _, _, _, e => by cases e
  | _ :: _, _, _, [], _, _, e => by cases e
  | p :: kvs, _, _, d :: ds, .cons r rs, .cons k v ps, e => by
    obtain ⟨e1, e2⟩ := List.cons.inj e
    obtain ⟨i1, i2⟩ := pairs_reads (h := h) rs ps e2
    rw [← r.1] at k
    rw [← v] at r
    exact ⟨ReadsAll.cons (as := []) (bs := []) (key_reads k) i1, ReadsAll.cons (as := []) (bs := []) (flat_reads e1 r.2) i2⟩
section
variable {X : Cx} {pins : List (Addr × Obj)} {σ : L2.St} {H : Hp} {s : Shared}
theorem Dd.reads (I : Inv X pins σ H s) {v : V} {u : Value} {d : PyData} (h : Dd X.K H v d) (r : RelV v u) : ∃ as, Reads s.heap u d as ∧ (d.hasDict = true → sysModules ∉ as) := by
  cases h with
  | dat hd n =>
    obtain ⟨as, q⟩ := Dp.reads I d v u hd r
    exact ⟨as, q, fun z => by rw [n] at z; cases z⟩
  | @dct a kvs ds ha e =>
    cases (show u = Value.ref a from r)
    obtain ⟨_, ns, vs, kv, o, es, ep, ho, ex, hd, _, ps, _⟩ := (show ObjOk X.prog X.w H s.heap a (.dK kvs) from I.hok a _ ha)
    obtain ⟨q1, q2⟩ := pairs_reads (h := s.heap) kv ps e
    refine ⟨_, Reads.dict (as := []) (bs := []) ho ex.1 hd q1 q2, fun _ z => ?_⟩
    have z' : sysModules = a := by simpa using z
    rw [z'] at ns
    simp at ns
/-- repr(v), v a datum -/
def rRepr (K : PySem.W.Frag) : List V → Hp → VK → Prop := fun xs H Q => ∃ v d, xs = [v] ∧ Dd K H v d ∧ d.showable = true ∧ d.depth ≤ 60 ∧ d.shown.length ≤ sizeLine ∧ Q (.str d.shown) H
theorem call_repr (gd : X.A.guards = some []) (hu : X.A.units + 64 < cLine) : CallR X (.builtin "repr") (rRepr X.K) := by
  rintro pins s σ H xs us Q I r ⟨v, d, rfl, hd, sh, dp, sz, q⟩
  obtain ⟨u, rfl, ru⟩ := vals1 r
  obtain ⟨as, rd, ns⟩ := hd.reads I ru
  cases rd with
  | none =>
    refine PySem.P.repr_of_none ⟨.str "None", H, I.tok _, ⟨_, rfl⟩, ?_⟩
    simpa only [PyData.shown] using q
  | bool b =>
    refine PySem.P.repr_of_bool ⟨.str (if b then "True" else "False"), H, I.tok _, ⟨_, rfl⟩, ?_⟩
    simpa only [PyData.shown] using q
  | int i t =>
    refine PySem.P.repr_of_int (by simpa [PyData.showable] using sh) ⟨.str (toString i), H, I.tok _, ⟨_, rfl⟩, ?_⟩
    simpa only [PyData.shown] using q
  | str x t =>
    refine PySem.P.repr_of_str ⟨.str (reprText x), H, I.tok _, ⟨_, rfl⟩, ?_⟩ (by simpa only [PyData.shown] using sz)
    simpa only [PyData.shown] using q
  | list h1 h2 h3 h4 => exact repr_of_reads' (.list h1 h2 h3 h4) sh ns gd (by omega) (fun _ _ e => e) (fun h1 u tk hk => ⟨.str _, H, I.kept hk, ⟨u, rfl⟩, q⟩) sz
  | tuple h1 h2 h3 h4 => exact repr_of_reads' (.tuple h1 h2 h3 h4) sh ns gd (by omega) (fun _ _ e => e) (fun h1 u tk hk => ⟨.str _, H, I.kept hk, ⟨u, rfl⟩, q⟩) sz
  | dict h1 h2 h3 h4 h5 => exact repr_of_reads' (.dict h1 h2 h3 h4 h5) sh ns gd (by omega) (fun _ _ e => e) (fun h1 u tk hk => ⟨.str _, H, I.kept hk, ⟨u, rfl⟩, q⟩) sz
end
theorem Same.tup {K : PySem.W.Frag} {H H' : Hp} {a : Addr} {xs : List V} (e : Same H H') (h : SqT K H a xs) : SqT K H' a xs := by
  rcases h with (h | ⟨o, h⟩) | h
  · exact .inl (.inl (e _ _ h))
  · exact .inl (.inr ⟨o, e _ _ h⟩)
  · exact .inr h
mutual
theorem Dp.same {K : PySem.W.Frag} {H H' : Hp} (e : Same H H') : ∀ (d : PyData) (v : V), Dp K H v d → Dp K H' v d
  | .none, _, h => by cases h; exact .non
  | .bool _, _, h => by cases h; exact .bl _
  | .int _, _, h => by cases h; exact .int _
  | .str _, _, h => by cases h; exact .str _
  | .list ds, _, h => by
    cases h with
    | lst s a => exact .lst (L2.Same.seq e s) (DpAll.same e ds _ a)
  | .tuple ds, _, h => by
    cases h with
    | tup s a => exact .tup (Same.tup e s) (DpAll.same e ds _ a)
  | .dict _, _, h => by cases h
theorem DpAll.same {K : PySem.W.Frag} {H H' : Hp} (e : Same H H') : ∀ (ds : List PyData) (vs : List V), DpAll K H vs ds → DpAll K H' vs ds
  | [], _, h => by cases h; exact .nil
  | d :: ds, _, h => by
    cases h with
    | cons a b => exact .cons (Dp.same e d _ a) (DpAll.same e ds _ b)
end
theorem Dd.same {K : PySem.W.Frag} {H H' : Hp} (e : Same H H') {v : V} {d : PyData} (h : Dd K H v d) : Dd K H' v d := by
  cases h with
  | dat a n => exact .dat (Dp.same e _ _ a) n
  | dct a n => exact .dct (e _ _ a) n
end My

set_option maxHeartbeats 4000000
/-! Exceptions of own classes over ValueError as values: made by position and by name, their fields, isinstance. -/
namespace MyX
open PySem PySem.W PySem.Calls PyProof.Rows PySem.HandSPX
open Builtin Builtin.ObjectAttr
section
variable {M : Model} {prog : Program} {w : World} {A : Around} {E : Value → Shared → Prop} {R : Result → Shared → Prop} {h : Heap} {g : Array GenState} {d : Drawn} {t : Nat} {os : OsState}
variable {nm q : Str} {C N : Addr} {bs bm bmB : List Value} {hdct : Bool} {sn : List Str} {sub : List Value} {ab : Bool} {col : Option Bool} {dd : Option Addr} {k0 k1 k2 k3 k5 : Option Value} {B newId initId : String} {key : Str} {val : Value}
theorem check_type_kw {Q : Unit → Shared → Prop} (hC : h.get? C = some (excClassObj nm q C N bs bm hdct sn sub ab col dd k0 k1 k2 k3 k5 newId)) (z : Q () ⟨h, g, d, t, os⟩) :
    wpAny M A (checkBuiltinCall "type.__call__" ⟨[.ref C], [(key, val)]⟩) Q E ⟨h, g, d, t, os⟩ := by
  have e3 := tc_sub
  have ty : (⟨h, g, d, t, os⟩ : Shared).TypeIs (.ref C) "type" := ⟨_, hC, rfl⟩
  simp only [checkBuiltinCall, tc_kind, tc_split]
  repeat (any_goals (first
    | assumption
    | with_reducible refine wpAny_loadPart_at hC ?_
    | with_reducible refine wpAny_onRaise ?_
    | with_reducible refine wpAny_map ?_
    | wp_step))
theorem check_new_kw (F : ExcBaseFacts B newId initId bmB) (hT : ∀ X : String, bm.contains (.type X) = bmB.contains (.type X)) {Q : Unit → Shared → Prop}
    (hC : h.get? C = some (excClassObj nm q C N bs bm hdct sn sub ab col dd k0 k1 k2 k3 k5 newId)) (z : Q () ⟨h, g, d, t, os⟩) : wpAny M A (checkBuiltinCall newId ⟨[.ref C], [(key, val)]⟩) Q E ⟨h, g, d, t, os⟩ := by
  have hc : (Value.ref C :: bm).contains (.type B) = true := by rw [List.contains_cons, hT, F.hasB, Bool.or_true]
  have ns := F.noStar
  simp only [checkBuiltinCall, F.newKind, F.newSplit, F.newRow]
  repeat (first
    | refine wpAny_loadPart_at hC ?_
    | (refine wpAny_isSubtype_exc hC ?_; rw [hc])
    | refine wpAny_staticBase_exc hC ?_
    | refine wpAny_madeBy_exc hC ?_
    | simp only [bne_self_eq_false, Bool.false_eq_true, if_false]
    | wp_step)
  exact z
theorem new_kw (F : ExcBaseFacts B newId initId bmB) (hT : ∀ X : String, bm.contains (.type X) = bmB.contains (.type X))
    (hC : h.get? C = some (excClassObj nm q C N bs bm hdct sn sub ab col dd k0 k1 k2 k3 k5 newId))
    (z : R (.ok (.ret (.ref (h.objs.size + 1)))) ⟨(h.push (kdv_tup [])).push (excO C h.objs.size), g, d, t, os⟩) :
    codeAny (model prog w) A (.builtin newId ⟨[.ref C], [(key, val)]⟩) R ⟨h, g, d, t, os⟩ := by
  have he := F.ends
  have c1 : (Value.ref C :: bm).contains (.type B) = true := by rw [List.contains_cons, hT, F.hasB, Bool.or_true]
  have c2 : (Value.ref C :: bm).contains (.type "AttributeError") = false := by
    rw [List.contains_cons, hT, F.noAttr]
    rfl
  have c3 : (Value.ref C :: bm).contains (.type "NameError") = false := by
    rw [List.contains_cons, hT, F.noName]
    rfl
  refine codeAny_builtinAt F.entry ?_
  unfold Builtin.«BaseException.__new__»
  refine PySem.wpAt_bind ?_
  show PySem.wpAt _ _ _ (stack >>= _) _ _ _
  refine PySem.wpAt_bind (PySem.wpAt_stack fun p below => PySem.wpAt_of_wpAny ?_)
  wp_walk
  refine PySem.wpAt_of_wpAny ?_
  rw [F.owner]
  repeat (first
    | with_reducible refine wpAny_madeHere_exc F.canon hC ?_
    | with_reducible refine wpAny_loadPart_at hC ?_
    | (with_reducible refine wpAny_isSubtype_exc hC ?_; first | rw [c1] | rw [c2] | rw [c3])
    | wp_step)
  show R _ _
  rw [Heap.size_push]
  exact z
theorem type_call_kw (F : ExcBaseFacts B newId initId bmB) (hT : ∀ X : String, bm.contains (.type X) = bmB.contains (.type X)) {fI : Addr} {Q : Fin → Shared → Prop}
    (hC : h.get? C = some (excClassObj nm q C N bs bm hdct sn sub ab col dd k0 k1 k2 k3 k5 newId))
    (hi : Looks (model prog w) h (typeLookup (.ref C) "__init__") (some (.ref fI))) (hb : ∀ self, Looks (model prog w) h (bindSpecial (.ref fI) self) (.ref fI, [self]))
    (z : codeAny (model prog w) A (.call (.ref fI) ⟨[.ref (h.objs.size + 1)], [(key, val)]⟩)
      (fun r s' => match r with | .ok (.ret v) => v = .none ∧ Q (.done (.ret (.ref (h.objs.size + 1)))) s' | .ok _ => False | .error e => E e s')
      ⟨(h.push (kdv_tup [])).push (excO C h.objs.size), g, d, t, os⟩) :
    wpAny (model prog w) A (Builtin.«type.__call__» ⟨[.ref C], [(key, val)]⟩) Q E ⟨h, g, d, t, os⟩ := by
  repeat (first
    | with_reducible refine wpAny_loadPart_at hC ?_
    | with_reducible refine wpAny_madeBy_exc hC ?_
    | wp_step)
  refine codeAny_call_builtin_code (Code.quiet_builtin _ F.quiet) (check_new_kw F hT hC ?_)
  refine new_kw F hT hC ?_
  show wpAny _ _ _ _ _ _
  have k : ∀ b o, h.get? b = some o → ((h.push (kdv_tup [])).push (excO C h.objs.size)).get? b = some o := fun b o e => Heap.get?_push_of_some _ (Heap.get?_push_of_some _ e)
  have hC2 := k _ _ hC
  have at1 : ((h.push (kdv_tup [])).push (excO C h.objs.size)).get? (h.objs.size + 1) = some (excO C h.objs.size) := by heap_get
  have cc : (Value.ref C :: bm).contains (.ref C) = true := by simp
  have i1 := hi.keeps k
  have b1 := (hb (.ref (h.objs.size + 1))).keeps k
  unfold isInstance
  repeat (first
    | with_reducible refine wpAny_loadPart_at at1 ?_
    | (with_reducible refine wpAny_isSubtype_exc hC2 ?_; rw [cc])
    | wp_step)
  show wpAny _ _ (typeLookup (.ref C) _) _ _ _
  refine i1.at ?_
  refine wpAny_holding (wpAny_bind (b1.at ?_))
  refine wpAny_bind (wpAny_call (codeAny_mono z ?_))
  rintro (e | (v | _ | _ | _)) s' y <;> first | exact y | exact y.elim | skip
  all_goals first
    | (obtain ⟨rfl, y⟩ := y; first | exact wpAny_pure (wpAny_pure y) | (wp_walk; exact y))
    | exact y
theorem call_kw (F : ExcBaseFacts B newId initId bmB) (hT : ∀ X : String, bm.contains (.type X) = bmB.contains (.type X)) {fI : Addr}
    (hC : h.get? C = some (excClassObj nm q C N bs bm hdct sn sub ab col dd k0 k1 k2 k3 k5 newId))
    (hi : Looks (model prog w) h (typeLookup (.ref C) "__init__") (some (.ref fI))) (hb : ∀ self, Looks (model prog w) h (bindSpecial (.ref fI) self) (.ref fI, [self]))
    (z : codeAny (model prog w) (A.under (.builtin "type.__call__" ⟨[.ref C], [(key, val)]⟩)) (.call (.ref fI) ⟨[.ref (h.objs.size + 1)], [(key, val)]⟩) (InitBack (h.objs.size + 1) R)
      ⟨(h.push (kdv_tup [])).push (excO C h.objs.size), g, d, t, os⟩) :
    codeAny (model prog w) A (.call (.ref C) ⟨[], [(key, val)]⟩) R ⟨h, g, d, t, os⟩ := by
  have e1 := tc_lookup
  have e2 := tc_bind (.ref C)
  have ty : (⟨h, g, d, t, os⟩ : Shared).TypeIs (.ref C) "type" := ⟨_, hC, rfl⟩
  refine codeAny_of_tree ?_
  show wpAny _ _ (callAny (.ref C) _) _ _ _
  repeat (any_goals (first
    | assumption
    | with_reducible refine wpAny_loadPart_at hC ?_
    | wp_step))
  refine ⟨rfl, ?_⟩
  refine codeAny_call_builtin_at (Code.quiet_builtin _ (by decide +kernel)) entry_typeCall (check_type_kw hC (type_call_kw F hT hC hi hb ?_))
  refine codeAny_mono z ?_
  rintro (e | (v | _ | _ | _)) s' y <;> exact y
end
end MyX

set_option maxHeartbeats 4000000
/-! The layer's rules for exceptions as values. -/
namespace My
open PySem PySem.Spec PyProof.Rows L2

/-- an exception's own __init__: one field -/
def spInit (C : Addr) (fld : Str) : Sp := fun xs H Q _ => ∃ (a : Addr) (v : V), xs = [.ref a, v] ∧ H a = some (exo a C none) ∧
  ∀ d, H d = none → d ≠ a → Q .non (upd (upd H d (exd d [(fld, v)])) a (exo a C (some d)))
/-- what the class at C, its __init__ at fI must be -/
structure XCls (K : PySem.W.Frag) (C fI : Addr) (fld : Str) : Prop where
  ox : OexC K C
  iC : PySem.W.findIn K (.ref C) "__init__" = some (some (.ref fI))
  tI : PySem.W.typeIn K (.ref fI) = some (.type "function")
  xf : XfC K C
  no : PySem.W.findIn K (.ref C) fld = some none
/-- a new exception of the class at C, its dict with the one field -/
def NewX (C : Addr) (fld : Str) (v : V) (H : Hp) (Q : VK) : Prop := ∀ a d, H a = none → H d = none → d ≠ a → Q (.ref a) (upd (upd (upd H a (exo a C none)) d (exd d [(fld, v)])) a (exo a C (some d)))
def tMkX (C : Addr) (fld : Str) (ta : TA) : TE := fun σ H Q => ta σ H fun vs H1 => ∃ v, vs = [v] ∧ NewX C fld v H1 Q
section
variable {X : Cx} {nm : Str} {C fI : Addr} {k : Nat} {fd : FuncData} {fld : Str} {e : Expr} {te : TE} {ta : TA} {p pos kpos : Pos} {pins : List (Addr × Obj)} {σ : L2.St} {H : Hp}
theorem mkx_start {hp : Heap} {g : Array GenState} {dr : Drawn} {tk : Nat} {os : OsState} {us : List Value} {v : V} {Q : VK} (I : Inv X pins σ H ⟨hp, g, dr, tk, os⟩) (q : NewX C fld v H Q) :
    Inv X pins σ (upd H (hp.objs.size + 1) (exo (hp.objs.size + 1) C none)) ⟨(hp.push (PySem.W.kdv_tup us)).push (PySem.HandSPX.excO C hp.objs.size), g, dr, tk, os⟩ ∧
    spInit C fld [.ref (hp.objs.size + 1), v] (upd H (hp.objs.size + 1) (exo (hp.objs.size + 1) C none)) (fun r H2 => r = .non ∧ Q (.ref (hp.objs.size + 1)) H2) E0 := by
  have big : hp.objs.size ≤ hp.objs.size + 1 := Nat.le_succ _
  have none1 : H (hp.objs.size + 1) = none := I.hok.fresh big
  have here : ((hp.push (PySem.W.kdv_tup us)).push (PySem.HandSPX.excO C hp.objs.size)).get? (hp.objs.size + 1) = some (PySem.HandSPX.excO C hp.objs.size) := by heap_get
  refine ⟨I.laid (fun b o e => Heap.get?_push_of_some _ (Heap.get?_push_of_some _ e)) big (exo_ok here), _, v, rfl, upd_same, ?_⟩
  intro d hd hne
  rw [upd_ne hne] at hd
  exact ⟨rfl, q _ d none1 hd hne⟩
/-- behind __init__ -/
theorem mkx_end {s : Shared} {n : Addr} {Q : VK} (I : Inv X pins σ H s) {r : Result} {s' : Shared} (h : CR CX0 X.stack X.prog X.w H s (fun r H2 => r = .non ∧ Q (.ref n) H2) E0 r s') :
    PySem.W.InitBack n (fun r s' => match r with | .ok (.ret v) => EP X pins σ Q v s' | .ok _ => False | .error e => X.xe e s') r s' := by
  rcases r with er | fl
  · exact False.elim h
  · cases fl with
    | ret u =>
      obtain ⟨v, H', J, rv, ev, q⟩ := I.after h
      subst ev
      exact ⟨rv, .ref n, H', J, rfl, q⟩
    | next => exact False.elim h
    | brk => exact False.elim h
    | cont => exact False.elim h
theorem pe_mkX (T : XCls X.K C fI fld) (G : FnOk X.prog X.w X.K X.mg X.base CX0 k fI fd ["self", fld] (spInit C fld)) (hr : Room (k + 1) X.A) (hb : Binds X.K fd ["self", fld] []) (hg : Gl X nm) (hm : X.mg nm = some (.ref C)) (ha : PA X [e] ta)
    (hdb : (nm == ("__debug__" : Str)) = false := by decide) (hs : starEach [e] X.env = (false, eval e X.env) :: starEach [] X.env := by rfl) (hpl : (backTo pos (starEach [] X.env)).any (·.1) = false := by rfl) :
    PE X (.Call (.Name nm p) [e] [] pos) (tMkX C fld ta) := by
  refine ⟨?_⟩
  intro pins s σ H Q I h
  obtain ⟨cn, q, N, bs, bm, sn, sub, ab, col, dd, k0, k1, k2, k3, k5, hC, hbm⟩ := T.ox.cls
  refine wpAny_Call_Name_kw (ld_glob I hg hm ?_ hdb)
  refine PySem.W.callWith_K (h₀ := X.base) I.ok.mod.kin T.ox.kC (thn (ha.run pos pins s σ H _ I h) ?_) hs hpl
  rintro us s1 ⟨vs, H1, I1, r, v, rfl, q1⟩
  refine ⟨I1.kIn, ?_⟩
  obtain ⟨u, rfl, ru⟩ := vals1 r
  obtain ⟨hp, g, dr, tk, os⟩ := s1
  obtain ⟨I2, h2⟩ := mkx_start (us := [u]) I1 q1
  show wpAny _ _ (call (.ref C) [u]) _ _ _
  have bd := hb _ [.ref (hp.objs.size + 1), u] I2.kIn rfl
  refine wpAny_call (PySem.HandSPX.call_own PySem.F.excBase_ValueError (fun Y => PySem.HandSPX.refsVE_contains Y bm hbm) (I1.kIn _ _ hC) (PySem.W.looks_findIn I1.kIn T.iC) (fun self => PySem.W.bind_fn I1.kIn self T.tI) (by show 1 ≤ sizeLine; decide) ?_)
  refine codeAny_mono (G.run _ X.stack _ _ ⟨[.ref (hp.objs.size + 1), u], []⟩ [.ref (hp.objs.size + 1), u] [.ref (hp.objs.size + 1), v] _ E0 (hr.make C [u] []) (I2.env0.make C [u] []) bd (.cons rfl (.cons ru .nil)) h2) ?_
  intro r s' hq
  exact mkx_end I2 hq
/-- the same by the field's name -/
theorem pe_mkXK {tk : TA} (T : XCls X.K C fI fld) (G : FnOk X.prog X.w X.K X.mg X.base CX0 k fI fd ["self", fld] (spInit C fld)) (hr : Room (k + 1) X.A) (hb : ∀ (s : Shared) (a u : Value), BindsTo s fd ⟨[a], [(fld, u)]⟩ ([("self" : Str), fld].zip [a, u])) (hg : Gl X nm) (hm : X.mg nm = some (.ref C))
    {kws : List Keyword} (hk : PK X kws tk) (hall : (backToKw pos (keywordEach kws X.env)).all (·.1.isSome) = true := by rfl) (hks : (backToKw pos (keywordEach kws X.env)).filterMap (·.1) = [fld] := by rfl)
    (hdb : (nm == ("__debug__" : Str)) = false := by decide) (hpl : ((backTo pos (starEach [] X.env)).any (·.1) || (backToKw pos (keywordEach kws X.env)).any (·.1.isNone)) = false := by rfl) :
    PE X (.Call (.Name nm p) [] kws pos) (tMkX C fld tk) := by
  refine ⟨?_⟩
  intro pins s σ H Q I h
  obtain ⟨cn, q, N, bs, bm, sn, sub, ab, col, dd, k0, k1, k2, k3, k5, hC, hbm⟩ := T.ox.cls
  refine wpAny_Call_Name_kw (ld_glob I hg hm ?_ hdb)
  refine PySem.W.callWith_KW0 (h₀ := X.base) I.ok.mod.kin T.ox.kC hall (thn (hk.run pos pins s σ H _ I h) ?_) hpl
  rintro us s1 ⟨vs, H1, I1, r, v, rfl, q1⟩
  refine ⟨I1.kIn, ?_⟩
  obtain ⟨u, rfl, ru⟩ := vals1 r
  rw [hks]
  obtain ⟨hp, g, dr, tk, os⟩ := s1
  obtain ⟨I2, h2⟩ := mkx_start (us := []) I1 q1
  show wpAny _ _ (call (.ref C) [] [(fld, u)]) _ _ _
  refine wpAny_call (MyX.call_kw PySem.F.excBase_ValueError (fun Y => PySem.HandSPX.refsVE_contains Y bm hbm) (I1.kIn _ _ hC) (PySem.W.looks_findIn I1.kIn T.iC) (fun self => PySem.W.bind_fn I1.kIn self T.tI) ?_)
  refine codeAny_mono (G.run _ X.stack _ _ ⟨[.ref (hp.objs.size + 1)], [(fld, u)]⟩ [.ref (hp.objs.size + 1), u] [.ref (hp.objs.size + 1), v] _ E0 (hr.make C [] [(fld, u)]) (I2.env0.make C [] [(fld, u)]) (hb _ _ _) (.cons rfl (.cons ru .nil)) h2) ?_
  intro r s' hq
  exact mkx_end I2 hq
/-- C(), an own exception class without an __init__ -/
theorem pe_mkX0 {bmB : List Value} {B newId initId : String} (F : ExcBaseFacts B newId initId bmB) (q : PySem.W.excIn X.K C bmB newId = true) (gC : X.mg nm = some (.ref C)) (kC : PySem.W.keepIn X.K (.ref C) = true) (hg : Gl X nm) (hdb : (nm == ("__debug__" : Str)) = false := by decide) :
    PE X (.Call (.Name nm p) [] [] pos) (fun _ H Q => ∀ a, H a = none → Q (.ref a) (upd H a (ExO (.ref C) a))) := by
  refine ⟨?_⟩
  intro pins s σ H Q I h
  refine wpAny_Call_Name_kw (ld_glob I hg gC ?_ hdb)
  refine PySem.W.callWith_K0 I.kIn kC ?_
  show wpAny _ _ (call (.ref C) []) _ _ _
  obtain ⟨bm, N, nm, qn, bs, hdct, sn, sub, ab, col, dd, k0, k1, k2, k3, k5, mN, hC, hN, hni, T⟩ := exc_obj I.kIn q
  refine wpAny_call_exc_subT F T hC hN hni ?_ (by show 0 ≤ sizeLine; decide)
  intro h' a hm
  have hn : H a = none := I.hok.gone hm.new
  obtain ⟨t, ht, _, _⟩ := hm.there
  exact ⟨.ref a, _, I.laidN hm.keeps hm.new hn (exO_ok ht ⟨rfl, rfl⟩ rfl rfl rfl (show 4 < 6 by decide)), rfl, h a hn⟩

/-- e.f, e such an exception -/
def tXget (K : PySem.W.Frag) (f : Str) (te : TE) : TE := fun σ H Q => te σ H fun x H1 => ∃ (a C d : Addr) (fs : List (Str × V)) (v : V), x = .ref a ∧ H1 a = some (exo a C (some d)) ∧ H1 d = some (exd d fs) ∧ XfC K C ∧
  PySem.W.findIn K (.ref C) f = some none ∧ fs.lookup f = some v ∧ Q v H1
theorem pe_xget {f : Str} (he : PE X e te) (hb : attributeBase e f X.env (eval e X.env) = eval e X.env := by rfl) : PE X (.Attribute e f pos) (tXget X.K f te) := by
  refine ⟨?_⟩
  intro pins s σ H Q I h
  refine attr_of hb (thn (he.run pins s σ H _ I h) ?_)
  rintro u s1 ⟨x, H1, I1, rx, a, C, d, fs, v, rfl, ha, hd, T, no, l, q⟩
  obtain rfl : u = Value.ref a := rx
  obtain ⟨t1, oa⟩ := exo_at I1.hok ha
  obtain ⟨mA, ns, rel⟩ := exd_at I1.hok hd
  obtain ⟨od, hod, hl⟩ := lookIn_ns ns
  obtain ⟨u, hu, ru⟩ := RelO.some_of (v := v) (o := mA f) (by rw [← l]; exact rel f)
  have J : PySem.W.InstAt s1.heap a { cls := .ref C, dict := some d, data := .fields #[.ref t1, .none, .none, .none, .bool false, .none] } C (some od) := ⟨oa, rfl, rfl, hod⟩
  exact HandSPX.exc_get I1.kIn J T.ga T.gg T.exC (PySem.W.findObj_own T.hdC no rfl (by rw [hl, hu])) (handed_of ru) ⟨v, H1, I1.tok _, ru, q⟩

/-- at a: an exception of the class at C -/
def IsX (H : Hp) (a C : Addr) : Prop := (∃ d fs, H a = some (exo a C (some d)) ∧ H d = some (exd d fs)) ∨ H a = some (ExO (.ref C) a)
/-- what isinstance asks of such a class -/
structure XIs (K : PySem.W.Frag) (C : Addr) : Prop where
  cl : (PySem.W.clsIn K C).isSome = true
  xf : XfC K C
  ha : PySem.W.findIn K (.ref C) "__class__" = some (some (.builtin "object.__class__"))
  hn : PySem.W.specialIn K (.builtin "object.__class__") "__get__" = some (some (.builtin "getset_descriptor.__get__"))
  ht : PySem.W.takesIn K (.builtin "object.__class__") = some true
  hm : PySem.W.mroIn K C (.type "object") = some true
def rIsX (K : PySem.W.Frag) : List V → Hp → VK → Prop := fun xs H Q => ∃ (a C : Addr) (c : V) (u : Value) (b : Bool), xs = [.ref a, c] ∧ ClsV c u ∧ IsX H a C ∧ XIs K C ∧ PySem.W.kitOne K (.ref C) u = some b ∧ Q (.bl b) H
theorem call_isX : CallR X (.builtin "isinstance") (rIsX X.K) := by
  rintro pins s σ H xs us Q I r ⟨a, C, c, u, b, rfl, cv, hx, T, kit, q⟩
  obtain ⟨u1, u2, rfl, r1, r2⟩ := vals2 r
  obtain rfl : u2 = u := cv.eq r2
  obtain rfl : u1 = Value.ref a := r1
  have go : ∀ (ox : Obj) (od : Option Obj), PySem.W.InstAt s.heap a ox C od → wpAny (model X.prog X.w) X.A (call (.builtin "isinstance") [.ref a, u2]) (EP X pins σ Q) X.xe s := fun ox od J =>
    PySem.W.kia_one (PySem.W.kitx_exc T.cl T.xf.ga T.xf.gg T.xf.exC T.ha T.hn T.ht T.hm) I.kIn J kit (fun z => nomatch z) fun tk => ⟨.bl b, H, I.tok tk, rfl, q⟩
  rcases hx with ⟨d, fs, ha, hd⟩ | ha
  · obtain ⟨t1, oa⟩ := exo_at I.hok ha
    obtain ⟨mA, ⟨od, es, ep, hod, _⟩, _⟩ := exd_at I.hok hd
    exact go _ (some od) ⟨oa, rfl, rfl, hod⟩
  · have z : ObjOk X.prog X.w H s.heap a (ExO (.ref C) a) := I.hok a _ ha
    obtain ⟨⟨oe, vs, ho, ⟨z1, z2⟩, hd, _⟩, _⟩ := z
    refine go oe none ⟨ho, z1, ?_, ?_⟩
    · unfold PySem.W.notCls
      rw [hd]
    · rw [z2]
      trivial
end
end My

set_option maxHeartbeats 4000000
/-! The law's draws: the well, a draw, a pick, sameness of what is shown. -/
namespace My
open PySem PySem.Spec PyProof.Rows L2
def top (i : Nat) : Stmt := PySem.Challenge.pw_perfectgraphs_k04_whole_graph6_by_own_bi.main.body.getD i (.Pass ⟨0, 0, 0, 0⟩)
abbrev sWell : Stmt := top 22
abbrev sDraw : Stmt := top (22 + 1)
abbrev sPick : Stmt := top (22 + 2)
abbrev sSame : Stmt := top (22 + 3)
theorem scWell : FnScope ["script", "turn", "cell", "mixed", "each"] ["script", "turn"] (defScope sWell) := ⟨rfl, rfl, rfl, by decide +kernel, rfl, by decide +kernel, by decide +kernel⟩
theorem scDraw : FnScope ["well", "many", "figure", "mixed"] ["well", "many"] (defScope sDraw) := ⟨rfl, rfl, rfl, by decide +kernel, rfl, by decide +kernel, by decide +kernel⟩
theorem scPick : FnScope ["well", "some"] ["well", "some"] (defScope sPick) := ⟨rfl, rfl, rfl, by decide +kernel, rfl, by decide +kernel, by decide +kernel⟩
theorem scSame : FnScope ["told", "due"] ["told", "due"] (defScope sSame) := ⟨rfl, rfl, rfl, by decide +kernel, rfl, by decide +kernel, by decide +kernel⟩

theorem same_new {H : Hp} {p : Addr} (h : H p = none) (o : HO) : Same H (upd H p o) := fun b u q => by rw [upd_ne (ne_of_none q h)]; exact q
theorem small {n : Nat} (h : n ≤ 1000) : n ≤ sizeLine := Nat.le_of_lt (small1000 h)
theorem iteB {c : Bool} {A B : Prop} (h1 : c = true → A) (h2 : c = false → B) : if c = true then A else B := by
  cases c with
  | true => exact iteT (h1 rfl)
  | false => exact iteF (h2 rfl)
/-- what follows one of two ways, once: the value goes on with K -/
theorem join {i : Nat} {σ : L2.St} {N : L2.St → Hp → Prop} {H : Hp} {G : Prop} {R : V → Prop} (h : (∀ v, R v → gName i v σ H N) → G) (g : ∀ v, R v → gName i v σ H N) : G := h g
/-- a well at p -/
def Wl (H : Hp) (p : Addr) : Prop := ∃ a b c : Int, H p = some (.lst [.int a, .int b, .int c])
/-- all but p is as it was -/
def But (p : Addr) (H H' : Hp) : Prop := ∀ q o, q ≠ p → H q = some o → H' q = some o
theorem But.refl (p : Addr) (H : Hp) : But p H H := fun _ _ _ e => e
theorem But.trans {p : Addr} {H1 H2 H3 : Hp} (x : But p H1 H2) (y : But p H2 H3) : But p H1 H3 := fun q o n e => y q o n (x q o n e)
theorem But.new {p q : Addr} {H : Hp} {o : HO} (n : H q = none) : But p H (upd H q o) := fun b u _ e => by rw [upd_ne (ne_of_none e n)]; exact e
theorem But.put {p : Addr} {H : Hp} {o : HO} : But p H (upd H p o) := fun b u n e => by rw [upd_ne n]; exact e
theorem But.of {p : Addr} {H H' : Hp} (s : Same H H') : But p H H' := fun b u _ e => s b u e
/-- the heap without p -/
def hide (p : Addr) (H : Hp) : Hp := fun q => if q = p then none else H q
theorem hide_ne {p q : Addr} {H : Hp} (h : q ≠ p) : hide p H q = H q := if_neg h
theorem hide_at {p : Addr} {H : Hp} : hide p H p = none := if_pos rfl
theorem hide_some {p q : Addr} {H : Hp} {o : HO} (h : hide p H q = some o) : q ≠ p ∧ H q = some o := by
  by_cases e : q = p
  · rw [e, hide_at] at h
    cases h
  · rw [hide_ne e] at h
    exact ⟨e, h⟩
theorem hide_sub (p : Addr) (H : Hp) : Same (hide p H) H := fun q o h => (hide_some h).2
theorem But.hide {p : Addr} {H H' : Hp} (h : But p H H') : Same (hide p H) (hide p H') := fun q o e => by
  obtain ⟨n, e⟩ := hide_some e
  rw [hide_ne n]
  exact h q o n e
/-- fit to be shown -/
def Fine (d : PyData) : Prop := d.showable = true ∧ d.depth ≤ 60 ∧ d.shown.length ≤ sizeLine
instance (d : PyData) : Decidable (Fine d) := inferInstanceAs (Decidable (_ ∧ _ ∧ _))

def spWell (K : PySem.W.Frag) : Sp := fun vs H Q _ => ∃ (a : Addr) (ns : List Int) (t : Nat), vs = [.ref a, .int (t : Int)] ∧ SqL K H a (ns.map V.int) ∧ ns.length ≤ 63 ∧ t ≤ 2 ∧
  ∀ (H' : Hp) (p : Addr), Same H H' → H p = none → Wl H' p → Q (.ref p) H'
def spDraw : Sp := fun vs H Q _ => ∃ (p : Addr) (m : Int), vs = [.ref p, .int m] ∧ Wl H p ∧ 0 < m ∧ m < 1000000 ∧
  ∀ (r : Int) (H' : Hp), 0 ≤ r → r < m → But p H H' → Wl H' p → Q (.int r) H'
/-- from a tuple that stands beside the well -/
def spPick (K : PySem.W.Frag) : Sp := fun vs H Q _ => ∃ (p t : Addr) (xs : List V), vs = [.ref p, .ref t] ∧ Wl H p ∧ SqT K (hide p H) t xs ∧ 0 < xs.length ∧ xs.length < 1000 ∧
  ∀ (i : Nat) (v : V) (H' : Hp), xs[i]? = some v → But p H H' → Wl H' p → Q v H'
def spSame (K : PySem.W.Frag) : Sp := fun vs H Q _ => ∃ (x y : V) (d e : PyData), vs = [x, y] ∧ Dd K H x d ∧ Dd K H y e ∧ Fine d ∧ Fine e ∧ Q (.bl (decide (V.str d.shown = V.str e.shown))) H
section
variable {P : Program} {w : World} {K : PySem.W.Frag} {mg : Str → Option Value} {base : Heap} {f fD : Addr} {fd dD : FuncData}
theorem ok_well (F : L2.Fun K "_law_well" "_law_well" sWell f fd) (ml : mg "len" = none) (mi : mg "int" = none) (ma : mg "abs" = none) : FnOk P w K mg base CX0 1 f fd ["script", "turn"] (spWell K) := by
  refine F.ok scWell (fun vs H Q E h => ?_) (fun cdv A outer s H vs Q E hr h => ?_)
  · obtain ⟨a, ns, t, rfl, _⟩ := h
    rfl
  obtain ⟨a, ns, t, rfl, hS, h63, h2, q⟩ := h
  refine ⟨_, pss_cons (ps_set (i := 2) scWell.nd rfl (.inl rfl) (pe_ifExp (pt_cmpR op_lt (pv 1) (pe_callB call_len_seq (by rfl) ml PySem.boot_len (pa_cons (pv 0) pa_nil)) (nomark _))
        (pe_callTy call_int1 (by rfl) mi (by decide +kernel) (pa_cons (pe_ix ix_list (pv 0) (pv 1) (fun _ _ => rfl)) pa_nil))
        (pe_op op_add (pe_op op_mul pe_int (pv 1)) pe_int)))
    (pss_cons (ps_set (i := 3) scWell.nd rfl (.inl rfl) (pe_op op_add pe_int (pe_op op_mul pe_int (pv 1))))
    (pss_cons (ps_for PassesOwn.never rfl (pi_list (pe_slice sl_list (pv 0) po_none (po_some pe_int))) (pg_name (i := 4) scWell.nd rfl (.inl rfl))
      (pss_one (ps_set (i := 3) scWell.nd rfl (.inl rfl) (pe_op op_mod (pe_callTy call_int1 (by rfl) mi (by decide +kernel) (pa_cons (pe_op op_add (pe_op op_add (pe_op op_mul (pv 3) pe_int)
        (pe_op op_mod (pe_callTy call_int1 (by rfl) mi (by decide +kernel) (pa_cons (pv 4) pa_nil)) pe_int)) pe_int) pa_nil)) pe_int))))
    (pss_cons (ps_set (i := 3) scWell.nd rfl (.inl rfl) (pe_op op_mod (pe_callTy call_int1 (by rfl) mi (by decide +kernel) (pa_cons (pe_op op_add (pe_op op_add (pe_op op_mul (pv 3) pe_int)
        (pe_op op_mul (pe_op op_mod (pe_callTy call_int1 (by rfl) mi (by decide +kernel) (pa_cons (pv 2) pa_nil)) pe_int) pe_int)) pe_int) pa_nil)) pe_int))
    (pss_one (ps_ret (pe_lst (pa_cons (pe_ifExp (PW.pt (pw_or (pt_cmpR op_lt (pv 2) pe_int (nomark _)) (pw_or1 (pt_cmpR op_ge (pv 2) (pe_op op_pow pe_int pe_int) (nomark _)))))
      (pe_callB call_abs (by rfl) ma (by decide +kernel) (pa_cons (pv 2) pa_nil)) pe_int) (pa_cons (pv 3) (pa_cons pe_int pa_nil))))))))), ?_⟩
  have hl : (ns.map V.int).length = ns.length := List.length_map _
  refine ⟨_, rfl, _, rfl, a, _, rfl, .inl hS, _, _, rfl, rfl, _, rfl, ?_⟩
  refine' join (i := 2) (R := fun v => ∃ n : Int, v = V.int n) (fun go => ?_) ?_
  rotate_left 3
  · refine iteB (fun c => ?_) (fun c => ?_)
    · have c1 : ((t : Nat) : Int) < (((ns.map V.int).length : Nat) : Int) := of_decide_eq_true c
      have c2 : t < ns.length := by rw [hl] at c1; omega
      have at1 : atI (ns.map V.int) ((t : Nat) : Int) = some (.int ns[t]) := atI_nat (by rw [List.getElem?_map, List.getElem?_eq_getElem c2] <;> rfl)
      exact ⟨_, rfl, _, rfl, a, _, _, _, rfl, rfl, hS, at1, .inl ⟨_, rfl, go _ ⟨_, rfl⟩⟩⟩
    · exact ⟨_, rfl, _, _, rfl, rfl, .inl ⟨by decide, by decide⟩, _, _, rfl, rfl, go _ ⟨_, rfl⟩⟩
  rintro _ ⟨cell, rfl⟩
  refine ⟨_, rfl, _, _, rfl, rfl, .inl ⟨by decide, by decide⟩, _, _, rfl, rfl, ?_⟩
  refine ⟨_, rfl, 9, rfl, a, _, rfl, hS, fun p np => ?_⟩
  refine ⟨p, rfl, ⟨_, SqL.of upd_same⟩, for_list (K := K) (a := p) (xs := cutV (ns.map V.int) none (some 9)) (fun i σ H' => ∃ (m : Int) (e : Option V), σ = [some (.ref a), some (.int (t : Int)), some (.int cell), some (.int m), e] ∧ H' = upd H p (.lst (cutV (ns.map V.int) none (some 9)))) ⟨_, none, rfl, rfl⟩ ?_ ?_ ?_⟩
  · rintro i σ H' _ ⟨m, e, rfl, rfl⟩
    exact SqL.of upd_same
  · rintro i x σ H' hi ⟨m, e, rfl, rfl⟩
    obtain ⟨z, rfl⟩ : ∃ z, x = V.int z := by
      have mem := List.mem_of_getElem? hi
      unfold cutV at mem
      have mem2 := List.mem_of_mem_drop (List.mem_of_mem_take mem)
      obtain ⟨z, _, e⟩ := List.mem_map.mp mem2
      exact ⟨z, e.symm⟩
    refine ⟨_, rfl, _, _, rfl, rfl, .inr ⟨by decide, by decide⟩, _, rfl, .inl ⟨_, rfl, _, _, rfl, rfl, (show (0 : Int) < 2147483543 by decide), _, _, rfl, rfl, _, _, rfl, rfl, .inl ⟨_, rfl, _, _, rfl, rfl, (show (0 : Int) < 2147483629 by decide), ?_⟩⟩⟩
    exact ⟨_, _, rfl, rfl⟩
  rintro σ H' ⟨m, e, rfl, rfl⟩
  refine ⟨_, rfl, _, _, rfl, rfl, .inr ⟨by decide, by decide⟩, _, rfl, .inl ⟨_, rfl, _, _, rfl, rfl, (show (0 : Int) < 2147483543 by decide), _, _, rfl, rfl, .inr ⟨by decide, by decide⟩, _, _, rfl, rfl, _, _, rfl, rfl, .inl ⟨_, rfl, _, _, rfl, rfl, (show (0 : Int) < 2147483629 by decide), ?_⟩⟩⟩
  have fin : ∀ (x y : Int) (r : Addr), upd H p (.lst (cutV (ns.map V.int) none (some 9))) r = none → Q (.ref r) (upd (upd H p (.lst (cutV (ns.map V.int) none (some 9)))) r (.lst [.int x, .int y, .int 0])) := fun x y r nr =>
    q _ r ((same_new np _).trans (same_new nr _)) ((same_new np _).free nr) ⟨x, y, 0, upd_same⟩
  refine ⟨_, rfl, _, _, rfl, rfl, _, rfl, iteB (fun _ => iteT ?_) (fun _ => ⟨_, rfl, _, _, rfl, rfl, (by show (0 : Int) ≤ 15 ∧ (15 : Int) ≤ 1000000 ∧ (10 : Int).natAbs < 2 ^ 64; decide), _, _, rfl, rfl, _, rfl, iteB (fun _ => ?_) (fun _ => ?_)⟩)⟩
  · exact ⟨_, rfl, _, rfl, _, rfl, (by show 3 ≤ sizeLine; decide), fun r nr => fin _ _ r nr⟩
  · exact ⟨_, rfl, _, rfl, _, rfl, (by show 3 ≤ sizeLine; decide), fun r nr => fin _ _ r nr⟩
  · exact ⟨_, rfl, (by show 3 ≤ sizeLine; decide), fun r nr => fin _ _ r nr⟩
theorem ok_draw (F : L2.Fun K "_law_draw" "_law_draw" sDraw f fd) (md : mg "divmod" = none) (mi : mg "int" = none) : FnOk P w K mg base CX0 1 f fd ["well", "many"] spDraw := by
  refine F.ok scDraw (fun vs H Q E h => ?_) (fun cdv A outer s H vs Q E hr h => ?_)
  · obtain ⟨p, m, rfl, _⟩ := h
    rfl
  obtain ⟨p, m, rfl, ⟨a, b, c, hp⟩, m0, m1, q⟩ := h
  refine ⟨_, pss_cons (ps_if (pt_cmpR op_gt (pe_ix ix_list (pv 0) pe_int (fun _ _ => rfl)) pe_int (nomark _))
      (pss_cons (ps_asg (pe_callB call_divmod (by rfl) md (by decide +kernel) (pa_cons (pe_ix ix_list (pv 0) pe_int (fun _ _ => rfl)) (pa_cons (pv 1) pa_nil))) (pg_tup (by rfl) (pgs_cons (pg_sub (pv 0) pe_int set_list) (pgs_cons (pg_name (i := 2) scDraw.nd rfl (.inl rfl)) pgs_nil))))
        (pss_one (ps_ret (pv 2)))) pss_nil)
    (pss_cons (ps_asg (pe_op op_add (pe_ix ix_list (pv 0) pe_int (fun _ _ => rfl)) pe_int) (pg_sub (pv 0) pe_int set_list))
    (pss_cons (ps_set (i := 3) scDraw.nd rfl (.inl rfl) (pe_op op_mod (pe_callTy call_int1 (by rfl) mi (by decide +kernel) (pa_cons (pe_op op_add (pe_op op_add (pe_op op_mul (pe_ix ix_list (pv 0) pe_int (fun _ _ => rfl)) pe_int)
        (pe_op op_mul pe_int (pe_ix ix_list (pv 0) pe_int (fun _ _ => rfl)))) pe_int) pa_nil)) pe_int))
    (pss_cons (ps_asg (pe_op op_mod (pe_callTy call_int1 (by rfl) mi (by decide +kernel) (pa_cons (pe_op op_add (pe_op op_mul (pv 3) (pe_op op_add (pe_op op_mod (pe_callTy call_int1 (by rfl) mi (by decide +kernel) (pa_cons (pv 3) pa_nil)) pe_int) pe_int))
        (pe_ix ix_list (pv 0) pe_int (fun _ _ => rfl))) pa_nil)) pe_int) (pg_sub (pv 0) pe_int set_list))
    (pss_one (ps_ret (pe_op op_mod (pe_callTy call_int1 (by rfl) mi (by decide +kernel) (pa_cons (pe_op op_fdiv (pe_ix ix_list (pv 0) pe_int (fun _ _ => rfl)) pe_int) pa_nil)) (pv 1))))))), ?_⟩
  refine ⟨_, rfl, p, _, _, _, rfl, rfl, SqL.of hp, rfl, _, _, rfl, rfl, _, rfl, iteB (fun c1 => ?_) (fun _ => ?_)⟩
  · have a0 : a > 0 := of_decide_eq_true c1
    refine ⟨_, rfl, p, _, _, _, rfl, rfl, SqL.of hp, rfl, _, rfl, a, m, rfl, ⟨m0, by omega⟩, fun t nt => ?_⟩
    refine ⟨t, _, rfl, SqT.of upd_same, rfl, _, _, rfl, _, rfl, p, [.int a, .int b, .int c], _, 0, rfl, rfl, ?_, rfl, ?_⟩
    · rw [upd_ne (ne_of_none hp nt)]
      exact hp
    refine ⟨_, _, rfl, ⟨rfl, _, rfl, ?_⟩⟩
    exact q (a % m) _ (Int.emod_nonneg _ (by omega)) (Int.emod_lt_of_pos _ m0) ((But.new nt).trans But.put) ⟨_, _, _, upd_same⟩
  · refine ⟨_, rfl, p, _, _, _, rfl, rfl, SqL.of hp, rfl, _, _, rfl, rfl, _, rfl, p, [.int a, .int b, .int c], _, 2, rfl, rfl, hp, rfl, ?_⟩
    have h1 : upd H p (.lst [.int a, .int b, .int (c + 1)]) p = some (.lst [.int a, .int b, .int (c + 1)]) := upd_same
    refine ⟨_, rfl, p, _, _, _, rfl, rfl, SqL.of h1, rfl, _, _, rfl, rfl, .inr ⟨by decide, by decide⟩, _, rfl, p, _, _, _, rfl, rfl, SqL.of h1, rfl, _, _, rfl, rfl, .inl ⟨by decide, by decide⟩, _, _, rfl, rfl, _, _, rfl, rfl,
      .inl ⟨_, rfl, _, _, rfl, rfl, (show (0 : Int) < 2147483399 by decide), ?_⟩⟩
    generalize (b * 40692 + 3301 * (c + 1) + 83) % 2147483399 = z
    have y1 := Int.emod_nonneg z (show (4001 : Int) ≠ 0 by decide)
    have y2 := Int.emod_lt_of_pos z (show (0 : Int) < 4001 by decide)
    refine ⟨_, rfl, _, rfl, .inl ⟨_, rfl, _, _, rfl, rfl, (show (0 : Int) < 4001 by decide), _, _, rfl, rfl, _, _, rfl, rfl, .inr ⟨by omega, by omega⟩, _, rfl, p, _, _, _, rfl, rfl, SqL.of h1, rfl, _, _, rfl, rfl,
      .inl ⟨_, rfl, _, _, rfl, rfl, (show (0 : Int) < 2147483399 by decide), _, rfl, p, [.int a, .int b, .int (c + 1)], _, 1, rfl, rfl, h1, rfl, ?_⟩⟩⟩
    refine ⟨_, rfl, p, _, _, _, rfl, rfl, SqL.of upd_same, rfl, _, _, rfl, rfl, ⟨by decide, by decide⟩, .inl ⟨_, rfl, _, rfl, _, _, rfl, rfl, m0, ?_⟩⟩
    exact q _ _ (Int.emod_nonneg _ (by omega)) (Int.emod_lt_of_pos _ m0) (But.put.trans But.put) ⟨_, _, _, upd_same⟩
theorem ok_pick (F : L2.Fun K "_law_pick" "_law_pick" sPick f fd) (GD : FnOk P w K mg base CX0 1 fD dD ["well", "many"] spDraw) (bD : L2.Binds K dD ["well", "many"] []) (kD : PySem.W.keepIn K (.ref fD) = true) (mD : mg "_law_draw" = some (.ref fD)) (ml : mg "len" = none) :
    FnOk P w K mg base CX0 2 f fd ["well", "some"] (spPick K) := by
  refine F.ok scPick (fun vs H Q E h => ?_) (fun cdv A outer s H vs Q E hr h => ?_)
  · obtain ⟨p, t, xs, rfl, _⟩ := h
    rfl
  obtain ⟨p, t, xs, rfl, hW, hT, l0, l1, q⟩ := h
  refine ⟨_, pss_one (ps_ret (pe_ix ix_tup (pv 1) (pe_call GD hr (by rfl) mD kD bD .nil pass0 (pa_cons (pv 0) (pa_cons (pe_callB call_len_seq (by rfl) ml PySem.boot_len (pa_cons (pv 1) pa_nil)) pa_nil))) (fun _ _ => rfl))), ?_⟩
  have hT0 : SqT K H t xs := Same.tup (hide_sub p H) hT
  refine ⟨_, rfl, _, rfl, _, rfl, t, xs, rfl, .inr hT0, p, _, rfl, hW, by omega, by omega, fun r H' r0 r1 bt hW' => ?_⟩
  obtain ⟨i, rfl⟩ : ∃ i : Nat, r = (i : Int) := ⟨r.toNat, by omega⟩
  have hi : i < xs.length := by omega
  exact ⟨t, xs, _, xs[i], rfl, rfl, Same.tup (hide_sub p H') (Same.tup bt.hide hT), atI_nat (List.getElem?_eq_getElem hi), q i _ H' (List.getElem?_eq_getElem hi) bt hW'⟩
theorem ok_same (F : L2.Fun K "_law_same" "_law_same" sSame f fd) (mr : mg "repr" = none) : FnG P w K mg base CX0 1 f fd ["told", "due"] (spSame K) := by
  refine okG F scSame (fun vs H Q E h => ?_) (fun cdv A outer s H vs Q E gd hr h => ?_)
  · obtain ⟨x, y, d, e, rfl, _⟩ := h
    rfl
  obtain ⟨x, y, d, e, rfl, h1, h2, ⟨f1, f2, f3⟩, ⟨g1, g2, g3⟩, q⟩ := h
  have gd' : (A.deeper (envOfC "_law_same" (defScope sSame) s.heap.objs.size f cdv)).guards = some [] := gd
  refine ⟨_, pss_one (ps_ret (pe_cmpR op_eq (pe_callB (call_repr gd' hr.units) (by rfl) mr (by decide +kernel) (pa_cons (pv 0) pa_nil)) (pe_callB (call_repr gd' hr.units) (by rfl) mr (by decide +kernel) (pa_cons (pv 1) pa_nil)) (nomark _))), ?_⟩
  exact ⟨_, rfl, _, d, rfl, h1, f1, f2, f3, _, rfl, _, e, rfl, h2, g1, g2, g3, rfl, q⟩
end
end My

set_option maxHeartbeats 2000000
/-! Graphs as pairs of numbers: what a GRAPH is, in plain Lean. -/
namespace My
open PySem PySem.Spec PyProof.Rows L2
abbrev E2 := Nat × Nat
theorem same_put {H H1 : Hp} {D : Addr} {o : HO} (s : Same H H1) (n : H D = none) : Same H (upd H1 D o) := fun b u e => by
  rw [upd_ne (ne_of_none e n)]
  exact s b u e
/-- a stands ahead of b, as tuples -/
def ahead (a b : E2) : Prop := a.1 < b.1 ∨ (a.1 = b.1 ∧ a.2 < b.2)
instance (a b : E2) : Decidable (ahead a b) := inferInstanceAs (Decidable (_ ∨ _))
structure Good (n : Nat) (es : List E2) : Prop where
  n9 : n ≤ 9
  lt : ∀ p ∈ es, p.1 < p.2 ∧ p.2 < n
  up : es.Pairwise ahead
/-- the pairs with u ahead, below n; all pairs below n, ascending -/
def rowP (n u : Nat) : List E2 := (List.range (n - (u + 1))).map fun j => (u, u + 1 + j)
def allP (n : Nat) : List E2 := (List.range n).flatMap (rowP n)
theorem mem_rowP {n u : Nat} {p : E2} : p ∈ rowP n u ↔ p.1 = u ∧ u < p.2 ∧ p.2 < n := by
  unfold rowP
  rw [List.mem_map]
  constructor
  · rintro ⟨j, hj, rfl⟩
    have := List.mem_range.mp hj
    refine ⟨rfl, ?_, ?_⟩ <;> show _ < _ <;> omega
  · rintro ⟨h1, h2, h3⟩
    refine ⟨p.2 - (u + 1), List.mem_range.mpr (by omega), ?_⟩
    obtain ⟨a, b⟩ := p
    simp only at h1 h2 h3 ⊢
    rw [h1, show u + 1 + (b - (u + 1)) = b by omega]
theorem mem_allP {n : Nat} {p : E2} : p ∈ allP n ↔ p.1 < p.2 ∧ p.2 < n := by
  unfold allP
  rw [List.mem_flatMap]
  constructor
  · rintro ⟨u, hu, h⟩
    obtain ⟨h1, h2, h3⟩ := mem_rowP.mp h
    omega
  · rintro ⟨h1, h2⟩
    exact ⟨p.1, List.mem_range.mpr (by omega), mem_rowP.mpr ⟨rfl, h1, h2⟩⟩
theorem allP_up : ∀ n, n ≤ 9 → (allP n).Pairwise ahead := by decide +kernel
theorem allP_few : ∀ n, n ≤ 9 → (allP n).length ≤ 36 := by decide +kernel
theorem ahead_ne {a b : E2} (h : ahead a b) : a ≠ b := by
  rintro rfl
  rcases h with h | h <;> omega
theorem sub_few {α : Type} [DecidableEq α] : ∀ {l m : List α}, l.Nodup → (∀ x ∈ l, x ∈ m) → l.length ≤ m.length
  | [], _, _, _ => Nat.zero_le _
  | a :: l, m, nd, sub => by
    obtain ⟨na, nl⟩ := List.nodup_cons.mp nd
    have ma : a ∈ m := sub a (List.mem_cons_self ..)
    have ih := sub_few (l := l) (m := m.erase a) nl fun x hx => by
      have hne : x ≠ a := fun e => na (e ▸ hx)
      exact (List.mem_erase_of_ne hne).mpr (sub x (List.mem_cons_of_mem _ hx))
    have le := List.length_erase_of_mem ma
    have pos : 0 < m.length := List.length_pos_of_mem ma
    rw [List.length_cons]
    omega
theorem Good.nodup {n : Nat} {es : List E2} (g : Good n es) : es.Nodup := g.up.imp fun h => ahead_ne h
theorem Good.few {n : Nat} {es : List E2} (g : Good n es) : es.length ≤ 36 := Nat.le_trans (sub_few g.nodup fun p hp => mem_allP.mpr (g.lt p hp)) (allP_few n g.n9)
theorem Good.filter {n : Nat} (h : n ≤ 9) (f : E2 → Bool) : Good n ((allP n).filter f) := ⟨h, fun p hp => mem_allP.mp (List.mem_filter.mp hp).1, (allP_up n h).filter _⟩
theorem Good.nil {n : Nat} (h : n ≤ 9) : Good n [] := ⟨h, fun _ z => (nomatch z), .nil⟩
theorem Good.more {n m : Nat} {es : List E2} (g : Good n es) (h : n ≤ m) (h9 : m ≤ 9) : Good m es := ⟨h9, fun p hp => ⟨(g.lt p hp).1, by have := (g.lt p hp).2; omega⟩, g.up⟩

/-! ### on the heap -/
/-- the pair p as a tuple -/
def PairAt (K : PySem.W.Frag) (H : Hp) (x : V) (p : E2) : Prop := ∃ t, x = .ref t ∧ SqT K H t [.int (p.1 : Int), .int (p.2 : Int)]
abbrev PairsAt (K : PySem.W.Frag) (H : Hp) : List V → List E2 → Prop := Paired (PairAt K H)
theorem PairAt.same {K : PySem.W.Frag} {H H' : Hp} (e : Same H H') {x : V} {p : E2} (h : PairAt K H x p) : PairAt K H' x p := by
  obtain ⟨t, rfl, h⟩ := h
  exact ⟨t, rfl, Same.tup e h⟩
theorem PairsAt.same {K : PySem.W.Frag} {H H' : Hp} (e : Same H H') : ∀ {xs : List V} {ps : List E2}, PairsAt K H xs ps → PairsAt K H' xs ps
  | _, _, .nil => .nil
  | _, _, .cons a b => .cons (a.same e) (PairsAt.same e b)
theorem PairsAt.append {K : PySem.W.Frag} {H : Hp} : ∀ {xs ys : List V} {ps qs : List E2}, PairsAt K H xs ps → PairsAt K H ys qs → PairsAt K H (xs ++ ys) (ps ++ qs)
  | _, _, _, _, .nil, h => h
  | _, _, _, _, .cons a b, h => .cons a (PairsAt.append b h)
/-- a graph -/
def GraphAt (K : PySem.W.Frag) (H : Hp) (x : V) (n : Nat) (es : List E2) : Prop := ∃ (t e : Addr) (xs : List V), x = .ref t ∧ SqT K H t [.int (n : Int), .ref e] ∧ SqT K H e xs ∧ PairsAt K H xs es
theorem GraphAt.same {K : PySem.W.Frag} {H H' : Hp} (s : Same H H') {x : V} {n : Nat} {es : List E2} (h : GraphAt K H x n es) : GraphAt K H' x n es := by
  obtain ⟨t, e, xs, rfl, h1, h2, h3⟩ := h
  exact ⟨t, e, xs, rfl, Same.tup s h1, Same.tup s h2, h3.same s⟩
def pairD (p : E2) : PyData := .tuple [.int (p.1 : Int), .int (p.2 : Int)]
def graphD (n : Nat) (es : List E2) : PyData := .tuple [.int (n : Int), .tuple (es.map pairD)]
theorem PairAt.dp {K : PySem.W.Frag} {H : Hp} {x : V} {p : E2} (h : PairAt K H x p) : Dp K H x (pairD p) := by
  obtain ⟨t, rfl, h⟩ := h
  exact .tup h (.cons (.int _) (.cons (.int _) .nil))
theorem PairsAt.dp {K : PySem.W.Frag} {H : Hp} : ∀ {xs : List V} {ps : List E2}, PairsAt K H xs ps → DpAll K H xs (ps.map pairD)
  | _, _, .nil => .nil
  | _, _, .cons a b => .cons a.dp (PairsAt.dp b)
theorem GraphAt.dp {K : PySem.W.Frag} {H : Hp} {x : V} {n : Nat} {es : List E2} (h : GraphAt K H x n es) : Dp K H x (graphD n es) := by
  obtain ⟨t, e, xs, rfl, h1, h2, h3⟩ := h
  exact .tup h1 (.cons (.int _) (.cons (.tup h2 h3.dp) .nil))
theorem PairsAt.get {K : PySem.W.Frag} {H : Hp} {xs : List V} {ps : List E2} {i : Nat} {x : V} (h : PairsAt K H xs ps) (e : xs[i]? = some x) : ∃ p, ps[i]? = some p ∧ PairAt K H x p := by
  have go : ∀ {xs : List V} {ps : List E2} {i : Nat} {x : V}, PairsAt K H xs ps → xs[i]? = some x → ∃ p, ps[i]? = some p ∧ PairAt K H x p := by
    intro xs
    induction xs with
    | nil => intro ps i x _ e; simp at e
    | cons a l ih =>
      intro ps i x h e
      cases h with
      | cons r t =>
        cases i with
        | zero => simp at e; subst e; exact ⟨_, rfl, r⟩
        | succ i => obtain ⟨p, h1, h2⟩ := ih t (by simpa using e); exact ⟨p, by simpa using h1, h2⟩
  exact go h e
end My

set_option maxHeartbeats 2000000
/-! Rules that pairs want: the lesser and the greater number of one; a list of pairs made a set, sorted, made a tuple. -/
namespace My
open PySem PySem.Spec PyProof.Rows L2
section
variable {X : Cx}
def rOfPair (f : Int → Int → Int) (K : PySem.W.Frag) : List V → Hp → VK → Prop := fun xs H Q => ∃ (t : Addr) (u v : Int), xs = [.ref t] ∧ SqT K H t [.int u, .int v] ∧ Q (.int (f u v)) H
theorem pair_reads {pins : List (Addr × Obj)} {σ : L2.St} {H : Hp} {s : Shared} {t : Addr} {u v : Int} (I : Inv X pins σ H s) (h : SqT X.K H t [.int u, .int v]) : ∃ vs : Array Value, s.heap.IsTuple t vs ∧ ∃ as, ReadsAll s.heap vs.toList [.int u, .int v] as := by
  obtain ⟨its, r, p, _⟩ := I.tuple h
  obtain ⟨as, q⟩ := Dp.readsAll I [.int u, .int v] [.int u, .int v] its (.cons (.int _) (.cons (.int _) .nil)) r
  obtain ⟨o, ho, hc, n, hd⟩ := p
  exact ⟨its.toArray, ⟨o, ho, hc, n, hd⟩, as, by simpa using q⟩
theorem call_minPair (hc : X.calm = true) (hu : X.A.units + 64 < cLine) : CallR X (.builtin "min") (rOfPair min X.K) := by
  rintro pins s σ H xs us Q I r ⟨t, u, v, rfl, h, q⟩
  rw [Vals.ref1 r]
  obtain ⟨vs, ht, as, rs⟩ := pair_reads I h
  refine PySem.W.min_tuple_data (I.ok.hd hc) ht rs (PySem.W.alikeAll_datum [u, v]) (by simp only [PyData.depthAll, PyData.depth]; omega) ?_
  intro i x h' tk bs hi rd hk
  have e := PySem.W.minD_ints u [v]
  have e' : PySem.W.minD (.int u) [.int v] = .int (min u v) := e
  rw [e'] at rd
  cases rd
  exact ⟨.int _, H, I.kept hk, ⟨_, rfl⟩, q⟩
theorem call_maxPair (hc : X.calm = true) (hu : X.A.units + 64 < cLine) : CallR X (.builtin "max") (rOfPair max X.K) := by
  rintro pins s σ H xs us Q I r ⟨t, u, v, rfl, h, q⟩
  rw [Vals.ref1 r]
  obtain ⟨vs, ht, as, rs⟩ := pair_reads I h
  refine PySem.W.max_tuple_data (I.ok.hd hc) ht rs (PySem.W.alikeAll_datum [u, v]) (by simp only [PyData.depthAll, PyData.depth]; omega) ?_
  intro i x h' tk bs hi rd hk
  have e := PySem.W.maxD_ints u [v]
  have e' : PySem.W.maxD (.int u) [.int v] = .int (max u v) := e
  rw [e'] at rd
  cases rd
  exact ⟨.int _, H, I.kept hk, ⟨_, rfl⟩, q⟩
end
/-! ### a pair among the pairs of a tuple -/
theorem pairD_lay (p : E2) : (pairD p).canLay0 = true := by simp [pairD, PyData.canLay0, PyData.canLayAll0]
theorem pairD_depth (p : E2) : (pairD p).depth = 1 := by simp [pairD, PyData.depth, PyData.depthAll]
theorem pairsD_lay : ∀ ps : List E2, PyData.canLayAll0 (ps.map pairD) = true
  | [] => by rw [List.map_nil]; simp [PyData.canLayAll0]
  | p :: ps => by simp [PyData.canLayAll0, pairD_lay p, pairsD_lay ps]
theorem pairsD_depth : ∀ ps : List E2, PyData.depthAll (ps.map pairD) ≤ 1
  | [] => by rw [List.map_nil]; simp [PyData.depthAll]
  | p :: ps => by
    have a := pairsD_depth ps
    have b := pairD_depth p
    rw [List.map_cons]
    simp only [PyData.depthAll]
    omega
theorem pairD_eqv (p q : E2) : PyData.eqv (pairD p) (pairD q) = decide (p = q) := by
  obtain ⟨a, b⟩ := p
  obtain ⟨c, d⟩ := q
  simp only [pairD, PyData.eqv, PyData.eqvAll, Bool.and_true]
  by_cases h1 : a = c
  · subst h1
    by_cases h2 : b = d
    · subst h2
      simp
    · have z : ((b : Int) == (d : Int)) = false := beq_eq_false_iff_ne.mpr fun e => h2 (by omega)
      simp [z, h2]
  · have z : ((a : Int) == (c : Int)) = false := beq_eq_false_iff_ne.mpr fun e => h1 (by omega)
    simp [z, h1]
theorem any_pairs (p : E2) : ∀ es : List E2, ((es.map pairD).any fun z => PyData.eqv z (pairD p)) = decide (p ∈ es)
  | [] => rfl
  | q :: es => by
    rw [List.map_cons, List.any_cons, any_pairs p es, pairD_eqv]
    by_cases h : q = p
    · subst h
      simp
    · have h' : p ≠ q := fun e => h e.symm
      simp [h, h']
section
variable {X : Cx}
def rInP (k : Bool → Bool) (K : PySem.W.Frag) : R2 := fun x y H Q => ∃ (p : E2) (t : Addr) (xs : List V) (es : List E2), PairAt K H x p ∧ y = .ref t ∧ SqT K H t xs ∧ PairsAt K H xs es ∧ Q (.bl (k (decide (p ∈ es)))) H
theorem op_inP (hu : X.A.units + 64 < cLine) : OpR X (compareOp .In) (rInP id X.K) := by
  rintro pins s σ H x y v u Q I rx ry ⟨p, t, xs, es, hp, rfl, ht, hes, q⟩
  obtain ⟨as, r1⟩ := Dp.reads I _ x v hp.dp rx
  obtain ⟨bs, r2⟩ := Dp.reads I (.tuple (es.map pairD)) (.ref t) u (.tup ht hes.dp) ry
  refine SeqAt.in_tuple_reads r2 r1 (pairsD_lay es) (pairD_lay p) ?_ ?_
  · have := pairD_depth p
    have := Nat.min_le_right (PyData.depthAll (es.map pairD)) (pairD p).depth
    omega
  · rw [any_pairs]
    exact ⟨.bl _, H, I, rfl, q⟩
theorem op_notInP (hu : X.A.units + 64 < cLine) : OpR X (compareOp .NotIn) (rInP not X.K) := by
  rintro pins s σ H x y v u Q I rx ry ⟨p, t, xs, es, hp, rfl, ht, hes, q⟩
  obtain ⟨as, r1⟩ := Dp.reads I _ x v hp.dp rx
  obtain ⟨bs, r2⟩ := Dp.reads I (.tuple (es.map pairD)) (.ref t) u (.tup ht hes.dp) ry
  refine SeqAt.notIn_tuple_reads r2 r1 (pairsD_lay es) (pairD_lay p) ?_ ?_
  · have := pairD_depth p
    have := Nat.min_le_right (PyData.depthAll (es.map pairD)) (pairD p).depth
    omega
  · rw [any_pairs]
    exact ⟨.bl _, H, I, rfl, q⟩
end
end My

set_option maxHeartbeats 4000000
/-! The law's graphs, drawn: each is a GRAPH. -/
namespace My
open PySem PySem.Spec PyProof.Rows L2
abbrev sOfPairs : Stmt := top (22 + 4)
theorem scOfPairs : FnScope ["n", "pairs", "each"] ["n", "pairs"] (defScope sOfPairs) := ⟨rfl, rfl, rfl, by decide +kernel, rfl, by decide +kernel, by decide +kernel⟩
theorem take_succ {α : Type} {l : List α} {i : Nat} {x : α} (h : l[i]? = some x) : l.take (i + 1) = l.take i ++ [x] := by
  rw [List.take_succ, h]
  rfl
theorem PairsAt.len {K : PySem.W.Frag} {H : Hp} : ∀ {xs : List V} {ps : List E2}, PairsAt K H xs ps → xs.length = ps.length
  | _, _, .nil => rfl
  | _, _, .cons _ b => congrArg (· + 1) (PairsAt.len b)
def norm (p : E2) : E2 := (min p.1 p.2, max p.1 p.2)
/-- from the pairs as tuples to what the sets' rules ask -/
theorem pairs_ks {K : PySem.W.Frag} {H : Hp} : ∀ {ys : List V} {qs : List E2}, PairsAt K H ys qs → ∃ ks : List (Addr × List Int), ys = ks.map (fun p => V.ref p.1) ∧ ks.map (·.2) = qs.map (fun q => [(q.1 : Int), (q.2 : Int)]) ∧ ∀ p ∈ ks, SqT K H p.1 (p.2.map V.int)
  | _, _, .nil => ⟨[], rfl, rfl, fun _ z => nomatch z⟩
  | _, _, .cons a b => by
    obtain ⟨t, rfl, h⟩ := a
    obtain ⟨ks, h1, h2, h3⟩ := pairs_ks b
    refine ⟨(t, _) :: ks, by rw [h1]; rfl, by rw [List.map_cons, h2]; rfl, ?_⟩
    intro p hp
    rcases List.mem_cons.mp hp with rfl | hp
    · exact h
    · exact h3 p hp
def toE (ns : List Int) : E2 := ((ns.getD 0 0).toNat, (ns.getD 1 0).toNat)
theorem toE_of (q : E2) : toE [(q.1 : Int), (q.2 : Int)] = q := by
  unfold toE
  simp
theorem ks_pairs {K : PySem.W.Frag} {H : Hp} : ∀ {L : List (Addr × List Int)}, (∀ p ∈ L, SqT K H p.1 (p.2.map V.int)) → (∀ p ∈ L, p.2 = [((toE p.2).1 : Int), ((toE p.2).2 : Int)]) → PairsAt K H (L.map fun q => V.ref q.1) (L.map fun p => toE p.2)
  | [], _, _ => .nil
  | p :: L, h, b => by
    refine .cons ⟨p.1, rfl, ?_⟩ (ks_pairs (fun r hr => h r (List.mem_cons_of_mem _ hr)) fun r hr => b r (List.mem_cons_of_mem _ hr))
    have z := h p (List.mem_cons_self ..)
    rw [b p (List.mem_cons_self ..)] at z
    exact z
def spOfPairs (K : PySem.W.Frag) : Sp := fun vs H Q _ => ∃ (n : Nat) (l : Addr) (xs : List V) (ps : List E2), vs = [.int (n : Int), .ref l] ∧ n ≤ 9 ∧ SqL K H l xs ∧ PairsAt K H xs ps ∧ xs.length < 64 ∧ (∀ p ∈ ps, p.1 ≠ p.2 ∧ p.1 < n ∧ p.2 < n) ∧
  ∀ (x : V) (es : List E2) (H' : Hp), Same H H' → GraphAt K H' x n es → Good n es → (∀ q, q ∈ es ↔ q ∈ ps.map norm) → Q x H'
section
variable {P : Program} {w : World} {K : PySem.W.Frag} {mg : Str → Option Value} {base : Heap} {f : Addr} {fd : FuncData}
theorem ok_of_pairs (F : L2.Fun K "_law_of_pairs" "_law_of_pairs" sOfPairs f fd) (mt : mg "tuple" = none) (msd : mg "sorted" = none) (mst : mg "set" = none) (mn : mg "min" = none) (mx : mg "max" = none) : FnOk P w K mg base CX0 1 f fd ["n", "pairs"] (spOfPairs K) := by
  refine F.ok scOfPairs (fun vs H Q E h => ?_) (fun cdv A outer s H vs Q E hr h => ?_)
  · obtain ⟨n, l, xs, ps, rfl, _⟩ := h
    rfl
  obtain ⟨n, l, xs, ps, rfl, n9, hS, hP, l64, hps, q⟩ := h
  refine ⟨_, pss_one (ps_ret (pe_tup (pa_cons (pv 0) (pa_cons (pe_callTy call_tuple_of (by rfl) mt (by decide +kernel) (pa_cons (pe_callB (cr_sortedT rfl) (by rfl) msd (by decide +kernel) (pa_cons (pe_callTy (cr_setOfT rfl hr.units) (by rfl) mst (by decide +kernel) (pa_cons
      (pe_lc (own := [("each", 2)]) (g := gName 2) (tt := tYes) rfl scOfPairs.nd (pi_list (pv 1)) (blkOk_by (N := ["n", "pairs", "each"]) (sc := defScope sOfPairs) (by decide +kernel)) (fun _ _ _ _ _ => pg_name (i := 2) scOfPairs.nd rfl (Or.inl rfl)) (fun _ _ _ _ _ => pts_nil)
        (fun _ _ _ _ _ => pe_tup (pa_cons (pe_callB (id := "min") (r := rOfPair min K) (call_minPair rfl hr.units) (by rfl) mn (by decide +kernel) (pa_cons (pv 2) pa_nil)) (pa_cons (pe_callB (id := "max") (r := rOfPair max K) (call_maxPair rfl hr.units) (by rfl) mx (by decide +kernel) (pa_cons (pv 2) pa_nil)) pa_nil)))) pa_nil)) pa_nil)) pa_nil)) pa_nil)))), ?_⟩
  refine ⟨_, rfl, _, rfl, l, rfl, ⟨_, hS⟩, fun D nD => lc_list (K := K) (a := l) (xs := xs) (fun i H' => Same H H' ∧ ∃ ys, H' D = some (.lst ys) ∧ ys.length = i ∧ PairsAt K (hide D H') ys ((ps.take i).map norm)) ⟨same_new nD _, [], upd_same, rfl, .nil⟩ ?_ ?_ ?_⟩
  · rintro i H1 _ ⟨s1, _⟩
    exact L2.Same.seq s1 hS
  · rintro i x H1 hi ⟨s1, ys, hD, ly, py⟩
    obtain ⟨p, hp, t, rfl, ht⟩ := PairsAt.get (hP.same s1) hi
    refine ⟨rfl, ?_⟩
    refine ⟨_, rfl, t, _, _, rfl, ht, _, rfl, t, _, _, rfl, ht, (by show 2 ≤ sizeLine; decide), fun r nr => ?_⟩
    have e1 : min ((p.1 : Nat) : Int) ((p.2 : Nat) : Int) = (((norm p).1 : Nat) : Int) := by show _ = ((min p.1 p.2 : Nat) : Int); omega
    have e2 : max ((p.1 : Nat) : Int) ((p.2 : Nat) : Int) = (((norm p).2 : Nat) : Int) := by show _ = ((max p.1 p.2 : Nat) : Int); omega
    rw [e1, e2]
    have s2 := same_new nr (.tup [.int ((norm p).1 : Int), .int ((norm p).2 : Int)])
    have rD : r ≠ D := fun z => by rw [← z, nr] at hD; cases hD
    have bt : But D H1 (upd (upd H1 r (.tup [.int ((norm p).1 : Int), .int ((norm p).2 : Int)])) D (.lst (ys ++ [.ref r]))) := (But.new nr).trans .put
    refine ⟨ys, s2 _ _ hD, small1000 (by have := (List.getElem?_eq_some_iff.mp hi).1; omega), same_put (s1.trans s2) nD, _, upd_same, by rw [List.length_append, ly]; rfl, ?_⟩
    rw [take_succ hp, List.map_append]
    refine (py.same bt.hide).append (.cons ⟨r, rfl, SqT.of ?_⟩ .nil)
    rw [hide_ne rD, upd_ne rD]
    exact upd_same
  · rintro H1 ⟨s1, ys, hD, ly, py⟩
    have lps : xs.length = ps.length := PairsAt.len hP
    rw [lps, List.take_length] at py
    obtain ⟨ks, e1, e2, e3⟩ := pairs_ks (py.same (hide_sub D H1))
    have lk : ks.length < 64 := by
      have z := congrArg List.length e1
      rw [List.length_map] at z
      omega
    refine ⟨D, ks, rfl, by rw [← e1]; exact SqL.of hD, e3, lk, fun a L na sub sup => ?_⟩
    have form : ∀ p ∈ ks, ∃ r ∈ ps.map norm, p.2 = [(r.1 : Int), (r.2 : Int)] := fun p hp => by
      have z : p.2 ∈ ks.map (·.2) := List.mem_map.mpr ⟨p, hp, rfl⟩
      rw [e2] at z
      obtain ⟨r, h1, h2⟩ := List.mem_map.mp z
      exact ⟨r, h1, h2.symm⟩
    have small : ∀ r ∈ ps.map norm, r.1 < r.2 ∧ r.2 < n := fun r hr => by
      obtain ⟨p, hp, rfl⟩ := List.mem_map.mp hr
      obtain ⟨h1, h2, h3⟩ := hps p hp
      show min p.1 p.2 < max p.1 p.2 ∧ max p.1 p.2 < n
      omega
    refine ⟨a, L, 2, 9, rfl, upd_same, fun p hp => Same.tup (same_new na _) (e3 p (sub p hp)), by decide, fun p hp => ?_, fun L' p perm nd few up np => ?_⟩
    · obtain ⟨r, hr, e⟩ := form p (sub p hp)
      have z := small r hr
      rw [e]
      refine ⟨rfl, fun m hm => ?_⟩
      rcases List.mem_cons.mp hm with rfl | hm
      · omega
      · have := List.mem_singleton.mp hm
        omega
    refine ⟨p, _, rfl, .inl ⟨SqL.of upd_same, fun e ne => ?_⟩⟩
    refine ⟨(by show 2 ≤ sizeLine; decide), fun t nt => ?_⟩
    have m' : ∀ p ∈ L', p ∈ ks := fun p hp => sub p (perm.mem_iff.mp hp)
    have s3 := s1.trans ((same_new na (SetTO P w a L)).trans ((same_new np (.lst (L'.map fun q => V.ref q.1))).trans ((same_new ne (.tup (L'.map fun q => V.ref q.1))).trans (same_new nt (.tup [.int (n : Int), .ref e])))))
    have s4 : Same H1 _ := (same_new na (SetTO P w a L)).trans ((same_new np (.lst (L'.map fun q => V.ref q.1))).trans ((same_new ne (.tup (L'.map fun q => V.ref q.1))).trans (same_new nt (.tup [.int (n : Int), .ref e]))))
    have back : ∀ p ∈ L', p.2 = [((toE p.2).1 : Int), ((toE p.2).2 : Int)] ∧ toE p.2 ∈ ps.map norm := fun p hp => by
      obtain ⟨r, hr, e⟩ := form p (m' p hp)
      rw [e, toE_of]
      exact ⟨rfl, hr⟩
    refine q (.ref t) (L'.map fun p => toE p.2) _ s3 ⟨t, e, _, rfl, SqT.of upd_same, SqT.of ((same_new nt _) _ _ upd_same), ?_⟩ ⟨n9, ?_, ?_⟩ ?_
    · exact ks_pairs (fun p hp => Same.tup s4 (e3 p (m' p hp))) fun p hp => (back p hp).1
    · intro r hr
      obtain ⟨p, hp, rfl⟩ := List.mem_map.mp hr
      exact small _ (back p hp).2
    · rw [List.pairwise_map]
      have nd2 := List.pairwise_map.mp nd
      have both := up.and nd2
      refine both.imp_of_mem ?_
      intro p r hp hr ⟨le, neq⟩
      have b1 := (back p hp).1
      have b2 := (back r hr).1
      have z1 := small _ (back p hp).2
      have z2 := small _ (back r hr).2
      rw [b1, b2] at le neq
      have c1 : TS.code 9 [((toE p.2).1 : Int), ((toE p.2).2 : Int)] = ((toE p.2).1 : Int) * 9 + ((toE p.2).2 : Int) := by simp [TS.code]
      have c2 : TS.code 9 [((toE r.2).1 : Int), ((toE r.2).2 : Int)] = ((toE r.2).1 : Int) * 9 + ((toE r.2).2 : Int) := by simp [TS.code]
      rw [c1, c2] at le
      have ne2 : ¬ ((toE p.2).1 = (toE r.2).1 ∧ (toE p.2).2 = (toE r.2).2) := fun ⟨x, y⟩ => neq (by rw [x, y])
      show (toE p.2).1 < (toE r.2).1 ∨ ((toE p.2).1 = (toE r.2).1 ∧ (toE p.2).2 < (toE r.2).2)
      omega
    · intro r
      constructor
      · intro hr
        obtain ⟨p, hp, rfl⟩ := List.mem_map.mp hr
        exact (back p hp).2
      · intro hr
        have z : [(r.1 : Int), (r.2 : Int)] ∈ ks.map (·.2) := by
          rw [e2]
          exact List.mem_map.mpr ⟨r, hr, rfl⟩
        obtain ⟨p, hp, ep⟩ := List.mem_map.mp z
        have z2 := sup p hp
        obtain ⟨p2, hp2, ep2⟩ := List.mem_map.mp z2
        refine List.mem_map.mpr ⟨p2, perm.mem_iff.mpr hp2, ?_⟩
        show toE p2.2 = r
        rw [show p2.2 = [(r.1 : Int), (r.2 : Int)] from ep2.trans ep, toE_of]
end
end My

set_option maxHeartbeats 4000000
namespace My
open PySem PySem.Spec PyProof.Rows L2
abbrev sTurned : Stmt := top (22 + 5)
theorem scTurned : FnScope ["graph", "n", "edges", "found", "u", "v"] ["graph"] (defScope sTurned) := ⟨rfl, rfl, rfl, by decide +kernel, rfl, by decide +kernel, by decide +kernel⟩
/-- what is left of all pairs -/
def leftP (n : Nat) (es : List E2) : List E2 := (allP n).filter fun p => decide (p ∉ es)
theorem leftP_eq (n : Nat) (es : List E2) : leftP n es = (List.range n).flatMap fun u => (rowP n u).filter fun p => decide (p ∉ es) := List.filter_flatMap
theorem rows_few : ∀ u, u ≤ 9 → ∀ n, n ≤ 9 → ((List.range u).flatMap (rowP n)).length ≤ 81 := by decide +kernel
def spTurned (K : PySem.W.Frag) : Sp := fun vs H Q _ => ∃ (x : V) (n : Nat) (es : List E2), vs = [x] ∧ GraphAt K H x n es ∧ n ≤ 9 ∧ ∀ (y : V) (H' : Hp), Same H H' → GraphAt K H' y n (leftP n es) → Q y H'
section
variable {P : Program} {w : World} {K : PySem.W.Frag} {mg : Str → Option Value} {base : Heap} {f : Addr} {fd : FuncData}
theorem ok_turned (F : L2.Fun K "_law_turned" "_law_turned" sTurned f fd) (mr : mg "range" = none) (mt : mg "tuple" = none) : FnOk P w K mg base CX0 1 f fd ["graph"] (spTurned K) := by
  refine F.ok scTurned (fun vs H Q E h => ?_) (fun cdv A outer s H vs Q E hr h => ?_)
  · obtain ⟨x, n, es, rfl, _⟩ := h
    rfl
  obtain ⟨x, n, es, rfl, ⟨t, e, xs, rfl, ht, he, hes⟩, n9, q⟩ := h
  refine ⟨_, pss_cons (ps_asg (pv 0) (pg_tup (by rfl) (pgs_cons (pg_name (i := 1) scTurned.nd rfl (.inl rfl)) (pgs_cons (pg_name (i := 2) scTurned.nd rfl (.inr rfl)) pgs_nil))))
    (pss_cons (ps_set (i := 3) scTurned.nd rfl (.inl rfl) (pe_lst pa_nil))
    (pss_cons (ps_for PassesOwn.never rfl (pi_range1 rfl mr (pa_cons (pv 1) pa_nil)) (pg_name (i := 4) scTurned.nd rfl (.inr rfl))
      (pss_one (ps_set (i := 3) scTurned.nd rfl (.inl rfl) (pe_op op_cat (pv 3) (pe_lc (own := [("v", 5)]) (g := gName 5) rfl scTurned.nd (pi_range2 (by rfl) mr (pa_cons (pe_op op_add (pv 4) pe_int) (pa_cons (pv 1) pa_nil)))
        (blkOk_by (N := ["graph", "n", "edges", "found", "u", "v"]) (sc := defScope sTurned) (by decide +kernel)) (fun _ _ _ _ _ => pg_name (i := 5) scTurned.nd rfl (Or.inl rfl))
        (fun _ _ _ _ _ => pts_one (pt_cmpR (r := rInP not K) (op_notInP hr.units) (pe_tup (pa_cons (pv 4) (pa_cons (pv 5) pa_nil))) (pv 2) (by rfl)))
        (fun _ _ _ _ _ => pe_tup (pa_cons (pv 4) (pa_cons (pv 5) pa_nil))))))))
    (pss_one (ps_ret (pe_tup (pa_cons (pv 1) (pa_cons (pe_callTy call_tuple_of (by rfl) mt (by decide +kernel) (pa_cons (pv 3) pa_nil)) pa_nil))))))), ?_⟩
  refine ⟨_, rfl, t, _, rfl, ht, rfl, _, _, rfl, _, _, rfl, rfl, (by show 0 ≤ sizeLine; decide), fun a na => ?_⟩
  refine ⟨_, rfl, (n : Int), rfl, by omega, by omega, for_range (lo := 0) (n := ((n : Nat) : Int).toNat) (fun i σ H' => ∃ (b : Addr) (ys : List V) (s4 : Option V), σ = [some (.ref t), some (.int (n : Int)), some (.ref e), some (.ref b), s4, none] ∧ Same H H' ∧ H' b = some (.lst ys) ∧
      PairsAt K H' ys ((List.range i).flatMap fun u => (rowP n u).filter fun p => decide (p ∉ es))) ⟨a, [], none, rfl, same_new na _, upd_same, .nil⟩ ?_ ?_⟩
  · rintro u σ H1 lu ⟨b, ys, s4, rfl, s1, hb, py⟩
    rw [Int.zero_add]
    have un : u < n := by omega
    refine ⟨_, rfl, _, rfl, _, _, rfl, rfl, _, rfl, _, _, rfl, ⟨by omega, by omega, by omega, by omega⟩, fun D nD => lc_range (lo := (u : Int) + 1) (n := ((n : Int) - ((u : Int) + 1)).toNat)
      (fun k H2 => Same H1 H2 ∧ ∃ zs, H2 D = some (.lst zs) ∧ zs.length ≤ k ∧ PairsAt K (hide D H2) zs (((List.range k).map fun j => (u, u + 1 + j)).filter fun p => decide (p ∉ es))) ⟨same_new nD _, [], upd_same, Nat.le_refl _, .nil⟩ ?_ ?_⟩
    · rintro k H2 lk ⟨s2, zs, hD, lz, pz⟩
      rw [show ((u : Int) + 1 + (k : Int)) = ((u + 1 + k : Nat) : Int) by omega]
      refine ⟨rfl, ?_⟩
      refine ⟨_, rfl, _, rfl, (by show 2 ≤ sizeLine; decide), fun r nr => ?_⟩
      have s3 := same_new nr (.tup [.int ((u : Nat) : Int), .int ((u + 1 + k : Nat) : Int)])
      have sH := (s1.trans s2).trans s3
      refine ⟨_, rfl, (u, u + 1 + k), e, xs, es, ⟨r, rfl, SqT.of upd_same⟩, rfl, Same.tup sH he, hes.same sH, _, rfl, iteB (fun c => ?_) (fun c => ?_)⟩
      · have c' : (u, u + 1 + k) ∉ es := by simpa using c
        refine ⟨_, rfl, _, rfl, (by show 2 ≤ sizeLine; decide), fun r2 nr2 => ?_⟩
        have s4 := same_new nr2 (.tup [.int ((u : Nat) : Int), .int ((u + 1 + k : Nat) : Int)])
        have hD4 := s4 _ _ (s3 _ _ hD)
        have ne2 : r2 ≠ D := fun z => by
          rw [z] at nr2
          rw [s3 _ _ hD] at nr2
          cases nr2
        refine ⟨zs, hD4, small1000 (by omega), same_put ((s2.trans s3).trans s4) nD, _, upd_same, by rw [List.length_append]; show zs.length + 1 ≤ k + 1; omega, ?_⟩
        rw [List.range_succ, List.map_append, List.filter_append]
        have bt : But D H2 _ := (But.new nr).trans ((But.new (o := .tup [.int ((u : Nat) : Int), .int ((u + 1 + k : Nat) : Int)]) nr2).trans (.put (o := .lst (zs ++ [.ref r2]))))
        refine (pz.same bt.hide).append ?_
        show PairsAt K _ [V.ref r2] ([(u, u + 1 + k)].filter fun p => decide (p ∉ es))
        rw [List.filter_cons_of_pos (by simpa using c'), List.filter_nil]
        refine .cons ⟨r2, rfl, SqT.of ?_⟩ .nil
        rw [hide_ne ne2, upd_ne ne2]
        exact upd_same
      · have c' : (u, u + 1 + k) ∈ es := by simpa using c
        refine ⟨s2.trans s3, zs, s3 _ _ hD, by omega, ?_⟩
        rw [List.range_succ, List.map_append, List.filter_append]
        show PairsAt K _ zs (_ ++ [(u, u + 1 + k)].filter fun p => decide (p ∉ es))
        rw [List.filter_cons_of_neg (by simpa using c'), List.filter_nil, List.append_nil]
        exact pz.same (But.new nr).hide
    · rintro H2 ⟨s2, zs, hD, lz, pz⟩
      have le1 : ys.length ≤ 81 := by
        rw [PairsAt.len py]
        have z := List.length_filter_le (fun p => decide (p ∉ es)) ((List.range u).flatMap (rowP n))
        rw [List.filter_flatMap] at z
        exact Nat.le_trans z (rows_few u (by omega) n n9)
      refine ⟨b, D, ys, zs, rfl, rfl, s2 _ _ hb, hD, small (by omega), fun c nc => ?_⟩
      have s3 := same_new nc (.lst (ys ++ zs))
      refine ⟨c, _, _, rfl, (s1.trans s2).trans s3, upd_same, ?_⟩
      rw [List.range_succ, List.flatMap_append]
      refine (py.same (s2.trans s3)).append ?_
      have ek : ((n : Int) - ((u : Int) + 1)).toNat = n - (u + 1) := by omega
      rw [ek] at pz
      show PairsAt K _ zs ([u].flatMap fun u => (rowP n u).filter fun p => decide (p ∉ es))
      rw [List.flatMap_cons, List.flatMap_nil, List.append_nil]
      exact (pz.same (hide_sub D H2)).same s3
  · rintro σ H1 ⟨b, ys, s4, rfl, s1, hb, py⟩
    rw [show ((n : Nat) : Int).toNat = n by omega, ← leftP_eq] at py
    refine ⟨_, rfl, _, rfl, b, _, rfl, .inl ⟨SqL.of hb, fun l nl => ⟨(by show 2 ≤ sizeLine; decide), fun r nr => ?_⟩⟩⟩
    have s2 := same_new nl (.tup ys)
    have s3 := same_new nr (.tup [.int (n : Int), .ref l])
    exact q (.ref r) _ ((s1.trans s2).trans s3) ⟨r, l, ys, rfl, SqT.of upd_same, SqT.of (s3 _ _ upd_same), (py.same s2).same s3⟩
end
end My

set_option maxHeartbeats 4000000
namespace My
open PySem PySem.Spec PyProof.Rows L2
/-- every tuple stays -/
def TS (H H' : Hp) : Prop := ∀ q xs, Rd H q (.tup xs) → Rd H' q (.tup xs)
theorem TS.refl (H : Hp) : TS H H := fun _ _ h => h
theorem TS.trans {H1 H2 H3 : Hp} (a : TS H1 H2) (b : TS H2 H3) : TS H1 H3 := fun q xs h => b q xs (a q xs h)
theorem TS.of {H H' : Hp} (s : Same H H') : TS H H' := fun q xs h => by
  rcases h with h | ⟨o, h⟩
  · exact .inl (s _ _ h)
  · exact .inr ⟨o, s _ _ h⟩
theorem TS.put {H : Hp} {D : Addr} {zs : List V} {o : HO} (h : H D = some (.lst zs)) : TS H (upd H D o) := fun q xs r => by
  have ne : q ≠ D := fun z => by
    rw [z] at r
    rcases r with r | ⟨_, r⟩ <;> (rw [h] at r; cases r)
  unfold Rd
  rw [upd_ne ne]
  exact r
theorem TS.but {p : Addr} {H H' : Hp} (b : But p H H') (w : Wl H p) : TS H H' := fun q xs r => by
  obtain ⟨x, y, z, hp⟩ := w
  have ne : q ≠ p := fun e => by
    rw [e] at r
    rcases r with r | ⟨_, r⟩ <;> (rw [hp] at r; cases r)
  rcases r with r | ⟨o, r⟩
  · exact .inl (b _ _ ne r)
  · exact .inr ⟨o, b _ _ ne r⟩
theorem TS.tup {K : PySem.W.Frag} {H H' : Hp} (s : TS H H') {t : Addr} {xs : List V} (h : SqT K H t xs) : SqT K H' t xs := by
  rcases h with h | h
  · exact .inl (s _ _ h)
  · exact .inr h
theorem PairsAt.ts {K : PySem.W.Frag} {H H' : Hp} (e : TS H H') : ∀ {xs : List V} {ps : List E2}, PairsAt K H xs ps → PairsAt K H' xs ps
  | _, _, .nil => .nil
  | _, _, .cons ⟨t, h1, h2⟩ b => .cons ⟨t, h1, e.tup h2⟩ (PairsAt.ts e b)
theorem GraphAt.ts {K : PySem.W.Frag} {H H' : Hp} (s : TS H H') {x : V} {n : Nat} {es : List E2} (h : GraphAt K H x n es) : GraphAt K H' x n es := by
  obtain ⟨t, e, xs, rfl, h1, h2, h3⟩ := h
  exact ⟨t, e, xs, rfl, s.tup h1, s.tup h2, h3.ts s⟩
theorem Wl.same {H H' : Hp} {p : Addr} (s : Same H H') (w : Wl H p) : Wl H' p := by
  obtain ⟨a, b, c, h⟩ := w
  exact ⟨a, b, c, s _ _ h⟩
theorem Wl.put {H : Hp} {p D : Addr} {o : HO} (w : Wl H p) (ne : D ≠ p) : Wl (upd H D o) p := by
  obtain ⟨a, b, c, h⟩ := w
  exact ⟨a, b, c, by rw [upd_ne (Ne.symm ne)]; exact h⟩
theorem Wl.ne {H : Hp} {p D : Addr} (w : Wl H p) (n : H D = none) : D ≠ p := by
  obtain ⟨a, b, c, h⟩ := w
  rintro rfl
  rw [h] at n
  cases n
theorem Wl.off {K : PySem.W.Frag} {H : Hp} {p t : Addr} {xs : List V} (w : Wl H p) (h : SqT K H t xs) : SqT K (hide p H) t xs := by
  obtain ⟨a, b, c, hp⟩ := w
  rcases h with h | h
  · left
    have ne : t ≠ p := fun e => by
      rw [e] at h
      rcases h with r | ⟨_, r⟩ <;> (rw [hp] at r; cases r)
    unfold Rd
    rw [hide_ne ne]
    exact h
  · exact .inr h
/-- one more pair in a list -/
theorem push_pair {K : PySem.W.Frag} {H : Hp} {D r : Addr} {zs : List V} {ps : List E2} (p : E2) (hD : H D = some (.lst zs)) (nr : H r = none) (h : PairsAt K H zs ps) :
    TS H (upd (upd H r (.tup [.int (p.1 : Int), .int (p.2 : Int)])) D (.lst (zs ++ [.ref r]))) ∧ PairsAt K (upd (upd H r (.tup [.int (p.1 : Int), .int (p.2 : Int)])) D (.lst (zs ++ [.ref r]))) (zs ++ [.ref r]) (ps ++ [p]) := by
  have s1 := same_new nr (.tup [.int (p.1 : Int), .int (p.2 : Int)])
  have s2 : TS (upd H r (.tup [.int (p.1 : Int), .int (p.2 : Int)])) (upd (upd H r (.tup [.int (p.1 : Int), .int (p.2 : Int)])) D (.lst (zs ++ [.ref r]))) := TS.put (s1 _ _ hD)
  exact ⟨(TS.of s1).trans s2, (h.ts ((TS.of s1).trans s2)).append (.cons ⟨r, rfl, s2.tup (SqT.of upd_same)⟩ .nil)⟩
abbrev sRound : Stmt := top (22 + 6)
abbrev sCalled : Stmt := top (22 + 7)
abbrev sOrder : Stmt := top (22 + 8)
theorem scRound : FnScope ["many", "k"] ["many"] (defScope sRound) := ⟨rfl, rfl, rfl, by decide +kernel, rfl, by decide +kernel, by decide +kernel⟩
theorem scCalled : FnScope ["graph", "names", "u", "v"] ["graph", "names"] (defScope sCalled) := ⟨rfl, rfl, rfl, by decide +kernel, rfl, by decide +kernel, by decide +kernel⟩
theorem scOrder : FnScope ["well", "many", "left", "found", "turn"] ["well", "many"] (defScope sOrder) := ⟨rfl, rfl, rfl, by decide +kernel, rfl, by decide +kernel, by decide +kernel⟩
def spRound (K : PySem.W.Frag) : Sp := fun vs H Q _ => ∃ m : Nat, vs = [.int (m : Int)] ∧ 2 ≤ m ∧ m ≤ 9 ∧ ∀ (x : V) (es : List E2) (H' : Hp), Same H H' → GraphAt K H' x m es → Good m es → Q x H'
def nums (ns : List Nat) : List V := ns.map fun (k : Nat) => V.int ((k : Nat) : Int)
structure Perm (n : Nat) (ns : List Nat) : Prop where
  len : ns.length = n
  nd : ns.Nodup
  lt : ∀ k ∈ ns, k < n
def spCalled (K : PySem.W.Frag) : Sp := fun vs H Q _ => ∃ (x : V) (t : Addr) (n : Nat) (es : List E2) (ns : List Nat), vs = [x, .ref t] ∧ GraphAt K H x n es ∧ Good n es ∧ SqT K H t (nums ns) ∧ Perm n ns ∧ ∀ (y : V) (es' : List E2) (H' : Hp), Same H H' → GraphAt K H' y n es' → Good n es' → Q y H'
def spOrder (K : PySem.W.Frag) : Sp := fun vs H Q _ => ∃ (p : Addr) (n : Nat), vs = [.ref p, .int (n : Int)] ∧ Wl H p ∧ n ≤ 9 ∧ ∀ (t : Addr) (ns : List Nat) (H' : Hp), But p H H' → Wl H' p → SqT K H' t (nums ns) → Perm n ns → Q (.ref t) H'
section
variable {P : Program} {w : World} {K : PySem.W.Frag} {mg : Str → Option Value} {base : Heap} {f fD fP : Addr} {fd dD dP : FuncData}
theorem ok_round (F : L2.Fun K "_law_round" "_law_round" sRound f fd) (GP : FnOk P w K mg base CX0 1 fP dP ["n", "pairs"] (spOfPairs K)) (bP : L2.Binds K dP ["n", "pairs"] []) (kP : PySem.W.keepIn K (.ref fP) = true) (mP : mg "_law_of_pairs" = some (.ref fP)) (mr : mg "range" = none) (mi : mg "int" = none) :
    FnOk P w K mg base CX0 2 f fd ["many"] (spRound K) := by
  refine F.ok scRound (fun vs H Q E h => ?_) (fun cdv A outer s H vs Q E hr h => ?_)
  · obtain ⟨m, rfl, _⟩ := h
    rfl
  obtain ⟨m, rfl, m2, m9, q⟩ := h
  refine ⟨_, pss_one (ps_ret (pe_call GP hr (by rfl) mP kP bP .nil pass0 (pa_cons (pv 0) (pa_cons (pe_lc (own := [("k", 1)]) (g := gName 1) (tt := tYes) rfl scRound.nd (pi_range1 rfl mr (pa_cons (pv 0) pa_nil))
    (blkOk_by (N := ["many", "k"]) (sc := defScope sRound) (by decide +kernel)) (fun _ _ _ _ _ => pg_name (i := 1) scRound.nd rfl (Or.inl rfl)) (fun _ _ _ _ _ => pts_nil)
    (fun _ _ _ _ _ => pe_tup (pa_cons (pv 1) (pa_cons (pe_op op_mod (pe_callTy call_int1 (by rfl) mi (by decide +kernel) (pa_cons (pe_op op_add (pv 1) pe_int) pa_nil)) (pv 0)) pa_nil)))) pa_nil)))), ?_⟩
  refine ⟨_, rfl, _, rfl, (m : Int), rfl, by omega, by omega, fun D nD => lc_range (lo := 0) (n := ((m : Nat) : Int).toNat)
      (fun k H2 => Same H H2 ∧ ∃ zs, H2 D = some (.lst zs) ∧ zs.length = k ∧ PairsAt K H2 zs ((List.range k).map fun j => (j, (j + 1) % m))) ⟨same_new nD _, [], upd_same, rfl, .nil⟩ ?_ ?_⟩
  · rintro k H2 lk ⟨s2, zs, hD, lz, pz⟩
    rw [Int.zero_add]
    have km : k < m := by omega
    refine ⟨rfl, ?_⟩
    refine ⟨_, rfl, _, rfl, _, _, rfl, rfl, .inl ⟨_, rfl, _, rfl, _, _, rfl, rfl, (show (0 : Int) < (m : Int) by omega), (by show 2 ≤ sizeLine; decide), fun r nr => ?_⟩⟩
    have e : ((k : Int) + 1) % (m : Int) = (((k + 1) % m : Nat) : Int) := by
      rw [Int.natCast_emod]
      rfl
    dsimp only
    rw [e]
    obtain ⟨t1, p1⟩ := push_pair (k, (k + 1) % m) hD nr pz
    refine ⟨zs, (same_new nr _) _ _ hD, small1000 (by omega), same_put (s2.trans (same_new nr _)) nD, _, upd_same, by rw [List.length_append]; show zs.length + 1 = k + 1; omega, ?_⟩
    rw [List.range_succ, List.map_append]
    exact p1
  · rintro H2 ⟨s2, zs, hD, lz, pz⟩
    rw [show ((m : Nat) : Int).toNat = m by omega] at lz pz
    refine ⟨m, D, zs, _, rfl, m9, SqL.of hD, pz, by omega, fun p hp => ?_, fun x es H' s g good _ => q x es H' (s2.trans s) g good⟩
    obtain ⟨j, hj, rfl⟩ := List.mem_map.mp hp
    have hj := List.mem_range.mp hj
    show j ≠ (j + 1) % m ∧ j < m ∧ (j + 1) % m < m
    refine ⟨?_, hj, Nat.mod_lt _ (by omega)⟩
    by_cases e : j + 1 = m
    · rw [e, Nat.mod_self]
      omega
    · rw [Nat.mod_eq_of_lt (by omega)]
      omega
theorem perm_at {n : Nat} {ns : List Nat} (h : Perm n ns) {i : Nat} (hi : i < n) : ∃ k, ns[i]? = some k ∧ k < n := by
  have l : i < ns.length := by rw [h.len]; exact hi
  exact ⟨ns[i], List.getElem?_eq_getElem l, h.lt _ (List.getElem_mem l)⟩
theorem perm_ne {n : Nat} {ns : List Nat} (h : Perm n ns) {i j a b : Nat} (hi : ns[i]? = some a) (hj : ns[j]? = some b) (ne : i ≠ j) : a ≠ b := by
  obtain ⟨l1, e1⟩ := List.getElem?_eq_some_iff.mp hi
  obtain ⟨l2, e2⟩ := List.getElem?_eq_some_iff.mp hj
  rcases Nat.lt_or_gt_of_ne ne with l | l
  · have z := List.pairwise_iff_getElem.mp h.nd i j l1 l2 l
    rw [e1, e2] at z
    exact z
  · have z := List.pairwise_iff_getElem.mp h.nd j i l2 l1 l
    rw [e1, e2] at z
    exact Ne.symm z
theorem ok_called (F : L2.Fun K "_law_called" "_law_called" sCalled f fd) (GP : FnOk P w K mg base CX0 1 fP dP ["n", "pairs"] (spOfPairs K)) (bP : L2.Binds K dP ["n", "pairs"] []) (kP : PySem.W.keepIn K (.ref fP) = true) (mP : mg "_law_of_pairs" = some (.ref fP)) :
    FnOk P w K mg base CX0 2 f fd ["graph", "names"] (spCalled K) := by
  refine F.ok scCalled (fun vs H Q E h => ?_) (fun cdv A outer s H vs Q E hr h => ?_)
  · obtain ⟨x, t, n, es, ns, rfl, _⟩ := h
    rfl
  obtain ⟨x, t, n, es, ns, rfl, ⟨g, e, xs, rfl, hg, he, hes⟩, good, ht, hn, q⟩ := h
  refine ⟨_, pss_one (ps_ret (pe_call GP hr (by rfl) mP kP bP .nil pass0 (pa_cons (pe_ix ix_tup (pv 0) pe_int (fun _ _ => rfl)) (pa_cons (pe_lc (own := [("u", 2), ("v", 3)]) (g := gTup K 2 (gCons (gName 2) (gCons (gName 3) gNil))) (tt := tYes) rfl scCalled.nd (pi_tup (pe_ix ix_tup (pv 0) pe_int (fun _ _ => rfl)))
    (blkOk_by (N := ["graph", "names", "u", "v"]) (sc := defScope sCalled) (by decide +kernel)) (fun _ _ _ _ _ => pg_tup (by rfl) (pgs_cons (pg_name (i := 2) scCalled.nd rfl (Or.inl rfl)) (pgs_cons (pg_name (i := 3) scCalled.nd rfl (Or.inl rfl)) pgs_nil))) (fun _ _ _ _ _ => pts_nil)
    (fun _ _ _ _ _ => pe_tup (pa_cons (pe_ix (r := rIxT K) ix_tup (pv 1) (pv 2) (fun _ _ => rfl)) (pa_cons (pe_ix (r := rIxT K) ix_tup (pv 1) (pv 3) (fun _ _ => rfl)) pa_nil)))) pa_nil)))), ?_⟩
  refine ⟨_, rfl, g, _, _, _, rfl, rfl, hg, rfl, ?_⟩
  refine ⟨_, rfl, g, _, _, _, rfl, rfl, hg, rfl, e, rfl, ⟨_, he⟩, fun D nD => lc_tup (K := K) (a := e) (xs := xs)
      (fun i H2 => Same H H2 ∧ ∃ zs ps, H2 D = some (.lst zs) ∧ zs.length = i ∧ PairsAt K H2 zs ps ∧ ∀ p ∈ ps, p.1 ≠ p.2 ∧ p.1 < n ∧ p.2 < n) ⟨same_new nD _, [], [], upd_same, rfl, .nil, fun _ z => nomatch z⟩ ?_ ?_ ?_⟩
  · rintro i H1 _ ⟨s1, _⟩
    exact Same.tup s1 he
  · rintro i x H2 hi ⟨s2, zs, ps, hD, lz, pz, pp⟩
    obtain ⟨p, hp, t1, rfl, ht1⟩ := PairsAt.get (hes.same s2) hi
    obtain ⟨l1, l2⟩ := good.lt p (List.mem_of_getElem? hp)
    obtain ⟨a, ha, an⟩ := perm_at hn (show p.1 < n by omega)
    obtain ⟨b, hb, bn⟩ := perm_at hn l2
    have ab : a ≠ b := perm_ne hn ha hb (by omega)
    refine ⟨t1, _, rfl, ht1, rfl, _, _, rfl, _, _, rfl, rfl, ?_⟩
    refine ⟨rfl, ?_⟩
    have ht2 := Same.tup s2 ht
    refine ⟨_, rfl, _, rfl, t, _, _, .int (a : Int), rfl, rfl, ht2, atI_nat (by unfold nums; rw [List.getElem?_map, ha]; rfl), _, rfl, _, rfl, t, _, _, .int (b : Int), rfl, rfl, ht2, atI_nat (by unfold nums; rw [List.getElem?_map, hb]; rfl), (by show 2 ≤ sizeLine; decide), fun r nr => ?_⟩
    obtain ⟨t1, p1⟩ := push_pair (a, b) hD nr pz
    have li : i < xs.length := (List.getElem?_eq_some_iff.mp hi).1
    have l3 : xs.length ≤ 36 := by rw [PairsAt.len hes]; exact good.few
    refine ⟨zs, (same_new nr _) _ _ hD, small1000 (by omega), same_put (s2.trans (same_new nr _)) nD, _, _, upd_same, by rw [List.length_append]; show zs.length + 1 = i + 1; omega, p1, fun r hr => ?_⟩
    rcases List.mem_append.mp hr with hr | hr
    · exact pp r hr
    · rw [List.mem_singleton.mp hr]
      exact ⟨ab, an, bn⟩
  · rintro H2 ⟨s2, zs, ps, hD, lz, pz, pp⟩
    have l3 : xs.length ≤ 36 := by rw [PairsAt.len hes]; exact good.few
    exact ⟨n, D, zs, ps, rfl, good.n9, SqL.of hD, pz, by omega, pp, fun x es H' s g good _ => q x es H' (s2.trans s) g good⟩
theorem but_put {p l : Addr} {H H1 : Hp} {o : HO} (b : But p H H1) (n : H l = none) : But p H (upd H1 l o) := fun q u ne e => by
  rw [upd_ne (ne_of_none e n)]
  exact b q u ne e
theorem nums_len (ns : List Nat) : (nums ns).length = ns.length := List.length_map _
theorem nums_get {ns : List Nat} {k : Nat} (h : k < ns.length) : (nums ns)[k]? = some (.int ((ns[k] : Nat) : Int)) := by
  unfold nums
  rw [List.getElem?_map, List.getElem?_eq_getElem h]
  rfl
theorem nums_erase : ∀ (ns : List Nat) (k : Nat), (nums ns).eraseIdx k = nums (ns.eraseIdx k)
  | [], _ => rfl
  | _ :: _, 0 => rfl
  | a :: ns, k + 1 => congrArg (V.int ((a : Nat) : Int) :: ·) (nums_erase ns k)
theorem rgV_nums (n : Nat) : rgV 0 (n : Int) = nums (List.range n) := by
  unfold rgV nums
  rw [show ((n : Int) - 0).toNat = n by omega]
  refine List.map_congr_left fun i _ => ?_
  rw [Int.zero_add]
theorem moved {fs ls : List Nat} {k : Nat} (h : k < ls.length) : (fs ++ [ls[k]] ++ ls.eraseIdx k).Perm (fs ++ ls) := by
  rw [List.append_assoc]
  refine List.Perm.append_left fs ?_
  have e : ls = ls.take k ++ ls[k] :: ls.drop (k + 1) := by
    rw [List.getElem_cons_drop, List.take_append_drop]
  have e2 : ls.eraseIdx k = ls.take k ++ ls.drop (k + 1) := List.eraseIdx_eq_take_drop_succ ..
  rw [e2]
  refine (List.perm_middle (a := ls[k]) (l₁ := ls.take k) (l₂ := ls.drop (k + 1))).symm.trans ?_
  rw [← e]
theorem ok_order (F : L2.Fun K "_law_order" "_law_order" sOrder f fd) (GD : FnOk P w K mg base CX0 1 fD dD ["well", "many"] spDraw) (bD : L2.Binds K dD ["well", "many"] []) (kD : PySem.W.keepIn K (.ref fD) = true) (mD : mg "_law_draw" = some (.ref fD)) (ml : mg "len" = none) (mr : mg "range" = none) (mli : mg "list" = none) (mt : mg "tuple" = none) :
    FnOk P w K mg base CX0 2 f fd ["well", "many"] (spOrder K) := by
  refine F.ok scOrder (fun vs H Q E h => ?_) (fun cdv A outer s H vs Q E hr h => ?_)
  · obtain ⟨p, n, rfl, _⟩ := h
    rfl
  obtain ⟨p, n, rfl, hW, n9, q⟩ := h
  refine ⟨_, pss_cons (ps_par (by rfl) scOrder.nd (i := 2) (j := 3) rfl rfl (by decide) rfl rfl (pa_cons (pe_listRg rfl rfl mli (prg_1 rfl mr (pv 1))) (pa_cons (pe_lst pa_nil) pa_nil)) (by rfl))
    (pss_cons (ps_for PassesOwn.never rfl (pi_range1 rfl mr (pa_cons (pv 1) pa_nil)) (pg_name (i := 4) scOrder.nd rfl (.inl rfl))
      (pss_one (ps_expr (pe_bm PySem.F.plainAttrs_list PySem.F.slot_list_append PySem.F.type_list_append mt_append (pv 3) (pa_cons
        (pe_bm PySem.F.plainAttrs_list PySem.F.slot_list_pop PySem.F.type_list_pop mt_popAt (pv 2) (pa_cons (pe_call GD hr (by rfl) mD kD bD .nil pass0 (pa_cons (pv 0) (pa_cons (pe_callB call_len_seq (by rfl) ml PySem.boot_len (pa_cons (pv 2) pa_nil)) pa_nil))) pa_nil)) pa_nil)))))
    (pss_one (ps_ret (pe_callTy call_tuple_of (by rfl) mt (by decide +kernel) (pa_cons (pv 3) pa_nil))))), ?_⟩
  refine ⟨_, rfl, _, rfl, RgOk.of_le (by omega) (by omega) (by omega) (by omega), fun l nl => ?_⟩
  rw [rgV_nums]
  refine ⟨(by show 0 ≤ sizeLine; decide), fun b nb => ?_⟩
  have s1 := (same_new nl (.lst (nums (List.range n)))).trans (same_new nb (.lst []))
  have lp : l ≠ p := hW.ne nl
  have nb0 : H b = none := (same_new nl _).free nb
  have bp : b ≠ p := hW.ne nb0
  have bl : b ≠ l := fun e => by
    rw [e, upd_same] at nb
    cases nb
  refine ⟨_, _, rfl, ?_⟩
  refine ⟨_, rfl, (n : Int), rfl, by omega, by omega, for_range (lo := 0) (n := ((n : Nat) : Int).toNat) (fun i σ H' => ∃ (ls fs : List Nat) (s4 : Option V), σ = [some (.ref p), some (.int (n : Int)), some (.ref l), some (.ref b), s4] ∧ But p H H' ∧ Wl H' p ∧ H' l = some (.lst (nums ls)) ∧ H' b = some (.lst (nums fs)) ∧
      fs.length = i ∧ List.Perm (fs ++ ls) (List.range n)) ⟨List.range n, [], none, rfl, But.of s1, hW.same s1, (same_new nb _) _ _ upd_same, upd_same, rfl, .refl _⟩ ?_ ?_⟩
  · rintro i σ H1 li ⟨ls, fs, s4, rfl, b1, w1, hl, hb, lf, pm⟩
    have ll : fs.length + ls.length = n := by
      have := pm.length_eq
      rw [List.length_append, List.length_range] at this
      exact this
    refine ⟨_, rfl, .inl ⟨rfl, _, SqL.of hb⟩, ?_⟩
    refine ⟨_, rfl, .inl ⟨rfl, _, SqL.of hl⟩, ?_⟩
    have e1 : (nums ls).length = ls.length := nums_len ls
    refine ⟨_, rfl, _, rfl, l, _, rfl, .inl (SqL.of hl), p, _, rfl, w1, by omega, by omega, fun r H2 r0 r1 b2 w2 => ?_⟩
    obtain ⟨k, rfl⟩ : ∃ k : Nat, r = (k : Int) := ⟨r.toNat, by omega⟩
    have hk : k < ls.length := by omega
    have hl2 := b2 _ _ lp hl
    have hb2 := b2 _ _ bp hb
    refine ⟨l, nums ls, _, k, _, rfl, rfl, hl2, by omega, by omega, ?_, nums_get hk, ?_⟩
    · rw [show seqIndex? (k : Int) (nums ls).length = some ((k : Int)).toNat by unfold seqIndex?; rw [if_neg (show ¬ (k : Int) < 0 by omega)]; rw [if_pos (by simp; omega)]]
      rfl
    rw [nums_erase]
    refine ⟨b, nums fs, _, rfl, rfl, by rw [upd_ne bl]; exact hb2, small1000 (by rw [nums_len]; omega), ?_⟩
    have e2 : nums fs ++ [V.int ((ls[k] : Nat) : Int)] = nums (fs ++ [ls[k]]) := by
      unfold nums
      rw [List.map_append]
      rfl
    rw [e2]
    refine ⟨ls.eraseIdx k, fs ++ [ls[k]], _, rfl, but_put (but_put (b1.trans b2) nl) nb0, (w2.put lp).put bp, by rw [upd_ne (Ne.symm bl)]; exact upd_same, upd_same, by rw [List.length_append]; show fs.length + 1 = i + 1; omega, (moved hk).trans pm⟩
  · rintro σ H1 ⟨ls, fs, s4, rfl, b1, w1, hl, hb, lf, pm⟩
    rw [show ((n : Nat) : Int).toNat = n by omega] at lf
    have ll : fs.length + ls.length = n := by
      have := pm.length_eq
      rw [List.length_append, List.length_range] at this
      exact this
    have l0 : ls = [] := List.eq_nil_of_length_eq_zero (by omega)
    rw [l0, List.append_nil] at pm
    refine ⟨_, rfl, b, _, rfl, .inl ⟨SqL.of hb, fun t nt => ?_⟩⟩
    exact q t fs _ (b1.trans (But.new nt)) (w1.same (same_new nt _)) (SqT.of upd_same) ⟨lf, pm.nodup_iff.mpr List.nodup_range, fun k hk => List.mem_range.mp (pm.mem_iff.mp hk)⟩
end
end My

set_option maxHeartbeats 4000000
namespace My
open PySem PySem.Spec PyProof.Rows L2
abbrev sRandom : Stmt := top (22 + 9)
abbrev sSides : Stmt := top (22 + 10)
abbrev sBeside : Stmt := top (22 + 11)
abbrev sFolded : Stmt := top (22 + 12)
theorem scRandom : FnScope ["well", "n", "rare", "is_dense", "found", "u", "v"] ["well", "n"] (defScope sRandom) := ⟨rfl, rfl, rfl, by decide +kernel, rfl, by decide +kernel, by decide +kernel⟩
theorem scSides : FnScope ["well", "n", "found", "half", "u", "v"] ["well", "n"] (defScope sSides) := ⟨rfl, rfl, rfl, by decide +kernel, rfl, by decide +kernel, by decide +kernel⟩
theorem scBeside : FnScope ["one", "two", "is_joined", "u", "n", "far", "v"] ["one", "two", "is_joined"] (defScope sBeside) := ⟨rfl, rfl, rfl, by decide +kernel, rfl, by decide +kernel, by decide +kernel⟩
theorem scFolded : FnScope ["well", "n", "found", "turn"] ["well", "n"] (defScope sFolded) := ⟨rfl, rfl, rfl, by decide +kernel, rfl, by decide +kernel, by decide +kernel⟩
/-- what a drawn graph of n vertices is -/
def spGr (K : PySem.W.Frag) (n : Nat) (p : Addr) (H : Hp) (Q : VK) : Prop := ∀ (x : V) (es : List E2) (H' : Hp), But p H H' → Wl H' p → GraphAt K H' x n es → Good n es → Q x H'
def spRandom (K : PySem.W.Frag) : Sp := fun vs H Q _ => ∃ (p : Addr) (n : Nat), vs = [.ref p, .int (n : Int)] ∧ Wl H p ∧ n ≤ 9 ∧ spGr K n p H Q
def spBeside (K : PySem.W.Frag) : Sp := fun vs H Q _ => ∃ (x y : V) (n m : Nat) (es fs : List E2) (j : Bool), vs = [x, y, .bl j] ∧ GraphAt K H x n es ∧ Good n es ∧ GraphAt K H y m fs ∧ Good m fs ∧ n + m ≤ 9 ∧ fs.length + n * m ≤ 27 ∧
  ∀ (z : V) (gs : List E2) (H' : Hp), Same H H' → GraphAt K H' z (n + m) gs → Good (n + m) gs → Q z H'
def spFolded (K : PySem.W.Frag) : Sp := fun vs H Q _ => ∃ (p : Addr) (n : Nat), vs = [.ref p, .int (n : Int)] ∧ Wl H p ∧ 1 ≤ n ∧ n ≤ 9 ∧ spGr K n p H Q
theorem upto_pairs {n : Nat} {ps : List E2} {u k : Nat} (hu : u < n) (hk : k ≤ n - (u + 1)) (h : ps.Sublist ((List.range u).flatMap (rowP n) ++ (List.range k).map fun j => (u, u + 1 + j))) : ps.Sublist (allP n) := by
  refine h.trans ?_
  have e1 : allP n = (List.range u).flatMap (rowP n) ++ ((List.range (n - u)).map (u + ·)).flatMap (rowP n) := by
    unfold allP
    rw [← List.flatMap_append]
    congr 1
    have := List.range_add (n := u) (m := n - u)
    rw [show u + (n - u) = n by omega] at this
    exact this
  rw [e1]
  refine List.Sublist.append_left ?_ _
  rw [show n - u = (n - (u + 1)) + 1 by omega, List.range_succ_eq_map, List.map_cons, List.flatMap_cons]
  refine List.Sublist.trans ?_ (List.sublist_append_left ..)
  show ((List.range k).map fun j => (u, u + 1 + j)).Sublist ((List.range (n - (u + 0 + 1))).map fun j => (u + 0, u + 0 + 1 + j))
  rw [Nat.add_zero]
  exact (List.range_sublist.mpr hk).map _
theorem sub_all {n : Nat} {ps : List E2} (n9 : n ≤ 9) (h : ps.Sublist (allP n)) : ps.length ≤ 36 ∧ ∀ q ∈ ps, q.1 ≠ q.2 ∧ q.1 < n ∧ q.2 < n := by
  refine ⟨Nat.le_trans h.length_le (allP_few n n9), fun q hq => ?_⟩
  have z := mem_allP.mp (h.subset hq)
  omega
section
variable {P : Program} {w : World} {K : PySem.W.Frag} {mg : Str → Option Value} {base : Heap} {f fD fP fK fB fU : Addr} {fd dD dP dK dB dU : FuncData}
theorem ok_random (F : L2.Fun K "_law_random" "_law_random" sRandom f fd) (GD : FnOk P w K mg base CX0 1 fD dD ["well", "many"] spDraw) (bD : L2.Binds K dD ["well", "many"] []) (kD : PySem.W.keepIn K (.ref fD) = true) (mD : mg "_law_draw" = some (.ref fD))
    (GP : FnOk P w K mg base CX0 1 fP dP ["n", "pairs"] (spOfPairs K)) (bP : L2.Binds K dP ["n", "pairs"] []) (kP : PySem.W.keepIn K (.ref fP) = true) (mP : mg "_law_of_pairs" = some (.ref fP))
    (GK : FnOk P w K mg base CX0 2 fK dK ["well", "some"] (spPick K)) (bK : L2.Binds K dK ["well", "some"] []) (kK : PySem.W.keepIn K (.ref fK) = true) (mK : mg "_law_pick" = some (.ref fK)) (mr : mg "range" = none) :
    FnOk P w K mg base CX0 3 f fd ["well", "n"] (spRandom K) := by
  refine F.ok scRandom (fun vs H Q E h => ?_) (fun cdv A outer s H vs Q E hr h => ?_)
  · obtain ⟨p, n, rfl, _⟩ := h
    rfl
  obtain ⟨p, n, rfl, hW, n9, q⟩ := h
  refine ⟨_, pss_cons (ps_par3 (by rfl) scRandom.nd (i := 2) (j := 3) (l := 4) rfl rfl rfl (by decide) (by decide) (by decide) rfl rfl rfl (pa_cons (pe_call GK hr (by rfl) mK kK bK .nil pass0 (pa_cons (pv 0) (pa_cons (pe_tup (pa_cons pe_int (pa_cons pe_int (pa_cons pe_int (pa_cons pe_int pa_nil))))) pa_nil)))
        (pa_cons (pe_cmpR op_eq (pe_call GD (hr.mono (by decide)) (by rfl) mD kD bD .nil pass0 (pa_cons (pv 0) (pa_cons pe_int pa_nil))) pe_int (nomark _)) (pa_cons (pe_lst pa_nil) pa_nil))) (by rfl))
    (pss_cons (ps_for PassesOwn.never rfl (pi_range1 rfl mr (pa_cons (pv 1) pa_nil)) (pg_name (i := 5) scRandom.nd rfl (.inl rfl))
      (pss_one (ps_for PassesOwn.never rfl (pi_range2 (by rfl) mr (pa_cons (pe_op op_add (pv 5) pe_int) (pa_cons (pv 1) pa_nil))) (pg_name (i := 6) scRandom.nd rfl (.inl rfl))
        (pss_one (ps_if (pt_cmpR op_ne (pe_cmpR op_eq (pe_call GD (hr.mono (by decide)) (by rfl) mD kD bD .nil pass0 (pa_cons (pv 0) (pa_cons (pv 2) pa_nil))) pe_int (nomark _)) (pv 3) (nomark _))
          (pss_one (ps_expr (pe_bm PySem.F.plainAttrs_list PySem.F.slot_list_append PySem.F.type_list_append mt_append (pv 4) (pa_cons (pe_tup (pa_cons (pv 5) (pa_cons (pv 6) pa_nil))) pa_nil)))) pss_nil)))))
    (pss_one (ps_ret (pe_call GP (hr.mono (by decide)) (by rfl) mP kP bP .nil pass0 (pa_cons (pv 1) (pa_cons (pv 4) pa_nil)))))), ?_⟩
  refine ⟨_, rfl, (by show 4 ≤ sizeLine; decide), fun t nt => ?_⟩
  have s1 := same_new nt (.tup [.int 2, .int 2, .int 3, .int 4])
  have w1 := hW.same s1
  refine ⟨p, t, _, rfl, w1, w1.off (SqT.of upd_same), by decide, by decide, fun i v H2 hi b2 w2 => ?_⟩
  obtain ⟨rare, rfl, r1, r2⟩ : ∃ rare : Int, v = .int rare ∧ 0 < rare ∧ rare < 5 := by
    have m := List.mem_of_getElem? hi
    simp only [List.mem_cons, List.mem_nil_iff, or_false] at m
    rcases m with rfl | rfl | rfl | rfl <;> exact ⟨_, rfl, by decide, by decide⟩
  refine ⟨_, rfl, p, _, rfl, w2, by decide, by decide, fun d H3 _ _ b3 w3 => ?_⟩
  refine ⟨rfl, (by show 0 ≤ sizeLine; decide), fun D nD => ?_⟩
  have b4 : But p H _ := ((But.of s1).trans b2).trans (b3.trans (But.new (o := .lst []) nD))
  have w4 := w3.same (same_new nD (.lst []))
  have Dp : D ≠ p := w3.ne nD
  have nD0 : H D = none := by
    have z : (upd H t (.tup [.int 2, .int 2, .int 3, .int 4])) D = none := by
      cases e : (upd H t (.tup [.int 2, .int 2, .int 3, .int 4])) D with
      | none => rfl
      | some o => rw [b3 _ _ Dp (b2 _ _ Dp e)] at nD; cases nD
    exact s1.free z
  generalize hd : (decide (V.int d = V.int 0)) = dense
  refine ⟨_, _, _, rfl, ?_⟩
  refine ⟨_, rfl, (n : Int), rfl, by omega, by omega, for_range (lo := 0) (n := ((n : Nat) : Int).toNat) (fun u σ H' => ∃ (zs : List V) (ps : List E2) (s5 s6 : Option V), σ = [some (.ref p), some (.int (n : Int)), some (.int rare), some (.bl dense), some (.ref D), s5, s6] ∧ But p H H' ∧ Wl H' p ∧ H' D = some (.lst zs) ∧
      PairsAt K H' zs ps ∧ ps.Sublist ((List.range u).flatMap (rowP n))) ⟨[], [], none, none, rfl, b4, w4, upd_same, .nil, .slnil⟩ ?_ ?_⟩
  · rintro u σ H1 lu ⟨zs, ps, s5, s6, rfl, b1, w1, hD, hP, hS⟩
    rw [Int.zero_add]
    have un : u < n := by omega
    refine ⟨_, rfl, _, _, rfl, rfl, _, rfl, _, _, rfl, ⟨by omega, by omega, by omega, by omega⟩, for_range (lo := (u : Int) + 1) (n := ((n : Int) - ((u : Int) + 1)).toNat)
      (fun k σ H' => ∃ (zs : List V) (ps : List E2) (s6 : Option V), σ = [some (.ref p), some (.int (n : Int)), some (.int rare), some (.bl dense), some (.ref D), some (.int (u : Int)), s6] ∧ But p H H' ∧ Wl H' p ∧ H' D = some (.lst zs) ∧
      PairsAt K H' zs ps ∧ ps.Sublist ((List.range u).flatMap (rowP n) ++ (List.range k).map fun j => (u, u + 1 + j))) ⟨zs, ps, s6, rfl, b1, w1, hD, hP, by rw [List.range_zero, List.map_nil, List.append_nil]; exact hS⟩ ?_ ?_⟩
    · rintro k σ H2 lk ⟨zs, ps, s6, rfl, b2, w2, hD, hP, hS⟩
      rw [show ((u : Int) + 1 + (k : Int)) = ((u + 1 + k : Nat) : Int) by omega]
      refine ⟨_, rfl, _, rfl, p, _, rfl, w2, r1, by omega, fun d2 H3 _ _ b3 w3 => ?_⟩
      have hP3 := hP.ts (TS.but b3 w2)
      have hD3 := b3 _ _ Dp hD
      refine ⟨rfl, _, rfl, rfl, _, rfl, iteB (fun _ => ?_) (fun _ => ?_)⟩
      · refine ⟨_, rfl, .inl ⟨rfl, _, SqL.of hD3⟩, _, rfl, _, rfl, (by show 2 ≤ sizeLine; decide), fun r nr => ?_⟩
        obtain ⟨t1, p1⟩ := push_pair (u, u + 1 + k) hD3 nr hP3
        have l1 : zs.length ≤ 36 := by rw [PairsAt.len hP]; exact (sub_all n9 (upto_pairs un (by omega) hS)).1
        refine ⟨D, zs, _, rfl, rfl, (same_new nr _) _ _ hD3, small1000 (by omega), zs ++ [.ref r], ps ++ [(u, u + 1 + k)], _, rfl, but_put ((b2.trans b3).trans (But.new nr)) nD0, (w3.same (same_new nr _)).put Dp, upd_same, p1, ?_⟩
        rw [List.range_succ, List.map_append, ← List.append_assoc]
        exact hS.append (List.Sublist.refl _)
      · refine ⟨zs, ps, _, rfl, b2.trans b3, w3, hD3, hP3, ?_⟩
        rw [List.range_succ, List.map_append, ← List.append_assoc]
        exact hS.trans (List.sublist_append_left ..)
    · rintro σ H2 ⟨zs, ps, s6, rfl, b2, w2, hD, hP, hS⟩
      refine ⟨zs, ps, _, _, rfl, b2, w2, hD, hP, ?_⟩
      rw [show ((n : Int) - ((u : Int) + 1)).toNat = n - (u + 1) by omega] at hS
      rw [List.range_succ, List.flatMap_append, List.flatMap_cons, List.flatMap_nil, List.append_nil]
      exact hS
  · rintro σ H1 ⟨zs, ps, s5, s6, rfl, b1, w1, hD, hP, hS⟩
    rw [show ((n : Nat) : Int).toNat = n by omega] at hS
    obtain ⟨l1, l2⟩ := sub_all n9 hS
    refine ⟨_, rfl, _, rfl, n, D, zs, ps, rfl, n9, SqL.of hD, hP, by rw [PairsAt.len hP]; omega, l2, fun x es H' s' g good _ => ?_⟩
    exact q x es H' (b1.trans (But.of s')) (w1.same s') g good
theorem ok_sides (F : L2.Fun K "_law_sides" "_law_sides" sSides f fd) (GD : FnOk P w K mg base CX0 1 fD dD ["well", "many"] spDraw) (bD : L2.Binds K dD ["well", "many"] []) (kD : PySem.W.keepIn K (.ref fD) = true) (mD : mg "_law_draw" = some (.ref fD))
    (GP : FnOk P w K mg base CX0 1 fP dP ["n", "pairs"] (spOfPairs K)) (bP : L2.Binds K dP ["n", "pairs"] []) (kP : PySem.W.keepIn K (.ref fP) = true) (mP : mg "_law_of_pairs" = some (.ref fP)) (mr : mg "range" = none) :
    FnOk P w K mg base CX0 2 f fd ["well", "n"] (spRandom K) := by
  refine F.ok scSides (fun vs H Q E h => ?_) (fun cdv A outer s H vs Q E hr h => ?_)
  · obtain ⟨p, n, rfl, _⟩ := h
    rfl
  obtain ⟨p, n, rfl, hW, n9, q⟩ := h
  refine ⟨_, pss_cons (ps_par (by rfl) scSides.nd (i := 2) (j := 3) rfl rfl (by decide) rfl rfl (pa_cons (pe_lst pa_nil) (pa_cons (pe_op op_fdiv (pv 1) pe_int) pa_nil)) (by rfl))
    (pss_cons (ps_for PassesOwn.never rfl (pi_range1 rfl mr (pa_cons (pv 3) pa_nil)) (pg_name (i := 4) scSides.nd rfl (.inl rfl))
      (pss_one (ps_for PassesOwn.never rfl (pi_range2 (by rfl) mr (pa_cons (pv 3) (pa_cons (pv 1) pa_nil))) (pg_name (i := 5) scSides.nd rfl (.inl rfl))
        (pss_one (ps_if (pt_cmpR op_gt (pe_call GD hr (by rfl) mD kD bD .nil pass0 (pa_cons (pv 0) (pa_cons pe_int pa_nil))) pe_int (nomark _))
          (pss_one (ps_expr (pe_bm PySem.F.plainAttrs_list PySem.F.slot_list_append PySem.F.type_list_append mt_append (pv 2) (pa_cons (pe_tup (pa_cons (pv 4) (pa_cons (pv 5) pa_nil))) pa_nil)))) pss_nil)))))
    (pss_one (ps_ret (pe_call GP hr (by rfl) mP kP bP .nil pass0 (pa_cons (pv 1) (pa_cons (pv 2) pa_nil)))))), ?_⟩
  refine ⟨(by show 0 ≤ sizeLine; decide), fun D nD => ?_⟩
  have w1 := hW.same (same_new nD (.lst []))
  have Dp : D ≠ p := hW.ne nD
  refine ⟨_, rfl, _, _, rfl, rfl, ⟨by decide, by decide⟩, _, _, rfl, ?_⟩
  obtain ⟨m, hm⟩ : ∃ m : Nat, m = n / 2 := ⟨_, rfl⟩
  refine ⟨_, rfl, (n : Int) / 2, rfl, by omega, by omega, for_range (lo := 0) (n := ((n : Int) / 2).toNat) (fun u σ H' => ∃ (zs : List V) (ps : List E2) (s5 s6 : Option V), σ = [some (.ref p), some (.int (n : Int)), some (.ref D), some (.int ((n : Int) / 2)), s5, s6] ∧ But p H H' ∧ Wl H' p ∧ H' D = some (.lst zs) ∧
      PairsAt K H' zs ps ∧ (∀ q ∈ ps, q.1 ≠ q.2 ∧ q.1 < n ∧ q.2 < n) ∧ ps.length ≤ 5 * u) ⟨[], [], none, none, rfl, But.new nD, w1, upd_same, .nil, (fun _ z => nomatch z), (by show 0 ≤ 5 * 0; omega)⟩ ?_ ?_⟩
  · rintro u σ H1 lu ⟨zs, ps, s5, s6, rfl, b1, w1, hD, hP, hS, hL⟩
    rw [Int.zero_add]
    have un : u < m := by omega
    refine ⟨_, rfl, _, rfl, _, _, rfl, ⟨by omega, by omega, by omega, by omega⟩, for_range (lo := (n : Int) / 2) (n := ((n : Int) - (n : Int) / 2).toNat)
      (fun k σ H' => ∃ (zs : List V) (ps : List E2) (s6 : Option V), σ = [some (.ref p), some (.int (n : Int)), some (.ref D), some (.int ((n : Int) / 2)), some (.int (u : Int)), s6] ∧ But p H H' ∧ Wl H' p ∧ H' D = some (.lst zs) ∧
      PairsAt K H' zs ps ∧ (∀ q ∈ ps, q.1 ≠ q.2 ∧ q.1 < n ∧ q.2 < n) ∧ ps.length ≤ 5 * u + k) ⟨zs, ps, s6, rfl, b1, w1, hD, hP, hS, hL⟩ ?_ ?_⟩
    · rintro k σ H2 lk ⟨zs, ps, s6, rfl, b2, w2, hD, hP, hS, hL⟩
      rw [show ((n : Int) / 2 + (k : Int)) = ((m + k : Nat) : Int) by omega]
      refine ⟨_, rfl, p, _, rfl, w2, by decide, by decide, fun d2 H3 _ _ b3 w3 => ?_⟩
      have hP3 := hP.ts (TS.but b3 w2)
      have hD3 := b3 _ _ Dp hD
      refine ⟨_, _, rfl, rfl, _, rfl, iteB (fun _ => ?_) (fun _ => ?_)⟩
      · refine ⟨_, rfl, .inl ⟨rfl, _, SqL.of hD3⟩, _, rfl, _, rfl, (by show 2 ≤ sizeLine; decide), fun r nr => ?_⟩
        obtain ⟨t1, p1⟩ := push_pair (u, m + k) hD3 nr hP3
        have l0 := PairsAt.len hP
        refine ⟨D, zs, _, rfl, rfl, (same_new nr _) _ _ hD3, small1000 (by omega), zs ++ [.ref r], ps ++ [(u, m + k)], _, rfl, but_put ((b2.trans b3).trans (But.new nr)) nD, (w3.same (same_new nr _)).put Dp, upd_same, p1, fun q hq => ?_, by rw [List.length_append]; show ps.length + 1 ≤ 5 * u + (k + 1); omega⟩
        rcases List.mem_append.mp hq with hq | hq
        · exact hS q hq
        · rw [List.mem_singleton.mp hq]
          show u ≠ m + k ∧ u < n ∧ m + k < n
          omega
      · exact ⟨zs, ps, _, rfl, b2.trans b3, w3, hD3, hP3, hS, by omega⟩
    · rintro σ H2 ⟨zs, ps, s6, rfl, b2, w2, hD, hP, hS, hL⟩
      exact ⟨zs, ps, _, _, rfl, b2, w2, hD, hP, hS, by omega⟩
  · rintro σ H1 ⟨zs, ps, s5, s6, rfl, b1, w1, hD, hP, hS, hL⟩
    refine ⟨_, rfl, _, rfl, n, D, zs, ps, rfl, n9, SqL.of hD, hP, by rw [PairsAt.len hP]; omega, hS, fun x es H' s' g good _ => ?_⟩
    exact q x es H' (b1.trans (But.of s')) (w1.same s') g good
theorem off_pairs {K : PySem.W.Frag} {H : Hp} : ∀ {xs : List V} {ps : List E2}, PairsAt K H xs ps → ∀ x ∈ xs, ∃ p ∈ ps, PairAt K H x p
  | _, _, .nil => fun _ z => nomatch z
  | _, _, .cons a b => fun x hx => by
    rcases List.mem_cons.mp hx with rfl | hx
    · exact ⟨_, List.mem_cons_self .., a⟩
    · obtain ⟨p, h1, h2⟩ := off_pairs b x hx
      exact ⟨p, List.mem_cons_of_mem _ h1, h2⟩
theorem ok_beside (F : L2.Fun K "_law_beside" "_law_beside" sBeside f fd) (GP : FnOk P w K mg base CX0 1 fP dP ["n", "pairs"] (spOfPairs K)) (bP : L2.Binds K dP ["n", "pairs"] []) (kP : PySem.W.keepIn K (.ref fP) = true) (mP : mg "_law_of_pairs" = some (.ref fP)) (mr : mg "range" = none) (mli : mg "list" = none) :
    FnOk P w K mg base CX0 2 f fd ["one", "two", "is_joined"] (spBeside K) := by
  refine F.ok scBeside (fun vs H Q E h => ?_) (fun cdv A outer s H vs Q E hr h => ?_)
  · obtain ⟨x, y, n, m, es, fs, j, rfl, _⟩ := h
    rfl
  obtain ⟨x, y, n, m, es, fs, j, rfl, ⟨g1, e1, xs1, rfl, hg1, he1, hes⟩, good1, ⟨g2, e2, xs2, rfl, hg2, he2, hfs⟩, good2, nm, few, q⟩ := h
  refine ⟨_, pss_cons (ps_asg (pe_tup (pa_cons (pe_ix ix_tup (pv 0) pe_int (fun _ _ => rfl)) (pa_cons (pe_lc (own := [("u", 3), ("v", 6)]) (g := gTup K 2 (gCons (gName 3) (gCons (gName 6) gNil))) (tt := tYes) rfl scBeside.nd (pi_tup (pe_ix ix_tup (pv 1) pe_int (fun _ _ => rfl)))
      (blkOk_by (N := ["one", "two", "is_joined", "u", "n", "far", "v"]) (sc := defScope sBeside) (by decide +kernel)) (fun _ _ _ _ _ => pg_tup (by rfl) (pgs_cons (pg_name (i := 3) scBeside.nd rfl (Or.inl rfl)) (pgs_cons (pg_name (i := 6) scBeside.nd rfl (Or.inl rfl)) pgs_nil))) (fun _ _ _ _ _ => pts_nil)
      (fun _ _ _ _ _ => pe_tup (pa_cons (pe_op op_add (pe_ix (r := rIxT K) ix_tup (pv 0) pe_int (fun _ _ => rfl)) (pv 3)) (pa_cons (pe_op op_add (pe_ix (r := rIxT K) ix_tup (pv 0) pe_int (fun _ _ => rfl)) (pv 6)) pa_nil)))) pa_nil)))
      (pg_tup (by rfl) (pgs_cons (pg_name (i := 4) scBeside.nd rfl (.inr rfl)) (pgs_cons (pg_name (i := 5) scBeside.nd rfl (.inl rfl)) pgs_nil))))
    (pss_cons (ps_if (pt_val (pv 2)) (pss_one (ps_for PassesOwn.never rfl (pi_range1 rfl mr (pa_cons (pv 4) pa_nil)) (pg_name (i := 3) scBeside.nd rfl (.inr rfl))
        (pss_one (ps_set (i := 5) scBeside.nd rfl (.inl rfl) (pe_op op_cat (pv 5) (pe_lc (own := [("v", 6)]) (g := gName 6) (tt := tYes) rfl scBeside.nd (pi_range1 rfl mr (pa_cons (pe_ix ix_tup (pv 1) pe_int (fun _ _ => rfl)) pa_nil))
          (blkOk_by (N := ["one", "two", "is_joined", "u", "n", "far", "v"]) (sc := defScope sBeside) (by decide +kernel)) (fun _ _ _ _ _ => pg_name (i := 6) scBeside.nd rfl (Or.inl rfl)) (fun _ _ _ _ _ => pts_nil)
          (fun _ _ _ _ _ => pe_tup (pa_cons (pv 3) (pa_cons (pe_op op_add (pv 4) (pv 6)) pa_nil))))))))) pss_nil)
    (pss_one (ps_ret (pe_call GP hr (by rfl) mP kP bP .nil pass0 (pa_cons (pe_op op_add (pv 4) (pe_ix ix_tup (pv 1) pe_int (fun _ _ => rfl))) (pa_cons (pe_op op_cat (pe_callTy call_list_of (by rfl) mli (by decide +kernel) (pa_cons (pe_ix ix_tup (pv 0) pe_int (fun _ _ => rfl)) pa_nil)) (pv 5)) pa_nil)))))), ?_⟩
  refine ⟨_, rfl, g1, _, _, _, rfl, rfl, hg1, rfl, ?_⟩
  refine ⟨_, rfl, g2, _, _, _, rfl, rfl, hg2, rfl, e2, rfl, ⟨_, he2⟩, fun D nD => lc_tup (K := K) (a := e2) (xs := xs2)
      (fun i H2 => Same H H2 ∧ ∃ zs ps, H2 D = some (.lst zs) ∧ zs.length = i ∧ PairsAt K H2 zs ps ∧ ∀ p ∈ ps, p.1 ≠ p.2 ∧ p.1 < n + m ∧ p.2 < n + m) ⟨same_new nD _, [], [], upd_same, rfl, .nil, fun _ z => nomatch z⟩ ?_ ?_ ?_⟩
  · rintro i H1 _ ⟨s1, _⟩
    exact Same.tup s1 he2
  · rintro i x H2 hi ⟨s2, zs, ps, hD, lz, pz, pp⟩
    obtain ⟨p, hp, t1, rfl, ht1⟩ := PairsAt.get (hfs.same s2) hi
    obtain ⟨l1, l2⟩ := good2.lt p (List.mem_of_getElem? hp)
    have hg3 := Same.tup s2 hg1
    refine ⟨t1, _, rfl, ht1, rfl, _, _, rfl, _, _, rfl, rfl, ?_⟩
    refine ⟨rfl, ?_⟩
    refine ⟨_, rfl, g1, _, _, _, rfl, rfl, hg3, rfl, _, rfl, _, _, rfl, rfl, _, rfl, g1, _, _, _, rfl, rfl, hg3, rfl, _, rfl, _, _, rfl, rfl, (by show 2 ≤ sizeLine; decide), fun r nr => ?_⟩
    obtain ⟨t1, p1⟩ := push_pair (n + p.1, n + p.2) hD nr pz
    have li : i < xs2.length := (List.getElem?_eq_some_iff.mp hi).1
    have l3 : xs2.length ≤ 36 := by rw [PairsAt.len hfs]; exact good2.few
    refine ⟨zs, (same_new nr _) _ _ hD, small1000 (by omega), same_put (s2.trans (same_new nr _)) nD, _, _, upd_same, by rw [List.length_append]; show zs.length + 1 = i + 1; omega, p1, fun r hr => ?_⟩
    rcases List.mem_append.mp hr with hr | hr
    · exact pp r hr
    · rw [List.mem_singleton.mp hr]
      show n + p.1 ≠ n + p.2 ∧ n + p.1 < n + m ∧ n + p.2 < n + m
      omega
  rintro H2 ⟨s2, zs, ps, hD, lz, pz, pp⟩
  refine ⟨(by show 2 ≤ sizeLine; decide), fun r nr => ?_⟩
  have s3 := s2.trans (same_new nr (.tup [.int (n : Int), .ref D]))
  refine ⟨r, _, rfl, SqT.of upd_same, rfl, _, _, rfl, _, _, rfl, rfl, ?_⟩
  have lf : xs2.length = fs.length := PairsAt.len hfs
  have le : xs1.length ≤ 36 := by rw [PairsAt.len hes]; exact good1.few
  have n9 : n ≤ 9 := by omega
  have fin : ∀ (B : Addr) (ys : List V) (ps : List E2) (H3 : Hp) (xs1' : List V), Same H H3 → H3 B = some (.lst ys) → PairsAt K H3 ys ps → (∀ p ∈ ps, p.1 ≠ p.2 ∧ p.1 < n + m ∧ p.2 < n + m) → ps.length ≤ 27 →
      ∀ l, H3 l = none → (upd H3 l (.lst xs1)) B = some (.lst ys) ∧ xs1.length + ys.length ≤ sizeLine ∧ ∀ c, (upd H3 l (.lst xs1)) c = none → spOfPairs K [.int ((n + m : Nat) : Int), .ref c] (upd (upd H3 l (.lst xs1)) c (.lst (xs1 ++ ys))) Q E0 := by
    intro B ys ps H3 _ s4 hB hP pp few l nl
    have l2 := PairsAt.len hP
    have l1 := PairsAt.len hes
    have s5 := same_new nl (.lst xs1)
    refine ⟨s5 _ _ hB, small (by omega), fun c nc => ?_⟩
    have s6 := same_new nc (.lst (xs1 ++ ys))
    refine ⟨n + m, c, xs1 ++ ys, es ++ ps, rfl, nm, SqL.of upd_same, (hes.same (s4.trans (s5.trans s6))).append (hP.same (s5.trans s6)), by rw [List.length_append]; omega, fun p hp => ?_, fun x gs H' s7 g good _ => q x gs H' (s4.trans ((s5.trans s6).trans s7)) g good⟩
    rcases List.mem_append.mp hp with hp | hp
    · have z := good1.lt p hp
      omega
    · exact pp p hp
  refine ⟨_, rfl, _, rfl, iteB (fun _ => ?_) (fun _ => ?_)⟩
  · refine ⟨_, rfl, (n : Int), rfl, by omega, by omega, for_range (lo := 0) (n := ((n : Nat) : Int).toNat) (fun u σ H' => ∃ (B : Addr) (ys : List V) (ps : List E2) (s3 s6 : Option V), σ = [some (.ref g1), some (.ref g2), some (.bl j), s3, some (.int (n : Int)), some (.ref B), s6] ∧ Same H H' ∧ H' B = some (.lst ys) ∧
      PairsAt K H' ys ps ∧ (∀ p ∈ ps, p.1 ≠ p.2 ∧ p.1 < n + m ∧ p.2 < n + m) ∧ ps.length = fs.length + u * m) ⟨D, zs, ps, none, none, rfl, s3, (same_new nr _) _ _ hD, pz.same (same_new nr _), pp, by rw [← PairsAt.len pz, lz, lf, Nat.zero_mul, Nat.add_zero]⟩ ?_ ?_⟩
    · rintro u σ H3 lu ⟨B, ys, ps, s3, s6, rfl, s4, hB, hP, pp, lp⟩
      rw [Int.zero_add]
      have un : u < n := by omega
      have hg3 := Same.tup s4 hg2
      have um : u * m + m ≤ n * m := by
        rw [← Nat.succ_mul]
        exact Nat.mul_le_mul_right m (by omega)
      refine ⟨_, rfl, _, rfl, g2, _, _, _, rfl, rfl, hg3, rfl, (m : Int), rfl, by omega, by omega, fun D nD => lc_range (lo := 0) (n := ((m : Nat) : Int).toNat)
        (fun k H2 => Same H3 H2 ∧ ∃ zs ps, H2 D = some (.lst zs) ∧ ps.length = k ∧ PairsAt K H2 zs ps ∧ ∀ p ∈ ps, p.1 ≠ p.2 ∧ p.1 < n + m ∧ p.2 < n + m) ⟨same_new nD _, [], [], upd_same, rfl, .nil, fun _ z => nomatch z⟩ ?_ ?_⟩
      · rintro k H4 lk ⟨s5, zs, ps, hD, lz, pz, pp⟩
        rw [Int.zero_add]
        refine ⟨rfl, ?_⟩
        refine ⟨_, rfl, _, rfl, _, rfl, _, _, rfl, rfl, (by show 2 ≤ sizeLine; decide), fun r nr => ?_⟩
        obtain ⟨t1, p1⟩ := push_pair (u, n + k) hD nr pz
        have l0 := PairsAt.len pz
        refine ⟨zs, (same_new nr _) _ _ hD, small1000 (by omega), same_put (s5.trans (same_new nr _)) nD, _, _, upd_same, by rw [List.length_append]; show ps.length + 1 = k + 1; omega, p1, fun r hr => ?_⟩
        rcases List.mem_append.mp hr with hr | hr
        · exact pp r hr
        · rw [List.mem_singleton.mp hr]
          show u ≠ n + k ∧ u < n + m ∧ n + k < n + m
          omega
      · rintro H4 ⟨s5, zs, ps2, hD, lz, pz, pp2⟩
        have l0 := PairsAt.len pz
        have l1 := PairsAt.len hP
        refine ⟨B, D, ys, zs, rfl, rfl, s5 _ _ hB, hD, small (by omega), fun c nc => ?_⟩
        have s7 := same_new nc (.lst (ys ++ zs))
        refine ⟨c, _, ps ++ ps2, _, _, rfl, s4.trans (s5.trans s7), upd_same, (hP.same (s5.trans s7)).append (pz.same s7), fun p hp => ?_, ?_⟩
        · rcases List.mem_append.mp hp with hp | hp
          · exact pp p hp
          · exact pp2 p hp
        · rw [List.length_append, lp, lz, Nat.succ_mul]
          omega
    · rintro σ H3 ⟨B, ys, ps, s3, s6, rfl, s4, hB, hP, pp, lp⟩
      rw [show ((n : Nat) : Int).toNat = n by omega] at lp
      refine ⟨_, rfl, _, rfl, g2, _, _, _, rfl, rfl, Same.tup s4 hg2, rfl, _, _, rfl, rfl, _, rfl, g1, _, _, _, rfl, rfl, Same.tup s4 hg1, rfl, e1, _, rfl, .inr (Same.tup s4 he1), fun l nl => ?_⟩
      obtain ⟨x1, x2, x3⟩ := fin B ys ps H3 ys s4 hB hP pp (by omega) l nl
      exact ⟨_, rfl, l, B, _, _, rfl, rfl, upd_same, x1, x2, x3⟩
  · refine ⟨_, rfl, _, rfl, g2, _, _, _, rfl, rfl, Same.tup s3 hg2, rfl, _, _, rfl, rfl, _, rfl, g1, _, _, _, rfl, rfl, Same.tup s3 hg1, rfl, e1, _, rfl, .inr (Same.tup s3 he1), fun l nl => ?_⟩
    obtain ⟨x1, x2, x3⟩ := fin D zs ps _ zs s3 ((same_new nr _) _ _ hD) (pz.same (same_new nr _)) pp (by rw [← PairsAt.len pz]; omega) l nl
    exact ⟨_, rfl, l, D, _, _, rfl, rfl, upd_same, x1, x2, x3⟩
end
end My

set_option maxHeartbeats 4000000
namespace My
open PySem PySem.Spec PyProof.Rows L2
abbrev sGrown : Stmt := top (22 + 13)
abbrev sGraph : Stmt := top (22 + 14)
theorem scGrown : FnScope ["well", "graph", "n", "v", "twin", "is_twin", "u", "pairs"] ["well", "graph", "n"] (defScope sGrown) := ⟨rfl, rfl, rfl, by decide +kernel, rfl, by decide +kernel, by decide +kernel⟩
theorem scGraph : FnScope ["well", "most", "n", "way", "found"] ["well", "most"] (defScope sGraph) := ⟨rfl, rfl, rfl, by decide +kernel, rfl, by decide +kernel, by decide +kernel⟩
def spGrown (K : PySem.W.Frag) : Sp := fun vs H Q _ => ∃ (p : Addr) (x : V) (m n : Nat) (es : List E2), vs = [.ref p, x, .int (n : Int)] ∧ Wl H p ∧ GraphAt K H x m es ∧ Good m es ∧ 1 ≤ m ∧ m ≤ n ∧ n ≤ 9 ∧ spGr K n p H Q
def spGraph (K : PySem.W.Frag) : Sp := fun vs H Q _ => ∃ (p : Addr) (most : Nat), vs = [.ref p, .int (most : Int)] ∧ Wl H p ∧ most ≤ 9 ∧ ∀ (x : V) (n : Nat) (es : List E2) (H' : Hp), n ≤ most → But p H H' → Wl H' p → GraphAt K H' x n es → Good n es → Q x H'
theorem good_left {n : Nat} (n9 : n ≤ 9) (es : List E2) : Good n (leftP n es) := Good.filter n9 _
theorem But.none {p D : Addr} {H H1 : Hp} (b : But p H H1) (w : Wl H1 p) (n : H1 D = none) : H D = none := by
  cases e : H D with
  | none => rfl
  | some o =>
    rw [b _ _ (w.ne n) e] at n
    cases n
theorem joinS {i : Nat} {σ : L2.St} {N : L2.St → Hp → Prop} {G : Prop} {R : V → Hp → Prop} (h : (∀ v H, R v H → gName i v σ H N) → G) (g : ∀ v H, R v H → gName i v σ H N) : G := h g
theorem joinT {N : L2.St → Hp → Prop} {G : Prop} {R : L2.St → Hp → Prop} (h : (∀ σ H, R σ H → N σ H) → G) (g : ∀ σ H, R σ H → N σ H) : G := h g
section
variable {P : Program} {w : World} {K : PySem.W.Frag} {mg : Str → Option Value} {base : Heap} {f fD fP fK fB fU fR fS fF fG fO fA fC : Addr} {fd dD dP dK dB dU dR dS dF dG dO dA dC : FuncData}
theorem ok_folded (F : L2.Fun K "_law_folded" "_law_folded" sFolded f fd) (GD : FnOk P w K mg base CX0 1 fD dD ["well", "many"] spDraw) (bD : L2.Binds K dD ["well", "many"] []) (kD : PySem.W.keepIn K (.ref fD) = true) (mD : mg "_law_draw" = some (.ref fD))
    (GB : FnOk P w K mg base CX0 2 fB dB ["one", "two", "is_joined"] (spBeside K)) (bB : L2.Binds K dB ["one", "two", "is_joined"] []) (kB : PySem.W.keepIn K (.ref fB) = true) (mB : mg "_law_beside" = some (.ref fB))
    (GU : FnOk P w K mg base CX0 1 fU dU ["graph"] (spTurned K)) (bU : L2.Binds K dU ["graph"] []) (kU : PySem.W.keepIn K (.ref fU) = true) (mU : mg "_law_turned" = some (.ref fU)) (mr : mg "range" = none) :
    FnOk P w K mg base CX0 3 f fd ["well", "n"] (spFolded K) := by
  refine F.ok scFolded (fun vs H Q E h => ?_) (fun cdv A outer s H vs Q E hr h => ?_)
  · obtain ⟨p, n, rfl, _⟩ := h
    rfl
  obtain ⟨p, n, rfl, hW, n1, n9, q⟩ := h
  refine ⟨_, pss_cons (ps_set (i := 2) scFolded.nd rfl (.inl rfl) (pe_tup (pa_cons pe_int (pa_cons (pe_tup pa_nil) pa_nil))))
    (pss_cons (ps_for PassesOwn.never rfl (pi_range1 rfl mr (pa_cons (pe_op op_sub (pv 1) pe_int) pa_nil)) (pg_name (i := 3) scFolded.nd rfl (.inl rfl))
      (pss_cons (ps_set (i := 2) scFolded.nd rfl (.inl rfl) (pe_call GB hr (by rfl) mB kB bB .nil pass0 (pa_cons (pv 2) (pa_cons (pe_tup (pa_cons pe_int (pa_cons (pe_tup pa_nil) pa_nil))) (pa_cons (pe_cmpR op_eq (pe_call GD (hr.mono (by decide)) (by rfl) mD kD bD .nil pass0 (pa_cons (pv 0) (pa_cons pe_int pa_nil))) pe_int (nomark _)) pa_nil)))))
      (pss_one (ps_if (PW.pt (pw_and (pt_cmpR op_gt (pe_ix ix_tup (pv 2) pe_int (fun _ _ => rfl)) pe_int (nomark _)) (pw_and1 (pt_cmpR op_eq (pe_call GD (hr.mono (by decide)) (by rfl) mD kD bD .nil pass0 (pa_cons (pv 0) (pa_cons pe_int pa_nil))) pe_int (nomark _)))))
        (pss_one (ps_set (i := 2) scFolded.nd rfl (.inl rfl) (pe_call GU (hr.mono (by decide)) (by rfl) mU kU bU .nil pass0 (pa_cons (pv 2) pa_nil)))) pss_nil))))
    (pss_one (ps_ret (pv 2)))), ?_⟩
  have one : ∀ (H1 : Hp) (e : Addr) (t : Addr), H1 e = none → (upd H1 e (.tup [])) t = none → GraphAt K (upd (upd H1 e (.tup [])) t (.tup [.int 1, .ref e])) (.ref t) 1 [] := fun H1 e t ne nt =>
    ⟨t, e, [], rfl, SqT.of upd_same, SqT.of ((same_new nt _) _ _ upd_same), .nil⟩
  have g1 : Good 1 [] := Good.nil (by decide)
  refine ⟨(by show 0 ≤ sizeLine; decide), fun e ne => ?_⟩
  refine ⟨(by show 2 ≤ sizeLine; decide), fun t nt => ?_⟩
  have s1 := (same_new ne (.tup [])).trans (same_new nt (.tup [.int 1, .ref e]))
  refine ⟨_, rfl, _, _, rfl, rfl, ((n : Int) - 1), rfl, by omega, by omega, for_range (lo := 0) (n := ((n : Int) - 1).toNat) (fun i σ H' => ∃ (x : V) (es : List E2) (s3 : Option V), σ = [some (.ref p), some (.int (n : Int)), some x, s3] ∧ But p H H' ∧ Wl H' p ∧ GraphAt K H' x (i + 1) es ∧ Good (i + 1) es)
    ⟨_, [], none, rfl, But.of s1, hW.same s1, one H e t ne nt, g1⟩ ?_ ?_⟩
  · rintro i σ H1 li ⟨x, es, s3, rfl, b1, w1, hx, gx⟩
    refine ⟨_, rfl, (by show 0 ≤ sizeLine; decide), fun e ne => ?_⟩
    refine ⟨(by show 2 ≤ sizeLine; decide), fun t nt => ?_⟩
    have s2 := (same_new ne (.tup [])).trans (same_new nt (.tup [.int 1, .ref e]))
    have w2 := w1.same s2
    refine ⟨_, rfl, p, _, rfl, w2, by decide, by decide, fun d H2 _ _ b2 w3 => ?_⟩
    have t2 := TS.but b2 w2
    refine ⟨rfl, x, .ref t, i + 1, 1, es, [], _, rfl, (hx.same s2).ts t2, gx, (one H1 e t ne nt).ts t2, g1, by omega, by show 0 + (i + 1) * 1 ≤ 27; omega, fun z gs H3 s3 hz gz => ?_⟩
    have b3 := b1.trans ((But.of s2).trans (b2.trans (But.of s3)))
    have w4 := w3.same s3
    have hz0 := hz
    obtain ⟨tz, ez, xz, rfl, hz1, hz2, hz3⟩ := hz
    refine ⟨_, rfl, tz, _, _, _, rfl, rfl, hz1, rfl, _, _, rfl, rfl, _, rfl, iteB (fun _ => ?_) (fun _ => iteF ?_)⟩
    · refine ⟨_, rfl, p, _, rfl, w4, by decide, by decide, fun d2 H4 _ _ b4 w5 => ?_⟩
      have t4 := TS.but b4 w4
      refine ⟨rfl, _, rfl, iteB (fun _ => ?_) (fun _ => ?_)⟩
      · refine ⟨_, rfl, .ref tz, i + 1 + 1, gs, rfl, hz0.ts t4, gz.n9, fun y H5 s5 hy => ?_⟩
        exact ⟨y, _, _, rfl, b3.trans (b4.trans (But.of s5)), w5.same s5, hy, good_left gz.n9 gs⟩
      · exact ⟨_, _, _, rfl, b3.trans b4, w5, hz0.ts t4, gz⟩
    · exact ⟨_, _, _, rfl, b3, w4, hz0, gz⟩
  · rintro σ H1 ⟨x, es, s3, rfl, b1, w1, hx, gx⟩
    rw [show ((n : Int) - 1).toNat + 1 = n by omega] at hx gx
    exact ⟨_, rfl, q x es H1 b1 w1 hx gx⟩
theorem ok_grown (F : L2.Fun K "_law_grown" "_law_grown" sGrown f fd) (GD : FnOk P w K mg base CX0 1 fD dD ["well", "many"] spDraw) (bD : L2.Binds K dD ["well", "many"] []) (kD : PySem.W.keepIn K (.ref fD) = true) (mD : mg "_law_draw" = some (.ref fD))
    (GP : FnOk P w K mg base CX0 1 fP dP ["n", "pairs"] (spOfPairs K)) (bP : L2.Binds K dP ["n", "pairs"] []) (kP : PySem.W.keepIn K (.ref fP) = true) (mP : mg "_law_of_pairs" = some (.ref fP)) (mr : mg "range" = none) (mli : mg "list" = none) (mn : mg "min" = none) (mx : mg "max" = none) :
    FnOk P w K mg base CX0 2 f fd ["well", "graph", "n"] (spGrown K) := by
  refine F.ok scGrown (fun vs H Q E h => ?_) (fun cdv A outer s H vs Q E hr h => ?_)
  · obtain ⟨p, x, m, n, es, rfl, _⟩ := h
    rfl
  obtain ⟨p, x, m, n, es, rfl, hW, hx, gx, m1, mn', n9, q⟩ := h
  refine ⟨_, pss_cons (ps_for PassesOwn.never rfl (pi_range2 (by rfl) mr (pa_cons (pe_ix ix_tup (pv 1) pe_int (fun _ _ => rfl)) (pa_cons (pv 2) pa_nil))) (pg_name (i := 3) scGrown.nd rfl (.inr rfl))
      (pss_cons (ps_asg (pe_tup (pa_cons (pe_call GD hr (by rfl) mD kD bD .nil pass0 (pa_cons (pv 0) (pa_cons (pv 3) pa_nil))) (pa_cons (pe_cmpR op_eq (pe_call GD hr (by rfl) mD kD bD .nil pass0 (pa_cons (pv 0) (pa_cons pe_int pa_nil))) pe_int (nomark _)) pa_nil)))
          (pg_tup (by rfl) (pgs_cons (pg_name (i := 4) scGrown.nd rfl (.inr rfl)) (pgs_cons (pg_name (i := 5) scGrown.nd rfl (.inl rfl)) pgs_nil))))
      (pss_cons (ps_set (i := 7) scGrown.nd rfl (.inl rfl) (pe_ifExp (pt_val (pv 5)) (pe_lc (own := [("u", 6)]) (g := gName 6) rfl scGrown.nd (pi_range1 rfl mr (pa_cons (pv 3) pa_nil))
          (blkOk_by (N := ["well", "graph", "n", "v", "twin", "is_twin", "u", "pairs"]) (sc := defScope sGrown) (by decide +kernel)) (fun _ _ _ _ _ => pg_name (i := 6) scGrown.nd rfl (Or.inl rfl))
          (fun _ _ _ _ _ => pts_one (pt_cmpR (r := rInP id K) (op_inP hr.units) (pe_tup (pa_cons (pe_callB (id := "min") (r := fun xs H Q => ∃ i j, xs = [.int i, .int j] ∧ Q (.int (if j < i then j else i)) H) (call_min2 rfl) (by rfl) mn (by decide +kernel) (pa_cons (pv 6) (pa_cons (pv 4) pa_nil)))
              (pa_cons (pe_callB (id := "max") (r := fun xs H Q => ∃ i j, xs = [.int i, .int j] ∧ Q (.int (if j > i then j else i)) H) (call_max2 rfl) (by rfl) mx (by decide +kernel) (pa_cons (pv 6) (pa_cons (pv 4) pa_nil))) pa_nil))) (pe_ix (r := rIxT K) ix_tup (pv 1) pe_int (fun _ _ => rfl)) (by rfl)))
          (fun _ _ _ _ _ => pe_tup (pa_cons (pv 6) (pa_cons (pv 3) pa_nil)))) (pe_lst pa_nil)))
      (pss_cons (ps_for PassesOwn.never rfl (pi_range1 rfl mr (pa_cons (pv 3) pa_nil)) (pg_name (i := 6) scGrown.nd rfl (.inl rfl))
        (pss_one (ps_if (PW.pt (pw_and (pt_not (pt_val (pv 5))) (pw_and1 (pt_cmpR op_eq (pe_call GD hr (by rfl) mD kD bD .nil pass0 (pa_cons (pv 0) (pa_cons pe_int pa_nil))) pe_int (nomark _)))))
          (pss_one (ps_expr (pe_bm PySem.F.plainAttrs_list PySem.F.slot_list_append PySem.F.type_list_append mt_append (pv 7) (pa_cons (pe_tup (pa_cons (pv 6) (pa_cons (pv 3) pa_nil))) pa_nil)))) pss_nil)))
      (pss_one (ps_set (i := 1) scGrown.nd rfl (.inr rfl) (pe_call GP hr (by rfl) mP kP bP .nil pass0 (pa_cons (pe_op op_add (pv 3) pe_int) (pa_cons (pe_op op_cat (pe_callTy call_list_of (by rfl) mli (by decide +kernel) (pa_cons (pe_ix ix_tup (pv 1) pe_int (fun _ _ => rfl)) pa_nil)) (pv 7)) pa_nil)))))))))
    (pss_one (ps_ret (pv 1))), ?_⟩
  have hx0 := hx
  obtain ⟨g0, e0, xs0, rfl, hg0, he0, hes0⟩ := hx
  refine ⟨_, rfl, g0, _, _, _, rfl, rfl, hg0, rfl, _, rfl, (m : Int), (n : Int), rfl, ⟨by omega, by omega, by omega, by omega⟩, for_range (lo := (m : Int)) (n := ((n : Int) - (m : Int)).toNat)
    (fun i σ H' => ∃ (x : V) (es : List E2) (s3 s4 s5 s6 s7 : Option V), σ = [some (.ref p), some x, some (.int (n : Int)), s3, s4, s5, s6, s7] ∧ But p H H' ∧ Wl H' p ∧ GraphAt K H' x (m + i) es ∧ Good (m + i) es)
    ⟨_, es, none, none, none, none, none, rfl, But.refl _ _, hW, hx0, gx⟩ ?_ ?_⟩
  · rintro i σ H1 li ⟨x, es, s3, s4, s5, s6, s7, rfl, b1, w1, hx, gx⟩
    rw [show ((m : Int) + (i : Int)) = ((m + i : Nat) : Int) by omega]
    obtain ⟨v, hv⟩ : ∃ v, v = m + i := ⟨_, rfl⟩
    rw [← hv] at hx gx ⊢
    have v0 : 0 < v := by omega
    have vn : v < n := by omega
    refine ⟨_, rfl, _, rfl, p, _, rfl, w1, by omega, by omega, fun tw H2 tw0 tw1 b2 w2 => ?_⟩
    have t2 := TS.but b2 w1
    refine ⟨_, rfl, p, _, rfl, w2, by decide, by decide, fun d H3 _ _ b3 w3 => ?_⟩
    have t3 := TS.but b3 w2
    obtain ⟨tn, rfl⟩ : ∃ tn : Nat, tw = (tn : Int) := ⟨tw.toNat, by omega⟩
    refine ⟨rfl, (by show 2 ≤ sizeLine; decide), fun r nr => ?_⟩
    refine ⟨r, _, rfl, SqT.of upd_same, rfl, _, _, rfl, _, _, rfl, rfl, ?_⟩
    generalize hd : (decide (V.int d = V.int 0)) = istw
    have s4 := same_new nr (.tup [.int (tn : Int), .bl istw])
    generalize he4 : upd H3 r (.tup [.int (tn : Int), .bl istw]) = H4 at s4 ⊢
    have b4 : But p H H4 := (b1.trans b2).trans (b3.trans (But.of s4))
    have w4 : Wl H4 p := w3.same s4
    have hx4 : GraphAt K H4 x v es := ((hx.ts t2).ts t3).same s4
    refine' joinS (i := 7) (R := fun y H5 => ∃ (D : Addr) (zs : List V) (ps : List E2), y = .ref D ∧ H5 D = some (.lst zs) ∧ zs.length ≤ v ∧ PairsAt K H5 zs ps ∧ (∀ q ∈ ps, q.1 ≠ q.2 ∧ q.1 < v + 1 ∧ q.2 < v + 1) ∧ Same H4 H5 ∧ H4 D = none) (fun go => ?_) ?_
    rotate_left 2
    · refine ⟨_, rfl, _, rfl, iteB (fun _ => ?_) (fun _ => ?_)⟩
      · refine ⟨_, rfl, (v : Int), rfl, by omega, by omega, fun D nD => lc_range (lo := 0) (n := ((v : Nat) : Int).toNat)
          (fun k H2 => Same H4 H2 ∧ ∃ zs ps, H2 D = some (.lst zs) ∧ zs.length ≤ k ∧ PairsAt K H2 zs ps ∧ ∀ p ∈ ps, p.1 ≠ p.2 ∧ p.1 < v + 1 ∧ p.2 < v + 1) ⟨same_new nD _, [], [], upd_same, Nat.le_refl _, .nil, fun _ z => nomatch z⟩ ?_ ?_⟩
        · rintro k H5 lk ⟨s5, zs, ps, hD, lz, pz, pp⟩
          rw [Int.zero_add]
          refine ⟨rfl, ?_⟩
          refine ⟨_, rfl, _, rfl, _, _, rfl, _, rfl, _, rfl, _, _, rfl, (by show 2 ≤ sizeLine; decide), fun r2 nr2 => ?_⟩
          have e1 : (if ((tn : Nat) : Int) < ((k : Nat) : Int) then ((tn : Nat) : Int) else ((k : Nat) : Int)) = ((min k tn : Nat) : Int) := by split <;> omega
          have e2 : (if ((tn : Nat) : Int) > ((k : Nat) : Int) then ((tn : Nat) : Int) else ((k : Nat) : Int)) = ((max k tn : Nat) : Int) := by split <;> omega
          rw [e1, e2] at *
          have s6 := same_new nr2 (.tup [.int ((min k tn : Nat) : Int), .int ((max k tn : Nat) : Int)])
          obtain ⟨g, e, xs, rfl, hg, he, hes⟩ := hx4.same (s5.trans s6)
          refine ⟨_, rfl, g, _, _, _, rfl, rfl, hg, rfl, (min k tn, max k tn), e, xs, es, ⟨r2, rfl, SqT.of upd_same⟩, rfl, he, hes, _, rfl, iteB (fun _ => ?_) (fun _ => ?_)⟩
          · refine ⟨_, rfl, _, rfl, (by show 2 ≤ sizeLine; decide), fun r3 nr3 => ?_⟩
            have hD6 := s6 _ _ hD
            obtain ⟨t1, p1⟩ := push_pair (k, v) hD6 nr3 (pz.same s6)
            refine ⟨zs, (same_new nr3 _) _ _ hD6, small1000 (by omega), same_put (s5.trans (s6.trans (same_new nr3 _))) nD, _, _, upd_same, by rw [List.length_append]; show zs.length + 1 ≤ k + 1; omega, p1, fun q hq => ?_⟩
            rcases List.mem_append.mp hq with hq | hq
            · exact pp q hq
            · rw [List.mem_singleton.mp hq]
              show k ≠ v ∧ k < v + 1 ∧ v < v + 1
              omega
          · exact ⟨s5.trans s6, zs, ps, s6 _ _ hD, by omega, pz.same s6, pp⟩
        · rintro H5 ⟨s5, zs, ps, hD, lz, pz, pp⟩
          exact go _ _ ⟨D, zs, ps, rfl, hD, by omega, pz, pp, s5, nD⟩
      · refine ⟨(by show 0 ≤ sizeLine; decide), fun D nD => ?_⟩
        exact go _ _ ⟨D, [], [], rfl, upd_same, by show 0 ≤ v; omega, .nil, (fun _ z => nomatch z), same_new nD _, nD⟩
    rintro _ H5 ⟨D, zs, ps, rfl, hD, lz, pz, pp, s5, nD⟩
    have nD0 : H D = none := b4.none w4 nD
    have Dp : D ≠ p := w4.ne nD
    refine ⟨_, rfl, (v : Int), rfl, by omega, by omega, for_range (lo := 0) (n := ((v : Nat) : Int).toNat)
      (fun k σ H' => ∃ (zs : List V) (ps : List E2) (s6 : Option V), σ = [some (.ref p), some x, some (.int (n : Int)), some (.int (v : Int)), some (.int (tn : Int)), some (.bl istw), s6, some (.ref D)] ∧ But p H H' ∧ Wl H' p ∧ H' D = some (.lst zs) ∧ zs.length ≤ v + k ∧ GraphAt K H' x v es ∧
        PairsAt K H' zs ps ∧ (∀ q ∈ ps, q.1 ≠ q.2 ∧ q.1 < v + 1 ∧ q.2 < v + 1)) ⟨zs, ps, s6, rfl, b4.trans (But.of s5), w4.same s5, hD, by omega, hx4.same s5, pz, pp⟩ ?_ ?_⟩
    · rintro k σ H6 lk ⟨zs, ps, s6, rfl, b6, w6, hD, lz, hx6, pz, pp⟩
      rw [Int.zero_add]
      refine ⟨_, rfl, _, rfl, iteB (fun _ => ?_) (fun _ => iteF ?_)⟩
      · refine ⟨_, rfl, p, _, rfl, w6, by decide, by decide, fun d2 H7 _ _ b7 w7 => ?_⟩
        have t7 := TS.but b7 w6
        have hD7 := b7 _ _ Dp hD
        refine ⟨rfl, _, rfl, iteB (fun _ => ?_) (fun _ => ?_)⟩
        · refine ⟨_, rfl, .inl ⟨rfl, _, SqL.of hD7⟩, _, rfl, _, rfl, (by show 2 ≤ sizeLine; decide), fun r nr => ?_⟩
          obtain ⟨t1, p1⟩ := push_pair (k, v) hD7 nr (pz.ts t7)
          refine ⟨D, zs, _, rfl, rfl, (same_new nr _) _ _ hD7, small1000 (by omega), zs ++ [.ref r], ps ++ [(k, v)], _, rfl, but_put ((b6.trans b7).trans (But.new nr)) nD0, (w7.same (same_new nr _)).put Dp, upd_same, by rw [List.length_append]; show zs.length + 1 ≤ v + (k + 1); omega, (hx6.ts t7).ts t1, p1, fun q hq => ?_⟩
          rcases List.mem_append.mp hq with hq | hq
          · exact pp q hq
          · rw [List.mem_singleton.mp hq]
            show k ≠ v ∧ k < v + 1 ∧ v < v + 1
            omega
        · exact ⟨zs, ps, _, rfl, b6.trans b7, w7, hD7, by omega, hx6.ts t7, pz.ts t7, pp⟩
      · exact ⟨zs, ps, _, rfl, b6, w6, hD, by omega, hx6, pz, pp⟩
    · rintro σ H6 ⟨zs, ps, s6, rfl, b6, w6, hD, lz, hx6, pz, pp⟩
      rw [show ((v : Nat) : Int).toNat = v by omega] at lz
      obtain ⟨g, e, xs, rfl, hg, he, hes⟩ := hx6
      have l1 := PairsAt.len hes
      have l2 := gx.few
      have l3 := PairsAt.len pz
      refine ⟨_, rfl, _, _, rfl, rfl, _, rfl, g, _, _, _, rfl, rfl, hg, rfl, e, _, rfl, .inr he, fun l nl => ?_⟩
      have s7 := same_new nl (.lst xs)
      refine ⟨_, rfl, l, D, _, _, rfl, rfl, upd_same, s7 _ _ hD, small (by omega), fun c nc => ?_⟩
      have s8 := same_new nc (.lst (xs ++ zs))
      refine ⟨v + 1, c, xs ++ zs, es ++ ps, rfl, by omega, SqL.of upd_same, (hes.same (s7.trans s8)).append (pz.same (s7.trans s8)), by rw [List.length_append]; omega, fun q hq => ?_, fun y gs H' s9 hy gy _ => ?_⟩
      · rcases List.mem_append.mp hq with hq | hq
        · have z := gx.lt q hq
          omega
        · exact pp q hq
      · have s10 := (s7.trans s8).trans s9
        exact ⟨y, gs, _, _, _, _, _, rfl, b6.trans (But.of s10), w6.same s10, by rw [show m + (i + 1) = v + 1 by omega]; exact hy, by rw [show m + (i + 1) = v + 1 by omega]; exact gy⟩
  · rintro σ H1 ⟨x, es, s3, s4, s5, s6, s7, rfl, b1, w1, hx, gx⟩
    rw [show m + ((n : Int) - (m : Int)).toNat = n by omega] at hx gx
    exact ⟨_, rfl, q x es H1 b1 w1 hx gx⟩
theorem ok_graph (F : L2.Fun K "_law_graph" "_law_graph" sGraph f fd) (GD : FnOk P w K mg base CX0 1 fD dD ["well", "many"] spDraw) (bD : L2.Binds K dD ["well", "many"] []) (kD : PySem.W.keepIn K (.ref fD) = true) (mD : mg "_law_draw" = some (.ref fD))
    (GA : FnOk P w K mg base CX0 3 fA dA ["well", "n"] (spRandom K)) (bA : L2.Binds K dA ["well", "n"] []) (kA : PySem.W.keepIn K (.ref fA) = true) (mA : mg "_law_random" = some (.ref fA))
    (GS : FnOk P w K mg base CX0 2 fS dS ["well", "n"] (spRandom K)) (bS : L2.Binds K dS ["well", "n"] []) (kS : PySem.W.keepIn K (.ref fS) = true) (mS : mg "_law_sides" = some (.ref fS))
    (GF : FnOk P w K mg base CX0 3 fF dF ["well", "n"] (spFolded K)) (bF : L2.Binds K dF ["well", "n"] []) (kF : PySem.W.keepIn K (.ref fF) = true) (mF : mg "_law_folded" = some (.ref fF))
    (GG : FnOk P w K mg base CX0 2 fG dG ["well", "graph", "n"] (spGrown K)) (bG : L2.Binds K dG ["well", "graph", "n"] []) (kG : PySem.W.keepIn K (.ref fG) = true) (mG : mg "_law_grown" = some (.ref fG))
    (GR : FnOk P w K mg base CX0 2 fR dR ["many"] (spRound K)) (bR : L2.Binds K dR ["many"] []) (kR : PySem.W.keepIn K (.ref fR) = true) (mR : mg "_law_round" = some (.ref fR))
    (GK : FnOk P w K mg base CX0 2 fK dK ["well", "some"] (spPick K)) (bK : L2.Binds K dK ["well", "some"] []) (kK : PySem.W.keepIn K (.ref fK) = true) (mK : mg "_law_pick" = some (.ref fK))
    (GU : FnOk P w K mg base CX0 1 fU dU ["graph"] (spTurned K)) (bU : L2.Binds K dU ["graph"] []) (kU : PySem.W.keepIn K (.ref fU) = true) (mU : mg "_law_turned" = some (.ref fU))
    (GC : FnOk P w K mg base CX0 2 fC dC ["graph", "names"] (spCalled K)) (bC : L2.Binds K dC ["graph", "names"] []) (kC : PySem.W.keepIn K (.ref fC) = true) (mC : mg "_law_called" = some (.ref fC))
    (GO : FnOk P w K mg base CX0 2 fO dO ["well", "many"] (spOrder K)) (bO : L2.Binds K dO ["well", "many"] []) (kO : PySem.W.keepIn K (.ref fO) = true) (mO : mg "_law_order" = some (.ref fO))
    (mx : mg "max" = none) : FnOk P w K mg base CX0 4 f fd ["well", "most"] (spGraph K) := by
  refine F.ok scGraph (fun vs H Q E h => ?_) (fun cdv A outer s H vs Q E hr h => ?_)
  · obtain ⟨p, n, rfl, _⟩ := h
    rfl
  obtain ⟨p, most, rfl, hW, m9, q⟩ := h
  refine ⟨_, (pss_cons (ps_par (by rfl) scGraph.nd (i := 2) (j := 3) rfl rfl (by decide) rfl rfl (pa_cons (pe_call GD (hr.mono (by decide)) (by rfl) mD kD bD .nil pass0 (pa_cons (pv 0) (pa_cons (pe_op op_add (pv 1) pe_int) pa_nil))) (pa_cons (pe_call GD (hr.mono (by decide)) (by rfl) mD kD bD .nil pass0 (pa_cons (pv 0) (pa_cons pe_int pa_nil))) pa_nil)) (by rfl))
    (pss_cons (ps_set (i := 2) scGraph.nd rfl (.inl rfl) (pe_ifExp (pt_cmpR op_eq (pe_call GD (hr.mono (by decide)) (by rfl) mD kD bD .nil pass0 (pa_cons (pv 0) (pa_cons pe_int pa_nil))) pe_int (nomark _)) (pv 2) (pe_callB (call_max2 rfl) (by rfl) mx (by decide +kernel) (pa_cons (pv 2) (pa_cons (pe_op op_sub (pv 1) (pe_call GD (hr.mono (by decide)) (by rfl) mD kD bD .nil pass0 (pa_cons (pv 0) (pa_cons pe_int pa_nil)))) pa_nil)))))
    (pss_cons (ps_set (i := 4) scGraph.nd rfl (.inl rfl) (pe_call GA (hr.mono (by decide)) (by rfl) mA kA bA .nil pass0 (pa_cons (pv 0) (pa_cons (pv 2) pa_nil))))
    (pss_cons (ps_if (pt_cmpR op_eq (pv 3) pe_int (nomark _)) (pss_one (ps_set (i := 4) scGraph.nd rfl (.inl rfl) (pe_call GS (hr.mono (by decide)) (by rfl) mS kS bS .nil pass0 (pa_cons (pv 0) (pa_cons (pv 2) pa_nil))))) pss_nil)
    (pss_cons (ps_if (PW.pt (pw_and (pt_cmpR op_eq (pv 3) pe_int (nomark _)) (pw_and1 (pt_cmpR op_gt (pv 2) pe_int (nomark _))))) (pss_one (ps_set (i := 4) scGraph.nd rfl (.inl rfl) (pe_call GF (hr.mono (by decide)) (by rfl) mF kF bF .nil pass0 (pa_cons (pv 0) (pa_cons (pv 2) pa_nil))))) pss_nil)
    (pss_cons (ps_if (PW.pt (pw_and (pt_cmpR op_in_seq (pv 3) (pe_tup (pa_cons pe_int (pa_cons pe_int (pa_cons pe_int pa_nil)))) (by rfl)) (pw_and1 (pt_cmpR op_gt (pv 1) pe_int (nomark _))))) (pss_one (ps_set (i := 4) scGraph.nd rfl (.inl rfl) (pe_call GG (hr.mono (by decide)) (by rfl) mG kG bG .nil pass0 (pa_cons (pv 0) (pa_cons (pe_call GR (hr.mono (by decide)) (by rfl) mR kR bR .nil pass0 (pa_cons pe_int pa_nil)) (pa_cons (pe_op op_add pe_int (pe_call GD (hr.mono (by decide)) (by rfl) mD kD bD .nil pass0 (pa_cons (pv 0) (pa_cons (pe_op op_sub (pv 1) pe_int) pa_nil)))) pa_nil)))))) pss_nil)
    (pss_cons (ps_if (PW.pt (pw_and (pt_cmpR op_eq (pv 3) pe_int (nomark _)) (pw_and1 (pt_cmpR op_gt (pv 1) pe_int (nomark _))))) (pss_one (ps_set (i := 4) scGraph.nd rfl (.inl rfl) (pe_call GG (hr.mono (by decide)) (by rfl) mG kG bG .nil pass0 (pa_cons (pv 0) (pa_cons (pe_call GR (hr.mono (by decide)) (by rfl) mR kR bR .nil pass0 (pa_cons (pe_call GK (hr.mono (by decide)) (by rfl) mK kK bK .nil pass0 (pa_cons (pv 0) (pa_cons (pe_tup (pa_cons pe_int (pa_cons pe_int (pa_cons pe_int pa_nil)))) pa_nil))) pa_nil)) (pa_cons (pv 1) pa_nil)))))) pss_nil)
    (pss_cons (ps_if (PW.pt (pw_and (pt_cmpR op_eq (pv 3) pe_int (nomark _)) (pw_and1 (pt_cmpR op_gt (pv 1) pe_int (nomark _))))) (pss_one (ps_set (i := 4) scGraph.nd rfl (.inl rfl) (pe_call GG (hr.mono (by decide)) (by rfl) mG kG bG .nil pass0 (pa_cons (pv 0) (pa_cons (pe_call GR (hr.mono (by decide)) (by rfl) mR kR bR .nil pass0 (pa_cons pe_int pa_nil)) (pa_cons (pe_op op_add pe_int (pe_call GD (hr.mono (by decide)) (by rfl) mD kD bD .nil pass0 (pa_cons (pv 0) (pa_cons (pe_op op_sub (pv 1) pe_int) pa_nil)))) pa_nil)))))) pss_nil)
    (pss_cons (ps_if (pt_cmpR op_eq (pe_call GD (hr.mono (by decide)) (by rfl) mD kD bD .nil pass0 (pa_cons (pv 0) (pa_cons pe_int pa_nil))) pe_int (nomark _)) (pss_one (ps_set (i := 4) scGraph.nd rfl (.inl rfl) (pe_call GU (hr.mono (by decide)) (by rfl) mU kU bU .nil pass0 (pa_cons (pv 4) pa_nil)))) pss_nil)
    (pss_one (ps_ret (pe_call GC (hr.mono (by decide)) (by rfl) mC kC bC .nil pass0 (pa_cons (pv 4) (pa_cons (pe_call GO (hr.mono (by decide)) (by rfl) mO kO bO .nil pass0 (pa_cons (pv 0) (pa_cons (pe_ix ix_tup (pv 4) pe_int (fun _ _ => rfl)) pa_nil))) pa_nil)))))))))))))), ?_⟩
  refine ⟨_, rfl, _, rfl, _, _, rfl, rfl, p, _, rfl, hW, by omega, by omega, fun n0 H1 l0 u0 b1 w1 => ?_⟩
  refine ⟨_, rfl, p, _, rfl, w1, by decide, by decide, fun way H2 l1 u1 b2 w2 => ?_⟩
  refine ⟨_, _, rfl, ?_⟩
  refine ⟨_, rfl, p, _, rfl, w2, by decide, by decide, fun d H3 _ _ b3 w3 => ?_⟩
  have b03 : But p H H3 := b1.trans (b2.trans b3)
  refine ⟨rfl, _, rfl, ?_⟩
  obtain ⟨n1, rfl⟩ : ∃ n1 : Nat, n0 = (n1 : Int) := ⟨n0.toNat, by omega⟩
  refine' joinS (i := 2) (R := fun y H' => ∃ n : Nat, y = .int (n : Int) ∧ n ≤ most ∧ But p H H' ∧ Wl H' p) (fun go => ?_) ?_
  rotate_left 2
  · refine iteB (fun _ => ?_) (fun _ => ?_)
    · exact ⟨_, rfl, go _ _ ⟨n1, rfl, by omega, b03, w3⟩⟩
    · refine ⟨_, rfl, _, rfl, _, rfl, p, _, rfl, w3, by decide, by decide, fun d2 H4 l4 u4 b4 w4 => ?_⟩
      refine ⟨_, _, rfl, rfl, _, _, rfl, go _ _ ⟨(max n1 (((most : Int) - d2).toNat)), ?_, by omega, b03.trans b4, w4⟩⟩
      congr 1
      split <;> omega
  rintro _ H4 ⟨n, rfl, nm, b4, w4⟩
  have n9 : n ≤ 9 := by omega
  refine ⟨_, rfl, _, rfl, p, n, rfl, w4, n9, fun x5 es5 H5 b45 w5 h5 g5 => ?_⟩
  have b5 := b4.trans b45
  have m5 := nm
  refine' joinT (R := fun σ H' => ∃ (y : V) (m : Nat) (es : List E2), σ = [some (.ref p), some (.int (most : Int)), some (.int (n : Int)), some (.int way), some y] ∧ m ≤ most ∧ But p H H' ∧ Wl H' p ∧ GraphAt K H' y m es ∧ Good m es) (fun go => ?_) ?_
  rotate_left 1
  · refine ⟨_, rfl, rfl, _, rfl, iteB (fun _ => ?tt1) (fun _ => ?ff1)⟩
    case ff1 => exact go _ _ ⟨x5, n, es5, rfl, m5, b5, w5, h5, g5⟩
    case tt1 => exact ⟨_, rfl, _, rfl, p, n, rfl, w5, n9, fun x es H' b w' hx gx => go _ _ ⟨x, n, es, rfl, nm, b5.trans b, w', hx, gx⟩⟩
  rintro _ H6 ⟨x6, m6, es6, rfl, n6, b6, w6, h6, g6⟩
  refine' joinT (R := fun σ H' => ∃ (y : V) (m : Nat) (es : List E2), σ = [some (.ref p), some (.int (most : Int)), some (.int (n : Int)), some (.int way), some y] ∧ m ≤ most ∧ But p H H' ∧ Wl H' p ∧ GraphAt K H' y m es ∧ Good m es) (fun go => ?_) ?_
  rotate_left 1
  · refine ⟨_, rfl, rfl, _, rfl, iteB (fun _ => ?tt2) (fun _ => iteF ?ff2)⟩
    case ff2 => exact go _ _ ⟨x6, m6, es6, rfl, n6, b6, w6, h6, g6⟩
    refine ⟨_, rfl, _, _, rfl, rfl, _, rfl, iteB (fun c => ?_) (fun _ => go _ _ ⟨x6, m6, es6, rfl, n6, b6, w6, h6, g6⟩)⟩
    have c1 : (0 : Int) < (n : Int) := of_decide_eq_true c
    exact ⟨_, rfl, _, rfl, p, n, rfl, w6, by omega, n9, fun x es H' b w' hx gx => go _ _ ⟨x, n, es, rfl, nm, b6.trans b, w', hx, gx⟩⟩
  rintro _ H7 ⟨x7, m7, es7, rfl, n7, b7, w7, h7, g7⟩
  refine' joinT (R := fun σ H' => ∃ (y : V) (m : Nat) (es : List E2), σ = [some (.ref p), some (.int (most : Int)), some (.int (n : Int)), some (.int way), some y] ∧ m ≤ most ∧ But p H H' ∧ Wl H' p ∧ GraphAt K H' y m es ∧ Good m es) (fun go => ?_) ?_
  rotate_left 1
  · refine ⟨_, rfl, (by show 3 ≤ sizeLine; decide), fun t nt => ?_⟩
    have s1 := same_new nt (.tup [.int 2, .int 3, .int 4])
    have w8 := w7.same s1
    have b8 := b7.trans (But.of s1)
    have h8 := h7.same s1
    refine ⟨t, _, rfl, .inr (SqT.of upd_same), rfl, rfl, _, rfl, iteB (fun _ => ?tt3) (fun _ => iteF ?ff3)⟩
    case ff3 => exact go _ _ ⟨x7, m7, es7, rfl, n7, b8, w8, h8, g7⟩
    refine ⟨_, rfl, _, _, rfl, rfl, _, rfl, iteB (fun c => ?_) (fun _ => go _ _ ⟨x7, m7, es7, rfl, n7, b8, w8, h8, g7⟩)⟩
    have c1 : (4 : Int) < (most : Int) := of_decide_eq_true c
    refine ⟨_, rfl, 5, rfl, by decide, by decide, fun x es H' s' hx gx => ?_⟩
    refine ⟨_, rfl, _, rfl, _, _, rfl, rfl, p, _, rfl, w8.same s', by omega, by omega, fun d H2 d0 d1 b2 w2 => ?_⟩
    obtain ⟨dn, rfl⟩ : ∃ dn : Nat, d = (dn : Int) := ⟨d.toNat, by omega⟩
    exact ⟨_, _, rfl, rfl, p, x, 5, 5 + dn, es, rfl, w2, hx.ts (TS.but b2 (w8.same s')), gx, by decide, by omega, by omega, fun y fs H3 b3 w3 hy gy => go _ _ ⟨y, 5 + dn, fs, rfl, by omega, b8.trans ((But.of s').trans (b2.trans b3)), w3, hy, gy⟩⟩
  rintro _ H9 ⟨x9, m9, es9, rfl, n9, b9, w9, h9, g9⟩
  refine' joinT (R := fun σ H' => ∃ (y : V) (m : Nat) (es : List E2), σ = [some (.ref p), some (.int (most : Int)), some (.int (n : Int)), some (.int way), some y] ∧ m ≤ most ∧ But p H H' ∧ Wl H' p ∧ GraphAt K H' y m es ∧ Good m es) (fun go => ?_) ?_
  rotate_left 1
  · refine ⟨_, rfl, rfl, _, rfl, iteB (fun _ => ?tt4) (fun _ => iteF ?ff4)⟩
    case ff4 => exact go _ _ ⟨x9, m9, es9, rfl, n9, b9, w9, h9, g9⟩
    refine ⟨_, rfl, _, _, rfl, rfl, _, rfl, iteB (fun c => ?_) (fun _ => go _ _ ⟨x9, m9, es9, rfl, n9, b9, w9, h9, g9⟩)⟩
    have c1 : (6 : Int) < (most : Int) := of_decide_eq_true c
    refine ⟨_, rfl, _, rfl, (by show 3 ≤ sizeLine; decide), fun t nt => ?_⟩
    have s1 := same_new nt (.tup [.int 6, .int 7, .int 7])
    have w8 := w9.same s1
    refine ⟨p, t, _, rfl, w8, w8.off (SqT.of upd_same), by decide, by decide, fun i v H2 hi b2 w2 => ?_⟩
    obtain ⟨c, rfl, c2, c3⟩ : ∃ c : Nat, v = .int (c : Int) ∧ 6 ≤ c ∧ c ≤ 7 := by
      have m := List.mem_of_getElem? hi
      simp only [List.mem_cons, List.mem_nil_iff, or_false] at m
      rcases m with rfl | rfl | rfl
      · exact ⟨6, rfl, by decide, by decide⟩
      · exact ⟨7, rfl, by decide, by decide⟩
      · exact ⟨7, rfl, by decide, by decide⟩
    refine ⟨c, rfl, by omega, by omega, fun x es H' s' hx gx => ?_⟩
    exact ⟨_, rfl, p, x, c, most, es, rfl, w2.same s', hx, gx, by omega, by omega, by omega, fun y fs H3 b3 w3 hy gy => go _ _ ⟨y, most, fs, rfl, Nat.le_refl _, b9.trans ((But.of s1).trans (b2.trans ((But.of s').trans b3))), w3, hy, gy⟩⟩
  rintro _ H10 ⟨x10, m10, es10, rfl, n10, b10, w10, h10, g10⟩
  refine' joinT (R := fun σ H' => ∃ (y : V) (m : Nat) (es : List E2), σ = [some (.ref p), some (.int (most : Int)), some (.int (n : Int)), some (.int way), some y] ∧ m ≤ most ∧ But p H H' ∧ Wl H' p ∧ GraphAt K H' y m es ∧ Good m es) (fun go => ?_) ?_
  rotate_left 1
  · refine ⟨_, rfl, rfl, _, rfl, iteB (fun _ => ?tt5) (fun _ => iteF ?ff5)⟩
    case ff5 => exact go _ _ ⟨x10, m10, es10, rfl, n10, b10, w10, h10, g10⟩
    refine ⟨_, rfl, _, _, rfl, rfl, _, rfl, iteB (fun c => ?_) (fun _ => go _ _ ⟨x10, m10, es10, rfl, n10, b10, w10, h10, g10⟩)⟩
    have c1 : (3 : Int) < (most : Int) := of_decide_eq_true c
    refine ⟨_, rfl, 4, rfl, by decide, by decide, fun x es H' s' hx gx => ?_⟩
    refine ⟨_, rfl, _, rfl, _, _, rfl, rfl, p, _, rfl, w10.same s', by omega, by omega, fun d H2 d0 d1 b2 w2 => ?_⟩
    obtain ⟨dn, rfl⟩ : ∃ dn : Nat, d = (dn : Int) := ⟨d.toNat, by omega⟩
    exact ⟨_, _, rfl, rfl, p, x, 4, 4 + dn, es, rfl, w2, hx.ts (TS.but b2 (w10.same s')), gx, by decide, by omega, by omega, fun y fs H3 b3 w3 hy gy => go _ _ ⟨y, 4 + dn, fs, rfl, by omega, b10.trans ((But.of s').trans (b2.trans b3)), w3, hy, gy⟩⟩
  rintro _ H11 ⟨x11, m11, es11, rfl, n11, b11, w11, h11, g11⟩
  refine' joinT (R := fun σ H' => ∃ (y : V) (m : Nat) (es : List E2), σ = [some (.ref p), some (.int (most : Int)), some (.int (n : Int)), some (.int way), some y] ∧ m ≤ most ∧ But p H H' ∧ Wl H' p ∧ GraphAt K H' y m es ∧ Good m es) (fun go => ?_) ?_
  rotate_left 1
  · refine ⟨_, rfl, p, _, rfl, w11, by decide, by decide, fun d H' _ _ b12 w12 => ?_⟩
    have h12 := h11.ts (TS.but b12 w11)
    refine ⟨rfl, _, rfl, iteB (fun _ => ?tt6) (fun _ => ?ff6)⟩
    case ff6 => exact go _ _ ⟨x11, m11, es11, rfl, n11, b11.trans b12, w12, h12, g11⟩
    exact ⟨_, rfl, x11, m11, es11, rfl, h12, g11.n9, fun y H2 s2 hy => go _ _ ⟨y, m11, _, rfl, n11, b11.trans (b12.trans (But.of s2)), w12.same s2, hy, good_left g11.n9 es11⟩⟩
  rintro _ H13 ⟨x13, m13, es13, rfl, n13, b13, w13, h13, g13⟩
  have h14 := h13
  obtain ⟨t, e, xs, rfl, ht, he, hes⟩ := h13
  refine ⟨_, rfl, _, rfl, _, rfl, t, _, _, _, rfl, rfl, ht, rfl, p, m13, rfl, w13, g13.n9, fun a ns H' b w' ha pm => ?_⟩
  exact ⟨.ref t, a, m13, es13, ns, rfl, h14.ts (TS.but b w13), g13, ha, pm, fun z fs H2 s2 hz gz => q z m13 fs H2 n13 (b13.trans (b.trans (But.of s2))) (w'.same s2) hz gz⟩
end
end My

set_option maxHeartbeats 2000000
/-! graph6 in plain Lean. -/
namespace My
open PySem PySem.Spec PyProof.Rows L2
/-- a walk from any heap on: S says a turn, by what follows it -/
theorem lo_it {J : It} {n : Nat} {G : Hp → Prop} {Y : Nat → Hp → V → Hp → Prop} (w : Walk J n G Y) {S : V → Hp → (Hp → Prop) → Prop} {Qd : Hp → Prop} {H0 : Hp} (Pv : Nat → Hp → Prop) (h0 : Pv 0 H0) (hG : ∀ i H, i ≤ n → Pv i H → G H)
    (hs : ∀ i x H H', i < n → Pv i H → Y i H x H' → S x H' (Pv (i + 1))) (hd : ∀ H, Pv n H → Qd H) :
    ∃ W : Nat → Nat → Hp → Prop, (∃ m, W 0 m H0) ∧ ∀ i m H, W i m H → (J.stop i H ∧ Qd H) ∨ (J.go i H ∧ ∃ Nx : Hp → Prop, (∀ H', Nx H' → ∃ m', m' < m ∧ W (i + 1) m' H') ∧ ∀ x H', J.yld i H x H' → S x H' Nx) := by
  refine ⟨fun i m H => i + m = n ∧ Pv i H, ⟨n, Nat.zero_add n, h0⟩, fun i m H hw => ?_⟩
  obtain ⟨e, pv⟩ := hw
  have g := hG i H (by omega) pv
  rcases Nat.eq_zero_or_pos m with z | z
  · have en : i = n := by omega
    subst en
    exact .inl ⟨w.stops H g, hd H pv⟩
  · refine .inr ⟨w.goes i H (by omega) g, Pv (i + 1), fun H' pv' => ⟨m - 1, by omega, by omega, pv'⟩, fun x H' y => ?_⟩
    exact hs i x H H' (by omega) pv (w.yields i H x H' (by omega) g y)
/-- the pairs by their greater number, then by the lesser -/
def pairsG (n : Nat) : List E2 := (List.range n).flatMap fun v => (List.range v).map fun u => (u, v)
def bit1 (es : List E2) (p : E2) : Nat := if p ∈ es then 1 else 0
def bitsOf (n : Nat) (es : List E2) : List Nat := (pairsG n).map (bit1 es)
def pad (b : List Nat) : List Nat := b ++ List.replicate ((b.length + 5) / 6 * 6 - b.length) 0
def numOf (b : List Nat) : Nat := b.foldl (fun a x => 2 * a + x) 0
def chunk (b : List Nat) (i : Nat) : List Nat := (b.drop (6 * i)).take 6
def groups (b : List Nat) : Nat := (b.length + 5) / 6
/-- the text of signs told by numbers -/
def tx (ks : List Nat) : Str := ⟨(ks.map (63 + ·)).toArray⟩
/-- the 64 signs -/
def SG : Str := tx (List.range 64)
def codeL (n : Nat) (es : List E2) : List Nat := n :: (List.range (groups (bitsOf n es))).map fun i => numOf (chunk (pad (bitsOf n es)) i)
theorem tx_len (ks : List Nat) : (tx ks).length = ks.length := by
  show ((ks.map (63 + ·)).toArray).size = _
  rw [List.size_toArray, List.length_map]
theorem tx_append (ks ls : List Nat) : tx ks ++ tx ls = tx (ks ++ ls) := by
  show Str.append _ _ = _
  unfold Str.append tx
  rw [List.map_append]
  simp
theorem join_tx : ∀ ks : List Nat, Str.join "" (ks.map fun k => tx [k]) = tx ks
  | [] => rfl
  | [k] => rfl
  | k :: l :: ks => by
    show tx [k] ++ (("" : String) : Str) ++ Str.join "" ((l :: ks).map fun k => tx [k]) = _
    rw [join_tx (l :: ks)]
    have e : tx [k] ++ (("" : String) : Str) = tx [k] := by
      show Str.append _ _ = _
      unfold Str.append
      have z : ((("" : String) : Str)).cps = #[] := by decide +kernel
      rw [z, Array.append_empty]
    rw [e, tx_append]
    rfl
theorem pairsG_succ (n : Nat) : pairsG (n + 1) = pairsG n ++ (List.range n).map fun u => (u, n) := by
  unfold pairsG
  rw [List.range_succ, List.flatMap_append, List.flatMap_cons, List.flatMap_nil, List.append_nil]
theorem pairsG_few : ∀ n, n ≤ 9 → (pairsG n).length ≤ 36 := by decide +kernel
theorem mem_pairsG {n : Nat} {p : E2} : p ∈ pairsG n ↔ p.1 < p.2 ∧ p.2 < n := by
  unfold pairsG
  rw [List.mem_flatMap]
  constructor
  · rintro ⟨v, hv, h⟩
    obtain ⟨u, hu, rfl⟩ := List.mem_map.mp h
    exact ⟨List.mem_range.mp hu, List.mem_range.mp hv⟩
  · rintro ⟨h1, h2⟩
    exact ⟨p.2, List.mem_range.mpr h2, List.mem_map.mpr ⟨p.1, List.mem_range.mpr h1, rfl⟩⟩
theorem bits_len (n : Nat) (es : List E2) : (bitsOf n es).length = (pairsG n).length := List.length_map _
theorem bits_few {n : Nat} (h : n ≤ 9) (es : List E2) : (bitsOf n es).length ≤ 36 := by rw [bits_len]; exact pairsG_few n h
theorem bits_le (n : Nat) (es : List E2) : ∀ b ∈ bitsOf n es, b ≤ 1 := by
  intro b hb
  obtain ⟨p, _, rfl⟩ := List.mem_map.mp hb
  unfold bit1
  split <;> omega
theorem pad_len (b : List Nat) : (pad b).length = 6 * groups b := by
  unfold pad groups
  rw [List.length_append, List.length_replicate]
  omega
theorem pad_le {b : List Nat} (h : ∀ x ∈ b, x ≤ 1) : ∀ x ∈ pad b, x ≤ 1 := by
  intro x hx
  rcases List.mem_append.mp hx with hx | hx
  · exact h x hx
  · rw [(List.mem_replicate.mp hx).2]
    exact Nat.zero_le _
theorem foldl_lt : ∀ (b : List Nat) (a k : Nat), (∀ x ∈ b, x ≤ 1) → a < 2 ^ k → b.foldl (fun a x => 2 * a + x) a < 2 ^ (k + b.length)
  | [], a, k, _, h => h
  | x :: b, a, k, hb, h => by
    have hx := hb x (List.mem_cons_self ..)
    have z := foldl_lt b (2 * a + x) (k + 1) (fun y hy => hb y (List.mem_cons_of_mem _ hy)) (by rw [Nat.pow_succ]; omega)
    rw [List.foldl_cons, List.length_cons, show k + (b.length + 1) = k + 1 + b.length by omega]
    exact z
theorem numOf_lt {b : List Nat} (h : ∀ x ∈ b, x ≤ 1) : numOf b < 2 ^ b.length := by
  have z := foldl_lt b 0 0 h (by decide)
  rw [Nat.zero_add] at z
  exact z
theorem numOf_snoc (b : List Nat) (x : Nat) : numOf (b ++ [x]) = 2 * numOf b + x := by
  unfold numOf
  rw [List.foldl_append]
  rfl
theorem chunk_sub (b : List Nat) (i : Nat) : ∀ x ∈ chunk b i, x ∈ b := fun x hx => List.mem_of_mem_drop (List.mem_of_mem_take hx)
theorem chunk_len {b : List Nat} {i : Nat} (h : 6 * i + 6 ≤ b.length) : (chunk b i).length = 6 := by
  unfold chunk
  rw [List.length_take, List.length_drop]
  omega
theorem chunk_lt {b : List Nat} {i : Nat} (hb : ∀ x ∈ b, x ≤ 1) : numOf (chunk b i) < 64 := by
  have z := numOf_lt (b := chunk b i) fun x hx => hb x (chunk_sub b i x hx)
  have l : (chunk b i).length ≤ 6 := by
    unfold chunk
    rw [List.length_take]
    omega
  exact Nat.lt_of_lt_of_le z (Nat.pow_le_pow_right (by decide) l)
theorem SG_at : ∀ k : Nat, k < 64 → atI SG.cps.toList (k : Int) = some (63 + k) := by
  intro k hk
  refine atI_nat ?_
  show ((List.range 64).map (63 + ·))[k]? = _
  rw [List.getElem?_map, List.getElem?_range hk]
  rfl
theorem six : ∀ k : Nat, k ≤ 42 → RgC 0 (k : Int) 6 ((k + 5) / 6) := by
  have h : ∀ k : Nat, k ≤ 42 → Builtin.Range.small 0 (k : Int) 6 = true ∧ Builtin.Range.rangeSize 0 (k : Int) 6 = (((k + 5) / 6 : Nat) : Int) := by decide +kernel
  exact fun k hk => ⟨by decide, by decide, (h k hk).1, (h k hk).2⟩
end My

set_option maxHeartbeats 2000000
/-! Reading graph6, in plain Lean: by the signs' codes. -/
namespace My
open PySem PySem.Spec PyProof.Rows L2
/-- the sign c can stand at place a behind the first one, with L pairs to tell -/
def goodS (L a c : Nat) : Bool := decide (63 ≤ c ∧ c < 127) && decide (6 * a < L) && decide ((c - 63) % 2 ^ (6 - (L - 6 * a)) = 0)
/-- where it is wrong, by how many signs are right -/
def scan (L : Nat) : Nat → List Nat → Option Nat
  | a, [] => if 6 * a < L then some (a + 1) else none
  | a, c :: cs => if goodS L a c = true then scan L (a + 1) cs else some (a + 1)
def bits6 (c : Nat) : List Nat := [5, 4, 3, 2, 1, 0].map fun p => (c - 63) / 2 ^ p % 2
def bitsC (cs : List Nat) : List Nat := cs.flatMap bits6
def tellP (ps : List E2) (bs : List Nat) : List E2 := ((ps.zip bs).filter fun q => q.2 != 0).map (·.1)
inductive RdG where
  | bad (k : Nat)
  | told (n : Nat) (ps : List E2)
def readG : List Nat → RdG
  | [] => .bad 0
  | c :: cs => if 63 ≤ c ∧ c ≤ 72 then match scan (pairsG (c - 63)).length 0 cs with
    | some k => .bad k
    | none => .told (c - 63) (tellP (pairsG (c - 63)) (bitsC cs))
    else .bad 0
theorem bitsC_len (cs : List Nat) : (bitsC cs).length = 6 * cs.length := by
  unfold bitsC
  induction cs with
  | nil => rfl
  | cons c cs ih => rw [List.flatMap_cons, List.length_append, ih, List.length_cons]; show 6 + _ = _; omega
theorem eq_of_up : ∀ {es fs : List E2}, es.Pairwise ahead → fs.Pairwise ahead → (∀ q, q ∈ es ↔ q ∈ fs) → es = fs
  | [], [], _, _, _ => rfl
  | [], f :: fs, _, _, h => absurd ((h f).mpr (List.mem_cons_self ..)) (fun z => nomatch z)
  | e :: es, [], _, _, h => absurd ((h e).mp (List.mem_cons_self ..)) (fun z => nomatch z)
  | e :: es, f :: fs, he, hf, h => by
    obtain ⟨e1, e2⟩ := List.pairwise_cons.mp he
    obtain ⟨f1, f2⟩ := List.pairwise_cons.mp hf
    have ef : e = f := by
      rcases List.mem_cons.mp ((h e).mp (List.mem_cons_self ..)) with z | z
      · exact z
      · rcases List.mem_cons.mp ((h f).mpr (List.mem_cons_self ..)) with y | y
        · exact y.symm
        · have a1 := f1 e z
          have a2 := e1 f y
          unfold ahead at a1 a2
          omega
    subst ef
    refine congrArg (e :: ·) (eq_of_up e2 f2 fun q => ⟨fun z => ?_, fun z => ?_⟩)
    · rcases List.mem_cons.mp ((h q).mp (List.mem_cons_of_mem _ z)) with y | y
      · exact absurd (e1 q z) (fun w => ahead_ne w y.symm)
      · exact y
    · rcases List.mem_cons.mp ((h q).mpr (List.mem_cons_of_mem _ z)) with y | y
      · exact absurd (f1 q z) (fun w => ahead_ne w y.symm)
      · exact y
theorem tellP_snoc {ps : List E2} {bs : List Nat} {p : E2} {b : Nat} (h : ps.length = bs.length) : tellP (ps ++ [p]) (bs ++ [b]) = tellP ps bs ++ (if b != 0 then [p] else []) := by
  unfold tellP
  rw [List.zip_append h, List.filter_append, List.map_append]
  congr 1
  show (([(p, b)] : List (E2 × Nat)).filter _).map _ = _
  cases e : (b != 0)
  · rw [List.filter_cons_of_neg (by simpa using e)]
    rfl
  · rw [List.filter_cons_of_pos (by simpa using e)]
    rfl
theorem tellP_sub (ps : List E2) (bs : List Nat) : ∀ q ∈ tellP ps bs, q ∈ ps := by
  intro q hq
  obtain ⟨r, hr, rfl⟩ := List.mem_map.mp hq
  exact (List.of_mem_zip (List.mem_filter.mp hr).1).1
/-! ### there and back -/
theorem bits6_of : ∀ a b c d e f : Nat, a ≤ 1 → b ≤ 1 → c ≤ 1 → d ≤ 1 → e ≤ 1 → f ≤ 1 → bits6 (63 + numOf [a, b, c, d, e, f]) = [a, b, c, d, e, f] := by
  have h : ∀ a b c d e f : Fin 2, bits6 (63 + numOf [a.val, b.val, c.val, d.val, e.val, f.val]) = [a.val, b.val, c.val, d.val, e.val, f.val] := by decide +kernel
  exact fun a b c d e f h1 h2 h3 h4 h5 h6 => h ⟨a, by omega⟩ ⟨b, by omega⟩ ⟨c, by omega⟩ ⟨d, by omega⟩ ⟨e, by omega⟩ ⟨f, by omega⟩
theorem bits6_chunk {b : List Nat} (l : b.length = 6) (h : ∀ x ∈ b, x ≤ 1) : bits6 (63 + numOf b) = b := by
  match b, l, h with
  | [a, b, c, d, e, f], _, h => exact bits6_of a b c d e f (h a (by simp)) (h b (by simp)) (h c (by simp)) (h d (by simp)) (h e (by simp)) (h f (by simp))
theorem chunks_all {b : List Nat} : ∀ m, b.length = 6 * m → (List.range m).flatMap (chunk b) = b
  | 0, h => by
    rw [List.range_zero, List.flatMap_nil]
    exact (List.eq_nil_of_length_eq_zero (by omega)).symm
  | m + 1, h => by
    have ih := chunks_all (b := b.drop 6) m (by rw [List.length_drop]; omega)
    rw [List.range_succ_eq_map, List.flatMap_cons, List.flatMap_map]
    have e : (List.range m).flatMap (fun i => chunk b (Nat.succ i)) = (List.range m).flatMap (chunk (b.drop 6)) := by
      congr 1
      funext i
      unfold chunk
      rw [List.drop_drop]
      congr 2
      omega
    rw [e, ih]
    unfold chunk
    rw [Nat.mul_zero, List.drop_zero, List.take_append_drop]
theorem bitsC_code {b : List Nat} {m : Nat} (l : b.length = 6 * m) (h : ∀ x ∈ b, x ≤ 1) : bitsC ((List.range m).map fun i => 63 + numOf (chunk b i)) = b := by
  unfold bitsC
  rw [List.flatMap_map]
  have e : ∀ i ∈ List.range m, bits6 (63 + numOf (chunk b i)) = chunk b i := fun i hi => by
    have im := List.mem_range.mp hi
    exact bits6_chunk (chunk_len (by omega)) fun x hx => h x (chunk_sub b i x hx)
  have e2 : (List.range m).flatMap (fun i => bits6 (63 + numOf (chunk b i))) = (List.range m).flatMap (chunk b) := by
    rw [List.flatMap_def, List.flatMap_def, List.map_congr_left e]
  rw [e2, chunks_all m l]
theorem numOf_zeros (b : List Nat) : ∀ k, numOf (b ++ List.replicate k 0) = numOf b * 2 ^ k
  | 0 => by rw [List.replicate_zero, List.append_nil, Nat.pow_zero, Nat.mul_one]
  | k + 1 => by
    rw [List.replicate_succ', ← List.append_assoc, numOf_snoc, numOf_zeros b k, Nat.pow_succ, Nat.add_zero, Nat.mul_comm 2, Nat.mul_assoc]
theorem goodS_code {bs : List Nat} {i : Nat} (h : ∀ x ∈ bs, x ≤ 1) (hi : i < groups bs) : goodS bs.length i (63 + numOf (chunk (pad bs) i)) = true := by
  have lt := chunk_lt (i := i) (pad_le h)
  unfold groups at hi
  unfold goodS
  rw [Bool.and_eq_true, Bool.and_eq_true]
  refine ⟨⟨decide_eq_true (by omega), decide_eq_true (by omega)⟩, decide_eq_true ?_⟩
  rw [Nat.add_sub_cancel_left]
  by_cases f : 6 * i + 6 ≤ bs.length
  · rw [show 6 - (bs.length - 6 * i) = 0 by omega, Nat.pow_zero, Nat.mod_one]
  · have e : chunk (pad bs) i = bs.drop (6 * i) ++ List.replicate (6 - (bs.length - 6 * i)) 0 := by
      unfold chunk pad
      rw [List.drop_append_of_le_length (by omega)]
      rw [List.take_of_length_le (by rw [List.length_append, List.length_drop, List.length_replicate]; omega)]
      congr 2
      omega
    rw [e, numOf_zeros, Nat.mul_mod_left]
theorem scan_code {L m : Nat} (f : Nat → Nat) (hm : m = (L + 5) / 6) (h : ∀ i, i < m → goodS L i (f i) = true) : ∀ k, k ≤ m → scan L k (((List.range m).drop k).map f) = none := by
  intro k hk
  induction e : m - k generalizing k with
  | zero =>
    have : k = m := by omega
    subst this
    rw [List.drop_eq_nil_of_le (by rw [List.length_range]; exact Nat.le_refl _)]
    show (if 6 * k < L then some (k + 1) else none) = none
    rw [if_neg (by omega)]
  | succ d ih =>
    have lk : k < (List.range m).length := by rw [List.length_range]; omega
    rw [List.drop_eq_getElem_cons lk, List.getElem_range, List.map_cons]
    show (if goodS L k (f k) = true then scan L (k + 1) _ else some (k + 1)) = none
    rw [if_pos (h k (by omega))]
    exact ih (k + 1) (by omega) (by omega)
theorem tellP_bits (es : List E2) : ∀ (ps : List E2) (k : Nat), tellP ps (ps.map (bit1 es) ++ List.replicate k 0) = ps.filter fun p => decide (p ∈ es)
  | [], k => by
    unfold tellP
    rw [List.zip_nil_left]
    rfl
  | p :: ps, k => by
    have ih := tellP_bits es ps k
    unfold tellP at ih ⊢
    rw [List.map_cons, List.cons_append, List.zip_cons_cons]
    unfold bit1 at *
    by_cases h : p ∈ es
    · rw [List.filter_cons_of_pos (by simp [h]), List.map_cons, List.filter_cons_of_pos (by simpa using h), ih]
    · rw [List.filter_cons_of_neg (by simp [h]), List.filter_cons_of_neg (by simpa using h), ih]
/-- the text of a graph, read -/
theorem read_code {n : Nat} {es : List E2} (g : Good n es) : readG ((codeL n es).map (63 + ·)) = .told n ((pairsG n).filter fun p => decide (p ∈ es)) := by
  unfold codeL
  rw [List.map_cons, List.map_map]
  have n9 := g.n9
  have hb := bits_le n es
  show (if 63 ≤ 63 + n ∧ 63 + n ≤ 72 then _ else _) = _
  rw [if_pos (by omega), Nat.add_sub_cancel_left]
  have e1 : ((fun x => 63 + x) ∘ fun i => numOf (chunk (pad (bitsOf n es)) i)) = fun i => 63 + numOf (chunk (pad (bitsOf n es)) i) := rfl
  rw [e1]
  have s := scan_code (L := (pairsG n).length) (m := groups (bitsOf n es)) (fun i => 63 + numOf (chunk (pad (bitsOf n es)) i)) (by unfold groups; rw [bits_len]) (fun i hi => by rw [← bits_len n es]; exact goodS_code hb hi) 0 (Nat.zero_le _)
  rw [List.drop_zero] at s
  rw [s, bitsC_code (pad_len _) (pad_le hb)]
  show RdG.told n (tellP (pairsG n) (pad (bitsOf n es))) = _
  unfold pad
  rw [show bitsOf n es = (pairsG n).map (bit1 es) from rfl, tellP_bits]
end My

set_option maxHeartbeats 2000000
/-! Pairs that stand in the heap by themselves; sorted lists of them. -/
namespace My
open PySem PySem.Spec PyProof.Rows L2
def PairT (H : Hp) (x : V) (p : E2) : Prop := ∃ t, x = .ref t ∧ H t = some (.tup [.int (p.1 : Int), .int (p.2 : Int)])
abbrev PairsT (H : Hp) : List V → List E2 → Prop := Paired (PairT H)
theorem PairT.at {K : PySem.W.Frag} {H : Hp} {x : V} {p : E2} (h : PairT H x p) : PairAt K H x p := by
  obtain ⟨t, e, h⟩ := h
  exact ⟨t, e, SqT.of h⟩
theorem PairsT.at {K : PySem.W.Frag} {H : Hp} : ∀ {xs : List V} {ps : List E2}, PairsT H xs ps → PairsAt K H xs ps
  | _, _, .nil => .nil
  | _, _, .cons a b => .cons a.at (PairsT.at b)
theorem PairsT.same {H H' : Hp} (s : Same H H') : ∀ {xs : List V} {ps : List E2}, PairsT H xs ps → PairsT H' xs ps
  | _, _, .nil => .nil
  | _, _, .cons ⟨t, e, h⟩ b => .cons ⟨t, e, s _ _ h⟩ (PairsT.same s b)
theorem PairsT.put {H : Hp} {D : Addr} {o : HO} {zs : List V} (hD : H D = some (.lst zs)) : ∀ {xs : List V} {ps : List E2}, PairsT H xs ps → PairsT (upd H D o) xs ps
  | _, _, .nil => .nil
  | _, _, .cons ⟨t, e, h⟩ b => .cons ⟨t, e, by rw [upd_ne (fun z => by rw [z, hD] at h; cases h)]; exact h⟩ (PairsT.put hD b)
theorem PairsT.append {H : Hp} : ∀ {xs ys : List V} {ps qs : List E2}, PairsT H xs ps → PairsT H ys qs → PairsT H (xs ++ ys) (ps ++ qs)
  | _, _, _, _, .nil, h => h
  | _, _, _, _, .cons a b, h => .cons a (PairsT.append b h)
theorem PairsT.len {H : Hp} : ∀ {xs : List V} {ps : List E2}, PairsT H xs ps → xs.length = ps.length
  | _, _, .nil => rfl
  | _, _, .cons _ b => congrArg (· + 1) (PairsT.len b)
theorem push_pairT {H : Hp} {D r : Addr} {zs : List V} {ps : List E2} (p : E2) (hD : H D = some (.lst zs)) (nr : H r = none) (h : PairsT H zs ps) :
    PairsT (upd (upd H r (.tup [.int (p.1 : Int), .int (p.2 : Int)])) D (.lst (zs ++ [.ref r]))) (zs ++ [.ref r]) (ps ++ [p]) := by
  have s1 : Same H (upd H r (.tup [.int (p.1 : Int), .int (p.2 : Int)])) := fun b u q => by rw [upd_ne (ne_of_none q nr)]; exact q
  have h2 : PairsT (upd H r (.tup [.int (p.1 : Int), .int (p.2 : Int)])) (zs ++ [.ref r]) (ps ++ [p]) := (h.same s1).append (.cons ⟨r, rfl, upd_same⟩ .nil)
  exact h2.put (s1 _ _ hD)
/-- the numbers of a pair at a value -/
def kOf (H : Hp) (x : V) : Int × Int := match x with
  | .ref t => match H t with
    | some (.tup [.int i, .int j]) => (i, j)
    | _ => (0, 0)
  | _ => (0, 0)
def gOf (H : Hp) (x : V) : E2 := ((kOf H x).1.toNat, (kOf H x).2.toNat)
theorem kOf_at {H : Hp} {x : V} {p : E2} (h : PairT H x p) : kOf H x = ((p.1 : Int), (p.2 : Int)) := by
  obtain ⟨t, rfl, h⟩ := h
  show (match H t with
    | some (.tup [.int i, .int j]) => (i, j)
    | _ => ((0 : Int), (0 : Int))) = _
  rw [h]
theorem gOf_at {H : Hp} {x : V} {p : E2} (h : PairT H x p) : gOf H x = p := by
  unfold gOf
  rw [kOf_at h]
  rfl
theorem map_gOf {H : Hp} : ∀ {xs : List V} {ps : List E2}, PairsT H xs ps → xs.map (gOf H) = ps
  | _, _, .nil => rfl
  | _, _, .cons a b => by rw [List.map_cons, gOf_at a, map_gOf b]
theorem PairsT.mem {H : Hp} : ∀ {xs : List V} {ps : List E2}, PairsT H xs ps → ∀ x ∈ xs, PairT H x (gOf H x)
  | _, _, .nil => fun _ z => nomatch z
  | _, _, .cons a b => fun x hx => by
    rcases List.mem_cons.mp hx with rfl | hx
    · rw [gOf_at a]; exact a
    · exact PairsT.mem b x hx
theorem PairsT.of_mem {H : Hp} : ∀ {ys : List V}, (∀ y ∈ ys, PairT H y (gOf H y)) → PairsT H ys (ys.map (gOf H))
  | [], _ => .nil
  | y :: ys, h => .cons (h y (List.mem_cons_self ..)) (PairsT.of_mem fun z hz => h z (List.mem_cons_of_mem _ hz))
/-- sorted pairs, none twice, ascend -/
theorem sorted_pairs {H : Hp} {xs ys : List V} {ps : List E2} (h : PairsT H xs ps) (nd : ps.Nodup) (so : SrtO.Srtd (ltP (kOf H)) ys) (st : SrtO.Stb (ltP (kOf H)) ys xs) :
    PairsT H ys (ys.map (gOf H)) ∧ (ys.map (gOf H)).Pairwise ahead ∧ ∀ q, q ∈ ys.map (gOf H) ↔ q ∈ ps := by
  have pm : (ys.map (gOf H)).Perm ps := by
    have z := st.perm.map (gOf H)
    rw [map_gOf h] at z
    exact z
  have hy : ∀ y ∈ ys, PairT H y (gOf H y) := fun y hy => h.mem y (st.perm.mem_iff.mp hy)
  refine ⟨PairsT.of_mem hy, ?_, fun q => pm.mem_iff⟩
  have nd2 : (ys.map (gOf H)).Nodup := pm.nodup_iff.mpr nd
  rw [List.pairwise_map]
  refine (so.and (List.pairwise_map.mp nd2)).imp_of_mem ?_
  intro a b ha hb ⟨le, ne⟩
  have ka := kOf_at (hy a ha)
  have kb := kOf_at (hy b hb)
  have le2 : SrtO.lexB (kOf H b) (kOf H a) = false := le
  rw [ka, kb] at le2
  have le3 := mt (SrtO.lexB_iff (p := (((gOf H b).1 : Int), ((gOf H b).2 : Int))) (q := (((gOf H a).1 : Int), ((gOf H a).2 : Int)))).mpr (by rw [le2]; decide)
  dsimp only at le3
  have ne2 : ¬ ((gOf H a).1 = (gOf H b).1 ∧ (gOf H a).2 = (gOf H b).2) := fun ⟨x, y⟩ => ne (Prod.ext x y)
  unfold ahead
  omega
theorem find_sg : ∀ c : Nat, c < 128 → Txt.find SG ⟨#[c]⟩ = if 63 ≤ c ∧ c < 127 then (c : Int) - 63 else -1 := by decide +kernel
theorem and_one : ∀ x : Nat, x < 64 → Builtin.bitAnd (x : Int) 1 = ((x % 2 : Nat) : Int) := by decide +kernel
/-- the number that a sign tells -/
def nm (c : Nat) : Int := if 63 ≤ c ∧ c < 127 then (c : Int) - 63 else -1
def numsZ (cs : List Nat) : List V := cs.map fun c => V.int (nm c)
theorem scan_good {L : Nat} : ∀ (cs : List Nat) (a : Nat), scan L a cs = none → ∀ i c, cs[i]? = some c → goodS L (a + i) c = true
  | [], _, _, i, c, h => by simp at h
  | d :: cs, a, h, i, c, hi => by
    have h' : (if goodS L a d = true then scan L (a + 1) cs else some (a + 1)) = none := h
    by_cases g : goodS L a d = true
    · rw [if_pos g] at h'
      cases i with
      | zero =>
        have e : d = c := by simpa using hi
        rw [← e]
        exact g
      | succ i =>
        have z := scan_good cs (a + 1) h' i c (by simpa using hi)
        rw [show a + (i + 1) = a + 1 + i by omega]
        exact z
    · rw [if_neg g] at h'
      cases h'
theorem scan_enough {L : Nat} : ∀ (cs : List Nat) (a : Nat), scan L a cs = none → L ≤ 6 * (a + cs.length)
  | [], a, h => by
    have h' : (if 6 * a < L then some (a + 1) else none) = none := h
    by_cases l : 6 * a < L
    · rw [if_pos l] at h'
      cases h'
    · rw [List.length_nil]
      omega
  | d :: cs, a, h => by
    have h' : (if goodS L a d = true then scan L (a + 1) cs else some (a + 1)) = none := h
    by_cases g : goodS L a d = true
    · rw [if_pos g] at h'
      have := scan_enough cs (a + 1) h'
      rw [List.length_cons]
      omega
    · rw [if_neg g] at h'
      cases h'
theorem bits6_at (c : Nat) : ∀ j, j < 6 → (bits6 c)[j]? = some ((c - 63) / 2 ^ (5 - j) % 2) := by
  intro j hj
  unfold bits6
  match j, hj with
  | 0, _ => rfl
  | 1, _ => rfl
  | 2, _ => rfl
  | 3, _ => rfl
  | 4, _ => rfl
  | 5, _ => rfl
theorem places_at {x : V} {j : Nat} (h : ([.int 5, .int 4, .int 3, .int 2, .int 1, .int 0] : List V)[j]? = some x) : j < 6 ∧ x = .int ((5 - j : Nat) : Int) := by
  match j, h with
  | 0, h => exact ⟨by decide, (Option.some.inj h).symm⟩
  | 1, h => exact ⟨by decide, (Option.some.inj h).symm⟩
  | 2, h => exact ⟨by decide, (Option.some.inj h).symm⟩
  | 3, h => exact ⟨by decide, (Option.some.inj h).symm⟩
  | 4, h => exact ⟨by decide, (Option.some.inj h).symm⟩
  | 5, h => exact ⟨by decide, (Option.some.inj h).symm⟩
  | j + 6, h => exact absurd h (by simp)
theorem bitsC_succ {cs : List Nat} {i c : Nat} (h : cs[i]? = some c) : bitsC (cs.take (i + 1)) = bitsC (cs.take i) ++ bits6 c := by
  unfold bitsC
  rw [List.take_succ, h, List.flatMap_append]
  show _ ++ ([c].flatMap bits6) = _
  rw [List.flatMap_cons, List.flatMap_nil, List.append_nil]
theorem pairsG_nodup : ∀ n, n ≤ 9 → (pairsG n).Nodup := by decide +kernel
theorem tellP_sublist : ∀ (ps : List E2) (bs : List Nat), (tellP ps bs).Sublist ps
  | [], bs => by unfold tellP; rw [List.zip_nil_left]; exact List.Sublist.refl _
  | p :: ps, [] => by unfold tellP; rw [List.zip_nil_right]; exact List.nil_sublist _
  | p :: ps, b :: bs => by
    have ih := tellP_sublist ps bs
    unfold tellP at ih ⊢
    rw [List.zip_cons_cons, List.filter_cons]
    split
    · rw [List.map_cons]
      exact ih.cons_cons p
    · exact ih.cons p
theorem tellP_nodup {ps : List E2} {bs : List Nat} (h : ps.Nodup) : (tellP ps bs).Nodup := h.sublist (tellP_sublist ps bs)
end My

set_option maxHeartbeats 2000000
/-! list(text); a, *b = list. -/
namespace My
open PySem PySem.Spec PyProof.Rows L2
def sgnsOf (z : Str) : List V := z.cps.toList.map fun c => V.str ⟨#[c]⟩
section
variable {X : Cx}
def rListT : List V → Hp → VK → Prop := fun xs H Q => ∃ z : Str, xs = [.str z] ∧ z.cps.size ≤ sizeLine ∧ ∀ l, H l = none → Q (.ref l) (upd H l (.lst (sgnsOf z)))
theorem call_listT (hc : X.calm = true) : CallR X (.type "list") rListT := by
  rintro pins s σ H xs us Q I r ⟨z, rfl, hz, q⟩
  obtain ⟨u, rfl, t, rfl⟩ := vals1 r
  refine call_list_str (I.ok.hd hc) z t (hn := hz) fun h' tk acc c' hk e' hi => ?_
  refine ⟨.ref s.heap.objs.size, upd H s.heap.objs.size (.lst (sgnsOf z)), I.laid hk (Nat.le_refl _) (show ObjOk X.prog X.w _ _ _ (.lst (sgnsOf z)) from ⟨?_, acc.toList, c', ?_, ?_⟩), rfl, q _ (I.hok.fresh (Nat.le_refl _))⟩
  · unfold sgnsOf
    rw [List.length_map, Array.length_toList]
    exact hz
  · have la : acc.toList.length = z.cps.size := by rw [Array.length_toList]; exact hi.1
    have es : sgnsOf z = (List.range acc.toList.length).map fun i => V.str ⟨#[z.cps.getD i 0]⟩ := by
      rw [la]
      unfold sgnsOf
      refine List.ext_getElem? fun i => ?_
      rw [List.getElem?_map, List.getElem?_map, Array.getElem?_toList]
      by_cases hi : i < z.cps.size
      · rw [List.getElem?_range hi]
        simp [Array.getD, hi]
      · rw [Array.getElem?_eq_none (by omega), List.getElem?_eq_none (by rw [List.length_range]; omega)]
        rfl
    rw [es]
    refine vals_of_get acc.toList _ fun j u hj => ?_
    obtain ⟨c, t2, h1, rfl⟩ := hi.2 j u (by rw [← hj, Array.getElem?_toList])
    refine ⟨t2, ?_⟩
    have : z.cps.getD j 0 = c := by
      obtain ⟨hlt, e⟩ := Array.getElem?_eq_some_iff.mp h1
      simp [Array.getD, hlt, e]
    rw [this]
  · rw [Array.toArray_toList]
    exact e'
theorem walks_shift {prog : Program} {w : World} {A : Around} {I : Addr} {fp wr : List Addr} {n : Nat} {P : Nat → Value → Prop} {St : Nat → Heap → Prop} (W : Walks prog w A I fp wr (n + 1) P St) : Walks prog w A I fp wr n (fun i => P (i + 1)) (fun i => St (i + 1)) :=
  ⟨W.sub, fun i => W.frame (i + 1), fun i s Q E hi => W.item (i + 1) s Q E (Nat.succ_lt_succ hi), fun s Q E => W.done s Q E, fun i => W.self (i + 1)⟩
/-- a, *b = a list -/
def gStar (K : PySem.W.Frag) (g0 g1 : TG) : TG := fun v σ H Q => ∃ (a : Addr) (x : V) (xs : List V), v = .ref a ∧ SqL K H a (x :: xs) ∧ ∀ l, H l = none → gCons g0 (gCons g1 gNil) [x, .ref l] σ (upd H l (.lst xs)) Q
theorem pg_star {t0 t1 : Expr} {p1 pos : Pos} {k : Nat} {g0 g1 : TG} (hc : X.calm = true) (h0 : PG X t0 g0) (h1 : PG X t1 g1)
    (hs : assignEach [t0, .Starred t1 p1] X.env = [(false, assign t0 X.env), (true, assign t1 X.env)] := by rfl) (hs2 : assignEach [t0, t1] X.env = [(false, assign t0 X.env), (false, assign t1 X.env)] := by rfl) (hs3 : assignEach [t1] X.env = [(false, assign t1 X.env)] := by rfl) : PG X (.Tuple [t0, .Starred t1 p1] k pos) (gStar X.K g0 g1) := by
  have hg : PGs X [t0, t1] (gCons g0 (gCons g1 gNil)) := pgs_cons h0 (pgs_cons h1 pgs_nil (by rw [hs3]; rfl)) (by rw [hs2, hs3]; rfl)
  refine ⟨fun pins s σ H v u Q I r hw => ?_⟩
  obtain ⟨a, x, xs, rfl, hq, hw⟩ := hw
  cases r
  obtain ⟨its, rv, pl, hz⟩ := I.list hq
  cases rv with
  | @cons _ y _ ys r0 rs =>
  rw [assign_Tuple]
  refine wpAny_bind (wpAny_standAt ?_)
  rw [hs]
  unfold unpack
  refine wpAny_bind (wpAny_holding ?_)
  show wpAny _ _ (unpackItems (.ref a) 2 (some 1)) _ _ _
  unfold unpackItems
  refine wpAny_bind ?_
  unfold notIterableAtAll
  refine wpAny_bind (wpAny_specialOf pl.isList.typeIs slot_list_iter.lookup ?_)
  refine wpAny_pure ?_
  simp only [Option.isSome_some, if_true, Bool.false_eq_true, if_false]
  refine wpAny_bind (wpAny_holding (wpAny_pyIter_list pl.isList ?_))
  have ha : a < s.heap.objs.size := by
    obtain ⟨o, ho, _⟩ := pl.isList
    exact Heap.lt_size ho
  have ne : a ≠ s.heap.objs.size := Nat.ne_of_lt ha
  refine wpAny_bind (wpAny_holding ?_)
  unfold draw
  generalize hs0 : s.heap.push { cls := .type "list_iterator", data := .fields #[.ref a, .int 0 0] } = h0'
  have k0 : ∀ b o, s.heap.get? b = some o → h0'.get? b = some o := fun b o e => by rw [← hs0]; exact Heap.get?_push_of_some _ e
  have it0 : h0'.IsListIter s.heap.objs.size a 0 := by rw [← hs0]; exact ⟨_, Heap.get?_push_size _ rfl, rfl, rfl⟩
  have li0 : h0'.IsList a (y :: ys).toArray := pl.isList.at fun o e => k0 a o e
  refine wpAny_bind (wpAny_pyNext_list_item it0 li0 (x := y) rfl fun h1 it1 sb1 => ?_)
  have li1 : h1.IsList a (y :: ys).toArray := li0.extBut sb1.extBut ne
  refine wpAny_bind (wpAny_holding ?_)
  unfold draw
  refine wpAny_pure (wpAny_pure ?_)
  simp only [List.length_singleton, Nat.lt_irrefl, if_false]
  refine wpAny_bind (wpAny_holding ?_)
  have W := walks_shift (n := ys.length) (Walks.list (prog := X.prog) (w := X.w) (A := X.A.in1) (I.ok.hd hc) s.heap.objs.size a ne (y :: ys).toArray)
  have hI : ∀ b ∈ [s.heap.objs.size, a], b < h1.objs.size := fun b hb => by
    rcases List.mem_cons.mp hb with rfl | hb
    · obtain ⟨o, ho, _⟩ := it1
      exact Heap.lt_size ho
    · rw [List.mem_singleton.mp hb]
      obtain ⟨o, ho, _⟩ := li1
      exact Heap.lt_size ho
  have lxy : xs.length = ys.length := Vals.length rs
  have zx : xs.length + 1 ≤ sizeLine := by simpa using hz
  refine wpAny_collect_iter (s := { s with heap := h1 }) (.inr (.inr (.inl rfl))) W.toS (fun _ _ st => st.1.typeIs) ⟨it1, li1⟩ hI (by simp) (fun s' acc mv io => ?_) (by omega)
  have accE : acc.toList = ys := by
    refine List.ext_getElem? fun j => ?_
    by_cases hj : j < acc.size
    · have e1 : acc[j]? = some acc[j] := Array.getElem?_eq_getElem hj
      have e2 := io.2 j _ e1
      rw [Array.getElem?_toList, e1, ← e2]
      simp
    · have l1 := io.1
      rw [List.getElem?_eq_none (by rw [Array.length_toList]; omega), List.getElem?_eq_none (by omega)]
  rw [accE, if_neg (by omega)]
  refine wpAny_bind (wpAny_newObj_type ?_ (by show (List.take _ ys).length ≤ sizeLine; rw [List.length_take]; omega))
  refine wpAny_pure ?_
  have kp : ∀ b o, s.heap.get? b = some o → s'.heap.get? b = some o := fun b o e => by
    have nb : b ≠ s.heap.objs.size := Nat.ne_of_lt (Heap.lt_size e)
    exact mv.heap b o (fun m => nb (List.mem_singleton.mp m)) ((sb1.2 b nb).trans (k0 b o e))
  have es : s' = { s with heap := s'.heap, toks := s'.toks } := by
    have g1 : s'.gens = s.gens := mv.gens
    have g2 : s'.drawn = s.drawn := mv.drawn
    have g3 : s'.os = s.os := mv.os
    cases s'
    cases s
    simp only at g1 g2 g3
    subst g1 g2 g3
    rfl
  have I1 : L2.Inv X pins σ H s' := by
    rw [es]
    exact I.kept (t' := s'.toks) kp
  have tk : List.take (ys.length - (2 - 1 - 1)) ys = ys := List.take_of_length_le (by omega)
  have dr : List.drop (ys.length - (2 - 1 - 1)) ys = [] := List.drop_eq_nil_of_le (by omega)
  rw [tk, dr]
  have I2 := I1.laid (h' := s'.heap.push { cls := .type "list", data := .seq ys.toArray }) (a := s'.heap.objs.size) (o := .lst xs) (t' := s'.toks) (fun b o e => Heap.get?_push_of_some _ e) (Nat.le_refl _) (show ObjOk X.prog X.w _ _ _ (.lst xs) from ⟨by omega, ys, _, rs, Heap.get?_push_size _ rfl⟩)
  have z := hg.run pins _ σ _ [x, .ref s'.heap.objs.size] _ Q I2 (.cons r0 (.cons rfl .nil)) (hw _ (I1.hok.fresh (Nat.le_refl _)))
  rw [hs2] at z
  exact z
end
end My

set_option maxHeartbeats 4000000
namespace My
open PySem PySem.Spec PyProof.Rows L2 RZ
abbrev sIsWhole : Stmt := top 6
abbrev sWholeFrom : Stmt := top (6 + 1)
abbrev sIsTwo : Stmt := top (6 + 2)
abbrev sAsc : Stmt := top (6 + 3)
abbrev sIsGraph : Stmt := top (6 + 4)
abbrev sIsVP : Stmt := top (6 + 5)
abbrev sCheckGraph : Stmt := top (6 + 6)
theorem scIsWhole : FnScope ["value", "low", "high"] ["value", "low", "high"] (defScope sIsWhole) := ⟨rfl, rfl, rfl, by decide +kernel, rfl, by decide +kernel, by decide +kernel⟩
theorem scWholeFrom : FnScope ["value", "low"] ["value", "low"] (defScope sWholeFrom) := ⟨rfl, rfl, rfl, by decide +kernel, rfl, by decide +kernel, by decide +kernel⟩
theorem scIsTwo : FnScope ["value"] ["value"] (defScope sIsTwo) := ⟨rfl, rfl, rfl, by decide +kernel, rfl, by decide +kernel, by decide +kernel⟩
theorem scAsc : FnScope ["row", "value", "following"] ["row"] (defScope sAsc) := ⟨rfl, rfl, rfl, by decide +kernel, rfl, by decide +kernel, by decide +kernel⟩
theorem scIsGraph : FnScope ["value", "many", "edges", "edge"] ["value"] (defScope sIsGraph) := ⟨rfl, rfl, rfl, by decide +kernel, rfl, by decide +kernel, by decide +kernel⟩
theorem scIsVP : FnScope ["value", "many", "vertex"] ["value", "many"] (defScope sIsVP) := ⟨rfl, rfl, rfl, by decide +kernel, rfl, by decide +kernel, by decide +kernel⟩
theorem scCheckGraph : FnScope ["graph"] ["graph"] (defScope sCheckGraph) := ⟨rfl, rfl, rfl, by decide +kernel, rfl, by decide +kernel, by decide +kernel⟩
def spWholeFrom : Sp := fun vs H Q _ => ∃ i lo : Int, vs = [.int i, .int lo] ∧ lo ≤ i ∧ Q (.bl true) H
def spIsWhole : Sp := fun vs H Q _ => ∃ i lo hi : Int, vs = [.int i, .int lo, .int hi] ∧ lo ≤ i ∧ i ≤ hi ∧ Q (.bl true) H
def spIsTwo (K : PySem.W.Frag) : Sp := fun vs H Q _ => ∃ (t : Addr) (x y : V), vs = [.ref t] ∧ SqT K H t [x, y] ∧ Q (.bl true) H
def spAscP (K : PySem.W.Frag) : Sp := fun vs H Q _ => ∃ (e : Addr) (xs : List V) (es : List E2), vs = [.ref e] ∧ SqT K H e xs ∧ PairsAt K H xs es ∧ es.Pairwise ahead ∧ es.length ≤ 36 ∧ ∀ H', Same H H' → Q (.bl true) H'
def spIsVP (K : PySem.W.Frag) : Sp := fun vs H Q _ => ∃ (x : V) (n : Nat) (p : E2), vs = [x, .int (n : Int)] ∧ PairAt K H x p ∧ p.1 < n ∧ p.2 < n ∧ ∀ H', Same H H' → Q (.bl true) H'
def spIsGraph (K : PySem.W.Frag) : Sp := fun vs H Q _ => ∃ (x : V) (n : Nat) (es : List E2), vs = [x] ∧ GraphAt K H x n es ∧ Good n es ∧ ∀ H', Same H H' → Q (.bl true) H'
def spCheckGraph (K : PySem.W.Frag) : Sp := fun vs H Q _ => ∃ (x : V) (n : Nat) (es : List E2), vs = [x] ∧ GraphAt K H x n es ∧ Good n es ∧ ∀ H', Same H H' → Q .non H'
section
variable {P : Program} {w : World} {K : PySem.W.Frag} {mg : Str → Option Value} {base : Heap} {f fW fI fE fG : Addr} {fd dW dI dE dG : FuncData}
theorem ok_whole_from (F : L2.Fun K "is_whole_from" "is_whole_from" sWholeFrom f fd) (mty : mg "type" = none) (mi : mg "int" = none) : FnOk P w K mg base CX0 1 f fd ["value", "low"] spWholeFrom := by
  refine F.ok scWholeFrom (fun vs H Q E h => ?_) (fun cdv A outer s H vs Q E hr h => ?_)
  · obtain ⟨i, lo, rfl, _⟩ := h
    rfl
  obtain ⟨i, lo, rfl, h1, q⟩ := h
  refine ⟨_, pss_one (ps_ret (pe_and (pe_cmpR op_isTy (pe_typeOf (by rfl) mty (pv 0)) (pe_bltn (v := .ty "int") (by rfl) mi (by decide +kernel) rfl) (nomark _)) (pe_one (pe_cmpR op_ge (pv 0) (pv 1) (nomark _))))), ?_⟩
  refine ⟨_, rfl, _, rfl, "int", "int", rfl, rfl, true, by simp, ?_⟩
  refine iteT ⟨_, rfl, _, rfl, _, _, rfl, rfl, ?_⟩
  show Q (.bl (decide (i ≥ lo))) H
  rw [decide_eq_true h1]
  exact q
theorem ok_is_whole (F : L2.Fun K "is_whole" "is_whole" sIsWhole f fd) (GW : FnOk P w K mg base CX0 1 fW dW ["value", "low"] spWholeFrom) (bW : L2.Binds K dW ["value", "low"] []) (kW : PySem.W.keepIn K (.ref fW) = true) (mW : mg "is_whole_from" = some (.ref fW)) : FnOk P w K mg base CX0 2 f fd ["value", "low", "high"] spIsWhole := by
  refine F.ok scIsWhole (fun vs H Q E h => ?_) (fun cdv A outer s H vs Q E hr h => ?_)
  · obtain ⟨i, lo, hi, rfl, _⟩ := h
    rfl
  obtain ⟨i, lo, hi, rfl, h1, h2, q⟩ := h
  refine ⟨_, pss_one (ps_ret (pe_and (pe_call GW hr (by rfl) mW kW bW .nil pass0 (pa_cons (pv 0) (pa_cons (pv 1) pa_nil))) (pe_one (pe_cmpR op_le (pv 0) (pv 2) (nomark _))))), ?_⟩
  refine ⟨_, rfl, _, rfl, i, lo, rfl, h1, true, rfl, iteT ⟨_, rfl, _, rfl, _, _, rfl, rfl, ?_⟩⟩
  show Q (.bl (decide (i ≤ hi))) H
  rw [decide_eq_true h2]
  exact q
theorem ok_is_two (F : L2.Fun K "is_tuple_of_two" "is_tuple_of_two" sIsTwo f fd) (mty : mg "type" = none) (mt : mg "tuple" = none) (ml : mg "len" = none) : FnOk P w K mg base CX0 1 f fd ["value"] (spIsTwo K) := by
  refine F.ok scIsTwo (fun vs H Q E h => ?_) (fun cdv A outer s H vs Q E hr h => ?_)
  · obtain ⟨t, x, y, rfl, _⟩ := h
    rfl
  obtain ⟨t, x, y, rfl, ht, q⟩ := h
  refine ⟨_, pss_one (ps_ret (pe_and (pe_cmpR op_isTy (pe_callTy call_type1 (by rfl) mty (by decide +kernel) (pa_cons (pv 0) pa_nil)) (pe_bltn (v := .ty "tuple") (by rfl) mt (by decide +kernel) rfl) (nomark _)) (pe_one (pe_cmpR op_eq (pe_callB call_len_seq (by rfl) ml PySem.boot_len (pa_cons (pv 0) pa_nil)) pe_int (nomark _))))), ?_⟩
  refine ⟨_, rfl, _, "tuple", rfl, .tup ht, "tuple", "tuple", rfl, rfl, true, by simp, iteT ⟨_, rfl, t, _, rfl, .inr ht, rfl, ?_⟩⟩
  exact q
theorem walk_zipT {a b : Addr} {xs ys : List V} {n : Nat} (hn : n = min xs.length ys.length) : Walk (ItzT K a b) n (fun H => SqT K H a xs ∧ SqT K H b ys) (YPair (fun i => xs[i]?) (fun i => ys[i]?)) := by
  subst hn
  refine ⟨fun i _ hi q => ?_, fun _ q => ⟨xs, ys, q.1, q.2, by omega⟩, fun i H v H' _ q y => ?_⟩
  · have h1 : i < xs.length := by omega
    have h2 : i < ys.length := by omega
    exact ⟨xs, ys, xs[i], ys[i], q.1, q.2, by simp [h1], by simp [h2]⟩
  · obtain ⟨T, x, z, h1, h2, h3, h4, h5⟩ := y
    exact ⟨T, x, z, h1, h2, h3, h4 xs q.1, h5 ys q.2⟩
theorem ahead_lt {p q : E2} (h : ahead p q) : HT.lexLt [(p.1 : Int), (p.2 : Int)] [(q.1 : Int), (q.2 : Int)] = true := by
  unfold HT.lexLt
  split
  · rename_i e
    unfold HT.lexLt
    rcases h with h | ⟨_, h⟩
    · omega
    · rw [if_neg (by omega)]
      exact decide_eq_true (by omega)
  · rename_i e
    rcases h with h | ⟨h, _⟩
    · exact decide_eq_true (by omega)
    · exact absurd (by omega) e
theorem trues (n : Nat) : ((List.replicate n true).all id) = true := by
  induction n with
  | zero => rfl
  | succ n ih => rw [List.replicate_succ, List.all_cons, ih]; rfl
theorem trues_succ (n : Nat) : (List.replicate n true).map V.bl ++ [V.bl true] = (List.replicate (n + 1) true).map V.bl := by
  rw [List.replicate_succ', List.map_append]
  rfl
theorem ok_is_vp (F : L2.Fun K "is_vertex_pair" "is_vertex_pair" sIsVP f fd) (GI : FnOk P w K mg base CX0 1 fI dI ["value"] (spIsTwo K)) (bI : L2.Binds K dI ["value"] []) (kI : PySem.W.keepIn K (.ref fI) = true) (mI : mg "is_tuple_of_two" = some (.ref fI))
    (GW : FnOk P w K mg base CX0 2 fW dW ["value", "low", "high"] spIsWhole) (bW : L2.Binds K dW ["value", "low", "high"] []) (kW : PySem.W.keepIn K (.ref fW) = true) (mW : mg "is_whole" = some (.ref fW)) (ma : mg "all" = none) : FnOk P w K mg base CX0 3 f fd ["value", "many"] (spIsVP K) := by
  refine F.ok scIsVP (fun vs H Q E h => ?_) (fun cdv A outer s H vs Q E hr h => ?_)
  · obtain ⟨x, n, p, rfl, _⟩ := h
    rfl
  obtain ⟨x, n, p, rfl, ⟨t, rfl, ht⟩, l1, l2, q⟩ := h
  refine ⟨_, pss_one (ps_ret (pe_and (pe_call GI (hr.mono (by decide)) (by rfl) mI kI bI .nil pass0 (pa_cons (pv 0) pa_nil)) (pe_one (pe_callB (cr_all rfl) (by rfl) ma (by decide +kernel) (pa_cons (pe_lc (own := [("vertex", 2)]) (g := gName 2) (tt := tYes) rfl scIsVP.nd (pi_tup (pv 0))
        (blkOk_by (N := ["value", "many", "vertex"]) (sc := defScope sIsVP) (by decide +kernel)) (fun _ _ _ _ _ => pg_name (i := 2) scIsVP.nd rfl (Or.inl rfl)) (fun _ _ _ _ _ => pts_nil)
        (fun _ _ _ _ _ => pe_call GW hr (by rfl) mW kW bW .nil pass0 (pa_cons (pv 2) (pa_cons pe_int (pa_cons (pe_op op_sub (pv 1) pe_int) pa_nil))))) pa_nil))))), ?_⟩
  refine ⟨_, rfl, t, _, _, rfl, ht, true, rfl, iteT ⟨_, rfl, t, rfl, ⟨_, ht⟩, fun D nD => lc_tup (K := K) (a := t) (xs := [.int (p.1 : Int), .int (p.2 : Int)]) (fun i H2 => Same H H2 ∧ H2 D = some (.lst ((List.replicate i true).map V.bl))) ⟨same_new nD _, upd_same⟩ ?_ ?_ ?_⟩⟩
  · rintro i H1 _ ⟨s1, _⟩
    exact Same.tup s1 ht
  · rintro i x H2 hi ⟨s2, hD⟩
    obtain ⟨k, rfl, kn⟩ : ∃ k : Nat, x = V.int (k : Int) ∧ k < n := by
      rcases i with _ | _ | i
      · simp at hi; exact ⟨_, hi.symm, l1⟩
      · simp at hi; exact ⟨_, hi.symm, l2⟩
      · simp at hi
    have li : i < 2 := (List.getElem?_eq_some_iff.mp hi).1
    refine ⟨rfl, ?_⟩
    refine ⟨_, rfl, _, rfl, _, _, rfl, rfl, _, _, _, rfl, by omega, by omega, _, hD, small1000 (by rw [List.length_map, List.length_replicate]; omega), same_put s2 nD, ?_⟩
    rw [upd_same, trues_succ]
  rintro H2 ⟨s2, hD⟩
  refine ⟨D, _, rfl, SqL.of hD, ?_⟩
  rw [trues]
  exact q H2 s2
theorem ok_ascP (F : L2.Fun K "is_ascending" "is_ascending" sAsc f fd) (ma : mg "all" = none) (mz : mg "zip" = none) : FnOk P w K mg base CX0 1 f fd ["row"] (spAscP K) := by
  refine F.ok scAsc (fun vs H Q E h => ?_) (fun cdv A outer s H vs Q E hr h => ?_)
  · obtain ⟨e, xs, es, rfl, _⟩ := h
    rfl
  obtain ⟨e, xs, es, rfl, he2, hes2, up, few, q⟩ := h
  refine ⟨_, pss_one (ps_ret (pe_callB (cr_all rfl) (by rfl) ma (by decide +kernel) (pa_cons (pe_lc (own := [("value", 1), ("following", 2)]) (g := gTup K 2 (gCons (gName 1) (gCons (gName 2) gNil))) (tt := tYes) rfl scAsc.nd (pi_zipA (by rfl) mz (pa_cons (pv 0) (pa_cons (pe_slice sl_tupA (pv 0) (po_some pe_int) po_none) pa_nil)))
        (blkOk_by (N := ["row", "value", "following"]) (sc := defScope sAsc) (by decide +kernel)) (fun _ _ _ _ _ => pg_tup (by rfl) (pgs_cons (pg_name (i := 1) scAsc.nd rfl (Or.inl rfl)) (pgs_cons (pg_name (i := 2) scAsc.nd rfl (Or.inl rfl)) pgs_nil))) (fun _ _ _ _ _ => pts_nil)
        (fun _ _ _ _ _ => pe_cmpR (r := rLtT K) (op_ltT hr.units0) (pv 1) (pv 2) (nomark _))) pa_nil))), ?_⟩
  have s2 := L2.Same.refl H
  cases xs with
  | nil =>
    refine ⟨_, rfl, _, rfl, 1, rfl, e, [], rfl, he2, fun _ => ?_, fun z => absurd ⟨rfl, rfl⟩ z⟩
    refine ⟨e, e, [], [], rfl, .inr ⟨he2, he2, fun B nB => lc_it (walk_zipT (n := 0) rfl) (fun i H3 => i = 0 ∧ Same H H3 ∧ H3 B = some (.lst [])) ⟨rfl, same_new nB _, upd_same⟩ (fun i H3 _ ⟨_, s3, _⟩ => ⟨Same.tup s3 he2, Same.tup s3 he2⟩) (fun i x H3 H4 hi => absurd hi (Nat.not_lt_zero _)) ?_⟩⟩
    rintro H3 ⟨_, s3, hB⟩
    exact ⟨B, [], rfl, SqL.of hB, q H3 s3⟩
  | cons x0 xs =>
    cases es with
    | nil => cases hes2
    | cons p0 es =>
    have hes3 : PairsAt K H xs es := by cases hes2; assumption
    have lx : xs.length = es.length := PairsAt.len hes3
    have cut : cutV (x0 :: xs) (some 1) none = xs := by
      unfold cutV
      rw [HT.sIx_none, show ((1 : Int)) = ((1 : Nat) : Int) from rfl, HT.sIx_nat, List.length_cons, show min 1 (xs.length + 1) = 1 by omega, List.drop_one, List.tail_cons, Nat.add_sub_cancel, List.take_length]
    refine ⟨_, rfl, _, rfl, 1, rfl, e, x0 :: xs, rfl, he2, fun z => ?_, fun _ c nc => ?_⟩
    · exfalso
      have z1 := z.1
      rw [show ((1 : Int)) = ((1 : Nat) : Int) from rfl, HT.sIx_nat, List.length_cons] at z1
      omega
    rw [cut]
    have s3 := same_new nc (.tup xs)
    refine ⟨e, c, x0 :: xs, xs, rfl, .inr ⟨Same.tup s3 he2, SqT.of upd_same, fun B nB => lc_it (walk_zipT (n := xs.length) (by rw [List.length_cons]; omega)) (fun i H3 => Same (upd H c (.tup xs)) H3 ∧ H3 B = some (.lst ((List.replicate i true).map V.bl))) ⟨same_new nB _, upd_same⟩ (fun i H3 _ ⟨s4, _⟩ => ⟨Same.tup (s3.trans s4) he2, Same.tup s4 (SqT.of upd_same)⟩) (fun i x H3 H4 hi ⟨s4, hB⟩ ⟨T, y, z, e1, nT, e2, hy, hz⟩ => ?_) ?_⟩⟩
    · subst e1
      subst e2
      have s5 := same_new nT (.tup [y, z])
      have sA := s3.trans (s4.trans s5)
      obtain ⟨p, hp, ty, rfl, hty⟩ := PairsAt.get (hes2.same sA) hy
      obtain ⟨q, hq, tz, rfl, htz⟩ := PairsAt.get (hes3.same sA) hz
      refine ⟨T, _, rfl, SqT.of upd_same, rfl, _, _, rfl, _, _, rfl, rfl, rfl, ?_⟩
      refine ⟨_, rfl, _, rfl, ty, tz, [(p.1 : Int), (p.2 : Int)], [(q.1 : Int), (q.2 : Int)], rfl, rfl, hty, htz, ?_⟩
      have up : ahead p q := by
        obtain ⟨l1, e1⟩ := List.getElem?_eq_some_iff.mp hp
        have hq' : (p0 :: es)[i + 1]? = some q := by rw [List.getElem?_cons_succ]; exact hq
        obtain ⟨l2, e2⟩ := List.getElem?_eq_some_iff.mp hq'
        have z := List.pairwise_iff_getElem.mp up i (i + 1) l1 l2 (Nat.lt_succ_self _)
        rw [e1, e2] at z
        exact z
      rw [ahead_lt up]
      have fw : xs.length + 1 ≤ 36 := by rw [List.length_cons] at few; omega
      refine ⟨_, s5 _ _ hB, small1000 (by rw [List.length_map, List.length_replicate]; omega), same_put (s4.trans s5) nB, ?_⟩
      rw [upd_same, trues_succ]
    · rintro H3 ⟨s4, hB⟩
      refine ⟨B, _, rfl, SqL.of hB, ?_⟩
      rw [trues]
      exact q H3 (s3.trans s4)
theorem ok_is_graph (F : L2.Fun K "is_graph" "is_graph" sIsGraph f fd) (GI : FnOk P w K mg base CX0 1 fI dI ["value"] (spIsTwo K)) (bI : L2.Binds K dI ["value"] []) (kI : PySem.W.keepIn K (.ref fI) = true) (mI : mg "is_tuple_of_two" = some (.ref fI))
    (GW : FnOk P w K mg base CX0 2 fW dW ["value", "low", "high"] spIsWhole) (bW : L2.Binds K dW ["value", "low", "high"] []) (kW : PySem.W.keepIn K (.ref fW) = true) (mW : mg "is_whole" = some (.ref fW))
    (GE : FnOk P w K mg base CX0 3 fE dE ["value", "many"] (spIsVP K)) (bE : L2.Binds K dE ["value", "many"] []) (kE : PySem.W.keepIn K (.ref fE) = true) (mE : mg "is_vertex_pair" = some (.ref fE))
    (GA : FnOk P w K mg base CX0 1 fG dG ["row"] (spAscP K)) (bA : L2.Binds K dG ["row"] []) (kA : PySem.W.keepIn K (.ref fG) = true) (mA : mg "is_ascending" = some (.ref fG))
    (tk : Tok) (mM : mg "MOST_VERTICES" = some (.int 9 tk)) (mty : mg "type" = none) (mt : mg "tuple" = none) (ma : mg "all" = none) : FnOk P w K mg base CX0 4 f fd ["value"] (spIsGraph K) := by
  refine F.ok scIsGraph (fun vs H Q E h => ?_) (fun cdv A outer s H vs Q E hr h => ?_)
  · obtain ⟨x, n, es, rfl, _⟩ := h
    rfl
  obtain ⟨x, n, es, rfl, ⟨t, e, xs, rfl, ht, he, hes⟩, good, q⟩ := h
  refine ⟨_, pss_cons (ps_if (pt_not (pt_val (pe_call GI (hr.mono (by decide)) (by rfl) mI kI bI .nil pass0 (pa_cons (pv 0) pa_nil)))) (pss_one (ps_ret pe_bl)) pss_nil)
    (pss_cons (ps_asg (pv 0) (pg_tup (by rfl) (pgs_cons (pg_name (i := 1) scIsGraph.nd rfl (.inr rfl)) (pgs_cons (pg_name (i := 2) scIsGraph.nd rfl (.inl rfl)) pgs_nil))))
    (pss_cons (ps_if (PW.pt (pw_or (pt_not (pt_val (pe_call GW (hr.mono (by decide)) (by rfl) mW kW bW .nil pass0 (pa_cons (pv 1) (pa_cons pe_int (pa_cons (pe_glob (v := .int 9) (by rfl) mM ⟨_, rfl⟩) pa_nil))))))
        (pw_or1 (pt_cmpR op_isNotTy (pe_callTy call_type1 (by rfl) mty (by decide +kernel) (pa_cons (pv 2) pa_nil)) (pe_bltn (v := .ty "tuple") (by rfl) mt (by decide +kernel) rfl) (nomark _))))) (pss_one (ps_ret pe_bl)) pss_nil)
    (pss_one (ps_ret (pe_and (pe_callB (cr_all rfl) (by rfl) ma (by decide +kernel) (pa_cons (pe_lc (own := [("edge", 3)]) (g := gName 3) (tt := tYes) rfl scIsGraph.nd (pi_tup (pv 2))
        (blkOk_by (N := ["value", "many", "edges", "edge"]) (sc := defScope sIsGraph) (by decide +kernel)) (fun _ _ _ _ _ => pg_name (i := 3) scIsGraph.nd rfl (Or.inl rfl)) (fun _ _ _ _ _ => pts_nil)
        (fun _ _ _ _ _ => pe_and (pe_call GE (hr.mono (by decide)) (by rfl) mE kE bE .nil pass0 (pa_cons (pv 3) (pa_cons (pv 1) pa_nil))) (pe_one (pe_cmpR op_lt (pe_ix (r := rIxT K) ix_tup (pv 3) pe_int (fun _ _ => rfl)) (pe_ix (r := rIxT K) ix_tup (pv 3) pe_int (fun _ _ => rfl)) (nomark _))))) pa_nil))
      (pe_one (pe_call GA (hr.mono (by decide)) (by rfl) mA kA bA .nil pass0 (pa_cons (pv 2) pa_nil)))))))), ?_⟩
  refine ⟨_, rfl, t, _, _, rfl, ht, _, rfl, iteF ?_⟩
  refine ⟨_, rfl, t, _, rfl, ht, rfl, _, _, rfl, _, _, rfl, rfl, ?_⟩
  have n9 := good.n9
  refine ⟨_, rfl, _, _, _, rfl, by omega, by omega, _, rfl, iteF ?_⟩
  refine ⟨_, rfl, _, "tuple", rfl, .tup he, "tuple", "tuple", rfl, rfl, _, rfl, iteB (fun c => absurd c (by simp)) (fun _ => ?_)⟩
  have le := PairsAt.len hes
  have few := good.few
  refine ⟨_, rfl, e, rfl, ⟨_, he⟩, fun D nD => lc_tup (K := K) (a := e) (xs := xs) (fun i H2 => Same H H2 ∧ H2 D = some (.lst ((List.replicate i true).map V.bl))) ⟨same_new nD _, upd_same⟩ ?_ ?_ ?_⟩
  · rintro i H1 _ ⟨s1, _⟩
    exact Same.tup s1 he
  · rintro i x H2 hi ⟨s2, hD⟩
    obtain ⟨p, hp, hx⟩ := PairsAt.get (hes.same s2) hi
    obtain ⟨l1, l2⟩ := good.lt p (List.mem_of_getElem? hp)
    have li : i < xs.length := (List.getElem?_eq_some_iff.mp hi).1
    refine ⟨rfl, ?_⟩
    refine ⟨_, rfl, _, rfl, x, n, p, rfl, hx, by omega, l2, fun H3 s3 => ⟨true, rfl, iteT ?_⟩⟩
    obtain ⟨u, rfl, hu⟩ := hx
    have hu3 := Same.tup s3 hu
    refine ⟨_, rfl, u, _, 0, _, rfl, rfl, hu3, rfl, _, rfl, u, _, 1, _, rfl, rfl, hu3, rfl, _, _, rfl, rfl, ?_⟩
    have dl : decide (((p.1 : Nat) : Int) < ((p.2 : Nat) : Int)) = true := decide_eq_true (by omega)
    refine ⟨_, s3 _ _ hD, small1000 (by rw [List.length_map, List.length_replicate]; omega), same_put (s2.trans s3) nD, ?_⟩
    rw [upd_same]
    show some (HO.lst ((List.replicate i true).map V.bl ++ [V.bl (decide (((p.1 : Nat) : Int) < ((p.2 : Nat) : Int)))])) = _
    rw [dl, trues_succ]
  rintro H2 ⟨s2, hD⟩
  refine ⟨D, _, rfl, SqL.of hD, _, rfl, ?_⟩
  rw [trues]
  refine iteT ⟨_, rfl, e, xs, es, rfl, Same.tup s2 he, hes.same s2, good.up, few, fun H3 s3 => q H3 (s2.trans s3)⟩
theorem ok_check_graph (F : L2.Fun K "check_graph" "check_graph" sCheckGraph f fd) (GG : FnOk P w K mg base CX0 4 fG dG ["value"] (spIsGraph K)) (bG : L2.Binds K dG ["value"] []) (kG : PySem.W.keepIn K (.ref fG) = true) (mG : mg "is_graph" = some (.ref fG)) : FnOk P w K mg base CX0 5 f fd ["graph"] (spCheckGraph K) := by
  refine F.ok scCheckGraph (fun vs H Q E h => ?_) (fun cdv A outer s H vs Q E hr h => ?_)
  · obtain ⟨x, n, es, rfl, _⟩ := h
    rfl
  obtain ⟨x, n, es, rfl, hx, good, q⟩ := h
  refine ⟨_, pss_one (ps_if (pt_not (pt_val (pe_call GG (hr.mono (by decide)) (by rfl) mG kG bG .nil pass0 (pa_cons (pv 0) pa_nil)))) (pss_one ps_never) pss_nil), ?_⟩
  exact ⟨_, rfl, x, n, es, rfl, hx, good, fun H' s' => ⟨_, rfl, iteF (q H' s')⟩⟩
end
end My

set_option maxHeartbeats 4000000
namespace My
open PySem PySem.Spec PyProof.Rows L2
abbrev sGraph6 : Stmt := top 16
abbrev sSignsFor : Stmt := top (16 + 3)
abbrev sByGreater : Stmt := top (16 + 4)
theorem scGraph6 : FnScope ["graph", "many", "edges", "bits", "signs", "start", "number", "bit", "pair"] ["graph"] (defScope sGraph6) := ⟨rfl, rfl, rfl, by decide +kernel, rfl, by decide +kernel, by decide +kernel⟩
theorem scSignsFor : FnScope ["bits"] ["bits"] (defScope sSignsFor) := ⟨rfl, rfl, rfl, by decide +kernel, rfl, by decide +kernel, by decide +kernel⟩
theorem scByGreater : FnScope ["many", "other", "one"] ["many"] (defScope sByGreater) := ⟨rfl, rfl, rfl, by decide +kernel, rfl, by decide +kernel, by decide +kernel⟩
def spSignsFor : Sp := fun vs H Q _ => ∃ n : Nat, vs = [.int (n : Int)] ∧ Q (.int (((n + 5) / 6 : Nat) : Int)) H
def spByGreater (K : PySem.W.Frag) : Sp := fun vs H Q _ => ∃ n : Nat, vs = [.int (n : Int)] ∧ n ≤ 9 ∧ ∀ (D : Addr) (zs : List V) (H' : Hp), H D = none → Same H H' → H' D = some (.lst zs) → PairsT H' zs (pairsG n) → Q (.ref D) H'
def spCode (K : PySem.W.Frag) : Sp := fun vs H Q _ => ∃ (x : V) (n : Nat) (es : List E2), vs = [x] ∧ GraphAt K H x n es ∧ Good n es ∧ ∀ H', Same H H' → Q (.str (tx (codeL n es))) H'
theorem nums_app (a b : List Nat) : nums a ++ nums b = nums (a ++ b) := by
  unfold nums
  rw [List.map_append]
theorem cut_chunk {b : List Nat} {i : Nat} (h : 6 * i + 6 ≤ b.length) : cutV (nums b) (some ((6 * i : Nat) : Int)) (some ((6 * i + 6 : Nat) : Int)) = nums (chunk b i) := by
  unfold cutV chunk
  rw [HT.sIx_nat, HT.sIx_nat, nums_len, show min (6 * i) b.length = 6 * i by omega, show min (6 * i + 6) b.length - 6 * i = 6 by omega]
  unfold nums
  rw [← List.map_drop, ← List.map_take]
section
variable {P : Program} {w : World} {K : PySem.W.Frag} {mg : Str → Option Value} {base : Heap} {f fN fB fC fS : Addr} {fd dN dB dC dS : FuncData} {tk tk2 : Tok}
theorem ok_signs_for (F : L2.Fun K "_signs_for" "_signs_for" sSignsFor f fd) (mB : mg "BITS" = some (.int 6 tk)) : FnOk P w K mg base CX0 1 f fd ["bits"] spSignsFor := by
  refine F.ok scSignsFor (fun vs H Q E h => ?_) (fun cdv A outer s H vs Q E hr h => ?_)
  · obtain ⟨n, rfl, _⟩ := h
    rfl
  obtain ⟨n, rfl, q⟩ := h
  refine ⟨_, pss_one (ps_ret (pe_op op_fdivN (pe_op op_sub (pe_op op_add (pv 0) (pe_glob (v := .int 6) (by rfl) mB ⟨_, rfl⟩)) pe_int) (pe_glob (v := .int 6) (by rfl) mB ⟨_, rfl⟩))), ?_⟩
  refine ⟨_, rfl, _, _, rfl, rfl, _, _, rfl, rfl, _, _, rfl, rfl, ⟨by decide, by decide⟩, ?_⟩
  show Q (.int (((n : Int) + 6 - 1).fdiv 6)) H
  rw [show ((n : Int) + 6 - 1).fdiv 6 = (((n + 5) / 6 : Nat) : Int) by rw [Int.fdiv_eq_ediv_of_nonneg _ (by decide)]; omega]
  exact q
theorem ok_by_greater (F : L2.Fun K "_pairs_by_greater" "_pairs_by_greater" sByGreater f fd) (mr : mg "range" = none) : FnOk P w K mg base CX0 1 f fd ["many"] (spByGreater K) := by
  refine F.ok scByGreater (fun vs H Q E h => ?_) (fun cdv A outer s H vs Q E hr h => ?_)
  · obtain ⟨n, rfl, _⟩ := h
    rfl
  obtain ⟨n, rfl, n9, q⟩ := h
  refine ⟨_, pss_one (ps_ret (pe_lc2 (own := [("other", 1), ("one", 2)]) (vs1 := [2]) (g := gName 1) (g1 := gName 2) (tt := tYes) (tt1 := tYes) rfl scByGreater.nd (pi_range1 rfl mr (pa_cons (pv 0) pa_nil)) (blkOk_by (N := ["many", "other", "one"]) (sc := defScope sByGreater) (by decide +kernel)) (by decide)
    (fun _ _ _ _ _ => pg_name (i := 1) scByGreater.nd rfl (Or.inl rfl)) (fun _ _ _ _ _ => pts_nil) (fun _ _ _ _ _ => pi_range1 rfl mr (pa_cons (pv 1) pa_nil)) (fun _ _ _ _ _ => pg_name (i := 2) scByGreater.nd rfl (Or.inl rfl)) (fun _ _ _ _ _ => pts_nil)
    (fun _ _ _ _ _ => pe_tup (pa_cons (pv 2) (pa_cons (pv 1) pa_nil))))), ?_⟩
  refine ⟨_, rfl, (n : Int), rfl, by omega, by omega, fun D nD => lo_it (walk_range (lo := 0) (n := ((n : Nat) : Int).toNat)) (fun i H1 => Same H H1 ∧ ∃ zs, H1 D = some (.lst zs) ∧ PairsT H1 zs (pairsG i)) ⟨same_new nD _, [], upd_same, .nil⟩ (fun _ _ _ _ => trivial) ?_ ?_⟩
  · rintro i x H1 _ li ⟨s1, zs, hD, pz⟩ ⟨rfl, ex⟩
    obtain rfl : x = V.int ((i : Nat) : Int) := ex.trans (congrArg V.int (Int.zero_add _))
    have l9 : zs.length ≤ 36 := by rw [PairsT.len pz]; exact pairsG_few i (by omega)
    refine ⟨rfl, ?_⟩
    refine ⟨_, rfl, (i : Int), rfl, by omega, by omega, lo_it (walk_range (lo := 0) (n := ((i : Nat) : Int).toNat)) (fun j H1 => Same H H1 ∧ ∃ zs, H1 D = some (.lst zs) ∧ PairsT H1 zs (pairsG i ++ (List.range j).map fun u => (u, i))) ⟨s1, zs, hD, by rw [List.range_zero, List.map_nil, List.append_nil]; exact pz⟩ (fun _ _ _ _ => trivial) ?_ ?_⟩
    · rintro j x H1 _ lj ⟨s1, zs, hD, pz⟩ ⟨rfl, ex⟩
      obtain rfl : x = V.int ((j : Nat) : Int) := ex.trans (congrArg V.int (Int.zero_add _))
      refine ⟨rfl, ?_⟩
      refine ⟨_, rfl, _, rfl, (by show 2 ≤ sizeLine; decide), fun r nr => ?_⟩
      have p1 := push_pairT (j, i) hD nr pz
      have l1 : zs.length ≤ 36 + 9 := by
        rw [PairsT.len pz, List.length_append, List.length_map, List.length_range]
        have := pairsG_few i (by omega)
        omega
      refine ⟨zs, (same_new nr _) _ _ hD, small1000 (by omega), same_put (s1.trans (same_new nr _)) nD, _, upd_same, ?_⟩
      rw [List.range_succ, List.map_append, ← List.append_assoc]
      exact p1
    · rintro H1 ⟨s1, zs, hD, pz⟩
      rw [show ((i : Nat) : Int).toNat = i by omega, ← pairsG_succ] at pz
      exact ⟨s1, zs, hD, pz⟩
  · rintro H1 ⟨s1, zs, hD, pz⟩
    rw [show ((n : Nat) : Int).toNat = n by omega] at pz
    exact q D zs H1 nD s1 hD pz
theorem glued_tx (ks : List Nat) : Txt.join "" (ks.map fun k => tx [k]) = tx ks := by
  have e0 : ((("" : String) : Str)).cps = #[] := by decide +kernel
  have go : ∀ (l : List Nat) (a : Array Nat), (l.map fun k => tx [k]).foldl (fun acc p => acc ++ ((("" : String) : Str)).cps ++ p.cps) a = a ++ (tx l).cps := by
    intro l
    induction l with
    | nil => intro a; show a = a ++ #[]; rw [Array.append_empty]
    | cons k l ih =>
      intro a
      rw [List.map_cons, List.foldl_cons, ih, e0, Array.append_empty, Array.append_assoc]
      have z := tx_append [k] l
      have z2 : ((tx [k] ++ tx l : Str)).cps = (tx [k]).cps ++ (tx l).cps := rfl
      rw [← z2, z]
      rfl
  cases ks with
  | nil => rfl
  | cons k l =>
    unfold Txt.join Builtin.Str.glued
    rw [List.map_cons, List.drop_one, List.tail_cons, List.headD_cons, go]
    have z := tx_append [k] l
    have z2 : ((tx [k] ++ tx l : Str)).cps = (tx [k]).cps ++ (tx l).cps := rfl
    rw [← z2, z]
    rfl
def sgnV (ks : List Nat) : List V := ks.map fun k => V.str (tx [k])
theorem tx1_sum : ∀ ks : List Nat, ((ks.map fun k => tx [k]).map (·.length)).sum = ks.length
  | [] => rfl
  | k :: ks => by
    rw [List.map_cons, List.map_cons, List.sum_cons, tx1_sum ks, tx_len, List.length_cons, List.length_cons, List.length_nil]
    omega
theorem ok_graph6 (F : L2.Fun K "graph6" "graph6" sGraph6 f fd) (GC : FnOk P w K mg base CX0 5 fC dC ["graph"] (spCheckGraph K)) (bC : L2.Binds K dC ["graph"] []) (kC : PySem.W.keepIn K (.ref fC) = true) (mC : mg "check_graph" = some (.ref fC))
    (GB : FnOk P w K mg base CX0 1 fB dB ["many"] (spByGreater K)) (bB : L2.Binds K dB ["many"] []) (kB : PySem.W.keepIn K (.ref fB) = true) (mB : mg "_pairs_by_greater" = some (.ref fB))
    (GN : FnOk P w K mg base CX0 1 fN dN ["bits"] spSignsFor) (bN : L2.Binds K dN ["bits"] []) (kN : PySem.W.keepIn K (.ref fN) = true) (mN : mg "_signs_for" = some (.ref fN))
    (mBits : mg "BITS" = some (.int 6 tk)) (mSigns : mg "SIGNS" = some (.str SG tk2)) (mr : mg "range" = none) (ml : mg "len" = none) : FnOk P w K mg base CX0 6 f fd ["graph"] (spCode K) := by
  refine F.ok scGraph6 (fun vs H Q E h => ?_) (fun cdv A outer s H vs Q E hr h => ?_)
  · obtain ⟨x, n, es, rfl, _⟩ := h
    rfl
  obtain ⟨x, n, es, rfl, hx, good, q⟩ := h
  refine ⟨_, pss_cons (ps_expr (pe_call GC (hr.mono (by decide)) (by rfl) mC kC bC .nil pass0 (pa_cons (pv 0) pa_nil)))
    (pss_cons (ps_asg (pv 0) (pg_tup (by rfl) (pgs_cons (pg_name (i := 1) scGraph6.nd rfl (.inl rfl)) (pgs_cons (pg_name (i := 2) scGraph6.nd rfl (.inr rfl)) pgs_nil))))
    (pss_cons (ps_setLc (i := 3) (own := [("pair", 8)]) (g := gName 8) (tt := tYes) rfl scGraph6.nd rfl rfl (sw_true rfl rfl rfl (by decide +kernel)) (pi_list (pe_call GB (hr.mono (by decide)) (by rfl) mB kB bB .nil pass0 (pa_cons (pv 1) pa_nil)))
        (blkOk_by (N := ["graph", "many", "edges", "bits", "signs", "start", "number", "bit", "pair"]) (sc := defScope sGraph6) (by decide +kernel)) (fun _ _ _ _ _ => pg_name (i := 8) scGraph6.nd rfl (Or.inl rfl)) (fun _ _ _ _ _ => pts_nil)
        (fun _ _ _ _ _ => pe_ifExp (pt_cmpR (r := rInP id K) (op_inP hr.units) (pv 8) (pv 2) (by rfl)) pe_int pe_int))
    (pss_cons (ps_expr (pe_bm PySem.F.plainAttrs_list PySem.F.slot_list_extend PySem.F.type_list_extend mt_extend (pv 3) (pa_cons (pe_op op_rep (pe_lst (pa_cons pe_int pa_nil))
        (pe_op op_sub (pe_op op_mul (pe_call GN (hr.mono (by decide)) (by rfl) mN kN bN .nil pass0 (pa_cons (pe_callB call_len_seq (by rfl) ml PySem.boot_len (pa_cons (pv 3) pa_nil)) pa_nil)) (pe_glob (v := .int 6) (by rfl) mBits ⟨_, rfl⟩)) (pe_callB call_len_seq (by rfl) ml PySem.boot_len (pa_cons (pv 3) pa_nil)))) pa_nil)))
    (pss_cons (ps_set (i := 4) scGraph6.nd rfl (.inl rfl) (pe_lst (pa_cons (pe_ix ix_str (pe_glob (v := .str SG) (by rfl) mSigns ⟨_, rfl⟩) (pv 1) (fun _ _ => rfl)) pa_nil)))
    (pss_cons (ps_for PassesOwn.never rfl (pi_range3 rfl mr (pa_cons pe_int (pa_cons (pe_callB call_len_seq (by rfl) ml PySem.boot_len (pa_cons (pv 3) pa_nil)) (pa_cons (pe_glob (v := .int 6) (by rfl) mBits ⟨_, rfl⟩) pa_nil)))) (pg_name (i := 5) scGraph6.nd rfl (.inl rfl))
      (pss_cons (ps_set (i := 6) scGraph6.nd rfl (.inl rfl) pe_int)
      (pss_cons (ps_for PassesOwn.never rfl (pi_list (pe_slice sl_list (pv 3) (po_some (pv 5)) (po_some (pe_op op_add (pv 5) (pe_glob (v := .int 6) (by rfl) mBits ⟨_, rfl⟩))))) (pg_name (i := 7) scGraph6.nd rfl (.inl rfl))
        (pss_one (ps_set (i := 6) scGraph6.nd rfl (.inl rfl) (pe_op op_add (pe_op op_mul (pv 6) pe_int) (pv 7)))))
      (pss_one (ps_expr (pe_bm PySem.F.plainAttrs_list PySem.F.slot_list_append PySem.F.type_list_append mt_append (pv 4) (pa_cons (pe_ix ix_str (pe_glob (v := .str SG) (by rfl) mSigns ⟨_, rfl⟩) (pv 6) (fun _ _ => rfl)) pa_nil)))))))
    (pss_one (ps_ret (pe_join pe_str (pv 4))))))))), ?_⟩
  refine ⟨_, rfl, x, n, es, rfl, hx, good, fun H0 s0 => ?_⟩
  obtain ⟨g, e, xs, rfl, hg, he, hes⟩ := hx.same s0
  have n9 := good.n9
  have sg : SG.length = 64 := by rfl
  refine ⟨_, rfl, g, _, rfl, hg, rfl, _, _, rfl, _, _, rfl, rfl, ?_⟩
  refine ⟨_, rfl, n, rfl, n9, fun Z zs H1 nZ s1 hZ pzT => ?_⟩
  have pz : PairsAt K H1 zs (pairsG n) := pzT.at
  refine ⟨Z, rfl, ⟨_, SqL.of hZ⟩, fun B nB => lc_list (K := K) (a := Z) (xs := zs) (fun i H2 => Same H1 H2 ∧ H2 B = some (.lst (nums (((pairsG n).take i).map (bit1 es))))) ⟨same_new nB _, upd_same⟩ (fun i H2 _ ⟨s2, _⟩ => Same.seq s2 (SqL.of hZ)) ?_ ?_⟩
  · rintro i y H2 hi ⟨s2, hB⟩
    obtain ⟨p, hp, hy⟩ := PairsAt.get (pz.same s2) hi
    refine ⟨rfl, ?_⟩
    have nx : ∀ y : V, y = .int ((bit1 es p : Nat) : Int) → ∃ acc, H2 B = some (.lst acc) ∧ acc.length < sizeLine ∧ Same H1 (upd H2 B (.lst (acc ++ [y]))) ∧ (upd H2 B (.lst (acc ++ [y]))) B = some (.lst (nums (((pairsG n).take (i + 1)).map (bit1 es)))) := by
      rintro y rfl
      refine ⟨_, hB, small1000 (by rw [nums_len, List.length_map, List.length_take]; have := pairsG_few n n9; omega), same_put s2 nB, ?_⟩
      rw [upd_same, take_succ hp, List.map_append, ← nums_app]
      rfl
    refine ⟨_, rfl, _, rfl, p, e, xs, es, hy, rfl, Same.tup (s1.trans s2) he, hes.same (s1.trans s2), _, rfl, iteB (fun c => ?_) (fun c => ?_)⟩
    · have c' : p ∈ es := by simpa using c
      exact nx (.int 1) (by unfold bit1; rw [if_pos c']; rfl)
    · have c' : p ∉ es := by simpa using c
      exact nx (.int 0) (by unfold bit1; rw [if_neg c']; rfl)
  rintro H2 ⟨s2, hB⟩
  rw [PairsAt.len pz, List.take_length] at hB
  have hB : H2 B = some (.lst (nums (bitsOf n es))) := hB
  have nB0 : H B = none := (s0.trans s1).free nB
  obtain ⟨L, hL⟩ : ∃ L, L = (bitsOf n es).length := ⟨_, rfl⟩
  have l9 := bits_few n9 es
  rw [← hL] at l9
  have ln : (nums (bitsOf n es)).length = L := by rw [nums_len, ← hL]
  obtain ⟨b, hb⟩ : ∃ b, b = pad (bitsOf n es) := ⟨_, rfl⟩
  obtain ⟨m, hm⟩ : ∃ m, m = groups (bitsOf n es) := ⟨_, rfl⟩
  have lb : b.length = 6 * m := by rw [hb, hm]; exact pad_len _
  have m6 : m ≤ 6 := by
    rw [hm]
    unfold groups
    omega
  have b1 : ∀ x ∈ b, x ≤ 1 := by rw [hb]; exact pad_le (bits_le n es)
  refine ⟨_, rfl, .inl ⟨rfl, _, SqL.of hB⟩, (by show 1 ≤ sizeLine; decide), fun z nz => ?_⟩
  have s3 := same_new nz (.lst [.int 0])
  have hB3 := s3 _ _ hB
  refine ⟨_, rfl, B, _, rfl, .inl (SqL.of hB3), ?_⟩
  rw [ln]
  refine ⟨L, rfl, ?_⟩
  refine ⟨_, _, rfl, rfl, .inl ⟨by omega, by omega⟩, _, rfl, B, _, rfl, .inl (SqL.of hB3), ?_⟩
  rw [ln]
  refine ⟨_, _, rfl, rfl, z, _, _, rfl, rfl, upd_same, by omega, by omega, ?_, fun r nr => ?_⟩
  · show ([V.int 0] : List V).length * ((((L + 5) / 6 : Nat) : Int) * 6 - (L : Int)).toNat ≤ sizeLine
    exact small (by simp only [List.length_singleton]; omega)
  have e1 : (List.replicate ((((L + 5) / 6 : Nat) : Int) * 6 - (L : Int)).toNat ([V.int 0] : List V)).flatten = nums (List.replicate ((L + 5) / 6 * 6 - L) 0) := by
    rw [show ((((L + 5) / 6 : Nat) : Int) * 6 - (L : Int)).toNat = (L + 5) / 6 * 6 - L by omega]
    generalize (L + 5) / 6 * 6 - L = k
    induction k with
    | zero => rfl
    | succ k ih => rw [List.replicate_succ, List.flatten_cons, ih]; rfl
  rw [e1]
  have s4 := same_new nr (.lst (nums (List.replicate ((L + 5) / 6 * 6 - L) 0)))
  have hB4 := s4 _ _ hB3
  refine ⟨B, r, _, _, rfl, rfl, hB4, upd_same, small (by rw [ln, nums_len, List.length_replicate]; omega), ?_⟩
  have e3 : nums (bitsOf n es) ++ nums (List.replicate ((L + 5) / 6 * 6 - L) 0) = nums b := by
    rw [nums_app, hb, hL]
    rfl
  rw [e3]
  have s5 : Same H (upd (upd (upd H2 z (.lst [.int 0])) r (.lst (nums (List.replicate ((L + 5) / 6 * 6 - L) 0)))) B (.lst (nums b))) := same_put (s0.trans (s1.trans (s2.trans (s3.trans s4)))) nB0
  have hB5 : (upd (upd (upd H2 z (.lst [.int 0])) r (.lst (nums (List.replicate ((L + 5) / 6 * 6 - L) 0)))) B (.lst (nums b))) B = some (.lst (nums b)) := upd_same
  generalize upd (upd (upd H2 z (.lst [.int 0])) r (.lst (nums (List.replicate ((L + 5) / 6 * 6 - L) 0)))) B (.lst (nums b)) = H5 at s5 hB5 ⊢
  refine ⟨_, rfl, SG, _, _, rfl, rfl, (by rw [sg]; decide), SG_at n (by omega), (by show 1 ≤ sizeLine; decide), fun S nS => ?_⟩
  have nS0 := s5.free nS
  have SB : S ≠ B := fun e => by
    rw [e, hB5] at nS
    cases nS
  have s6 := same_new nS (.lst (sgnV [n]))
  have hB6 := s6 _ _ hB5
  refine ⟨_, rfl, B, _, rfl, .inl (SqL.of hB6), _, _, _, m, rfl, by rw [nums_len, lb]; have := six (6 * m) (by omega); rw [show (6 * m + 5) / 6 = m by omega] at this; exact this, for_rangeC (lo := 0) (c := 6) (n := m) (fun i σ H' => ∃ (s4 s5 s6 : Option V), σ = [some (.ref g), some (.int (n : Int)), some (.ref e), some (.ref B), some (.ref S), s4, s5, s6, none] ∧ Same H H' ∧ H' B = some (.lst (nums b)) ∧ H' S = some (.lst (sgnV (n :: (List.range i).map fun i => numOf (chunk b i)))))
    ⟨none, none, none, rfl, s5.trans s6, hB6, upd_same⟩ ?_ ?_⟩
  · rintro i σ H7 li ⟨s4', s5', s6', rfl, s7, hB, hS⟩
    rw [show (0 + (i : Int) * 6) = ((6 * i : Nat) : Int) by omega]
    have lc : (chunk b i).length = 6 := chunk_len (by omega)
    refine ⟨_, rfl, _, rfl, _, rfl, _, rfl, _, _, rfl, rfl, _, rfl, B, _, rfl, SqL.of hB, fun p np => ?_⟩
    rw [show (((6 * i : Nat) : Int) + 6) = ((6 * i + 6 : Nat) : Int) by omega, cut_chunk (by omega)]
    have s8 := same_new np (.lst (nums (chunk b i)))
    refine ⟨p, rfl, ⟨_, SqL.of upd_same⟩, for_list (K := K) (a := p) (xs := nums (chunk b i)) (fun j σ H' => ∃ s6 : Option V, σ = [some (.ref g), some (.int (n : Int)), some (.ref e), some (.ref B), some (.ref S), some (.int ((6 * i : Nat) : Int)), some (.int ((numOf ((chunk b i).take j) : Nat) : Int)), s6, none] ∧ H' = upd H7 p (.lst (nums (chunk b i)))) ⟨_, rfl, rfl⟩ ?_ ?_ ?_⟩
    · rintro j σ H' _ ⟨s6, rfl, rfl⟩
      exact SqL.of upd_same
    · rintro j x σ H' hj ⟨s6, rfl, rfl⟩
      obtain ⟨y, hy, rfl⟩ : ∃ y, (chunk b i)[j]? = some y ∧ x = .int ((y : Nat) : Int) := by
        unfold nums at hj
        rw [List.getElem?_map] at hj
        cases e : (chunk b i)[j]? with
        | none => rw [e] at hj; cases hj
        | some y => rw [e] at hj; exact ⟨y, rfl, (Option.some.inj hj).symm⟩
      have lt : numOf ((chunk b i).take j) < 64 := by
        have z := numOf_lt (b := (chunk b i).take j) fun x hx => b1 x (chunk_sub b i x (List.mem_of_mem_take hx))
        have le6 : ((chunk b i).take j).length ≤ 6 := by rw [List.length_take]; omega
        have p6 : 2 ^ ((chunk b i).take j).length ≤ 2 ^ 6 := Nat.pow_le_pow_right (by decide) le6
        exact Nat.lt_of_lt_of_le z p6
      refine ⟨_, rfl, _, _, rfl, rfl, .inl ⟨by omega, by omega⟩, _, rfl, _, _, rfl, rfl, some (.int ((y : Nat) : Int)), ?_, rfl⟩
      rw [take_succ hy, numOf_snoc, Nat.mul_comm 2]
      rfl
    · rintro σ H' ⟨s6, rfl, rfl⟩
      rw [nums_len, lc, List.take_of_length_le (by omega)]
      have lt := chunk_lt (i := i) b1
      have hS8 := s8 _ _ hS
      refine ⟨_, rfl, .inl ⟨rfl, _, SqL.of hS8⟩, _, rfl, SG, _, _, rfl, rfl, (by rw [sg]; decide), SG_at _ lt, S, _, _, rfl, rfl, hS8, small1000 (by unfold sgnV; rw [List.length_map, List.length_cons, List.length_map, List.length_range]; omega), some (.int ((6 * i : Nat) : Int)), some (.int ((numOf (chunk b i) : Nat) : Int)), s6, rfl, same_put (s7.trans s8) nS0, by rw [upd_ne (Ne.symm SB)]; exact s8 _ _ hB, ?_⟩
      rw [upd_same, List.range_succ, List.map_append]
      unfold sgnV
      rw [List.map_cons, List.map_cons, List.map_append]
      rfl
  · rintro σ H7 ⟨s4', s5', s6', rfl, s7, hB, hS⟩
    rw [hm, hb] at hS
    have hS : H7 S = some (.lst (sgnV (codeL n es))) := hS
    refine ⟨⟨_, rfl⟩, _, rfl, _, S, (codeL n es).map fun k => tx [k], rfl, rfl, .inl (SqL.of ?_), ?_, ?_⟩
    · rw [List.map_map]
      exact hS
    · rw [tx1_sum, List.length_map]
      unfold codeL
      rw [List.length_cons, List.length_map, List.length_range, ← hm]
      have z : ((("" : String) : Str)).length = 0 := by decide +kernel
      rw [z]
      omega
    · show Q (.str (Txt.join "" ((codeL n es).map fun k => tx [k]))) H7
      rw [glued_tx]
      exact q H7 s7
end
end My

set_option maxHeartbeats 8000000
namespace My
open PySem PySem.Spec PyProof.Rows L2
abbrev sFrom : Stmt := top (16 + 1)
abbrev sCanTell : Stmt := top (16 + 2)
theorem scFrom : FnScope ["text", "numbers", "many", "sixes", "pairs", "at", "number", "bits", "sign", "six", "place", "pair", "bit"] ["text"] (defScope sFrom) := ⟨rfl, rfl, rfl, by decide +kernel, rfl, by decide +kernel, by decide +kernel⟩
theorem scCanTell : FnScope ["number", "left", "spare"] ["number", "left"] (defScope sCanTell) := ⟨rfl, rfl, rfl, by decide +kernel, rfl, by decide +kernel, by decide +kernel⟩
def spCanTell : Sp := fun vs H Q _ => ∃ (c L a : Nat), vs = [.int (nm c), .int ((L : Int) - (a : Int) * 6)] ∧ Q (.bl (goodS L a c)) H
section
variable {P : Program} {w : World} {K : PySem.W.Frag} {mg : Str → Option Value} {base : Heap} {C f fI fT fB fN : Addr} {fd dI dT dB dN : FuncData} {tk tk2 tk3 : Tok}
theorem ok_initS (F : L2.Fun K "__init__" "InvalidSign.__init__" (inClass (top 3) 0) f fd) (T : OexC K C) (no : PySem.W.findIn K (.ref C) "index" = some none) : FnOk P w K mg base CX0 1 f fd ["self", "index"] (spInit C "index") := by
  refine F.ok (show FnScope ["self", "index"] ["self", "index"] (defScope (inClass (top 3) 0)) from ⟨rfl, rfl, rfl, by decide +kernel, rfl, by decide +kernel, by decide +kernel⟩) (fun vs H Q E h => ?_) (fun cdv A outer s H vs Q E hr h => ?_)
  · obtain ⟨a, v, rfl, _⟩ := h
    rfl
  obtain ⟨a, v, rfl, ha, q⟩ := h
  refine ⟨_, pss_one (ps_ost (pv 0) (pv 1)), ?_⟩
  exact ⟨_, rfl, _, rfl, a, C, rfl, T, no, .inl ⟨ha, q⟩⟩
theorem ok_can_tell (F : L2.Fun K "_can_tell" "_can_tell" sCanTell f fd) (mB : mg "BITS" = some (.int 6 tk)) (mx : mg "max" = none) : FnOk P w K mg base CX0 1 f fd ["number", "left"] spCanTell := by
  refine F.ok scCanTell (fun vs H Q E h => ?_) (fun cdv A outer s H vs Q E hr h => ?_)
  · obtain ⟨c, L, a, rfl, _⟩ := h
    rfl
  obtain ⟨c, L, a, rfl, q⟩ := h
  refine ⟨_, pss_cons (ps_if (PW.pt (pw_or (pt_cmpR op_lt (pv 0) pe_int (nomark _)) (pw_or1 (pt_cmpR op_le (pv 1) pe_int (nomark _))))) (pss_one (ps_ret pe_bl)) pss_nil)
    (pss_cons (ps_set (i := 2) scCanTell.nd rfl (.inl rfl) (pe_callB (call_max2 rfl) (by rfl) mx (by decide +kernel) (pa_cons pe_int (pa_cons (pe_op op_sub (pe_glob (v := .int 6) (by rfl) mB ⟨_, rfl⟩) (pv 1)) pa_nil))))
    (pss_one (ps_ret (pe_cmpR op_eq (pe_op op_modN (pv 0) (pe_op op_shl pe_int (pv 2))) pe_int (nomark _))))), ?_⟩
  refine ⟨_, rfl, _, _, rfl, rfl, _, rfl, iteB (fun c1 => ?_) (fun c1 => ?_)⟩
  · have n0 : nm c < 0 := of_decide_eq_true c1
    have g : goodS L a c = false := by
      unfold goodS
      unfold nm at n0
      have : ¬ (63 ≤ c ∧ c < 127) := fun z => by rw [if_pos z] at n0; omega
      rw [decide_eq_false this]
      rfl
    rw [g] at q
    exact q
  · have n0 : ¬ nm c < 0 := of_decide_eq_false c1
    have cr : 63 ≤ c ∧ c < 127 := by
      unfold nm at n0
      by_cases z : 63 ≤ c ∧ c < 127
      · exact z
      · rw [if_neg z] at n0
        exact absurd (by decide) n0
    have en : nm c = ((c - 63 : Nat) : Int) := by
      unfold nm
      rw [if_pos cr]
      omega
    refine ⟨_, rfl, _, _, rfl, rfl, _, rfl, iteB (fun c2 => ?_) (fun c2 => ?_)⟩
    · have l0 : (L : Int) - (a : Int) * 6 ≤ 0 := of_decide_eq_true c2
      have g : goodS L a c = false := by
        unfold goodS
        rw [decide_eq_false (p := 6 * a < L) (by omega), Bool.and_false, Bool.false_and]
      rw [g] at q
      exact q
    · have l0 : ¬ (L : Int) - (a : Int) * 6 ≤ 0 := of_decide_eq_false c2
      refine ⟨_, rfl, _, _, rfl, rfl, _, _, rfl, _, rfl, _, rfl, _, _, rfl, rfl, ?_, _, _, rfl, rfl, ?_, rfl, ?_⟩
      · refine ⟨?_, ?_, by decide⟩
        · split <;> omega
        · split <;> omega
      · show (1 : Int) * 2 ^ _ ≠ 0
        rw [Int.one_mul]
        exact Int.ne_of_gt (Int.pow_pos (by decide))
      · show Q (.bl (decide (V.int ((nm c).fmod (1 * 2 ^ (if (6 : Int) - ((L : Int) - (a : Int) * 6) > 0 then (6 : Int) - ((L : Int) - (a : Int) * 6) else 0).toNat)) = V.int 0))) H
        have es : (if (6 : Int) - ((L : Int) - (a : Int) * 6) > 0 then (6 : Int) - ((L : Int) - (a : Int) * 6) else 0).toNat = 6 - (L - 6 * a) := by split <;> omega
        have e2 : (nm c).fmod (1 * 2 ^ (6 - (L - 6 * a))) = (((c - 63) % 2 ^ (6 - (L - 6 * a)) : Nat) : Int) := by
          rw [en, Int.one_mul, Int.fmod_eq_emod_of_nonneg _ (Int.le_of_lt (Int.pow_pos (by decide))), Int.natCast_emod, Int.natCast_pow] <;> rfl
        rw [es, e2]
        have g : goodS L a c = decide (V.int (((c - 63) % 2 ^ (6 - (L - 6 * a)) : Nat) : Int) = V.int 0) := by
          unfold goodS
          rw [decide_eq_true cr, decide_eq_true (p := 6 * a < L) (by omega), Bool.true_and, Bool.true_and]
          refine decide_eq_decide.mpr ⟨fun z => by rw [z]; rfl, fun z => ?_⟩
          have := V.int.inj z
          omega
        rw [← g]
        exact q
def spFrom (K : PySem.W.Frag) (C : Addr) : Sp := fun vs H Q E =>
  (∃ z : Str, vs = [.str z] ∧ (∀ c ∈ z.cps.toList, c < 128) ∧ z.length ≤ 900 ∧ (∀ k, readG z.cps.toList = .bad k → ∀ d H', H d = none → Same H H' → H' d = some (.xd [("index", .int (k : Int))]) → E (.ref C) (some d) H') ∧
    (∀ n ps, readG z.cps.toList = .told n ps → ∀ x es H', Same H H' → GraphAt K H' x n es → Good n es → (∀ q, q ∈ es ↔ q ∈ ps) → Q x H')) ∨
  ∃ (v : V) (T : String), vs = [v] ∧ TyB K H v T ∧ T ≠ "str" ∧ ∀ d H', H d = none → Same H H' → H' d = some (.xd [("index", .non)]) → E (.ref C) (some d) H'
/-- raising InvalidSign(v): what its making asks -/
theorem raised {H : Hp} {C : Addr} {E : XK} {v : V} (h : ∀ d H', H d = none → Same H H' → H' d = some (.xd [("index", v)]) → E (.ref C) (some d) H') :
    ([v] : List V).length ≤ 1000 ∧ ∀ a, H a = none → spInit C "index" (.ref a :: ([v] ++ [])) (upd H a (exo a C none)) (fun r H2 => r = .non ∧ ∃ (d : Addr) (fs : List (Str × V)), H2 a = some (exo a C (some d)) ∧ H2 d = some (exd d fs) ∧ H d = none ∧ E (.ref C) (some d) (upd (del H2 a) d (.xd fs))) (fun _ _ _ => False) := by
  refine ⟨by show 1 ≤ 1000; decide, fun a na => ⟨a, v, rfl, upd_same, fun d nd ne => ⟨rfl, d, [("index", v)], upd_same, ?_, ?_, ?_⟩⟩⟩
  · rw [upd_ne ne]
    exact upd_same
  · rw [upd_ne ne] at nd
    exact nd
  · rw [upd_ne ne] at nd
    refine h d _ nd (fun q o e => ?_) upd_same
    rw [upd_ne (ne_of_none e nd), del_ne (ne_of_none e na), upd_ne (ne_of_none e na), upd_ne (ne_of_none e nd), upd_ne (ne_of_none e na)]
    exact e
def tTru (K : PySem.W.Frag) (te : TE) : TT := fun σ H Q => te σ H fun x H' => ∃ k, TruV K x H' k ∧ Q k H'
theorem zip_take_len {α β : Type} : ∀ (ps : List α) (bs : List β), ps.zip (bs.take ps.length) = ps.zip bs
  | [], bs => by rw [List.zip_nil_left, List.zip_nil_left]
  | p :: ps, [] => by rw [List.take_nil]
  | p :: ps, b :: bs => by rw [List.length_cons, List.take_succ_cons, List.zip_cons_cons, List.zip_cons_cons, zip_take_len ps bs]
theorem ok_from (F : L2.Fun K "from_graph6" "from_graph6" sFrom f fd) (T : XCls K C fI "index") (GI : FnOk P w K mg base CX0 1 fI dI ["self", "index"] (spInit C "index")) (bI : L2.Binds K dI ["self", "index"] []) (mC : mg "InvalidSign" = some (.ref C))
    (GT : FnOk P w K mg base CX0 1 fT dT ["number", "left"] spCanTell) (bT : L2.Binds K dT ["number", "left"] []) (kT : PySem.W.keepIn K (.ref fT) = true) (mT : mg "_can_tell" = some (.ref fT))
    (GB : FnOk P w K mg base CX0 1 fB dB ["many"] (spByGreater K)) (bB : L2.Binds K dB ["many"] []) (kB : PySem.W.keepIn K (.ref fB) = true) (mB : mg "_pairs_by_greater" = some (.ref fB))
    (GN : FnOk P w K mg base CX0 1 fN dN ["bits"] spSignsFor) (bN : L2.Binds K dN ["bits"] []) (kN : PySem.W.keepIn K (.ref fN) = true) (mN : mg "_signs_for" = some (.ref fN))
    (mBits : mg "BITS" = some (.int 6 tk)) (mSigns : mg "SIGNS" = some (.str SG tk2)) (mMost : mg "MOST_VERTICES" = some (.int 9 tk3)) (mty : mg "type" = none) (ms : mg "str" = none) (me : mg "enumerate" = none) (ml : mg "len" = none) (mt : mg "tuple" = none) (mso : mg "sorted" = none) (mz : mg "zip" = none) :
    FnOk P w K mg base (L2.CX P w) 3 f fd ["text"] (spFrom K C) := by
  refine F.okX scFrom (fun vs H Q E h => ?_) (fun cdv A outer s H vs Q E hr h => ?_)
  · rcases h with ⟨z, rfl, _⟩ | ⟨v, T, rfl, _⟩ <;> rfl
  refine ⟨_, pss_cons (ps_if (pt_cmpR op_isNotTy (pe_callTy call_type1 (by rfl) mty (by decide +kernel) (pa_cons (pv 0) pa_nil)) (pe_bltn (v := .ty "str") (by rfl) ms (by decide +kernel) rfl) (nomark _))
      (pss_one (ps_raise rfl (takes_of rfl rfl rfl rfl) (pmk_oex T.ox T.iC T.tI GI hr bI .nil pass0 (by rfl) mC (pa_cons pe_non pa_nil)))) pss_nil)
    (pss_cons (ps_setLc (i := 1) (own := [("sign", 8)]) (g := gName 8) (tt := tYes) rfl scFrom.nd rfl rfl (sw_true rfl rfl rfl (by decide +kernel)) (pi_str (pv 0))
        (blkOk_by (N := ["text", "numbers", "many", "sixes", "pairs", "at", "number", "bits", "sign", "six", "place", "pair", "bit"]) (sc := defScope sFrom) (by decide +kernel)) (fun _ _ _ _ _ => pg_name (i := 8) scFrom.nd rfl (Or.inl rfl)) (fun _ _ _ _ _ => pts_nil)
        (fun _ _ _ _ _ => pe_m1 PySem.F.slot_str_find PySem.F.type_str_find mt_find (pe_glob (v := .str SG) (by rfl) mSigns ⟨_, rfl⟩) (pv 8)))
    (pss_cons (ps_if (PW.pt (pw_or (pt_not (pt_truth (pv 1) (by intro _; rfl))) (pw_or1 (pt_not (pt_chain op_le op_le pe_int (pe_ix ix_list (pv 1) pe_int (fun _ _ => rfl)) (pe_glob (v := .int 9) (by rfl) mMost ⟨_, rfl⟩))))))
      (pss_one (ps_raise rfl (takes_of rfl rfl rfl rfl) (pmk_oex T.ox T.iC T.tI GI hr bI .nil pass0 (by rfl) mC (pa_cons pe_int pa_nil)))) pss_nil)
    (pss_cons (ps_asg (pv 1) (pg_star (by rfl) (pg_name (i := 2) scFrom.nd rfl (.inl rfl)) (pg_name (i := 3) scFrom.nd rfl (.inl rfl))))
    (pss_cons (ps_set (i := 4) scFrom.nd rfl (.inl rfl) (pe_call GB (hr.mono (by decide)) (by rfl) mB kB bB .nil pass0 (pa_cons (pv 2) pa_nil)))
    (pss_cons (ps_for (passes_of rfl) rfl (pi_enum (by rfl) me (pa_cons (pv 3) pa_nil)) (pg_tup (by rfl) (pgs_cons (pg_name (i := 5) scFrom.nd rfl (.inl rfl)) (pgs_cons (pg_name (i := 6) scFrom.nd rfl (.inl rfl)) pgs_nil)))
      (pss_one (ps_if (pt_not (pt_val (pe_call GT (hr.mono (by decide)) (by rfl) mT kT bT .nil pass0 (pa_cons (pv 6) (pa_cons (pe_op op_sub (pe_callB call_len_seq (by rfl) ml PySem.boot_len (pa_cons (pv 4) pa_nil)) (pe_op op_mul (pv 5) (pe_glob (v := .int 6) (by rfl) mBits ⟨_, rfl⟩))) pa_nil)))))
        (pss_one (ps_raise rfl (takes_of rfl rfl rfl rfl) (pmk_oex T.ox T.iC T.tI GI hr bI .nil pass0 (by rfl) mC (pa_cons (pe_op op_add pe_int (pv 5)) pa_nil)))) pss_nil)))
    (pss_cons (ps_if (pt_cmpR op_lt (pe_callB call_len_seq (by rfl) ml PySem.boot_len (pa_cons (pv 3) pa_nil)) (pe_call GN (hr.mono (by decide)) (by rfl) mN kN bN .nil pass0 (pa_cons (pe_callB call_len_seq (by rfl) ml PySem.boot_len (pa_cons (pv 4) pa_nil)) pa_nil)) (nomark _))
      (pss_one (ps_raise rfl (takes_of rfl rfl rfl rfl) (pmk_oex T.ox T.iC T.tI GI hr bI .nil pass0 (by rfl) mC (pa_cons (pe_callB call_len_str (by rfl) ml PySem.boot_len (pa_cons (pv 0) pa_nil)) pa_nil)))) pss_nil)
    (pss_cons (ps_setLc2 (i := 7) (own := [("six", 9), ("place", 10)]) (vs1 := [10]) (g := gName 9) (g1 := gName 10) (tt := tYes) (tt1 := tYes) (wi1 := iTup K (tTup (tCons (tC (.int 5)) (tCons (tC (.int 4)) (tCons (tC (.int 3)) (tCons (tC (.int 2)) (tCons (tC (.int 1)) (tCons (tC (.int 0)) tNil))))))))  rfl scFrom.nd rfl rfl (sw_true rfl rfl rfl (by decide +kernel)) (pi_list (pv 3))
        (blkOk_by (N := ["text", "numbers", "many", "sixes", "pairs", "at", "number", "bits", "sign", "six", "place", "pair", "bit"]) (sc := defScope sFrom) (by decide +kernel)) (by decide)
        (fun _ _ _ _ _ => pg_name (i := 9) scFrom.nd rfl (Or.inl rfl)) (fun _ _ _ _ _ => pts_nil) (fun _ _ _ _ _ => pi_tup (pe_tup (pa_cons pe_int (pa_cons pe_int (pa_cons pe_int (pa_cons pe_int (pa_cons pe_int (pa_cons pe_int pa_nil)))))))) (fun _ _ _ _ _ => pg_name (i := 10) scFrom.nd rfl (Or.inl rfl)) (fun _ _ _ _ _ => pts_nil)
        (fun _ _ _ _ _ => pe_op op_and (pe_op op_shr (pv 9) (pv 10)) pe_int))
    (pss_one (ps_ret (pe_tup (pa_cons (pv 2) (pa_cons (pe_callTy call_tuple_of (by rfl) mt (by decide +kernel) (pa_cons (pe_callB cr_sortedPO (by rfl) mso (by decide +kernel) (pa_cons
        (pe_lc (own := [("pair", 11), ("bit", 12)]) (g := gTup K 2 (gCons (gName 11) (gCons (gName 12) gNil))) (tt := tTru K (tVar 12)) rfl scFrom.nd (pi_zip (by rfl) mz (pa_cons (pv 4) (pa_cons (pv 7) pa_nil)))
          (blkOk_by (N := ["text", "numbers", "many", "sixes", "pairs", "at", "number", "bits", "sign", "six", "place", "pair", "bit"]) (sc := defScope sFrom) (by decide +kernel)) (fun _ _ _ _ _ => pg_tup (by rfl) (pgs_cons (pg_name (i := 11) scFrom.nd rfl (Or.inl rfl)) (pgs_cons (pg_name (i := 12) scFrom.nd rfl (Or.inl rfl)) pgs_nil)))
          (fun _ _ _ _ _ => pts_one (pt_truth (pv 12) (by intro _; rfl))) (fun _ _ _ _ _ => pv 11)) pa_nil)) pa_nil)) pa_nil)))))))))))), ?_⟩
  rcases h with ⟨z, rfl, hz, zl, bad, told⟩ | ⟨v, T', rfl, tyv, nt, q⟩
  rotate_left 1
  · refine ⟨_, rfl, v, T', rfl, tyv, T', "str", rfl, rfl, _, rfl, iteB (fun _ => ?_) (fun c => absurd c (by simp [nt]))⟩
    exact raised q
  refine ⟨_, rfl, .str z, "str", rfl, .str z, "str", "str", rfl, rfl, _, rfl, iteB (fun c => absurd c (by simp)) (fun _ => ?_)⟩
  have bad' : ∀ k, readG z.cps.toList = .bad k → ∀ H1, Same H H1 → ∀ d H', H1 d = none → Same H1 H' → H' d = some (.xd [("index", .int (k : Int))]) → E (.ref C) (some d) H' := fun k hk H1 s1 d H' nd s' hd => bad k hk d H' (s1.free nd) (s1.trans s') hd
  have zs : z.cps.size = z.cps.toList.length := (Array.length_toList ..).symm
  have zl2 : z.cps.toList.length ≤ 900 := by rw [← zs]; exact zl
  generalize hcs : z.cps.toList = cs at bad' told hz zl2 zs
  refine ⟨_, rfl, z, rfl, fun D nD => lc_it (walk_str (z := z)) (fun i H1 => Same H H1 ∧ H1 D = some (.lst (numsZ (cs.take i)))) ⟨same_new nD _, upd_same⟩ (fun _ _ _ _ => trivial) ?_ ?_⟩
  · rintro i x H1 _ li ⟨s1, hD⟩ ⟨rfl, c, hc, rfl⟩
    have hc' : cs[i]? = some c := by rw [← hcs, Array.getElem?_toList]; exact hc
    refine ⟨rfl, ?_⟩
    refine ⟨⟨_, rfl⟩, _, rfl, _, _, rfl, rfl, _, hD, small1000 (by unfold numsZ; rw [List.length_map, List.length_take]; omega), same_put s1 nD, ?_⟩
    rw [upd_same, take_succ hc']
    unfold numsZ
    rw [List.map_append, find_sg c (hz c (List.mem_of_getElem? hc'))]
    rfl
  rintro H1 ⟨s1, hD⟩
  rw [zs, List.take_length] at hD
  cases cs with
  | nil =>
    refine ⟨_, rfl, _, .inl ⟨_, SqL.of hD, rfl⟩, iteT ?_⟩
    exact raised (v := .int 0) (bad' 0 rfl H1 s1)
  | cons c cs =>
  refine ⟨_, rfl, _, .inl ⟨_, SqL.of hD, rfl⟩, iteF ?_⟩
  have rg : ∀ o, 63 ≤ c ∧ c ≤ 72 → scan (pairsG (c - 63)).length 0 cs = o → readG (c :: cs) = match o with
    | some k => .bad k
    | none => .told (c - 63) (tellP (pairsG (c - 63)) (bitsC cs)) := fun o hc ho => by
    show (if 63 ≤ c ∧ c ≤ 72 then (match scan (pairsG (c - 63)).length 0 cs with
      | some k => RdG.bad k
      | none => .told (c - 63) (tellP (pairsG (c - 63)) (bitsC cs))) else .bad 0) = _
    rw [if_pos hc, ho]
  have at0 : atI (numsZ (c :: cs)) 0 = some (.int (nm c)) := atI_nat (j := 0) rfl
  by_cases hc : 63 ≤ c ∧ c ≤ 72
  rotate_left 1
  · have r0 : readG (c :: cs) = .bad 0 := if_neg hc
    have no : ¬ (0 ≤ nm c ∧ nm c ≤ 9) := fun ⟨a, b⟩ => by
      unfold nm at a b
      split at a
      · rename_i h; rw [if_pos h] at b; omega
      · exact absurd a (by decide)
    refine ⟨_, rfl, D, _, _, _, rfl, rfl, SqL.of hD, at0, _, _, rfl, rfl, _, rfl, iteB (fun c1 => ⟨_, _, rfl, rfl, _, rfl, iteB (fun _ => ?_) (fun c2 => ?_)⟩) (fun c1 => ⟨_, rfl, iteT ?_⟩)⟩
    · exact raised (v := .int 0) (bad' 0 r0 H1 s1)
    · have c2' : (!decide (nm c ≤ 9)) = false := c2
      exact absurd ⟨of_decide_eq_true c1, by simpa using c2'⟩ no
    · exact raised (v := .int 0) (bad' 0 r0 H1 s1)
  obtain ⟨n, hn⟩ : ∃ n, n = c - 63 := ⟨_, rfl⟩
  have n9 : n ≤ 9 := by omega
  have en : nm c = (n : Int) := by
    unfold nm
    rw [if_pos (by omega)]
    omega
  have rg' := fun o => rg o hc
  rw [← hn] at rg'
  have hD : H1 D = some (.lst (V.int (n : Int) :: numsZ cs)) := by
    rw [hD]
    show some (HO.lst (V.int (nm c) :: numsZ cs)) = _
    rw [en]
  rw [en] at at0
  refine ⟨_, rfl, D, _, _, _, rfl, rfl, SqL.of hD, atI_nat (j := 0) rfl, _, _, rfl, rfl, _, rfl, iteB (fun c1 => ⟨_, _, rfl, rfl, _, rfl, iteB (fun c2 => ?_) (fun _ => ?_)⟩) (fun c1 => ?_)⟩
  · have c2' : (!decide ((n : Int) ≤ 9)) = true := c2
    exact absurd (show (n : Int) ≤ 9 by omega) (by simpa using c2')
  rotate_left 1
  · exact absurd (show (0 : Int) ≤ (n : Int) by omega) (of_decide_eq_false c1)
  have zl3 : cs.length ≤ 899 := by rw [List.length_cons] at zl2; omega
  refine ⟨_, rfl, D, _, _, rfl, SqL.of hD, fun l nl => ⟨_, _, rfl, _, _, rfl, rfl, ?_⟩⟩
  have s2 := same_new nl (.lst (numsZ cs))
  refine ⟨_, rfl, n, rfl, n9, fun Z ps H3 nZ s3 hZ pz => ?_⟩
  have lp : ps.length = (pairsG n).length := PairsT.len pz
  have l36 := pairsG_few n n9
  have hl3 := s3 _ _ (upd_same (H := H1) (a := l) (o := .lst (numsZ cs)))
  obtain ⟨L, hL⟩ : ∃ L, L = (pairsG n).length := ⟨_, rfl⟩
  rw [← hL] at lp l36
  have sA := s1.trans (s2.trans s3)
  refine ⟨_, rfl, l, _, rfl, SqL.of hl3, for_it walk_enum (fun i σ H' => ∃ s5 s6 : Option V, σ = [some (.str z), some (.ref D), some (.int (n : Int)), some (.ref l), some (.ref Z), s5, s6, none, none, none, none, none, none] ∧ Same H3 H' ∧ scan L 0 cs = scan L i (cs.drop i))
    ⟨none, none, rfl, fun _ _ e => e, rfl⟩ (fun i σ H' _ ⟨_, _, _, s4, _⟩ => Same.seq s4 (SqL.of hl3)) ?_ ?_⟩
  · rintro i x σ H4 H5 li ⟨s5, s6, rfl, s4, sc⟩ ⟨T1, y, w, rfl, nT, rfl, e1, e2⟩
    obtain rfl : V.int ((i : Nat) : Int) = y := Option.some.inj e1
    obtain ⟨c', hc', rfl⟩ : ∃ c', cs[i]? = some c' ∧ V.int (nm c') = w := by
      have e2' : (numsZ cs)[i]? = some w := e2
      unfold numsZ at e2'
      rw [List.getElem?_map] at e2'
      cases e : cs[i]? with
      | none => rw [e] at e2'; cases e2'
      | some c' => rw [e] at e2'; exact ⟨c', rfl, Option.some.inj e2'⟩
    have sT := same_new nT (.tup [.int ((i : Nat) : Int), .int (nm c')])
    have hZ' := sT _ _ (s4 _ _ hZ)
    have li' : i < cs.length := (List.getElem?_eq_some_iff.mp hc').1
    have dr : cs.drop i = c' :: cs.drop (i + 1) := by
      rw [List.drop_eq_getElem_cons li']
      congr 1
      exact (List.getElem?_eq_some_iff.mp hc').2
    rw [dr] at sc
    have sc' : scan L 0 cs = if goodS L i c' = true then scan L (i + 1) (cs.drop (i + 1)) else some (i + 1) := sc
    refine ⟨T1, _, rfl, SqT.of upd_same, rfl, _, _, rfl, _, _, rfl, rfl, ?_⟩
    refine ⟨_, rfl, _, rfl, Z, _, rfl, .inl (SqL.of hZ'), _, rfl, _, _, rfl, rfl, .inl ⟨by omega, by omega⟩, _, _, rfl, rfl, c', L, i, (by rw [lp]; rfl), _, rfl, iteB (fun g => ?_) (fun g => ?_)⟩
    · have g' : ¬ goodS L i c' = true := by simpa using g
      rw [if_neg g'] at sc'
      have e3 : ((1 : Int) + (i : Int)) = ((i + 1 : Nat) : Int) := by omega
      refine ⟨_, rfl, _, _, rfl, rfl, ?_⟩
      have R := raised (v := V.int ((i + 1 : Nat) : Int)) (bad' (i + 1) (rg' (some (i + 1)) (by rw [← hL]; exact sc')) _ (sA.trans (s4.trans sT)))
      rw [← e3] at R
      exact R
    · have g' : goodS L i c' = true := by simpa using g
      rw [if_pos g'] at sc'
      exact ⟨_, _, rfl, s4.trans sT, sc'⟩
  rintro σ H4 ⟨s5, s6, rfl, s4, sc⟩
  have ln : (numsZ cs).length = cs.length := List.length_map _
  rw [ln, List.drop_length] at sc
  have sc' : scan L 0 cs = if 6 * cs.length < L then some (cs.length + 1) else none := sc
  have hl4 := s4 _ _ hl3
  have hZ4 := s4 _ _ hZ
  refine ⟨_, rfl, l, _, rfl, .inl (SqL.of hl4), _, rfl, Z, _, rfl, .inl (SqL.of hZ4), ps.length, rfl, _, _, rfl, rfl, _, rfl, iteB (fun g => ?_) (fun g => ?_)⟩
  · have g' : ((numsZ cs).length : Int) < (((ps.length + 5) / 6 : Nat) : Int) := of_decide_eq_true g
    rw [ln, lp] at g'
    rw [if_pos (by omega)] at sc'
    refine ⟨_, rfl, z, rfl, small (by omega), ?_⟩
    have e3 : ((z.length : Nat) : Int) = ((cs.length + 1 : Nat) : Int) := by
      show ((z.cps.size : Nat) : Int) = _
      rw [zs, List.length_cons]
    show ([V.int ((z.length : Nat) : Int)] : List V).length ≤ 1000 ∧ _
    rw [e3]
    exact raised (bad' (cs.length + 1) (rg' (some (cs.length + 1)) (by rw [← hL]; exact sc')) _ (sA.trans s4))
  have g' : ¬ ((numsZ cs).length : Int) < (((ps.length + 5) / 6 : Nat) : Int) := of_decide_eq_false g
  rw [ln, lp] at g'
  rw [if_neg (by omega)] at sc'
  have rd : readG (c :: cs) = .told n (tellP (pairsG n) (bitsC cs)) := rg' none (by rw [← hL]; exact sc')
  have good := scan_good cs 0 sc'
  have lgs := scan_enough cs 0 sc'
  rw [Nat.zero_add] at lgs
  have sB := sA.trans s4
  -- the bits
  refine ⟨_, rfl, l, rfl, ⟨_, SqL.of hl4⟩, fun B nB => lo_it (walk_list (xs := numsZ cs)) (fun i H5 => Same H4 H5 ∧ H5 B = some (.lst (nums (bitsC (cs.take i))))) ⟨same_new nB _, upd_same⟩ (fun i H5 _ ⟨s5, _⟩ => Same.seq s5 (SqL.of hl4)) ?_ ?_⟩
  · rintro i x _ H5 li ⟨s5, hB⟩ ⟨rfl, hx⟩
    obtain ⟨c', hc', rfl⟩ : ∃ c', cs[i]? = some c' ∧ V.int (nm c') = x := by
      unfold numsZ at hx
      rw [List.getElem?_map] at hx
      cases e : cs[i]? with
      | none => rw [e] at hx; cases hx
      | some c' => rw [e] at hx; exact ⟨c', rfl, Option.some.inj hx⟩
    have gd := good i c' hc'
    rw [Nat.zero_add] at gd
    unfold goodS at gd
    rw [Bool.and_eq_true, Bool.and_eq_true] at gd
    have cr : 63 ≤ c' ∧ c' < 127 := of_decide_eq_true gd.1.1
    have enc : nm c' = ((c' - 63 : Nat) : Int) := by
      unfold nm
      rw [if_pos cr]
      omega
    rw [enc]
    refine ⟨rfl, (by show 6 ≤ sizeLine; decide), fun t nt => ?_⟩
    have s6 := same_new nt (.tup [.int 5, .int 4, .int 3, .int 2, .int 1, .int 0])
    refine ⟨t, rfl, ⟨_, SqT.of upd_same⟩, lo_it (walk_tup (xs := [.int 5, .int 4, .int 3, .int 2, .int 1, .int 0])) (fun j H6 => H6 t = some (.tup [.int 5, .int 4, .int 3, .int 2, .int 1, .int 0]) ∧ Same H4 H6 ∧ H6 B = some (.lst (nums (bitsC (cs.take i) ++ (bits6 c').take j)))) ⟨upd_same, s5.trans s6, by rw [List.take_zero, List.append_nil]; exact s6 _ _ hB⟩ (fun j H6 _ ⟨s7, _⟩ => SqT.of s7) ?_ ?_⟩
    · rintro j x _ H6 lj ⟨s7, s8, hB⟩ ⟨rfl, hx⟩
      obtain ⟨j6, rfl⟩ := places_at hx
      refine ⟨rfl, ?_⟩
      refine ⟨_, rfl, _, rfl, _, _, rfl, rfl, (by omega), _, _, rfl, rfl, ?_⟩
      have lb : (nums (bitsC (cs.take i) ++ (bits6 c').take j)).length ≤ 6 * 899 + 6 := by
        rw [nums_len, List.length_append, bitsC_len, List.length_take, List.length_take]
        omega
      have ev : Builtin.bitAnd (((c' - 63 : Nat) : Int) / 2 ^ ((5 - j : Nat) : Int).toNat) 1 = (((c' - 63) / 2 ^ (5 - j) % 2 : Nat) : Int) := by
        have z := and_one ((c' - 63) / 2 ^ (5 - j)) (Nat.lt_of_le_of_lt (Nat.div_le_self _ _) (by omega))
        rw [← z]
        congr 1
      refine ⟨_, hB, Nat.lt_of_le_of_lt lb (by rw [sizeLine_eq]; decide), ?_, same_put s8 nB, ?_⟩
      · rw [upd_ne (fun e => by rw [e, hB] at s7; cases s7)]
        exact s7
      · rw [upd_same]
        show some (HO.lst (_ ++ [V.int (Builtin.bitAnd (((c' - 63 : Nat) : Int) / 2 ^ ((5 - j : Nat) : Int).toNat) 1)])) = _
        rw [ev, take_succ (bits6_at c' j j6), ← List.append_assoc, ← nums_app _ [_]]
        rfl
    · rintro H6 ⟨s7, s8, hB⟩
      have lb6 : (bits6 c').length = 6 := rfl
      rw [show ([.int 5, .int 4, .int 3, .int 2, .int 1, .int 0] : List V).length = 6 from rfl, List.take_of_length_le (l := bits6 c') (by rw [lb6]; exact Nat.le_refl _), ← bitsC_succ hc'] at hB
      exact ⟨s8, hB⟩
  rintro H5 ⟨s5, hB⟩
  rw [ln, List.take_length] at hB
  have pz5 := pz.same (s4.trans s5)
  have hZ5 := s5 _ _ hZ4
  have lbb : (nums (bitsC cs)).length = 6 * cs.length := by rw [nums_len, bitsC_len]
  refine ⟨_, rfl, ?_⟩
  refine ⟨_, rfl, _, rfl, Z, B, _, _, rfl, SqL.of hZ5, SqL.of hB, fun R nR => lc_it (walk_zip (K := K) (n := L) (by rw [lp, lbb]; omega)) (fun i H6 => Same H5 H6 ∧ ∃ ys, H6 R = some (.lst ys) ∧ ys.length ≤ i ∧ PairsT H6 ys (tellP ((pairsG n).take i) ((bitsC cs).take i))) ⟨same_new nR _, [], upd_same, Nat.le_refl _, .nil⟩
    (fun i H6 _ ⟨s6, _⟩ => ⟨Same.seq s6 (SqL.of hZ5), Same.seq s6 (SqL.of hB)⟩) ?_ ?_⟩
  · rintro i x H6 H7 li ⟨s6, ys, hR, lys, py⟩ ⟨T1, y, w, rfl, nT, rfl, e1, e2⟩
    obtain ⟨b, hb, rfl⟩ : ∃ b, (bitsC cs)[i]? = some b ∧ V.int ((b : Nat) : Int) = w := by
      have e2' : (nums (bitsC cs))[i]? = some w := e2
      unfold nums at e2'
      rw [List.getElem?_map] at e2'
      cases e : (bitsC cs)[i]? with
      | none => rw [e] at e2'; cases e2'
      | some b => rw [e] at e2'; exact ⟨b, rfl, Option.some.inj e2'⟩
    have e1' : ps[i]? = some y := e1
    have sT := same_new nT (.tup [y, .int ((b : Nat) : Int)])
    obtain ⟨p, hp, hy⟩ : ∃ p, (pairsG n)[i]? = some p ∧ PairT (upd H6 T1 (.tup [y, .int ((b : Nat) : Int)])) y p := by
      have pz7 := pz5.same (s6.trans sT)
      have z := map_gOf pz7
      have m := pz7.mem y (List.mem_of_getElem? e1')
      refine ⟨_, ?_, m⟩
      rw [← z, List.getElem?_map, e1']
      rfl
    have hR7 := sT _ _ hR
    have ltk : ((pairsG n).take i).length = ((bitsC cs).take i).length := by
      rw [List.length_take, List.length_take, bitsC_len]
      omega
    refine ⟨T1, _, rfl, SqT.of upd_same, rfl, _, _, rfl, _, _, rfl, rfl, rfl, ?_⟩
    refine ⟨_, rfl, _, rfl, ?_⟩
    rw [take_succ hp, take_succ hb, tellP_snoc ltk]
    refine iteB (fun g => ?_) (fun g => ?_)
    · have b0 : (b != 0) = true := by
        have : (b : Int) ≠ 0 := by simpa using g
        simp
        omega
      rw [b0]
      refine ⟨_, rfl, ys, hR7, small1000 (by omega), same_put (s6.trans sT) nR, _, upd_same, by rw [List.length_append]; show ys.length + 1 ≤ i + 1; omega, ?_⟩
      exact ((py.same sT).append (.cons hy .nil)).put hR7
    · have b0 : (b != 0) = false := by
        have : (b : Int) = 0 := by simpa using g
        simp
        omega
      rw [b0]
      refine ⟨s6.trans sT, ys, hR7, by omega, ?_⟩
      show PairsT _ ys (_ ++ [])
      rw [List.append_nil]
      exact py.same sT
  rintro H6 ⟨s6, ys, hR, lys, py⟩
  rw [hL, List.take_length] at py
  have tl : tellP (pairsG n) ((bitsC cs).take (pairsG n).length) = tellP (pairsG n) (bitsC cs) := by
    unfold tellP
    rw [zip_take_len]
  rw [tl] at py
  have nd : (tellP (pairsG n) (bitsC cs)).Nodup := tellP_nodup (pairsG_nodup n n9)
  have sC := sB.trans (s5.trans s6)
  refine ⟨R, ys, kOf H6, rfl, SqL.of hR, fun x hx => ?_, fun ys' p so st np => ?_⟩
  · have m := py.mem x hx
    have kx := kOf_at m
    obtain ⟨t, e, ht⟩ := m
    refine ⟨t, e, ?_⟩
    rw [kx]
    exact ht
  obtain ⟨q1, q2, q3⟩ := sorted_pairs py nd so st
  have s7 := same_new np (.lst ys')
  refine ⟨p, _, rfl, .inl ⟨SqL.of upd_same, fun e ne => ?_⟩⟩
  have s8 := same_new ne (.tup ys')
  refine ⟨(by show 2 ≤ sizeLine; decide), fun r nr => ?_⟩
  have s9 := same_new nr (.tup [.int (n : Int), .ref e])
  have sD := s7.trans (s8.trans s9)
  refine told n _ rd (.ref r) (ys'.map (gOf H6)) _ (sC.trans sD) ⟨r, e, ys', rfl, SqT.of upd_same, SqT.of (s9 _ _ upd_same), (q1.same sD).at⟩ ⟨n9, fun q hq => ?_, q2⟩ q3
  exact mem_pairsG.mp (tellP_sub _ _ q ((q3 q).mp hq))
end
end My

set_option maxHeartbeats 4000000
namespace My
open PySem PySem.Spec PyProof.Rows L2
abbrev sSigns : Stmt := top (22 + 15)
abbrev sBits : Stmt := top (22 + 16)
abbrev sCode : Stmt := top (22 + 17)
theorem scSigns : FnScope [] [] (defScope sSigns) := ⟨rfl, rfl, rfl, by decide +kernel, rfl, by decide +kernel, by decide +kernel⟩
theorem scBits : FnScope ["n", "edges", "found", "v", "turn", "u"] ["n", "edges"] (defScope sBits) := ⟨rfl, rfl, rfl, by decide +kernel, rfl, by decide +kernel, by decide +kernel⟩
theorem scCode : FnScope ["graph", "signs", "bits", "found", "at", "number", "bit"] ["graph"] (defScope sCode) := ⟨rfl, rfl, rfl, by decide +kernel, rfl, by decide +kernel, by decide +kernel⟩
def spSigns : Sp := fun vs H Q _ => vs = [] ∧ Q (.str SG) H
def spBits (K : PySem.W.Frag) : Sp := fun vs H Q _ => ∃ (n : Nat) (e : Addr) (xs : List V) (es : List E2), vs = [.int (n : Int), .ref e] ∧ n ≤ 9 ∧ SqT K H e xs ∧ PairsAt K H xs es ∧ ∀ (D : Addr) (H' : Hp), H D = none → Same H H' → H' D = some (.lst (nums (pad (bitsOf n es)))) → Q (.ref D) H'
section
variable {P : Program} {w : World} {K : PySem.W.Frag} {mg : Str → Option Value} {base : Heap} {f fN fB fC fS : Addr} {fd dN dB dC dS : FuncData} {tk tk2 : Tok}
theorem ok_signs (F : L2.Fun K "_law_signs" "_law_signs" sSigns f fd) : FnOk P w K mg base CX0 1 f fd [] spSigns := by
  refine F.ok scSigns (fun vs H Q E h => ?_) (fun cdv A outer s H vs Q E hr h => ?_)
  · obtain ⟨rfl, _⟩ := h
    rfl
  obtain ⟨rfl, q⟩ := h
  refine ⟨_, pss_one (ps_ret pe_str), ?_⟩
  exact (fun (y : Str) (e : y = SG) => (e ▸ q : Q (.str y) H)) _ (by decide +kernel)
theorem ok_bits (F : L2.Fun K "_law_bits" "_law_bits" sBits f fd) (mr : mg "range" = none) (mi : mg "int" = none) (ml : mg "len" = none) : FnOk P w K mg base CX0 1 f fd ["n", "edges"] (spBits K) := by
  refine F.ok scBits (fun vs H Q E h => ?_) (fun cdv A outer s H vs Q E hr h => ?_)
  · obtain ⟨n, e, xs, es, rfl, _⟩ := h
    rfl
  obtain ⟨n, e, xs, es, rfl, n9, he, hes, q⟩ := h
  refine ⟨_, pss_cons (ps_set (i := 2) scBits.nd rfl (.inl rfl) (pe_lst pa_nil))
    (pss_cons (ps_for PassesOwn.never rfl (pi_range1 rfl mr (pa_cons (pv 0) pa_nil)) (pg_name (i := 3) scBits.nd rfl (.inr rfl))
      (pss_one (ps_set (i := 2) scBits.nd rfl (.inl rfl) (pe_op op_cat (pv 2) (pe_lc (own := [("u", 5)]) (g := gName 5) (tt := tYes) rfl scBits.nd (pi_range1 rfl mr (pa_cons (pv 3) pa_nil))
        (blkOk_by (N := ["n", "edges", "found", "v", "turn", "u"]) (sc := defScope sBits) (by decide +kernel)) (fun _ _ _ _ _ => pg_name (i := 5) scBits.nd rfl (Or.inl rfl)) (fun _ _ _ _ _ => pts_nil)
        (fun _ _ _ _ _ => pe_ifExp (pt_cmpR (r := rInP id K) (op_inP hr.units) (pe_tup (pa_cons (pv 5) (pa_cons (pv 3) pa_nil))) (pv 1) (by rfl)) pe_int pe_int))))))
    (pss_cons (ps_for PassesOwn.never rfl (pi_range1 rfl mr (pa_cons pe_int pa_nil)) (pg_name (i := 4) scBits.nd rfl (.inl rfl))
      (pss_one (ps_if (pt_cmpR op_ne (pe_op op_mod (pe_callTy call_int1 (by rfl) mi (by decide +kernel) (pa_cons (pe_callB call_len_seq (by rfl) ml PySem.boot_len (pa_cons (pv 2) pa_nil)) pa_nil)) pe_int) pe_int (nomark _))
        (pss_one (ps_expr (pe_bm PySem.F.plainAttrs_list PySem.F.slot_list_append PySem.F.type_list_append mt_append (pv 2) (pa_cons pe_int pa_nil)))) pss_nil)))
    (pss_one (ps_ret (pv 2))))), ?_⟩
  refine ⟨(by show 0 ≤ sizeLine; decide), fun B0 nB0 => ?_⟩
  refine ⟨_, rfl, (n : Int), rfl, by omega, by omega, for_range (lo := 0) (n := ((n : Nat) : Int).toNat) (fun v σ H' => ∃ (B : Addr) (s3 : Option V), σ = [some (.int (n : Int)), some (.ref e), some (.ref B), s3, none, none] ∧ Same H H' ∧ H B = none ∧ H' B = some (.lst (nums (bitsOf v es))))
    ⟨B0, none, rfl, same_new nB0 _, nB0, upd_same⟩ ?_ ?_⟩
  · rintro v σ H1 lv ⟨B, s3, rfl, s1, nB, hB⟩
    rw [Int.zero_add]
    refine ⟨_, rfl, _, rfl, (v : Int), rfl, by omega, by omega, fun D nD => lc_range (lo := 0) (n := ((v : Nat) : Int).toNat)
      (fun k H2 => Same H1 H2 ∧ H2 D = some (.lst (nums ((List.range k).map fun u => bit1 es (u, v))))) ⟨same_new nD _, upd_same⟩ ?_ ?_⟩
    · rintro k H2 lk ⟨s2, hD⟩
      rw [Int.zero_add]
      refine ⟨rfl, ?_⟩
      refine ⟨_, rfl, _, rfl, (by show 2 ≤ sizeLine; decide), fun r nr => ?_⟩
      have s3 := same_new nr (.tup [.int ((k : Nat) : Int), .int ((v : Nat) : Int)])
      have sA := s1.trans (s2.trans s3)
      have nx : ∀ y : V, y = .int ((bit1 es (k, v) : Nat) : Int) → ∃ acc, (upd H2 r (.tup [.int ((k : Nat) : Int), .int ((v : Nat) : Int)])) D = some (.lst acc) ∧ acc.length < sizeLine ∧ Same H1 (upd (upd H2 r (.tup [.int ((k : Nat) : Int), .int ((v : Nat) : Int)])) D (.lst (acc ++ [y]))) ∧ (upd (upd H2 r (.tup [.int ((k : Nat) : Int), .int ((v : Nat) : Int)])) D (.lst (acc ++ [y]))) D = some (.lst (nums ((List.range (k + 1)).map fun u => bit1 es (u, v)))) := by
        rintro y rfl
        refine ⟨_, s3 _ _ hD, small1000 (by rw [nums_len, List.length_map, List.length_range]; omega), same_put (s2.trans s3) nD, ?_⟩
        rw [upd_same, List.range_succ, List.map_append, ← nums_app]
        rfl
      refine ⟨_, rfl, (k, v), e, xs, es, ⟨r, rfl, SqT.of upd_same⟩, rfl, Same.tup sA he, hes.same sA, _, rfl, iteB (fun c => ?_) (fun c => ?_)⟩
      · have c' : (k, v) ∈ es := by simpa using c
        exact nx (.int 1) (by unfold bit1; rw [if_pos c']; rfl)
      · have c' : (k, v) ∉ es := by simpa using c
        exact nx (.int 0) (by unfold bit1; rw [if_neg c']; rfl)
    · rintro H2 ⟨s2, hD⟩
      rw [show ((v : Nat) : Int).toNat = v by omega] at hD
      have l1 := bits_few (n := v) (by omega) es
      refine ⟨B, D, _, _, rfl, rfl, s2 _ _ hB, hD, small (by rw [nums_len, nums_len, List.length_map, List.length_range]; omega), fun c nc => ?_⟩
      refine ⟨c, _, rfl, s1.trans (s2.trans (same_new nc _)), (s1.trans s2).free nc, ?_⟩
      rw [upd_same, nums_app]
      unfold bitsOf
      rw [pairsG_succ, List.map_append, List.map_map]
      rfl
  · rintro σ H1 ⟨B, s3, rfl, s1, nB, hB⟩
    rw [show ((n : Nat) : Int).toNat = n by omega] at hB
    obtain ⟨L, hL⟩ : ∃ L, L = (bitsOf n es).length := ⟨_, rfl⟩
    have l9 := bits_few n9 es
    rw [← hL] at l9
    refine ⟨5, rfl, by decide, by decide, for_range (lo := 0) (n := 5) (fun t σ H' => ∃ (s4 : Option V), σ = [some (.int (n : Int)), some (.ref e), some (.ref B), s3, s4, none] ∧ Same H H' ∧ H' B = some (.lst (nums (bitsOf n es ++ List.replicate (min t ((L + 5) / 6 * 6 - L)) 0))))
      ⟨none, rfl, s1, by rw [Nat.zero_min, List.replicate_zero, List.append_nil]; exact hB⟩ ?_ ?_⟩
    · rintro t σ H2 lt ⟨s4, rfl, s2, hB⟩
      have ln : (nums (bitsOf n es ++ List.replicate (min t ((L + 5) / 6 * 6 - L)) 0)).length = L + min t ((L + 5) / 6 * 6 - L) := by rw [nums_len, List.length_append, List.length_replicate, ← hL]
      refine ⟨_, rfl, B, _, rfl, .inl (SqL.of hB), .inl ⟨_, rfl, _, _, rfl, rfl, (show (0 : Int) < 6 by decide), ?_⟩⟩
      rw [ln]
      refine ⟨rfl, _, rfl, iteB (fun c => ?_) (fun c => ?_)⟩
      · have c' : ((L + min t ((L + 5) / 6 * 6 - L) : Nat) : Int) % 6 ≠ 0 := by simpa using c
        refine ⟨_, rfl, .inl ⟨rfl, _, SqL.of hB⟩, B, _, _, rfl, rfl, hB, small1000 (by rw [ln]; omega), _, rfl, same_put s2 nB, ?_⟩
        rw [upd_same, show min (t + 1) ((L + 5) / 6 * 6 - L) = min t ((L + 5) / 6 * 6 - L) + 1 by omega, List.replicate_succ', ← List.append_assoc, ← nums_app (bitsOf n es ++ List.replicate (min t ((L + 5) / 6 * 6 - L)) 0) [0]]
        rfl
      · have c' : ((L + min t ((L + 5) / 6 * 6 - L) : Nat) : Int) % 6 = 0 := by simpa using c
        refine ⟨_, rfl, s2, ?_⟩
        rw [show min (t + 1) ((L + 5) / 6 * 6 - L) = min t ((L + 5) / 6 * 6 - L) by omega]
        exact hB
    · rintro σ H2 ⟨s4, rfl, s2, hB⟩
      rw [show min 5 ((L + 5) / 6 * 6 - L) = (L + 5) / 6 * 6 - L by omega, hL] at hB
      exact ⟨_, rfl, q B H2 nB s2 hB⟩
theorem ok_code (F : L2.Fun K "_law_code" "_law_code" sCode f fd) (GS : FnOk P w K mg base CX0 1 fS dS [] spSigns) (bS : L2.Binds K dS [] []) (kS : PySem.W.keepIn K (.ref fS) = true) (mS : mg "_law_signs" = some (.ref fS))
    (GB : FnOk P w K mg base CX0 1 fB dB ["n", "edges"] (spBits K)) (bB : L2.Binds K dB ["n", "edges"] []) (kB : PySem.W.keepIn K (.ref fB) = true) (mB : mg "_law_bits" = some (.ref fB)) (mr : mg "range" = none) (ml : mg "len" = none) : FnOk P w K mg base CX0 2 f fd ["graph"] (spCode K) := by
  refine F.ok scCode (fun vs H Q E h => ?_) (fun cdv A outer s H vs Q E hr h => ?_)
  · obtain ⟨x, n, es, rfl, _⟩ := h
    rfl
  obtain ⟨x, n, es, rfl, ⟨g, e, xs, rfl, hg, he, hes⟩, good, q⟩ := h
  refine ⟨_, pss_cons (ps_par (by rfl) scCode.nd (i := 1) (j := 2) rfl rfl (by decide) rfl rfl (pa_cons (pe_call0 GS hr (by rfl) mS kS bS .nil pass0) (pa_cons (pe_call GB hr (by rfl) mB kB bB .nil pass0 (pa_cons (pe_ix ix_tup (pv 0) pe_int (fun _ _ => rfl)) (pa_cons (pe_ix ix_tup (pv 0) pe_int (fun _ _ => rfl)) pa_nil))) pa_nil)) (by rfl))
    (pss_cons (ps_set (i := 3) scCode.nd rfl (.inl rfl) (pe_ix ix_str (pv 1) (pe_ix ix_tup (pv 0) pe_int (fun _ _ => rfl)) (fun _ _ => rfl)))
    (pss_cons (ps_for PassesOwn.never rfl (pi_range3 rfl mr (pa_cons pe_int (pa_cons (pe_callB call_len_seq (by rfl) ml PySem.boot_len (pa_cons (pv 2) pa_nil)) (pa_cons pe_int pa_nil)))) (pg_name (i := 4) scCode.nd rfl (.inl rfl))
      (pss_cons (ps_set (i := 5) scCode.nd rfl (.inl rfl) pe_int)
      (pss_cons (ps_for PassesOwn.never rfl (pi_list (pe_slice sl_list (pv 2) (po_some (pv 4)) (po_some (pe_op op_add (pv 4) pe_int)))) (pg_name (i := 6) scCode.nd rfl (.inl rfl))
        (pss_one (ps_set (i := 5) scCode.nd rfl (.inl rfl) (pe_op op_add (pe_op op_mul pe_int (pv 5)) (pv 6)))))
      (pss_one (ps_set (i := 3) scCode.nd rfl (.inl rfl) (pe_op op_add_str (pv 3) (pe_ix ix_str (pv 1) (pv 5) (fun _ _ => rfl))))))))
    (pss_one (ps_ret (pv 3))))), ?_⟩
  refine ⟨rfl, _, rfl, g, _, _, _, rfl, rfl, hg, rfl, _, rfl, g, _, _, _, rfl, rfl, hg, rfl, n, e, xs, es, rfl, good.n9, he, hes, fun B H1 nB s1 hB => ?_⟩
  have n9 := good.n9
  have sg : SG.length = 64 := by rfl
  refine ⟨_, _, rfl, _, rfl, _, rfl, g, _, _, _, rfl, rfl, Same.tup s1 hg, rfl, SG, _, _, rfl, rfl, (by rw [sg]; decide), SG_at n (by omega), ?_⟩
  obtain ⟨b, hb⟩ : ∃ b, b = pad (bitsOf n es) := ⟨_, rfl⟩
  obtain ⟨m, hm⟩ : ∃ m, m = groups (bitsOf n es) := ⟨_, rfl⟩
  have lb : b.length = 6 * m := by rw [hb, hm]; exact pad_len _
  have m6 : m ≤ 6 := by
    rw [hm]
    unfold groups
    have := bits_few n9 es
    omega
  have b1 : ∀ x ∈ b, x ≤ 1 := by rw [hb]; exact pad_le (bits_le n es)
  rw [← hb] at hB
  refine ⟨_, rfl, B, _, rfl, .inl (SqL.of hB), _, _, _, m, rfl, by rw [nums_len, lb]; have := six (6 * m) (by omega); rw [show (6 * m + 5) / 6 = m by omega] at this; exact this, for_rangeC (lo := 0) (c := 6) (n := m) (fun i σ H' => ∃ (s4 s5 s6 : Option V), σ = [some (.ref g), some (.str SG), some (.ref B), some (.str (tx (n :: (List.range i).map fun i => numOf (chunk b i)))), s4, s5, s6] ∧ Same H H' ∧ H' B = some (.lst (nums b)))
    ⟨none, none, none, rfl, s1, hB⟩ ?_ ?_⟩
  · rintro i σ H2 li ⟨s4, s5, s6, rfl, s2, hB⟩
    rw [show (0 + (i : Int) * 6) = ((6 * i : Nat) : Int) by omega]
    have lc : (chunk b i).length = 6 := chunk_len (by omega)
    refine ⟨_, rfl, _, rfl, _, rfl, _, rfl, _, _, rfl, rfl, _, rfl, B, _, rfl, SqL.of hB, fun p np => ?_⟩
    rw [show (((6 * i : Nat) : Int) + 6) = ((6 * i + 6 : Nat) : Int) by omega, cut_chunk (by omega)]
    have s3 := same_new np (.lst (nums (chunk b i)))
    refine ⟨p, rfl, ⟨_, SqL.of upd_same⟩, for_list (K := K) (a := p) (xs := nums (chunk b i)) (fun j σ H' => ∃ s6 : Option V, σ = [some (.ref g), some (.str SG), some (.ref B), some (.str (tx (n :: (List.range i).map fun i => numOf (chunk b i)))), some (.int ((6 * i : Nat) : Int)), some (.int ((numOf ((chunk b i).take j) : Nat) : Int)), s6] ∧ H' = upd H2 p (.lst (nums (chunk b i)))) ⟨_, rfl, rfl⟩ ?_ ?_ ?_⟩
    · rintro j σ H' _ ⟨s6, rfl, rfl⟩
      exact SqL.of upd_same
    · rintro j x σ H' hj ⟨s6, rfl, rfl⟩
      obtain ⟨y, hy, rfl⟩ : ∃ y, (chunk b i)[j]? = some y ∧ x = .int ((y : Nat) : Int) := by
        unfold nums at hj
        rw [List.getElem?_map] at hj
        cases e : (chunk b i)[j]? with
        | none => rw [e] at hj; cases hj
        | some y => rw [e] at hj; exact ⟨y, rfl, (Option.some.inj hj).symm⟩
      refine ⟨_, rfl, _, _, rfl, rfl, .inl ⟨by decide, by decide⟩, _, rfl, _, _, rfl, rfl, some (.int ((y : Nat) : Int)), ?_, rfl⟩
      rw [take_succ hy, numOf_snoc]
      rfl
    · rintro σ H' ⟨s6, rfl, rfl⟩
      rw [nums_len, lc, List.take_of_length_le (by omega)]
      have lt := chunk_lt (i := i) b1
      refine ⟨_, rfl, _, rfl, _, rfl, SG, _, _, rfl, rfl, (by rw [sg]; decide), SG_at _ lt, _, _, rfl, rfl, ?_, ?_⟩
      · rw [tx_len, List.length_cons, List.length_map, List.length_range]
        exact small (by show i + 1 + 1 ≤ 1000; omega)
      · refine ⟨some (.int ((6 * i : Nat) : Int)), some (.int ((numOf (chunk b i) : Nat) : Int)), s6, ?_, s2.trans s3, s3 _ _ hB⟩
        rw [show (⟨#[63 + numOf (chunk b i)]⟩ : Str) = tx [numOf (chunk b i)] from rfl]
        show [_, _, _, some (V.str (tx _ ++ tx _)), _, _, _] = _
        rw [tx_append, List.range_succ, List.map_append]
        rfl
  · rintro σ H2 ⟨s4, s5, s6, rfl, s2, hB⟩
    rw [hm, hb]
    exact ⟨_, rfl, q H2 s2⟩
end
end My

set_option maxHeartbeats 4000000
/-! The law's reading, in plain Lean. -/
namespace My
open PySem PySem.Spec PyProof.Rows L2
theorem sgns_at (m : Nat) : (sgnsOf SG)[m]? = if m < 64 then some (V.str ⟨#[63 + m]⟩) else none := by
  show (((List.range 64).map (63 + ·)).map fun c => V.str ⟨#[c]⟩)[m]? = _
  rw [List.map_map, List.getElem?_map]
  by_cases h : m < 64
  · rw [List.getElem?_range h, if_pos h]
    rfl
  · rw [List.getElem?_eq_none (by rw [List.length_range]; omega), if_neg h]
    rfl
theorem sgns_flat : (sgnsOf SG).all flatV = true := by decide +kernel
theorem sgns_len : (sgnsOf SG).length = 64 := by decide +kernel
theorem ten_flat : (cutV (sgnsOf SG) none (some 10)).all flatV = true := by decide +kernel
theorem in_ten : ∀ c : Nat, c < 128 → inV (V.str ⟨#[c]⟩) (cutV (sgnsOf SG) none (some 10)) = decide (63 ≤ c ∧ c ≤ 72) := by decide +kernel
theorem in_all : ∀ c : Nat, c < 128 → inV (V.str ⟨#[c]⟩) (sgnsOf SG) = decide (63 ≤ c ∧ c < 127) := by decide +kernel
/-- what mt_index asks -/
theorem index_of {c : Nat} (h : 63 ≤ c ∧ c < 127) : (sgnsOf SG)[c - 63]? = some (V.str ⟨#[c]⟩) ∧ eqV (V.str ⟨#[c]⟩) (V.str ⟨#[c]⟩) = true ∧ ∀ (m : Nat) (z' : V), m < c - 63 → (sgnsOf SG)[m]? = some z' → eqV z' (V.str ⟨#[c]⟩) = false := by
  refine ⟨?_, ?_, fun m z' hm hz => ?_⟩
  · rw [sgns_at, if_pos (by omega), show 63 + (c - 63) = c by omega]
  · show ((⟨#[c]⟩ : Str) == ⟨#[c]⟩) = true
    exact beq_self_eq_true _
  · rw [sgns_at, if_pos (by omega)] at hz
    have e := (Option.some.inj hz).symm
    subst e
    show ((⟨#[63 + m]⟩ : Str) == ⟨#[c]⟩) = false
    refine beq_eq_false_iff_ne.mpr fun e => ?_
    have := congrArg (fun s : Str => s.cps.toList) e
    simp at this
    omega
theorem low_bits : ∀ x : Nat, x < 64 → ∀ s : Nat, s < 6 → (decide (x % 2 ^ s = 0)) = !decide (1 ∈ (bits6 (63 + x)).drop (6 - s)) := by decide +kernel
/-- what the law keeps of a sign's bits -/
def lowB (c : Nat) (t : Nat) : List Nat := (List.range t).reverse.map fun p => (c - 63) / 2 ^ p % 2
theorem lowB_succ (c t : Nat) : lowB c (t + 1) = ((c - 63) / 2 ^ t % 2) :: lowB c t := by
  unfold lowB
  rw [List.range_succ, List.reverse_append]
  rfl
theorem lowB_six (c : Nat) : lowB c 6 = bits6 c := rfl
end My

set_option maxHeartbeats 8000000
namespace My
open PySem PySem.Spec PyProof.Rows L2 RZ
theorem inV_nums (k : Nat) : ∀ bs : List Nat, inV (V.int (k : Int)) (nums bs) = decide (k ∈ bs)
  | [] => by rw [decide_eq_false (by simp)]; rfl
  | b :: bs => by
    have ih := inV_nums k bs
    unfold inV nums at ih ⊢
    rw [List.map_cons, List.any_cons, ih]
    show (((b : Int) == (k : Int)) || decide (k ∈ bs)) = _
    by_cases h : b = k
    · subst h
      simp
    · have z : ((b : Int) == (k : Int)) = false := beq_eq_false_iff_ne.mpr fun e => h (by omega)
      have h' : k ≠ b := fun e => h e.symm
      simp [z, h']
theorem valEq {i : Nat} {w w' : V} {σ : L2.St} {H : Hp} {N : L2.St → Hp → Prop} (e : w' = w) (h : gName i w σ H N) : gName i w' σ H N := e ▸ h
theorem cut_drop (bs : List Nat) (L : Nat) (h : L ≤ bs.length) : cutV (nums bs) (some (L : Int)) none = nums (bs.drop L) := by
  unfold cutV
  rw [HT.sIx_nat, HT.sIx_none, nums_len, show min L bs.length = L by omega]
  unfold nums
  rw [← List.map_drop, List.take_of_length_le (by rw [List.length_map, List.length_drop]; exact Nat.le_refl _)]
theorem nums_flat (bs : List Nat) : (nums bs).all flatV = true := by
  refine List.all_eq_true.mpr fun x hx => ?_
  obtain ⟨k, _, rfl⟩ := List.mem_map.mp hx
  rfl
theorem bitsC_le (cs : List Nat) : ∀ b ∈ bitsC cs, b ≤ 1 := by
  intro b hb
  obtain ⟨c, _, h⟩ := List.mem_flatMap.mp hb
  obtain ⟨p, _, rfl⟩ := List.mem_map.mp h
  have := Nat.mod_lt ((c - 63) / 2 ^ p) (show 0 < 2 by decide)
  omega
abbrev sRead : Stmt := top (22 + 18)
theorem scRead : FnScope ["text", "signs", "n", "bits", "pairs", "v", "many", "at", "number", "more", "turn", "bit", "u", "k"] ["text"] (defScope sRead) := ⟨rfl, rfl, rfl, by decide +kernel, rfl, by decide +kernel, by decide +kernel⟩
/-- what is told of a text, as a list -/
def ToldAt (K : PySem.W.Frag) (H : Hp) (x : V) : RdG → Prop
  | .bad k => ∃ l, x = .ref l ∧ H l = some (.lst [.str "wrong", .int (k : Int)])
  | .told n ps => ∃ l g es, x = .ref l ∧ H l = some (.lst [.str "told", g]) ∧ GraphAt K H g n es ∧ Good n es ∧ ∀ q, q ∈ es ↔ q ∈ ps
def spRead (K : PySem.W.Frag) : Sp := fun vs H Q _ => ∃ z : Str, vs = [.str z] ∧ (∀ c ∈ z.cps.toList, c < 128) ∧ z.length ≤ 900 ∧ ∀ x H', Same H H' → ToldAt K H' x (readG z.cps.toList) → Q x H'
section
variable {P : Program} {w : World} {K : PySem.W.Frag} {mg : Str → Option Value} {base : Heap} {f fS : Addr} {fd dS : FuncData}
theorem ok_read (F : L2.Fun K "_law_read" "_law_read" sRead f fd) (GS : FnOk P w K mg base CX0 1 fS dS [] spSigns) (bS : L2.Binds K dS [] []) (kS : PySem.W.keepIn K (.ref fS) = true) (mS : mg "_law_signs" = some (.ref fS))
    (mr : mg "range" = none) (ml : mg "len" = none) (mis : mg "isinstance" = none) (ms : mg "str" = none) (mli : mg "list" = none) (md : mg "divmod" = none) (mt : mg "tuple" = none) (mso : mg "sorted" = none) :
    FnOk P w K mg base CX0 2 f fd ["text"] (spRead K) := by
  refine F.ok scRead (fun vs H Q E h => ?_) (fun cdv A outer s H vs Q E hr h => ?_)
  · obtain ⟨z, rfl, _⟩ := h
    rfl
  obtain ⟨z, rfl, hz, zl, q⟩ := h
  refine ⟨_, pss_cons (ps_if (pt_not (pt_val (pe_callB call_isTy (by rfl) mis (by decide +kernel) (pa_cons (pv 0) (pa_cons (pe_bltn (v := .ty "str") (by rfl) ms (by decide +kernel) rfl) pa_nil))))) (pss_one (ps_ret (pe_lst (pa_cons pe_str (pa_cons pe_non pa_nil))))) pss_nil)
    (pss_cons (ps_set (i := 1) scRead.nd rfl (.inl rfl) (pe_callTy (call_listT rfl) (by rfl) mli (by decide +kernel) (pa_cons (pe_call0 GS hr (by rfl) mS kS bS .nil pass0) pa_nil)))
    (pss_cons (ps_if (PW.pt (pw_or (pt_cmpR op_eq (pv 0) pe_str (nomark _)) (pw_or1 (pt_cmpR op_notIn_seq (pe_ix ix_str (pv 0) pe_int (fun _ _ => rfl)) (pe_slice sl_list (pv 1) po_none (po_some pe_int)) (by rfl))))) (pss_one (ps_ret (pe_lst (pa_cons pe_str (pa_cons pe_int pa_nil))))) pss_nil)
    (pss_cons (ps_asg (pe_tup (pa_cons (pe_bm PySem.F.plainAttrs_list PySem.F.slot_list_index PySem.F.type_list_index mt_index (pv 1) (pa_cons (pe_ix ix_str (pv 0) pe_int (fun _ _ => rfl)) pa_nil)) (pa_cons (pe_lst pa_nil) pa_nil)))
        (pg_tup (by rfl) (pgs_cons (pg_name (i := 2) scRead.nd rfl (.inl rfl)) (pgs_cons (pg_name (i := 3) scRead.nd rfl (.inr rfl)) pgs_nil))))
    (pss_cons (ps_set (i := 4) scRead.nd rfl (.inr rfl) (pe_lst pa_nil))
    (pss_cons (ps_for PassesOwn.never rfl (pi_range1 rfl mr (pa_cons (pv 2) pa_nil)) (pg_name (i := 5) scRead.nd rfl (.inr rfl))
      (pss_one (ps_set (i := 4) scRead.nd rfl (.inr rfl) (pe_op op_cat (pv 4) (pe_lc (own := [("u", 12)]) (g := gName 12) (tt := tYes) rfl scRead.nd (pi_range1 rfl mr (pa_cons (pv 5) pa_nil))
        (blkOk_by (N := ["text", "signs", "n", "bits", "pairs", "v", "many", "at", "number", "more", "turn", "bit", "u", "k"]) (sc := defScope sRead) (by decide +kernel)) (fun _ _ _ _ _ => pg_name (i := 12) scRead.nd rfl (Or.inl rfl)) (fun _ _ _ _ _ => pts_nil)
        (fun _ _ _ _ _ => pe_tup (pa_cons (pv 12) (pa_cons (pv 5) pa_nil))))))))
    (pss_cons (ps_set (i := 6) scRead.nd rfl (.inl rfl) (pe_op op_fdivN (pe_op op_add (pe_callB call_len_seq (by rfl) ml PySem.boot_len (pa_cons (pv 4) pa_nil)) pe_int) pe_int))
    (pss_cons (ps_for PassesOwn.never rfl (pi_range2 (by rfl) mr (pa_cons pe_int (pa_cons (pe_op op_add (pv 6) pe_int) pa_nil))) (pg_name (i := 7) scRead.nd rfl (.inl rfl))
      (pss_cons (ps_if (PW.pt (pw_or (pt_cmpR op_eq (pv 7) (pe_callB call_len_str (by rfl) ml PySem.boot_len (pa_cons (pv 0) pa_nil)) (nomark _)) (pw_or1 (pt_cmpR op_notIn_seq (pe_ix ix_str (pv 0) (pv 7) (fun _ _ => rfl)) (pv 1) (by rfl))))) (pss_one (ps_ret (pe_lst (pa_cons pe_str (pa_cons (pv 7) pa_nil))))) pss_nil)
      (pss_cons (ps_par (by rfl) scRead.nd (i := 8) (j := 9) rfl rfl (by decide) rfl rfl (pa_cons (pe_bm PySem.F.plainAttrs_list PySem.F.slot_list_index PySem.F.type_list_index mt_index (pv 1) (pa_cons (pe_ix ix_str (pv 0) (pv 7) (fun _ _ => rfl)) pa_nil)) (pa_cons (pe_lst pa_nil) pa_nil)) (by rfl))
      (pss_cons (ps_for PassesOwn.never rfl (pi_range1 rfl mr (pa_cons pe_int pa_nil)) (pg_name (i := 10) scRead.nd rfl (.inl rfl))
        (pss_cons (ps_asg (pe_callB call_divmod (by rfl) md (by decide +kernel) (pa_cons (pv 8) (pa_cons pe_int pa_nil))) (pg_tup (by rfl) (pgs_cons (pg_name (i := 8) scRead.nd rfl (.inl rfl)) (pgs_cons (pg_name (i := 11) scRead.nd rfl (.inl rfl)) pgs_nil))))
        (pss_one (ps_set (i := 9) scRead.nd rfl (.inl rfl) (pe_op op_cat (pe_lst (pa_cons (pv 11) pa_nil)) (pv 9))))))
      (pss_cons (ps_set (i := 3) scRead.nd rfl (.inr rfl) (pe_op op_cat (pv 3) (pv 9)))
      (pss_one (ps_if (PW.pt (pw_and (pt_cmpR op_eq (pv 7) (pv 6) (nomark _)) (pw_and1 (pt_cmpR op_in_seq pe_int (pe_slice sl_list (pv 3) (po_some (pe_callB call_len_seq (by rfl) ml PySem.boot_len (pa_cons (pv 4) pa_nil))) po_none) (by rfl))))) (pss_one (ps_ret (pe_lst (pa_cons pe_str (pa_cons (pv 7) pa_nil))))) pss_nil)))))))
    (pss_cons (ps_if (pt_cmpR op_gt (pe_callB call_len_str (by rfl) ml PySem.boot_len (pa_cons (pv 0) pa_nil)) (pe_op op_add (pv 6) pe_int) (nomark _)) (pss_one (ps_ret (pe_lst (pa_cons pe_str (pa_cons (pe_op op_add (pv 6) pe_int) pa_nil))))) pss_nil)
    (pss_one (ps_ret (pe_lst (pa_cons pe_str (pa_cons (pe_tup (pa_cons (pv 2) (pa_cons (pe_callTy call_tuple_of (by rfl) mt (by decide +kernel) (pa_cons (pe_callB cr_sortedPO (by rfl) mso (by decide +kernel) (pa_cons
        (pe_lc (own := [("k", 13)]) (g := gName 13) (tt := tTest (tOp rEq (tOp (rIxL K) (tVar 3) (tVar 13)) (tC (.int 1)))) rfl scRead.nd (pi_range1 rfl mr (pa_cons (pe_callB call_len_seq (by rfl) ml PySem.boot_len (pa_cons (pv 4) pa_nil)) pa_nil))
          (blkOk_by (N := ["text", "signs", "n", "bits", "pairs", "v", "many", "at", "number", "more", "turn", "bit", "u", "k"]) (sc := defScope sRead) (by decide +kernel)) (fun _ _ _ _ _ => pg_name (i := 13) scRead.nd rfl (Or.inl rfl))
          (fun _ _ _ _ _ => pts_one (pt_cmpR (r := rEq) op_eq (pe_ix (r := rIxL K) ix_list (pv 3) (pv 13) (fun _ _ => rfl)) pe_int (nomark _))) (fun _ _ _ _ _ => pe_ix (r := rIxL K) ix_list (pv 4) (pv 13) (fun _ _ => rfl))) pa_nil)) pa_nil)) pa_nil))) pa_nil))))))))))))), ?_⟩
  have zs : z.cps.size = z.cps.toList.length := (Array.length_toList ..).symm
  have zl2 : z.cps.toList.length ≤ 900 := by rw [← zs]; exact zl
  have zc : ∀ (i c : Nat), z.cps.toList[i]? = some c → atI z.cps.toList (i : Int) = some c := fun i c h => atI_nat h
  have zlen : z.length = z.cps.toList.length := zs
  have zline : z.length ≤ sizeLine := small (by omega)
  generalize hcs : z.cps.toList = cs at hz q zs zl2 zlen
  refine ⟨_, rfl, .str z, "str", rfl, .str z, _, rfl, iteF ?_⟩
  refine ⟨rfl, SG, rfl, (by show 64 ≤ sizeLine; exact small (by decide)), fun S nS => ?_⟩
  have s1 := same_new nS (.lst (sgnsOf SG))
  have hS1 : (upd H S (.lst (sgnsOf SG))) S = some (.lst (sgnsOf SG)) := upd_same
  generalize upd H S (.lst (sgnsOf SG)) = H1 at s1 hS1 ⊢
  have wrong : ∀ (k : Nat) (l : Addr) (H5 : Hp), readG cs = .bad k → Same H H5 → H5 l = none → Q (.ref l) (upd H5 l (.lst [.str "wrong", .int (k : Int)])) := fun k l H5 e s5 nl => q (.ref l) _ (s5.trans (same_new nl _)) (by rw [e]; exact ⟨l, rfl, upd_same⟩)
  cases cs with
  | nil =>
    refine ⟨_, rfl, rfl, _, rfl, iteB (fun _ => ?_) (fun c => ?_)⟩
    · exact ⟨(by show 2 ≤ sizeLine; decide), fun l nl => wrong 0 l H1 rfl s1 nl⟩
    · exfalso
      have e : z = (("" : String) : Str) := by
        have e0 : ((("" : String) : Str)).cps = #[] := by decide +kernel
        have : z.cps = #[] := Array.toList_inj.mp hcs
        cases z
        have e1 : ((("" : String) : Str)) = ⟨#[]⟩ := by decide +kernel
        rw [e1]
        exact congrArg Str.mk this
      have c' := of_decide_eq_false c
      exact c' (congrArg V.str e)
  | cons c cs =>
  have hc128 := hz c (List.mem_cons_self ..)
  have at0 : atI z.cps.toList ((0 : Nat) : Int) = some c := zc 0 c (by rw [hcs]; rfl)
  refine ⟨_, rfl, rfl, _, rfl, iteB (fun e => ?_) (fun _ => ?_)⟩
  · exfalso
    have e' := V.str.inj (of_decide_eq_true e)
    have e1 : ((("" : String) : Str)).cps.toList = [] := by decide +kernel
    rw [e', e1] at hcs
    cases hcs
  refine ⟨_, rfl, z, _, c, rfl, rfl, zline, at0, _, rfl, _, rfl, S, _, rfl, SqL.of hS1, fun p np => ?_⟩
  have s2 := same_new np (.lst (cutV (sgnsOf SG) none (some 10)))
  have hS2 := s2 _ _ hS1
  have iten := in_ten c hc128
  refine ⟨p, _, rfl, .inl (SqL.of upd_same), rfl, ten_flat, _, rfl, iteB (fun g => ?_) (fun g => ?_)⟩
  · have g' : (!inV (V.str ⟨#[c]⟩) (cutV (sgnsOf SG) none (some 10))) = true := g
    rw [iten] at g'
    have nc : ¬ (63 ≤ c ∧ c ≤ 72) := fun h => by rw [decide_eq_true h] at g'; cases g'
    exact ⟨(by show 2 ≤ sizeLine; decide), fun l nl => wrong 0 l _ (if_neg nc) (s1.trans s2) nl⟩
  have g' : (!inV (V.str ⟨#[c]⟩) (cutV (sgnsOf SG) none (some 10))) = false := g
  rw [iten] at g'
  have hc : 63 ≤ c ∧ c ≤ 72 := by
    by_cases h : 63 ≤ c ∧ c ≤ 72
    · exact h
    · rw [decide_eq_false h] at g'
      cases g'
  obtain ⟨i1, i2, i3⟩ := index_of (c := c) (by omega)
  refine ⟨_, rfl, .inl ⟨rfl, _, SqL.of hS2⟩, _, rfl, z, _, c, rfl, rfl, zline, at0, S, _, _, c - 63, _, rfl, rfl, SqL.of hS2, rfl, sgns_flat, i1, i2, i3, ?_⟩
  refine ⟨(by show 0 ≤ sizeLine; decide), fun b nb => ⟨(by show 2 ≤ sizeLine; decide), fun r nr => ?_⟩⟩
  obtain ⟨n, hn⟩ : ∃ n, n = c - 63 := ⟨_, rfl⟩
  have n9 : n ≤ 9 := by omega
  rw [← hn]
  refine ⟨r, _, rfl, SqT.of upd_same, rfl, _, _, rfl, _, _, rfl, rfl, ?_⟩
  refine ⟨(by show 0 ≤ sizeLine; decide), fun Z0 nZ0 => ?_⟩
  have s3 := (same_new nb (.lst [])).trans ((same_new nr (.tup [.int ((n : Nat) : Int), .ref b])).trans (same_new nZ0 (.lst [])))
  have hb3 := ((same_new nr (.tup [.int ((n : Nat) : Int), .ref b])).trans (same_new nZ0 (.lst []))) _ _ (upd_same (a := b) (o := .lst []))
  have hS3 := s3 _ _ hS2
  have sA := (s1.trans s2).trans s3
  have hZ3 := upd_same (H := upd (upd (upd H1 p (.lst (cutV (sgnsOf SG) none (some 10)))) b (.lst [])) r (.tup [.int ((n : Nat) : Int), .ref b])) (a := Z0) (o := .lst [])
  generalize upd (upd (upd (upd H1 p (.lst (cutV (sgnsOf SG) none (some 10)))) b (.lst [])) r (.tup [.int ((n : Nat) : Int), .ref b])) Z0 (.lst []) = H3 at s3 hb3 hS3 sA hZ3 ⊢
  refine ⟨_, rfl, (n : Int), rfl, by omega, by omega, for_range (lo := 0) (n := ((n : Nat) : Int).toNat) (fun v σ H' => ∃ (Z : Addr) (zs : List V) (s5 : Option V), σ = [some (.str z), some (.ref S), some (.int (n : Int)), some (.ref b), some (.ref Z), s5, none, none, none, none, none, none, none, none] ∧ Same H3 H' ∧ H' Z = some (.lst zs) ∧ PairsT H' zs (pairsG v))
    ⟨Z0, [], none, rfl, fun _ _ e => e, hZ3, .nil⟩ ?_ ?_⟩
  · rintro v σ H4 lv ⟨Z, zs, s5, rfl, s4, hZ, pz⟩
    rw [Int.zero_add]
    have l36 : zs.length ≤ 36 := by rw [PairsT.len pz]; exact pairsG_few v (by omega)
    refine ⟨_, rfl, _, rfl, (v : Int), rfl, by omega, by omega, fun D nD => lc_range (lo := 0) (n := ((v : Nat) : Int).toNat)
      (fun k H5 => Same H4 H5 ∧ ∃ ys, H5 D = some (.lst ys) ∧ PairsT H5 ys ((List.range k).map fun u => (u, v))) ⟨same_new nD _, [], upd_same, .nil⟩ ?_ ?_⟩
    · rintro k H5 lk ⟨s5, ys, hD, py⟩
      rw [Int.zero_add]
      refine ⟨rfl, ?_⟩
      refine ⟨_, rfl, _, rfl, (by show 2 ≤ sizeLine; decide), fun r nr => ?_⟩
      have p1 := push_pairT (k, v) hD nr py
      have ly : ys.length = k := by rw [PairsT.len py, List.length_map, List.length_range]
      refine ⟨ys, (same_new nr _) _ _ hD, small1000 (by omega), same_put (s5.trans (same_new nr _)) nD, _, upd_same, ?_⟩
      rw [List.range_succ, List.map_append]
      exact p1
    · rintro H5 ⟨s5, ys, hD, py⟩
      rw [show ((v : Nat) : Int).toNat = v by omega] at py
      have ly : ys.length = v := by rw [PairsT.len py, List.length_map, List.length_range]
      refine ⟨Z, D, zs, ys, rfl, rfl, s5 _ _ hZ, hD, small (by omega), fun c nc => ?_⟩
      have s6 := same_new nc (.lst (zs ++ ys))
      refine ⟨c, _, _, rfl, s4.trans (s5.trans s6), upd_same, ?_⟩
      rw [pairsG_succ]
      exact (pz.same (s5.trans s6)).append (py.same s6)
  rintro σ H4 ⟨Z, ps, s5, rfl, s4, hZ4, pz⟩
  rw [show ((n : Nat) : Int).toNat = n by omega] at pz
  have lp : ps.length = (pairsG n).length := PairsT.len pz
  have l36 := pairsG_few n n9
  obtain ⟨L, hL⟩ : ∃ L, L = (pairsG n).length := ⟨_, rfl⟩
  rw [← hL] at lp l36
  have hS4 := s4 _ _ hS3
  have hb4 := s4 _ _ hb3
  have sB := sA.trans s4
  obtain ⟨M, hM⟩ : ∃ M, M = (L + 5) / 6 := ⟨_, rfl⟩
  have hMi : (((ps.length : Nat) : Int) + 5).fdiv 6 = ((M : Nat) : Int) := by
    rw [Int.fdiv_eq_ediv_of_nonneg _ (by decide), lp]
    omega
  refine ⟨_, rfl, Z, _, rfl, .inl (SqL.of hZ4), _, _, rfl, rfl, _, _, rfl, rfl, ⟨by decide, by decide⟩, valEq (i := 6) (w := .int ((M : Nat) : Int)) (by show V.int ((((ps.length : Nat) : Int) + 5).fdiv 6) = _; rw [hMi]) ?_⟩
  have rg : ∀ o, scan L 0 cs = o → readG (c :: cs) = match o with
    | some k => .bad k
    | none => .told n (tellP (pairsG n) (bitsC cs)) := fun o ho => by
    show (if 63 ≤ c ∧ c ≤ 72 then (match scan (pairsG (c - 63)).length 0 cs with
      | some k => RdG.bad k
      | none => .told (c - 63) (tellP (pairsG (c - 63)) (bitsC cs))) else .bad 0) = _
    rw [if_pos hc, ← hn, ← hL, ho]
  refine ⟨_, rfl, _, _, rfl, rfl, 1, (M : Int) + 1, rfl, ⟨by decide, by decide, by omega, by omega⟩, for_range (lo := 1) (n := ((M : Int) + 1 - 1).toNat) (fun i σ H' => ∃ (B : Addr) (s7 s8 s9 s10 s11 : Option V), σ = [some (.str z), some (.ref S), some (.int (n : Int)), some (.ref B), some (.ref Z), s5, some (.int ((M : Nat) : Int)), s7, s8, s9, s10, s11, none, none] ∧ Same H4 H' ∧ H' B = some (.lst (nums (bitsC (cs.take i)))) ∧ i ≤ cs.length ∧ scan L 0 cs = scan L i (cs.drop i))
    ⟨b, none, none, none, none, none, rfl, fun _ _ e => e, hb4, Nat.zero_le _, rfl⟩ ?_ ?_⟩
  · rintro i σ H5 li ⟨B, s7, s8, s9, s10, s11, rfl, s6, hB, ile, sc⟩
    rw [show (1 + (i : Int)) = ((i + 1 : Nat) : Int) by omega]
    have iM : i < M := by omega
    have i6 : 6 * i < L := by omega
    have sC := sB.trans s6
    have hS5 := s6 _ _ hS4
    have hZ5 := s6 _ _ hZ4
    refine ⟨_, rfl, _, rfl, z, rfl, zline, rfl, _, rfl, iteB (fun e => ?_) (fun e => ?_)⟩
    · have e' : ((i + 1 : Nat) : Int) = ((z.length : Nat) : Int) := V.int.inj (of_decide_eq_true e)
      rw [zlen, List.length_cons] at e'
      have ei : i = cs.length := by omega
      rw [ei, List.drop_length] at sc
      have sc' : scan L 0 cs = if 6 * cs.length < L then some (cs.length + 1) else none := sc
      rw [if_pos (by omega), ← ei] at sc'
      exact ⟨_, rfl, (by show 2 ≤ sizeLine; decide), fun l nl => wrong (i + 1) l _ (rg (some (i + 1)) sc') sC nl⟩
    have ne : i + 1 ≠ z.length := fun w => by
      have := of_decide_eq_false e
      exact this (congrArg V.int (congrArg Int.ofNat w))
    rw [zlen, List.length_cons] at ne
    have li' : i < cs.length := by omega
    obtain ⟨c', hc'⟩ : ∃ c', cs[i]? = some c' := ⟨_, List.getElem?_eq_getElem li'⟩
    have c128 : c' < 128 := hz c' (List.mem_cons_of_mem _ (List.mem_of_getElem? hc'))
    have dr : cs.drop i = c' :: cs.drop (i + 1) := by
      rw [List.drop_eq_getElem_cons li']
      congr 1
      exact (List.getElem?_eq_some_iff.mp hc').2
    rw [dr] at sc
    have sc' : scan L 0 cs = if goodS L i c' = true then scan L (i + 1) (cs.drop (i + 1)) else some (i + 1) := sc
    have atc : atI z.cps.toList ((i + 1 : Nat) : Int) = some c' := zc (i + 1) c' (by rw [hcs]; exact hc')
    have iall := in_all c' c128
    refine ⟨_, rfl, _, rfl, z, _, c', rfl, rfl, zline, atc, _, rfl, S, _, rfl, .inl (SqL.of hS5), rfl, sgns_flat, _, rfl, iteB (fun g => ?_) (fun g => ?_)⟩
    · have g' : (!inV (V.str ⟨#[c']⟩) (sgnsOf SG)) = true := g
      rw [iall] at g'
      have ng : ¬ goodS L i c' = true := fun h => by
        unfold goodS at h
        rw [Bool.and_eq_true, Bool.and_eq_true] at h
        rw [h.1.1] at g'
        cases g'
      rw [if_neg ng] at sc'
      exact ⟨_, rfl, (by show 2 ≤ sizeLine; decide), fun l nl => wrong (i + 1) l _ (rg (some (i + 1)) sc') sC nl⟩
    have g' : (!inV (V.str ⟨#[c']⟩) (sgnsOf SG)) = false := g
    rw [iall] at g'
    have cr : 63 ≤ c' ∧ c' < 127 := by
      by_cases h : 63 ≤ c' ∧ c' < 127
      · exact h
      · rw [decide_eq_false h] at g'
        cases g'
    obtain ⟨j1, j2, j3⟩ := index_of cr
    refine ⟨_, rfl, .inl ⟨rfl, _, SqL.of hS5⟩, _, rfl, _, rfl, z, _, c', rfl, rfl, zline, atc, S, _, _, c' - 63, _, rfl, rfl, SqL.of hS5, rfl, sgns_flat, j1, j2, j3, ?_⟩
    refine ⟨(by show 0 ≤ sizeLine; decide), fun m0 nm0 => ⟨_, _, rfl, ?_⟩⟩
    have s7' := same_new nm0 (.lst [])
    refine ⟨6, rfl, by decide, by decide, for_range (lo := 0) (n := 6) (fun t σ H' => ∃ (mo : Addr) (s10 s11 : Option V), σ = [some (.str z), some (.ref S), some (.int (n : Int)), some (.ref B), some (.ref Z), s5, some (.int ((M : Nat) : Int)), some (.int ((i + 1 : Nat) : Int)), some (.int (((c' - 63) / 2 ^ t : Nat) : Int)), some (.ref mo), s10, s11, none, none] ∧ Same (upd H5 m0 (.lst [])) H' ∧ H' mo = some (.lst (nums (lowB c' t))))
      ⟨m0, s10, s11, by rw [Nat.pow_zero, Nat.div_one]; rfl, fun _ _ e => e, upd_same⟩ ?_ ?_⟩
    · rintro t σ H6 lt ⟨mo, s10, s11, rfl, s8', hmo⟩
      refine ⟨_, rfl, _, _, rfl, ⟨by decide, by decide⟩, fun d nd => ?_⟩
      refine ⟨d, _, rfl, SqT.of upd_same, rfl, _, _, rfl, _, _, rfl, rfl, ?_⟩
      have e1 : (((c' - 63) / 2 ^ t : Nat) : Int) / 2 = (((c' - 63) / 2 ^ (t + 1) : Nat) : Int) := by
        rw [Nat.pow_succ, ← Nat.div_div_eq_div_mul]
        omega
      have e2 : (((c' - 63) / 2 ^ t : Nat) : Int) % 2 = (((c' - 63) / 2 ^ t % 2 : Nat) : Int) := by omega
      have sd := same_new nd (.tup [.int ((((c' - 63) / 2 ^ t : Nat) : Int) / 2), .int ((((c' - 63) / 2 ^ t : Nat) : Int) % 2)])
      refine ⟨_, rfl, (by show 1 ≤ sizeLine; decide), fun a na => ⟨_, rfl, a, mo, _, _, rfl, rfl, upd_same, (sd.trans (same_new na _)) _ _ hmo, small (by rw [nums_len]; unfold lowB; rw [List.length_map, List.length_reverse, List.length_range]; show 1 + t ≤ 1000; omega), fun cN ncN => ?_⟩⟩
      have sa := same_new na (.lst [.int ((((c' - 63) / 2 ^ t : Nat) : Int) % 2)])
      refine ⟨cN, some (.int ((t : Nat) : Int)), some (.int ((((c' - 63) / 2 ^ t : Nat) : Int) % 2)), ?_, s8'.trans (sd.trans (sa.trans (same_new ncN _))), ?_⟩
      · rw [← e1, Int.zero_add]
        rfl
      · rw [upd_same, lowB_succ]
        show some (HO.lst ([V.int ((((c' - 63) / 2 ^ t : Nat) : Int) % 2)] ++ nums (lowB c' t))) = _
        rw [e2]
        rfl
    rintro σ H6 ⟨mo, s10, s11, rfl, s8', hmo⟩
    rw [lowB_six] at hmo
    have sD := s7'.trans s8'
    have hB6 := sD _ _ hB
    have hZ6 := sD _ _ hZ5
    have lb6 : (bits6 c').length = 6 := rfl
    have lbi : (bitsC (cs.take i)).length = 6 * i := by rw [bitsC_len, List.length_take, Nat.min_eq_left (by omega)]
    refine ⟨_, rfl, _, rfl, B, mo, _, _, rfl, rfl, hB6, hmo, Nat.le_trans (show _ ≤ 6 * 900 by rw [nums_len, nums_len, lb6, lbi]; omega) (by rw [sizeLine_eq]; decide), fun b2 nb2 => ?_⟩
    rw [nums_app, ← bitsC_succ hc']
    have s9' := same_new nb2 (.lst (nums (bitsC (cs.take (i + 1)))))
    have lbs : (bitsC (cs.take (i + 1))).length = 6 * (i + 1) := by rw [bitsC_len, List.length_take, Nat.min_eq_left (by omega)]
    -- whether the sign is good
    have gs : goodS L i c' = decide ((c' - 63) % 2 ^ (6 - (L - 6 * i)) = 0) := by
      unfold goodS
      rw [decide_eq_true cr, decide_eq_true i6, Bool.true_and, Bool.true_and]
    have next : goodS L i c' = true → ∃ (B : Addr) (s7 s8 s9 s10' s11' : Option V), ([some (.str z), some (.ref S), some (.int (n : Int)), some (.ref b2), some (.ref Z), s5, some (.int ((M : Nat) : Int)), some (.int ((i + 1 : Nat) : Int)), some (.int (((c' - 63) / 2 ^ 6 : Nat) : Int)), some (.ref mo), s10, s11, none, none] : L2.St) = [some (.str z), some (.ref S), some (.int (n : Int)), some (.ref B), some (.ref Z), s5, some (.int ((M : Nat) : Int)), s7, s8, s9, s10', s11', none, none] ∧
        ∀ H7, Same (upd H6 b2 (.lst (nums (bitsC (cs.take (i + 1)))))) H7 → Same H4 H7 ∧ H7 B = some (.lst (nums (bitsC (cs.take (i + 1))))) ∧ i + 1 ≤ cs.length ∧ scan L 0 cs = scan L (i + 1) (cs.drop (i + 1)) := fun h =>
      ⟨b2, _, _, _, _, _, rfl, fun H7 s7 => ⟨s6.trans (sD.trans (s9'.trans s7)), s7 _ _ upd_same, by omega, by rw [if_pos h] at sc'; exact sc'⟩⟩
    refine ⟨_, rfl, _, rfl, rfl, _, rfl, iteB (fun e => ?_) (fun e => iteF ?_)⟩
    · have e' : i + 1 = M := by
        have := V.int.inj (of_decide_eq_true e)
        omega
      have hb2 : (upd H6 b2 (.lst (nums (bitsC (cs.take (i + 1)))))) b2 = some (.lst (nums (bitsC (cs.take (i + 1))))) := upd_same
      refine ⟨_, rfl, _, rfl, Z, _, rfl, .inl (SqL.of (s9' _ _ hZ6)), _, rfl, b2, _, rfl, SqL.of hb2, fun p np => ?_⟩
      rw [lp, cut_drop _ _ (by omega)]
      have sp := same_new np (.lst (nums ((bitsC (cs.take (i + 1))).drop L)))
      have dl : (bitsC (cs.take (i + 1))).drop L = (bits6 c').drop (6 - (6 - (L - 6 * i))) := by
        rw [bitsC_succ hc', List.drop_append, lbi, List.drop_eq_nil_of_le (by omega), List.nil_append]
        congr 1
        omega
      have lw := low_bits (c' - 63) (by omega) (6 - (L - 6 * i)) (by omega)
      rw [show 63 + (c' - 63) = c' by omega, ← dl] at lw
      have iv := inV_nums 1 ((bitsC (cs.take (i + 1))).drop L)
      refine ⟨p, _, rfl, .inl (SqL.of upd_same), rfl, nums_flat _, _, rfl, iteB (fun g => ?_) (fun g => ?_)⟩
      · have g' : inV (V.int ((1 : Nat) : Int)) (nums ((bitsC (cs.take (i + 1))).drop L)) = true := g
        rw [iv] at g'
        rw [g'] at lw
        have ng : ¬ goodS L i c' = true := by rw [gs, lw]; decide
        rw [if_neg ng] at sc'
        exact ⟨_, rfl, (by show 2 ≤ sizeLine; decide), fun l nl => wrong (i + 1) l _ (rg (some (i + 1)) sc') (sC.trans (sD.trans (s9'.trans sp))) nl⟩
      · have g' : inV (V.int ((1 : Nat) : Int)) (nums ((bitsC (cs.take (i + 1))).drop L)) = false := g
        rw [iv] at g'
        rw [g'] at lw
        have gd : goodS L i c' = true := by rw [gs, lw]; rfl
        obtain ⟨B', t1, t2, t3, t4, t5, e1, rest⟩ := next gd
        exact ⟨B', t1, t2, t3, t4, t5, e1, rest _ sp⟩
    · have e' : i + 1 ≠ M := fun w => (of_decide_eq_false e) (congrArg V.int (congrArg Int.ofNat w))
      have gd : goodS L i c' = true := by
        rw [gs, show 6 - (L - 6 * i) = 0 by omega, Nat.pow_zero, Nat.mod_one]
        rfl
      obtain ⟨B', t1, t2, t3, t4, t5, e1, rest⟩ := next gd
      exact ⟨B', t1, t2, t3, t4, t5, e1, rest _ fun _ _ e => e⟩
  · rintro σ H5 ⟨B, s7, s8, s9, s10, s11, rfl, s6, hB, ile, sc⟩
    rw [show ((M : Int) + 1 - 1).toNat = M by omega] at hB ile sc
    have sC := sB.trans s6
    have hZ5 := s6 _ _ hZ4
    have pz5 := pz.same s6
    refine ⟨_, rfl, z, rfl, zline, _, rfl, _, _, rfl, rfl, _, _, rfl, rfl, _, rfl, iteB (fun e => ?_) (fun e => ?_)⟩
    · have e' : ((z.length : Nat) : Int) > ((M : Nat) : Int) + 1 := of_decide_eq_true e
      rw [zlen, List.length_cons] at e'
      have lM : M < cs.length := by omega
      have dr : cs.drop M = cs[M] :: cs.drop (M + 1) := List.drop_eq_getElem_cons lM
      rw [dr] at sc
      have sc' : scan L 0 cs = if goodS L M cs[M] = true then scan L (M + 1) (cs.drop (M + 1)) else some (M + 1) := sc
      have ng : ¬ goodS L M cs[M] = true := by
        unfold goodS
        rw [decide_eq_false (p := 6 * M < L) (by omega), Bool.and_false, Bool.false_and]
        decide
      rw [if_neg ng] at sc'
      exact ⟨_, rfl, _, _, rfl, rfl, (by show 2 ≤ sizeLine; decide), fun l nl => wrong (M + 1) l _ (rg (some (M + 1)) sc') sC nl⟩
    have e' : ¬ ((z.length : Nat) : Int) > ((M : Nat) : Int) + 1 := of_decide_eq_false e
    rw [zlen, List.length_cons] at e'
    have eM : cs.length = M := by omega
    rw [← eM, List.drop_length] at sc
    have sc' : scan L 0 cs = if 6 * cs.length < L then some (cs.length + 1) else none := sc
    rw [if_neg (by omega)] at sc'
    have rd := rg none sc'
    rw [← eM, List.take_length] at hB
    refine ⟨_, rfl, ?_⟩
    refine ⟨_, rfl, Z, _, rfl, .inl (SqL.of hZ5), ((ps.length : Nat) : Int), rfl, by omega, by omega, fun R nR => lc_range (lo := 0) (n := ((ps.length : Nat) : Int).toNat)
      (fun i H6 => Same H5 H6 ∧ ∃ ys, H6 R = some (.lst ys) ∧ ys.length ≤ i ∧ PairsT H6 ys (tellP ((pairsG n).take i) ((bitsC cs).take i))) ⟨same_new nR _, [], upd_same, Nat.le_refl _, .nil⟩ ?_ ?_⟩
    · rintro i H6 li ⟨s7', ys, hR, lys, py⟩
      rw [Int.zero_add]
      have iL : i < L := by omega
      have lbb : (bitsC cs).length = 6 * cs.length := bitsC_len cs
      obtain ⟨bb, hb⟩ : ∃ bb, (bitsC cs)[i]? = some bb := ⟨_, List.getElem?_eq_getElem (by omega)⟩
      have hbn : (nums (bitsC cs))[i]? = some (.int ((bb : Nat) : Int)) := by
        unfold nums
        rw [List.getElem?_map, hb]
        rfl
      have b1 := bitsC_le cs bb (List.mem_of_getElem? hb)
      have pz6 := pz5.same s7'
      obtain ⟨y, hy⟩ : ∃ y, ps[i]? = some y := ⟨_, List.getElem?_eq_getElem (by omega)⟩
      obtain ⟨p, hp, hyp⟩ : ∃ p, (pairsG n)[i]? = some p ∧ PairT H6 y p := by
        have zz := map_gOf pz6
        have m := pz6.mem y (List.mem_of_getElem? hy)
        refine ⟨_, ?_, m⟩
        rw [← zz, List.getElem?_map, hy]
        rfl
      have ltk : ((pairsG n).take i).length = ((bitsC cs).take i).length := by
        rw [List.length_take, List.length_take]
        omega
      refine ⟨rfl, ?_⟩
      refine ⟨_, rfl, _, rfl, B, _, _, _, rfl, rfl, SqL.of (s7' _ _ hB), atI_nat hbn, rfl, _, rfl, ?_⟩
      rw [take_succ hp, take_succ hb, tellP_snoc ltk]
      refine iteB (fun g => ?_) (fun g => ?_)
      · have b0 : (bb != 0) = true := by
          have := V.int.inj (of_decide_eq_true g)
          simp
          omega
        rw [b0]
        refine ⟨_, rfl, _, rfl, Z, _, _, y, rfl, rfl, SqL.of (s7' _ _ hZ5), atI_nat hy, ys, hR, small1000 (by omega), same_put s7' nR, _, upd_same, by rw [List.length_append]; show ys.length + 1 ≤ i + 1; omega, ?_⟩
        exact (py.append (.cons hyp .nil)).put hR
      · have b0 : (bb != 0) = false := by
          have : ¬ ((bb : Int) = 1) := fun w => (of_decide_eq_false g) (congrArg V.int w)
          simp
          omega
        rw [b0]
        refine ⟨s7', ys, hR, by omega, ?_⟩
        show PairsT _ ys (_ ++ [])
        rw [List.append_nil]
        exact py
    rintro H6 ⟨s7', ys, hR, lys, py⟩
    rw [show ((ps.length : Nat) : Int).toNat = ps.length by omega, lp, hL, List.take_length] at py
    have tl : tellP (pairsG n) ((bitsC cs).take (pairsG n).length) = tellP (pairsG n) (bitsC cs) := by
      unfold tellP
      rw [zip_take_len]
    rw [tl] at py
    have nd : (tellP (pairsG n) (bitsC cs)).Nodup := tellP_nodup (pairsG_nodup n n9)
    have sD := sC.trans s7'
    refine ⟨R, ys, kOf H6, rfl, SqL.of hR, fun x hx => ?_, fun ys' p so st np => ?_⟩
    · have m := py.mem x hx
      have kx := kOf_at m
      obtain ⟨t, e, ht⟩ := m
      refine ⟨t, e, ?_⟩
      rw [kx]
      exact ht
    obtain ⟨q1, q2, q3⟩ := sorted_pairs py nd so st
    have s8' := same_new np (.lst ys')
    refine ⟨p, _, rfl, .inl ⟨SqL.of upd_same, fun e ne => ?_⟩⟩
    have s9' := same_new ne (.tup ys')
    refine ⟨(by show 2 ≤ sizeLine; decide), fun r nr => ⟨(by show 2 ≤ sizeLine; decide), fun l nl => ?_⟩⟩
    have sr := same_new nr (.tup [.int ((n : Nat) : Int), .ref e])
    have sl := same_new nl (.lst [.str "told", .ref r])
    have sE := s8'.trans (s9'.trans (sr.trans sl))
    refine q (.ref l) _ (sD.trans sE) ?_
    rw [rd]
    refine ⟨l, .ref r, ys'.map (gOf H6), rfl, upd_same, ⟨r, e, ys', rfl, SqT.of (sl _ _ upd_same), SqT.of ((sr.trans sl) _ _ upd_same), (q1.same sE).at⟩, ⟨n9, fun w hw => ?_, q2⟩, q3⟩
    exact mem_pairsG.mp (tellP_sub _ _ w ((q3 w).mp hw))
end
end My

set_option maxHeartbeats 4000000
/-! f(name=e) of a def that may raise; isinstance(e, C) in an except suite, e with an own dict. -/
namespace My
open PySem PySem.Spec PyProof.Rows L2
section
variable {X : Cx} {CX : CXT} {k : Nat} {f : Addr} {fd : FuncData} {sp : Sp} {E : L2.St → XK} {x fld : Str} {p pos : Pos} {tk : TA}
theorem pe_kw1 (F : FnOk X.prog X.w X.K X.mg X.base CX k f fd [fld] sp) (hr : Room k X.A) (hg : Gl X x) (hm : X.mg x = some (.ref f)) (hk : PySem.W.keepIn X.K (.ref f) = true) (hb : ∀ (s : Shared) (u : Value), BindsTo s fd ⟨[], [(fld, u)]⟩ ([fld].zip [u])) (hx : ∀ σ, PassesAt CX X σ (E σ))
    {kws : List Keyword} (hkw : PK X kws tk) (hall : (backToKw pos (keywordEach kws X.env)).all (·.1.isSome) = true := by rfl) (hks : (backToKw pos (keywordEach kws X.env)).filterMap (·.1) = [fld] := by rfl)
    (hdb : (x == ("__debug__" : Str)) = false := by decide) (hpl : ((backTo pos (starEach [] X.env)).any (·.1) || (backToKw pos (keywordEach kws X.env)).any (·.1.isNone)) = false := by rfl) :
    PE X (.Call (.Name x p) [] kws pos) (tCallS sp E tk) := by
  refine ⟨?_⟩
  intro pins s σ H Q I h
  refine wpAny_Call_Name_kw (ld_glob I hg hm ?_ hdb)
  refine PySem.W.callWith_KW0 (h₀ := X.base) I.ok.mod.kin hk hall (thn (hkw.run pos pins s σ H _ I h) ?_) hpl
  rintro us s1 ⟨vs, H1, I1, r, q1⟩
  refine ⟨I1.kIn, ?_⟩
  rw [hks]
  have hl : us.length = 1 := by rw [← r.length]; exact F.len _ _ _ _ q1
  obtain ⟨u, rfl⟩ : ∃ u, us = [u] := by
    match us, hl with
    | [u], _ => exact ⟨u, rfl⟩
  refine wpAny_call (codeAny_mono (F.run X.A X.stack s1 H1 ⟨[], [(fld, u)]⟩ [u] vs Q (E σ) hr I1.env0 (hb _ _) r q1) fun r s' hq => ?_)
  cases r with
  | error e => exact hx σ pins H1 s1 e s' I1 hq
  | ok fl =>
    cases fl with
    | ret u => exact I1.after hq
    | next => exact False.elim hq
    | brk => exact False.elim hq
    | cont => exact False.elim hq
theorem passAt0 {X : Cx} {σ : L2.St} {E : XK} : PassesAt CX0 X σ E := fun _ _ _ _ _ _ h => h.elim
end
def rIsF (K : PySem.W.Frag) (a : Addr) (cls : Value) (d : Option Addr) : List V → Hp → VK → Prop := fun xs H Q => ∃ (C dd : Addr) (c : V) (u : Value) (b : Bool) (fs : List (Str × V)), xs = [.ref a, c] ∧ ClsV c u ∧ cls = .ref C ∧ d = some dd ∧ H dd = some (.xd fs) ∧ XIs K C ∧ PySem.W.kitOne K (.ref C) u = some b ∧ Q (.bl b) H
theorem call_isF {X : Cx} {a : Addr} {oe : Obj} {cls : Value} {d : Option Addr} {pn : List (Addr × Obj)} (hz : Zc cls d oe) (hf : ∃ vs, oe.data = .fields vs) : CallR (X.suite a ((a, oe) :: pn)) (.builtin "isinstance") (rIsF X.K a cls d) := by
  rintro pins s σ H xs us Q I r ⟨C, dd, c, u, b, fs, rfl, cv, rfl, rfl, ea, T, kit, q⟩
  obtain ⟨u1, u2, rfl, r1, r2⟩ := vals2 r
  obtain rfl : u2 = u := cv.eq r2
  obtain rfl : u1 = Value.ref a := r1
  obtain ⟨ha, _⟩ := I.pin (a, oe) (List.mem_append_left _ List.mem_cons_self)
  obtain ⟨vs, hd⟩ := hf
  have hx : ObjOk X.prog X.w H s.heap dd (.xd fs) := I.hok dd _ ea
  obtain ⟨mA, hns, hr⟩ := hx
  obtain ⟨od, ho, hl⟩ := lookIn_ns hns
  have J : PySem.W.InstAt s.heap a oe C (some od) := by
    refine ⟨ha, hz.1, ?_, ?_⟩
    · unfold PySem.W.notCls
      rw [hd]
    · rw [hz.2]
      exact ho
  exact PySem.W.kia_one (PySem.W.kitx_exc T.cl T.xf.ga T.xf.gg T.xf.exC T.ha T.hn T.ht T.hm) I.kIn J kit (fun z => nomatch z) fun tk => ⟨.bl b, H, I.tok tk, rfl, q⟩
end My

set_option maxHeartbeats 8000000
namespace My
open PySem PySem.Spec PyProof.Rows L2 RZ
abbrev sTold : Stmt := top (22 + 20)
theorem scTold : FnScope ["text", "is_named", "e"] ["text", "is_named"] (defScope sTold) := ⟨rfl, rfl, rfl, by decide +kernel, rfl, by decide +kernel, by decide +kernel⟩
def spTold (K : PySem.W.Frag) : Sp := fun vs H Q _ => (∃ (z : Str) (b : Bool), vs = [.str z, .bl b] ∧ (∀ c ∈ z.cps.toList, c < 128) ∧ z.length ≤ 900 ∧ ∀ x H', Same H H' → ToldAt K H' x (readG z.cps.toList) → Q x H') ∨
  ∃ (v : V) (T : String) (b : Bool), vs = [v, .bl b] ∧ TyB K H v T ∧ T ≠ "str" ∧ ∀ l H', Same H H' → H' l = some (.lst [.str "wrong", .non]) → Q (.ref l) H'
section
variable {P : Program} {w : World} {K : PySem.W.Frag} {mg : Str → Option Value} {base : Heap} {C G f fI fF : Addr} {fd dI dF : FuncData}
theorem ok_told (F : L2.Fun K "_law_told" "_law_told" sTold f fd) (T : XCls K C fI "index") (mC : mg "InvalidSign" = some (.ref C)) (TI : XIs K C) (mG : mg "GraphError" = some (.ref G)) (kit : PySem.W.kitOne K (.ref C) (.ref G) = some true) (ex : PySem.W.exmOne K (.ref C) (.ref C) = some true)
    (GF : FnOk P w K mg base (L2.CX P w) 3 fF dF ["text"] (spFrom K C)) (bF : L2.Binds K dF ["text"] []) (bFk : ∀ (s : Shared) (u : Value), BindsTo s dF ⟨[], [(("text" : Str), u)]⟩ ([("text" : Str)].zip [u])) (kF : PySem.W.keepIn K (.ref fF) = true) (mF : mg "from_graph6" = some (.ref fF)) (mis : mg "isinstance" = none) :
    FnOk P w K mg base CX0 4 f fd ["text", "is_named"] (spTold K) := by
  refine F.ok scTold (fun vs H Q E h => ?_) (fun cdv A outer s H vs Q E hr h => ?_)
  · rcases h with ⟨z, b, rfl, _⟩ | ⟨v, T, b, rfl, _⟩ <;> rfl
  refine ⟨_, pss_one (ps_try_as (i := 2) rfl rfl scTold.nd rfl rfl ⟨rfl, by decide, .inl mC⟩ takes0
    (fun W pn xe tk _ => pss_one (ps_ret (pe_lst (pa_cons pe_str (pa_cons (pe_ifExp (pt_val (pv 1)) (pe_kw1 GF hr (by rfl) mF kF bFk (fun σ => passAt tk σ) (pk_cons (pv 0) pk_nil)) (pe_callS GF hr (by rfl) mF kF bF (fun σ => passAt tk σ) (pa_cons (pv 0) pa_nil))) pa_nil)))))
    (fun a oe cls d pn hz hf => pss_one (ps_ret (pe_ifExp (pt_val (pe_callB (r := rIsF K a cls d) (call_isF hz hf) (by rfl) mis (by decide +kernel) (pa_cons (pv 2) (pa_cons (pe_glob (v := .ref G) (by rfl) mG rfl) pa_nil))))
      (pe_lst (pa_cons pe_str (pa_cons (pe_xf T.xf T.no hz hf (pv 2)) pa_nil))) (pe_lst (pa_cons pe_str pa_nil)))))), ?_⟩
  -- the suite, told of
  have caught : ∀ (bb : Bool) (text : V) (D : Ends) (d : Addr) (H1 : Hp) (v : V), H1 d = some (.xd [("index", v)]) → (∀ l H', Same H1 H' → H' l = some (.lst [.str "wrong", v]) → Q (.ref l) H') →
      ∀ a, H1 a = none → (tRet (tIf (tB (tCB (rIsF K a (.ref C) (some d)) (tCons (tVar 2) (tCons (tC (.ref G)) tNil)))) (tLst (tCons (tC (.str "wrong")) (tCons (tXf a (.ref C) (some d) C "index" (tVar 2)) tNil))) (tLst (tCons (tC (.str "odd")) tNil)))) { D with rt := Q } [some text, some (.bl bb), some (.ref a)] H1 := by
    intro bb text D d H1 v hd q a na
    refine ⟨_, rfl, C, d, .ref G, .ref G, true, _, rfl, .own G, rfl, rfl, hd, TI, kit, _, rfl, iteT ⟨_, rfl, rfl, rfl, d, _, v, rfl, hd, rfl, (by show 2 ≤ sizeLine; decide), fun l nl => ?_⟩⟩
    exact q l _ (same_new nl _) upd_same
  rcases h with ⟨z, b, rfl, hz, zl, q⟩ | ⟨v, T', b, rfl, tyv, nt, q⟩
  · have go : ∀ (R : V → Hp → Prop), (∀ x H', Same H H' → (∀ n ps, readG z.cps.toList = .told n ps → ∃ es, GraphAt K H' x n es ∧ Good n es ∧ ∀ q, q ∈ es ↔ q ∈ ps) → (∃ n ps, readG z.cps.toList = .told n ps) → R x H') →
        ∀ (E' : XK), (∀ k, readG z.cps.toList = .bad k → ∀ d H', H d = none → Same H H' → H' d = some (.xd [("index", .int (k : Int))]) → E' (.ref C) (some d) H') → spFrom K C [.str z] H R E' := fun R hR E' hE =>
      .inl ⟨z, rfl, hz, zl, hE, fun n ps hr x es H' s' g gd iff => hR x H' s' (fun n' ps' e => by rw [hr] at e; cases e; exact ⟨es, g, gd, iff⟩) ⟨n, ps, hr⟩⟩
    have fin : ∀ x H', Same H H' → (∀ n ps, readG z.cps.toList = .told n ps → ∃ es, GraphAt K H' x n es ∧ Good n es ∧ ∀ q, q ∈ es ↔ q ∈ ps) → (∃ n ps, readG z.cps.toList = .told n ps) → ∀ l, H' l = none → Q (.ref l) (upd H' l (.lst [.str "told", x])) := fun x H' s' h ⟨n, ps, e⟩ l nl => by
      obtain ⟨es, g, gd, iff⟩ := h n ps e
      refine q _ _ (s'.trans (same_new nl _)) ?_
      rw [e]
      exact ⟨l, x, es, rfl, upd_same, g.same (same_new nl _), gd, iff⟩
    refine ⟨_, rfl, _, rfl, iteB (fun _ => ⟨_, rfl, go _ (fun x H' s' h e => ⟨(by show 2 ≤ sizeLine; decide), fun l nl => fin x H' s' h e l nl⟩) _ fun k hk d H' nd s' hd => ?_⟩) (fun _ => ⟨_, rfl, go _ (fun x H' s' h e => ⟨(by show 2 ≤ sizeLine; decide), fun l nl => fin x H' s' h e l nl⟩) _ fun k hk d H' nd s' hd => ?_⟩)⟩
    · exact ⟨true, ex, fun _ a na => caught b (.str z) { nx := fun _ _ => True, rt := Q } d H' _ hd (fun l H2 s2 hl => q _ _ (s'.trans s2) (by rw [hk]; exact ⟨l, rfl, hl⟩)) a na, fun w => nomatch w⟩
    · exact ⟨true, ex, fun _ a na => caught b (.str z) { nx := fun _ _ => True, rt := Q } d H' _ hd (fun l H2 s2 hl => q _ _ (s'.trans s2) (by rw [hk]; exact ⟨l, rfl, hl⟩)) a na, fun w => nomatch w⟩
  · have go : ∀ (R : V → Hp → Prop) (E' : XK), (∀ d H', H d = none → Same H H' → H' d = some (.xd [("index", .non)]) → E' (.ref C) (some d) H') → spFrom K C [v] H R E' := fun R E' hE => .inr ⟨v, T', rfl, tyv, nt, hE⟩
    refine ⟨_, rfl, _, rfl, iteB (fun _ => ⟨_, rfl, go _ _ fun d H' nd s' hd => ?_⟩) (fun _ => ⟨_, rfl, go _ _ fun d H' nd s' hd => ?_⟩)⟩
    · exact ⟨true, ex, fun _ a na => caught b v { nx := fun _ _ => True, rt := Q } d H' _ hd (fun l H2 s2 hl => q l _ (s'.trans s2) hl) a na, fun w => nomatch w⟩
    · exact ⟨true, ex, fun _ a na => caught b v { nx := fun _ _ => True, rt := Q } d H' _ hd (fun l H2 s2 hl => q l _ (s'.trans s2) hl) a na, fun w => nomatch w⟩
end
end My

set_option maxHeartbeats 4000000
/-! What is told is fit to be shown. -/
namespace My
open PySem PySem.Spec PyProof.Rows L2
theorem app_len (a b : Str) : (a ++ b).length = a.length + b.length := by
  show (a.cps ++ b.cps).size = _
  rw [Array.size_append]
  rfl
theorem tup_len (ts : List Str) : (tupleText ts).length ≤ (ts.map (·.length)).sum + 2 * ts.length + 3 := by
  have h := StrLaws.join_length_le ", " ts
  have c : ((", " : String) : Str).length = 2 := by decide +kernel
  have o : (("(" : String) : Str).length = 1 := by decide +kernel
  have e1 : ((",)" : String) : Str).length = 2 := by decide +kernel
  have e2 : ((")" : String) : Str).length = 1 := by decide +kernel
  unfold tupleText
  rw [app_len, app_len, o]
  rw [c] at h
  split
  · rw [e1]; omega
  · rw [e2]; omega
theorem from_len : ∀ (ts : List Str) (k : Nat) (acc : Str), (textFrom k acc ts).length ≤ acc.length + (ts.map (·.length)).sum + 2 * ts.length
  | [], k, acc => by show acc.length ≤ acc.length + 0 + 0; omega
  | t :: ts, k, acc => by
    have h := from_len ts (k + 1) (acc ++ (((if k > 0 then ", " else "" : String)) : Str) ++ t)
    have c : ((", " : String) : Str).length = 2 := by decide +kernel
    have c0 : (("" : String) : Str).length = 0 := by decide +kernel
    have e : (acc ++ (((if k > 0 then ", " else "" : String)) : Str) ++ t : Str).length ≤ acc.length + 2 + t.length := by
      rw [app_len, app_len]
      split
      · rw [c]; omega
      · rw [c0]; omega
    show (textFrom (k + 1) (acc ++ (((if k > 0 then ", " else "" : String)) : Str) ++ t) ts).length ≤ _
    rw [List.map_cons, List.sum_cons, List.length_cons]
    omega
theorem lst_len (ts : List Str) : (listText ts).length ≤ (ts.map (·.length)).sum + 2 * ts.length + 2 := by
  have h := from_len ts 0 "["
  have o : (("[" : String) : Str).length = 1 := by decide +kernel
  have e2 : (("]" : String) : Str).length = 1 := by decide +kernel
  unfold listText
  rw [app_len, e2]
  rw [o] at h
  omega
theorem pair_fine : ∀ a, a ≤ 9 → ∀ b, b ≤ 9 → (pairD (a, b)).shown.length ≤ 6 ∧ (pairD (a, b)).showable = true := by decide +kernel
theorem pairs_fine : ∀ {es : List E2}, (∀ p ∈ es, p.1 ≤ 9 ∧ p.2 ≤ 9) → ((PyData.shownAll (es.map pairD)).map (·.length)).sum ≤ 6 * es.length ∧ (PyData.shownAll (es.map pairD)).length = es.length ∧ PyData.showableAll (es.map pairD) = true
  | [], _ => ⟨Nat.le_refl _, rfl, by rw [List.map_nil]; simp [PyData.showableAll]⟩
  | p :: es, h => by
    obtain ⟨h1, h2, h3⟩ := pairs_fine (es := es) fun q hq => h q (List.mem_cons_of_mem _ hq)
    obtain ⟨a, b⟩ := h p (List.mem_cons_self ..)
    obtain ⟨f1, f2⟩ := pair_fine p.1 a p.2 b
    rw [List.map_cons]
    simp only [PyData.shownAll, PyData.showableAll, List.map_cons, List.sum_cons, List.length_cons]
    refine ⟨?_, by omega, ?_⟩
    · have f1' : (pairD p).shown.length ≤ 6 := f1
      omega
    · have f2' : (pairD p).showable = true := f2
      rw [f2', h3]
      rfl
theorem num_fine : ∀ n : Nat, n ≤ 9 → (PyData.int (n : Int)).shown.length ≤ 1 ∧ (PyData.int (n : Int)).showable = true := by decide +kernel
theorem graph_fine {n : Nat} {es : List E2} (g : Good n es) : (graphD n es).shown.length ≤ 400 ∧ (graphD n es).showable = true ∧ (graphD n es).depth ≤ 3 := by
  have n9 := g.n9
  obtain ⟨h1, h2, h3⟩ := pairs_fine (es := es) fun p hp => by have := g.lt p hp; omega
  obtain ⟨f1, f2⟩ := num_fine n n9
  have few := g.few
  have t1 := tup_len (PyData.shownAll (es.map pairD))
  have t2 := tup_len [(PyData.int (n : Int)).shown, tupleText (PyData.shownAll (es.map pairD))]
  have pd := pairsD_depth es
  unfold graphD
  refine ⟨?_, ?_, ?_⟩
  · have e : (PyData.tuple [.int (n : Int), .tuple (es.map pairD)]).shown = tupleText [(PyData.int (n : Int)).shown, tupleText (PyData.shownAll (es.map pairD))] := by simp [PyData.shown, PyData.shownAll]
    rw [e]
    simp only [List.map_cons, List.map_nil, List.sum_cons, List.sum_nil, List.length_cons, List.length_nil] at t2
    omega
  · simp [PyData.showable, PyData.showableAll, h3]
    simpa [PyData.showable] using f2
  · simp only [PyData.depth, PyData.depthAll]
    omega
def FineD (d : PyData) : Prop := d.showable = true ∧ d.depth ≤ 60 ∧ d.shown.length ≤ sizeLine
instance (d : PyData) : Decidable (FineD d) := inferInstanceAs (Decidable (_ ∧ _ ∧ _))
theorem bad_fine : ∀ k : Nat, k ≤ 950 → FineD (.list [.str "wrong", .int (k : Int)]) := by decide +kernel
theorem told_fine {n : Nat} {es : List E2} (g : Good n es) : FineD (.list [.str "told", graphD n es]) := by
  obtain ⟨h1, h2, h3⟩ := graph_fine g
  have c : (reprText "told").length = 6 := by decide +kernel
  have t := lst_len [reprText "told", (graphD n es).shown]
  refine ⟨?_, ?_, ?_⟩
  · simp [PyData.showable, PyData.showableAll, h2]
  · simp only [PyData.depth, PyData.depthAll]
    omega
  · have e : (PyData.list [.str "told", graphD n es]).shown = listText [reprText "told", (graphD n es).shown] := by simp [PyData.shown, PyData.shownAll]
    rw [e]
    simp only [List.map_cons, List.map_nil, List.sum_cons, List.sum_nil, List.length_cons, List.length_nil] at t
    exact Nat.le_trans t (Nat.le_of_lt (small1000 (by omega)))
theorem three_fine {n : Nat} {es : List E2} (g : Good n es) {z : Str} (hz : ∀ c ∈ z.cps.toList, c < 128) (zl : z.length ≤ 30) : FineD (.list [.str z, .str z, .list [.str "told", graphD n es]]) := by
  obtain ⟨h1, h2, h3⟩ := told_fine g
  obtain ⟨k1, k2, k3⟩ := graph_fine g
  have r := StrLaws.reprText_len z fun c hc => Nat.lt_trans (hz c hc) (by decide)
  have c : (reprText "told").length = 6 := by decide +kernel
  have t0 := lst_len [reprText "told", (graphD n es).shown]
  have t := lst_len [reprText z, reprText z, listText [reprText "told", (graphD n es).shown]]
  refine ⟨?_, ?_, ?_⟩
  · simp [PyData.showable, PyData.showableAll, k2]
  · simp only [PyData.depth, PyData.depthAll]
    omega
  · have e : (PyData.list [.str z, .str z, .list [.str "told", graphD n es]]).shown = listText [reprText z, reprText z, listText [reprText "told", (graphD n es).shown]] := by simp [PyData.shown, PyData.shownAll]
    rw [e]
    simp only [List.map_cons, List.map_nil, List.sum_cons, List.sum_nil, List.length_cons, List.length_nil] at t t0
    exact Nat.le_of_lt (Nat.lt_of_le_of_lt t (by
      refine Nat.lt_of_lt_of_le (show _ < 5000 by omega) ?_
      rw [sizeLine_eq]
      decide))
end My

set_option maxHeartbeats 8000000
namespace My
open PySem PySem.Spec PyProof.Rows L2 RZ
abbrev sBent : Stmt := top (22 + 19)
theorem scBent : FnScope ["well", "text", "way", "at", "sign"] ["well", "text"] (defScope sBent) := ⟨rfl, rfl, rfl, by decide +kernel, rfl, by decide +kernel, by decide +kernel⟩
def Asc (z : Str) : Prop := ∀ c ∈ z.cps.toList, c < 128
theorem asc_app {a b : Str} (ha : Asc a) (hb : Asc b) : Asc (a ++ b) := fun c hc => by
  have e : (a ++ b : Str).cps.toList = a.cps.toList ++ b.cps.toList := by
    show (a.cps ++ b.cps).toList = _
    rw [Array.toList_append]
  rw [e] at hc
  rcases List.mem_append.mp hc with h | h
  · exact ha c h
  · exact hb c h
theorem asc_cut {z : Str} (h : Asc z) (lo hi : Option Int) : Asc (cutS z lo hi) := fun c hc => by
  unfold cutS at hc
  exact h c (List.mem_of_mem_drop (List.mem_of_mem_take hc))
def spPickS : Sp := fun vs H Q _ => ∃ (p : Addr) (z : Str), vs = [.ref p, .str z] ∧ Wl H p ∧ 0 < z.length ∧ z.length < 900 ∧ ∀ (c : Nat) (H' : Hp), c ∈ z.cps.toList → But p H H' → Wl H' p → Q (.str ⟨#[c]⟩) H'
def spBent : Sp := fun vs H Q _ => ∃ (p : Addr) (z : Str), vs = [.ref p, .str z] ∧ Wl H p ∧ Asc z ∧ z.length ≤ 400 ∧ ∀ (y : Str) (H' : Hp), Asc y → y.length ≤ 2 * z.length + 2 → But p H H' → Wl H' p → Q (.str y) H'
section
variable {P : Program} {w : World} {K : PySem.W.Frag} {mg : Str → Option Value} {base : Heap} {f fD fS fK : Addr} {fd dD dS dK : FuncData}
theorem ok_pickS (F : L2.Fun K "_law_pick" "_law_pick" sPick f fd) (GD : FnOk P w K mg base CX0 1 fD dD ["well", "many"] spDraw) (bD : L2.Binds K dD ["well", "many"] []) (kD : PySem.W.keepIn K (.ref fD) = true) (mD : mg "_law_draw" = some (.ref fD)) (ml : mg "len" = none) :
    FnOk P w K mg base CX0 2 f fd ["well", "some"] spPickS := by
  refine F.ok scPick (fun vs H Q E h => ?_) (fun cdv A outer s H vs Q E hr h => ?_)
  · obtain ⟨p, z, rfl, _⟩ := h
    rfl
  obtain ⟨p, z, rfl, hW, l0, l1, q⟩ := h
  refine ⟨_, pss_one (ps_ret (pe_ix ix_str (pv 1) (pe_call GD hr (by rfl) mD kD bD .nil pass0 (pa_cons (pv 0) (pa_cons (pe_callB call_len_str (by rfl) ml PySem.boot_len (pa_cons (pv 1) pa_nil)) pa_nil))) (fun _ _ => rfl))), ?_⟩
  refine ⟨_, rfl, _, rfl, _, rfl, z, rfl, small (by omega), p, _, rfl, hW, by omega, by omega, fun r H' r0 r1 bt hW' => ?_⟩
  obtain ⟨i, rfl⟩ : ∃ i : Nat, r = (i : Int) := ⟨r.toNat, by omega⟩
  have zs : z.length = z.cps.toList.length := (Array.length_toList ..).symm
  have hi : i < z.cps.toList.length := by omega
  exact ⟨z, _, z.cps.toList[i], rfl, rfl, small (by omega), atI_nat (List.getElem?_eq_getElem hi), q _ H' (List.getElem_mem hi) bt hW'⟩
theorem ok_bent (F : L2.Fun K "_law_bent" "_law_bent" sBent f fd) (GD : FnOk P w K mg base CX0 1 fD dD ["well", "many"] spDraw) (bD : L2.Binds K dD ["well", "many"] []) (kD : PySem.W.keepIn K (.ref fD) = true) (mD : mg "_law_draw" = some (.ref fD))
    (GK : FnOk P w K mg base CX0 2 fK dK ["well", "some"] (spPick K)) (GKS : FnOk P w K mg base CX0 2 fK dK ["well", "some"] spPickS) (bK : L2.Binds K dK ["well", "some"] []) (kK : PySem.W.keepIn K (.ref fK) = true) (mK : mg "_law_pick" = some (.ref fK))
    (GS : FnOk P w K mg base CX0 1 fS dS [] spSigns) (bS : L2.Binds K dS [] []) (kS : PySem.W.keepIn K (.ref fS) = true) (mS : mg "_law_signs" = some (.ref fS)) (ml : mg "len" = none) :
    FnOk P w K mg base CX0 3 f fd ["well", "text"] spBent := by
  refine F.ok scBent (fun vs H Q E h => ?_) (fun cdv A outer s H vs Q E hr h => ?_)
  · obtain ⟨p, z, rfl, _⟩ := h
    rfl
  obtain ⟨p, z, rfl, hW, az, zl, q⟩ := h
  refine ⟨_, pss_cons (ps_par (by rfl) scBent.nd (i := 2) (j := 3) rfl rfl (by decide) rfl rfl (pa_cons (pe_call GD (hr.mono (by decide)) (by rfl) mD kD bD .nil pass0 (pa_cons (pv 0) (pa_cons pe_int pa_nil))) (pa_cons (pe_call GD (hr.mono (by decide)) (by rfl) mD kD bD .nil pass0 (pa_cons (pv 0) (pa_cons (pe_op op_add (pe_callB call_len_str (by rfl) ml PySem.boot_len (pa_cons (pv 1) pa_nil)) pe_int) pa_nil))) pa_nil)) (by rfl))
    (pss_cons (ps_set (i := 4) scBent.nd rfl (.inl rfl) (pe_call GKS hr (by rfl) mK kK bK .nil pass0 (pa_cons (pv 0) (pa_cons (pe_ifExp (pt_cmpR op_eq (pe_call GD (hr.mono (by decide)) (by rfl) mD kD bD .nil pass0 (pa_cons (pv 0) (pa_cons pe_int pa_nil))) pe_int (nomark _)) (pe_call0 GS (hr.mono (by decide)) (by rfl) mS kS bS .nil pass0) pe_str) pa_nil))))
    (pss_cons (ps_if (pt_cmpR op_eq (pv 2) pe_int (nomark _)) (pss_one (ps_ret (pe_op op_add_str (pe_op op_add_str (pe_slice sl_str (pv 1) po_none (po_some (pv 3))) (pv 4)) (pe_slice sl_str (pv 1) (po_some (pv 3)) po_none)))) pss_nil)
    (pss_cons (ps_if (pt_cmpR op_eq (pv 2) pe_int (nomark _)) (pss_one (ps_ret (pe_op op_add_str (pe_slice sl_str (pv 1) po_none (po_some (pv 3))) (pe_slice sl_str (pv 1) (po_some (pe_op op_add (pv 3) pe_int)) po_none)))) pss_nil)
    (pss_cons (ps_if (pt_cmpR op_eq (pv 2) pe_int (nomark _)) (pss_one (ps_ret (pe_slice sl_str (pv 1) po_none (po_some (pv 3))))) pss_nil)
    (pss_one (ps_ret (pe_ifExp (pt_cmpR op_eq (pv 2) pe_int (nomark _)) (pe_op op_add_str (pv 1) (pe_call GK hr (by rfl) mK kK bK .nil pass0 (pa_cons (pv 0) (pa_cons (pe_tup (pa_cons pe_str (pa_cons pe_str (pa_cons pe_str (pa_cons pe_str (pa_cons (pv 1) pa_nil)))))) pa_nil))))
      (pe_op op_add_str (pe_op op_add_str (pe_slice sl_str (pv 1) po_none (po_some (pv 3))) (pv 4)) (pe_slice sl_str (pv 1) (po_some (pe_op op_add (pv 3) pe_int)) po_none))))))))), ?_⟩
  refine ⟨_, rfl, p, _, rfl, hW, by decide, by decide, fun way H1 _ _ b1 w1 => ?_⟩
  refine ⟨_, rfl, _, rfl, z, rfl, small (by omega), _, _, rfl, rfl, p, _, rfl, w1, by omega, by omega, fun at' H2 _ _ b2 w2 => ?_⟩
  refine ⟨_, _, rfl, ?_⟩
  have b12 := b1.trans b2
  have sline : ∀ {k : Nat}, k ≤ 2000 → k ≤ sizeLine := fun h => Nat.le_trans h (by rw [sizeLine_eq]; decide)
  refine ⟨_, rfl, _, rfl, p, _, rfl, w2, by decide, by decide, fun d H3 _ _ b3 w3 => ?_⟩
  have b13 := b12.trans b3
  have cl := fun lo hi => cutS_length z lo hi
  have ac := fun lo hi => asc_cut az lo hi
  refine' joinS (i := 4) (R := fun y H4 => ∃ c : Nat, y = .str ⟨#[c]⟩ ∧ c < 128 ∧ But p H3 H4 ∧ Wl H4 p) (fun go => ?_) ?_
  rotate_left 2
  · refine ⟨rfl, _, rfl, iteB (fun _ => ?_) (fun _ => ?_)⟩
    · refine ⟨rfl, p, SG, rfl, w3, by decide +kernel, by decide +kernel, fun c H4 hc b4 w4 => go _ _ ⟨c, rfl, ?_, b4, w4⟩⟩
      have all : ∀ c ∈ SG.cps.toList, c < 128 := by decide +kernel
      exact all c hc
    · refine ⟨p, _, rfl, w3, by decide +kernel, by decide +kernel, fun c H4 hc b4 w4 => go _ _ ⟨c, rfl, ?_, b4, w4⟩⟩
      revert c
      decide +kernel
  rintro _ H4 ⟨c, rfl, c128, b4, w4⟩
  have bA := b13.trans b4
  have as : Asc (⟨#[c]⟩ : Str) := fun x hx => by
    have : x = c := by simpa using hx
    omega
  have ls : (⟨#[c]⟩ : Str).length = 1 := rfl
  refine ⟨_, rfl, rfl, _, rfl, iteB (fun _ => ?_) (fun _ => ?_)⟩
  · have l1 := cl none (some at')
    have l2 := cl (some at') none
    refine ⟨_, rfl, _, rfl, _, rfl, z, rfl, sline (by omega), _, rfl, _, _, rfl, rfl, sline (by omega), _, rfl, _, rfl, _, rfl, z, rfl, sline (by omega), _, _, rfl, rfl, sline (by rw [app_len]; omega), ?_⟩
    exact q _ H4 (asc_app (asc_app (ac _ _) as) (ac _ _)) (by rw [app_len, app_len]; omega) bA w4
  refine ⟨_, rfl, rfl, _, rfl, iteB (fun _ => ?_) (fun _ => ?_)⟩
  · have l1 := cl none (some at')
    have l2 := cl (some (at' + 1)) none
    refine ⟨_, rfl, _, rfl, _, rfl, z, rfl, sline (by omega), _, rfl, _, rfl, _, _, rfl, rfl, _, rfl, z, rfl, sline (by omega), _, _, rfl, rfl, sline (by omega), ?_⟩
    exact q _ H4 (asc_app (ac _ _) (ac _ _)) (by rw [app_len]; omega) bA w4
  refine ⟨_, rfl, rfl, _, rfl, iteB (fun _ => ?_) (fun _ => ?_)⟩
  · have l1 := cl none (some at')
    refine ⟨_, rfl, _, rfl, _, rfl, z, rfl, sline (by omega), ?_⟩
    exact q _ H4 (ac _ _) (by omega) bA w4
  refine ⟨_, rfl, rfl, _, rfl, iteB (fun _ => ?_) (fun _ => ?_)⟩
  · refine ⟨_, rfl, _, rfl, _, rfl, (by show 5 ≤ sizeLine; decide), fun t nt => ?_⟩
    have s5 := same_new nt (.tup [.str "", .str "?", .str "~", .str "??", .str z])
    have w5 := w4.same s5
    refine ⟨p, t, _, rfl, w5, w5.off (SqT.of upd_same), by show 0 < 5; decide, by show 5 < 1000; decide, fun i v H5 hi b5 w6 => ?_⟩
    obtain ⟨y, rfl, ay, ly⟩ : ∃ y : Str, v = .str y ∧ Asc y ∧ y.length ≤ z.length + 2 := by
      have m := List.mem_of_getElem? hi
      simp only [List.mem_cons, List.mem_nil_iff, or_false] at m
      rcases m with rfl | rfl | rfl | rfl | rfl
      · exact ⟨_, rfl, by unfold Asc; decide +kernel, Nat.le_trans (show _ ≤ 2 by decide +kernel) (Nat.le_add_left ..)⟩
      · exact ⟨_, rfl, by unfold Asc; decide +kernel, Nat.le_trans (show _ ≤ 2 by decide +kernel) (Nat.le_add_left ..)⟩
      · exact ⟨_, rfl, by unfold Asc; decide +kernel, Nat.le_trans (show _ ≤ 2 by decide +kernel) (Nat.le_add_left ..)⟩
      · exact ⟨_, rfl, by unfold Asc; decide +kernel, Nat.le_trans (show _ ≤ 2 by decide +kernel) (Nat.le_add_left ..)⟩
      · exact ⟨_, rfl, az, Nat.le_add_right ..⟩
    refine ⟨_, _, rfl, rfl, sline (by omega), ?_⟩
    exact q _ H5 (asc_app az ay) (by rw [app_len]; omega) (bA.trans ((But.of s5).trans b5)) w6
  · have l1 := cl none (some at')
    have l2 := cl (some (at' + 1)) none
    refine ⟨_, rfl, _, rfl, _, rfl, z, rfl, sline (by omega), _, rfl, _, _, rfl, rfl, sline (by omega), _, rfl, _, rfl, _, _, rfl, rfl, _, rfl, z, rfl, sline (by omega), _, _, rfl, rfl, sline (by rw [app_len]; omega), ?_⟩
    exact q _ H4 (asc_app (asc_app (ac _ _) as) (ac _ _)) (by rw [app_len, app_len]; omega) bA w4
end
end My

set_option maxHeartbeats 2000000
/-! "?" * 8 -/
namespace My
open PySem PySem.Spec PyProof.Rows L2
theorem op_eight {X : Cx} : OpR X (binaryOp .Mult) (fun x y H Q => x = .str (tx [0]) ∧ y = .int 8 ∧ Q (.str (tx (List.replicate 8 0))) H) := by
  rintro pins s σ H x y v u Q I rx ry ⟨rfl, rfl, q⟩
  obtain ⟨t, rfl⟩ := rx
  obtain ⟨t', rfl⟩ := ry
  refine PySem.P.mul_str (by decide) (fun _ _ => by decide +kernel) (fun _ _ => by decide +kernel) ?_
  rw [if_neg (by decide), if_neg (by decide +kernel)]
  exact ⟨by decide +kernel, .str (tx (List.replicate 8 0)), H, I.tok _, ⟨_, rfl⟩, q⟩
end My

set_option maxHeartbeats 16000000
namespace My
open PySem PySem.Spec PyProof.Rows L2 RZ
abbrev sRight : Stmt := top (22 + 21)
theorem scRight : FnScope ["well", "turn", "graph", "text", "lap", "odd", "told"] ["well"] (defScope sRight) := ⟨rfl, rfl, rfl, by decide +kernel, rfl, by decide +kernel, by decide +kernel⟩
theorem pairs_plain : ∀ es : List E2, PyData.hasDictAll (es.map pairD) = false
  | [] => by rw [List.map_nil]; simp [PyData.hasDictAll]
  | p :: es => by rw [List.map_cons]; simp [PyData.hasDictAll, pairs_plain es, pairD, PyData.hasDict]
theorem graph_plain (n : Nat) (es : List E2) : (graphD n es).hasDict = false := by simp [graphD, PyData.hasDict, PyData.hasDictAll, pairs_plain es]
theorem scan_small {L : Nat} : ∀ (cs : List Nat) (a k : Nat), scan L a cs = some k → k ≤ a + cs.length + 1
  | [], a, k, h => by
    have h' : (if 6 * a < L then some (a + 1) else none) = some k := h
    split at h'
    · have := Option.some.inj h'
      rw [List.length_nil]
      omega
    · cases h'
  | c :: cs, a, k, h => by
    have h' : (if goodS L a c = true then scan L (a + 1) cs else some (a + 1)) = some k := h
    split at h'
    · have := scan_small cs (a + 1) k h'
      rw [List.length_cons]
      omega
    · have := Option.some.inj h'
      omega
theorem bad_small {cs : List Nat} {k : Nat} (h : readG cs = .bad k) : k ≤ cs.length := by
  cases cs with
  | nil =>
    have h' : RdG.bad 0 = .bad k := h
    cases h'
    exact Nat.zero_le _
  | cons c cs =>
    have h' : (if 63 ≤ c ∧ c ≤ 72 then (match scan (pairsG (c - 63)).length 0 cs with
      | some k => RdG.bad k
      | none => .told (c - 63) (tellP (pairsG (c - 63)) (bitsC cs))) else .bad 0) = .bad k := h
    split at h'
    · split at h'
      · rename_i k' hk
        cases h'
        have := scan_small cs 0 k hk
        rw [List.length_cons]
        omega
      · cases h'
    · cases h'
      exact Nat.zero_le _
/-- the data that is told -/
theorem told_dd {K : PySem.W.Frag} {H : Hp} {x y : V} {r : RdG} (hx : ToldAt K H x r) (hy : ToldAt K H y r) (hk : ∀ k, r = .bad k → k ≤ 950) : ∃ d, Dd K H x d ∧ Dd K H y d ∧ Fine d := by
  cases r with
  | bad k =>
    obtain ⟨l, rfl, h1⟩ := hx
    obtain ⟨m, rfl, h2⟩ := hy
    refine ⟨.list [.str "wrong", .int (k : Int)], .dat (.lst (SqL.of h1) (.cons (.str _) (.cons (.int _) .nil))) ?_, .dat (.lst (SqL.of h2) (.cons (.str _) (.cons (.int _) .nil))) ?_, bad_fine k (hk k rfl)⟩ <;> simp [PyData.hasDict, PyData.hasDictAll]
  | told n ps =>
    obtain ⟨l, g, es, rfl, h1, g1, gd1, i1⟩ := hx
    obtain ⟨m, g', es', rfl, h2, g2, gd2, i2⟩ := hy
    have e : es' = es := eq_of_up gd2.up gd1.up fun q => (i2 q).trans (i1 q).symm
    subst e
    refine ⟨.list [.str "told", graphD n es'], .dat (.lst (SqL.of h1) (.cons (.str _) (.cons g1.dp .nil))) ?_, .dat (.lst (SqL.of h2) (.cons (.str _) (.cons g2.dp .nil))) ?_, told_fine gd1⟩ <;> simp [PyData.hasDict, PyData.hasDictAll, graph_plain]
theorem ToldAt.same {K : PySem.W.Frag} {H H' : Hp} (s : Same H H') {x : V} : ∀ {r : RdG}, ToldAt K H x r → ToldAt K H' x r
  | .bad _, ⟨l, e, h⟩ => ⟨l, e, s _ _ h⟩
  | .told _ _, ⟨l, g, es, e, h, h1, h2, h3⟩ => ⟨l, g, es, e, s _ _ h, h1.same s, h2, h3⟩
theorem code_len {n : Nat} {es : List E2} (h : n ≤ 9) : (codeL n es).length ≤ 7 := by
  unfold codeL
  rw [List.length_cons, List.length_map, List.length_range]
  unfold groups
  have := bits_few h es
  omega
theorem code_asc {n : Nat} {es : List E2} (h : n ≤ 9) : Asc (tx (codeL n es)) := fun c hc => by
  have hc' : c ∈ (codeL n es).map (63 + ·) := hc
  obtain ⟨k, hk, rfl⟩ := List.mem_map.mp hc'
  unfold codeL at hk
  rcases List.mem_cons.mp hk with rfl | hk
  · omega
  · obtain ⟨i, _, rfl⟩ := List.mem_map.mp hk
    have := chunk_lt (i := i) (pad_le (bits_le n es))
    omega
def spRight : Sp := fun vs H Q _ => ∃ p : Addr, vs = [.ref p] ∧ Wl H p ∧ ∀ H', But p H H' → Q (.bl true) H'
section
variable {P : Program} {w : World} {K : PySem.W.Frag} {mg : Str → Option Value} {base : Heap} {f fGr fCo fSa f6 fT fB fR fK : Addr} {fd dGr dCo dSa d6 dT dB dR dK : FuncData}
theorem ok_right (F : L2.Fun K "_law_right" "_law_right" sRight f fd)
    (GGr : FnOk P w K mg base CX0 4 fGr dGr ["well", "most"] (spGraph K)) (bGr : L2.Binds K dGr ["well", "most"] []) (kGr : PySem.W.keepIn K (.ref fGr) = true) (mGr : mg "_law_graph" = some (.ref fGr))
    (GCo : FnOk P w K mg base CX0 2 fCo dCo ["graph"] (spCode K)) (bCo : L2.Binds K dCo ["graph"] []) (kCo : PySem.W.keepIn K (.ref fCo) = true) (mCo : mg "_law_code" = some (.ref fCo))
    (GSa : FnG P w K mg base CX0 1 fSa dSa ["told", "due"] (spSame K)) (bSa : L2.Binds K dSa ["told", "due"] []) (kSa : PySem.W.keepIn K (.ref fSa) = true) (mSa : mg "_law_same" = some (.ref fSa))
    (G6 : FnOk P w K mg base CX0 6 f6 d6 ["graph"] (spCode K)) (b6 : L2.Binds K d6 ["graph"] []) (b6k : ∀ (s : Shared) (u : Value), BindsTo s d6 ⟨[], [(("graph" : Str), u)]⟩ ([("graph" : Str)].zip [u])) (k6 : PySem.W.keepIn K (.ref f6) = true) (m6 : mg "graph6" = some (.ref f6))
    (GT : FnOk P w K mg base CX0 4 fT dT ["text", "is_named"] (spTold K)) (bT : L2.Binds K dT ["text", "is_named"] []) (kT : PySem.W.keepIn K (.ref fT) = true) (mT : mg "_law_told" = some (.ref fT))
    (GB : FnOk P w K mg base CX0 3 fB dB ["well", "text"] spBent) (bB : L2.Binds K dB ["well", "text"] []) (kB : PySem.W.keepIn K (.ref fB) = true) (mB : mg "_law_bent" = some (.ref fB))
    (GR : FnOk P w K mg base CX0 2 fR dR ["text"] (spRead K)) (bR : L2.Binds K dR ["text"] []) (kR : PySem.W.keepIn K (.ref fR) = true) (mR : mg "_law_read" = some (.ref fR))
    (GK : FnOk P w K mg base CX0 2 fK dK ["well", "some"] (spPick K)) (bK : L2.Binds K dK ["well", "some"] []) (kK : PySem.W.keepIn K (.ref fK) = true) (mK : mg "_law_pick" = some (.ref fK)) (mr : mg "range" = none) :
    FnG P w K mg base CX0 7 f fd ["well"] spRight := by
  refine okG F scRight (fun vs H Q E h => ?_) (fun cdv A outer s H vs Q E gd hr h => ?_)
  · obtain ⟨p, rfl, _⟩ := h
    rfl
  obtain ⟨p, rfl, hW, q⟩ := h
  have gd' : (A.deeper (envOfC "_law_right" (defScope sRight) s.heap.objs.size f cdv)).guards = some [] := gd
  have h1 := hr.mono (show 1 ≤ 6 by decide)
  have h2 := hr.mono (show 2 ≤ 6 by decide)
  have h3 := hr.mono (show 3 ≤ 6 by decide)
  have h4 := hr.mono (show 4 ≤ 6 by decide)
  refine ⟨_, (pss_cons (ps_for PassesOwn.never rfl (pi_range1 rfl mr (pa_cons pe_int pa_nil)) (pg_name (i := 1) scRight.nd rfl (.inl rfl)) (pss_cons (ps_set (i := 2) scRight.nd rfl (.inl rfl) (pe_call GGr h4 (by rfl) mGr kGr bGr .nil pass0 (pa_cons (pv 0) (pa_cons pe_int pa_nil))))
      (pss_cons (ps_set (i := 3) scRight.nd rfl (.inl rfl) (pe_call GCo h2 (by rfl) mCo kCo bCo .nil pass0 (pa_cons (pv 2) pa_nil)))
      (pss_cons (ps_if (pt_not (pt_val (pe_callG GSa gd' h1 (by rfl) mSa kSa bSa pass0 (pa_cons (pe_lst (pa_cons (pe_call G6 hr (by rfl) m6 k6 b6 .nil pass0 (pa_cons (pv 2) pa_nil)) (pa_cons (pe_kw1 (E := fun _ => E0) G6 hr (by rfl) m6 k6 b6k (fun _ => passAt0) (pk_cons (pv 2) pk_nil)) (pa_cons (pe_call GT h4 (by rfl) mT kT bT .nil pass0 (pa_cons (pv 3) (pa_cons pe_bl pa_nil))) pa_nil)))) (pa_cons (pe_lst (pa_cons (pv 3) (pa_cons (pv 3) (pa_cons (pe_lst (pa_cons pe_str (pa_cons (pv 2) pa_nil))) pa_nil)))) pa_nil))))) (pss_one (ps_ret pe_bl)) pss_nil)
      (pss_one (ps_for PassesOwn.never rfl (pi_range1 rfl mr (pa_cons pe_int pa_nil)) (pg_name (i := 4) scRight.nd rfl (.inl rfl)) (pss_cons (ps_set (i := 3) scRight.nd rfl (.inl rfl) (pe_call GB h3 (by rfl) mB kB bB .nil pass0 (pa_cons (pv 0) (pa_cons (pv 3) pa_nil))))
      (pss_one (ps_if (pt_not (pt_val (pe_callG GSa gd' h1 (by rfl) mSa kSa bSa pass0 (pa_cons (pe_call GT h4 (by rfl) mT kT bT .nil pass0 (pa_cons (pv 3) (pa_cons pe_bl pa_nil))) (pa_cons (pe_call GR h2 (by rfl) mR kR bR .nil pass0 (pa_cons (pv 3) pa_nil)) pa_nil))))) (pss_one (ps_ret pe_bl)) pss_nil)))))))))
      (pss_cons (ps_set (i := 5) scRight.nd rfl (.inl rfl) (pe_call GK h2 (by rfl) mK kK bK .nil pass0 (pa_cons (pv 0) (pa_cons (pe_tup (pa_cons pe_non (pa_cons pe_int (pa_cons pe_bl (pa_cons (pe_tup pa_nil) (pa_cons (pe_lst (pa_cons pe_str pa_nil)) (pa_cons pe_dnewK (pa_cons (pe_tup (pa_cons pe_str (pa_cons pe_str pa_nil))) pa_nil)))))))) pa_nil))))
      (pss_cons (ps_set (i := 6) scRight.nd rfl (.inl rfl) (pe_lst (pa_cons (pe_call GT h4 (by rfl) mT kT bT .nil pass0 (pa_cons (pv 5) (pa_cons pe_bl pa_nil))) (pa_cons (pe_call GT h4 (by rfl) mT kT bT .nil pass0 (pa_cons pe_str (pa_cons pe_bl pa_nil))) (pa_cons (pe_call GT h4 (by rfl) mT kT bT .nil pass0 (pa_cons (pe_op op_add_str pe_str (pe_op op_eight pe_str pe_int)) (pa_cons pe_bl pa_nil))) (pa_cons (pe_call GT h4 (by rfl) mT kT bT .nil pass0 (pa_cons pe_str (pa_cons pe_bl pa_nil))) pa_nil))))))
      (pss_one (ps_ret (pe_callG GSa gd' h1 (by rfl) mSa kSa bSa pass0 (pa_cons (pv 6) (pa_cons (pe_lst (pa_cons (pe_lst (pa_cons pe_str (pa_cons pe_non pa_nil))) (pa_cons (pe_lst (pa_cons pe_str (pa_cons pe_int pa_nil))) (pa_cons (pe_lst (pa_cons pe_str (pa_cons pe_int pa_nil))) (pa_cons (pe_lst (pa_cons pe_str (pa_cons (pe_tup (pa_cons pe_int (pa_cons (pe_tup pa_nil) pa_nil))) pa_nil))) pa_nil))))) pa_nil)))))))), ?_⟩
  have two : (2 : Nat) ≤ sizeLine := small (by decide)
  have three : (3 : Nat) ≤ sizeLine := small (by decide)
  refine ⟨4, rfl, by decide, by decide, for_range (lo := 0) (n := 4) (fun i σ H' => ∃ (s1 s2 s3 s4 : Option V), σ = [some (.ref p), s1, s2, s3, s4, none, none] ∧ But p H H' ∧ Wl H' p) ⟨none, none, none, none, rfl, But.refl _ _, hW⟩ ?_ ?_⟩
  · rintro i σ H1 li ⟨s1, s2, s3, s4, rfl, b1, w1⟩
    refine ⟨_, rfl, p, 9, rfl, w1, by decide, fun x n es H2 _ b2 w2 hx gx => ?_⟩
    refine ⟨_, rfl, x, n, es, rfl, hx, gx, fun H3 t3 => ?_⟩
    have n9 := gx.n9
    have az := code_asc (es := es) n9
    have lz : (tx (codeL n es)).length ≤ 7 := by rw [tx_len]; exact code_len n9
    refine ⟨_, rfl, x, n, es, rfl, hx.same t3, gx, fun H4 t4 => ⟨_, rfl, x, n, es, rfl, hx.same (t3.trans t4), gx, fun H5 t5 => ⟨_, rfl, .inl ⟨_, true, rfl, az, by omega, fun y H6 t6 hy => ⟨three, fun l nl => ?_⟩⟩⟩⟩⟩
    have rc : readG ((tx (codeL n es)).cps.toList) = .told n ((pairsG n).filter fun p => decide (p ∈ es)) := read_code gx
    rw [rc] at hy
    obtain ⟨lt, g, es', rfl, hlt, hg, gg, ii⟩ := hy
    have ee : es' = es := eq_of_up gg.up gx.up fun q => (ii q).trans (by
      rw [List.mem_filter, mem_pairsG]
      refine ⟨fun h => by simpa using h.2, fun h => ⟨gx.lt q h, by simpa using h⟩⟩)
    subst ee
    have tl := same_new nl (.lst [.str (tx (codeL n es')), .str (tx (codeL n es')), .ref lt])
    refine ⟨_, rfl, _, rfl, _, rfl, two, fun l2 nl2 => ⟨three, fun l3 nl3 => ?_⟩⟩
    have t7 := same_new nl2 (.lst [.str "told", x])
    have t8 := same_new nl3 (.lst [.str (tx (codeL n es')), .str (tx (codeL n es')), .ref l2])
    have fine : Fine (.list [.str (tx (codeL n es')), .str (tx (codeL n es')), .list [.str "told", graphD n es']]) := three_fine gx az (Nat.le_trans lz (by decide))
    have pl : (PyData.list [.str (tx (codeL n es')), .str (tx (codeL n es')), .list [.str "told", graphD n es']]).hasDict = false := by simp [PyData.hasDict, PyData.hasDictAll, graph_plain]
    have tAll := t3.trans (t4.trans (t5.trans (t6.trans (tl.trans (t7.trans t8)))))
    have tz := tl.trans (t7.trans t8)
    have q1 := (t7.trans t8) _ _ (upd_same (H := H6) (a := l) (o := .lst [.str (tx (codeL n es')), .str (tx (codeL n es')), .ref lt]))
    have q2 := t8 _ _ (upd_same (H := upd H6 l (.lst [.str (tx (codeL n es')), .str (tx (codeL n es')), .ref lt])) (a := l2) (o := .lst [.str "told", x]))
    have q3 := upd_same (H := upd (upd H6 l (.lst [.str (tx (codeL n es')), .str (tx (codeL n es')), .ref lt])) l2 (.lst [.str "told", x])) (a := l3) (o := .lst [.str (tx (codeL n es')), .str (tx (codeL n es')), .ref l2])
    have q4 := tz _ _ hlt
    have q5 := hg.same tz
    have q6 := hx.same tAll
    generalize upd (upd (upd H6 l (.lst [.str (tx (codeL n es')), .str (tx (codeL n es')), .ref lt])) l2 (.lst [.str "told", x])) l3 (.lst [.str (tx (codeL n es')), .str (tx (codeL n es')), .ref l2]) = HZ at tAll tz q1 q2 q3 q4 q5 q6 ⊢
    generalize tx (codeL n es') = T at fine pl q1 q3 az lz ⊢
    have dp1 : Dp K HZ (.ref lt) (.list [.str "told", graphD n es']) := .lst (SqL.of q4) (.cons (.str _) (.cons q5.dp .nil))
    have dp2 : Dp K HZ (.ref l2) (.list [.str "told", graphD n es']) := .lst (SqL.of q2) (.cons (.str _) (.cons q6.dp .nil))
    have dd1 : Dd K HZ (.ref l) (.list [.str T, .str T, .list [.str "told", graphD n es']]) := .dat (.lst (SqL.of q1) (.cons (.str _) (.cons (.str _) (.cons dp1 .nil)))) pl
    have dd2 : Dd K HZ (.ref l3) (.list [.str T, .str T, .list [.str "told", graphD n es']]) := .dat (.lst (SqL.of q3) (.cons (.str _) (.cons (.str _) (.cons dp2 .nil)))) pl
    have yes : ∀ d : PyData, decide (V.str d.shown = V.str d.shown) = true := fun d => decide_eq_true rfl
    generalize (PyData.list [.str T, .str T, .list [.str "told", graphD n es']]) = dat at fine dd1 dd2
    refine ⟨.ref l, .ref l3, dat, dat, rfl, dd1, dd2, fine, fine, _, rfl, ?_⟩
    refine iteB (fun c => ?_) (fun _ => ?_)
    · exfalso
      have c' : (!decide (V.str dat.shown = V.str dat.shown)) = true := c
      rw [yes] at c'
      cases c'
    have bA : But p H _ := b1.trans (b2.trans (But.of tAll))
    have wA := w2.same tAll
    have lz7 : T.length + 2 ≤ 9 * 2 ^ 0 := by rw [Nat.pow_zero]; omega
    refine ⟨4, rfl, by decide, by decide, for_range (lo := 0) (n := 4) (fun j σ H' => ∃ (z : Str) (s1 s2 s4 : Option V), σ = [some (.ref p), s1, s2, some (.str z), s4, none, none] ∧ But p H H' ∧ Wl H' p ∧ Asc z ∧ z.length + 2 ≤ 9 * 2 ^ j) ⟨T, _, _, _, rfl, bA, wA, az, lz7⟩ ?_ ?_⟩
    · rintro j σ H7 lj ⟨z, s1, s2, s4, rfl, b7, w7, az7, lz7⟩
      have p2 : 2 ^ j ≤ 8 := by
        have : 2 ^ j ≤ 2 ^ 3 := Nat.pow_le_pow_right (by decide) (by omega)
        omega
      have z400 : z.length ≤ 400 := by omega
      refine ⟨_, rfl, _, rfl, p, z, rfl, w7, az7, z400, fun y H8 ay ly b8 w8 => ?_⟩
      have y900 : y.length ≤ 900 := by omega
      refine ⟨_, rfl, .inl ⟨y, false, rfl, ay, y900, fun x2 H9 t9 hx2 => ?_⟩⟩
      refine ⟨_, rfl, y, rfl, ay, y900, fun x3 H10 t10 hx3 => ?_⟩
      have yl : y.length = y.cps.toList.length := (Array.length_toList ..).symm
      have hk : ∀ k, readG y.cps.toList = .bad k → k ≤ 950 := fun k hk => by
        have := bad_small hk
        omega
      have next : y.length + 2 ≤ 9 * 2 ^ (j + 1) := by
        rw [Nat.pow_succ]
        omega
      obtain ⟨d, d1, d2, df⟩ := told_dd (hx2.same t10) hx3 hk
      refine ⟨x2, x3, d, d, rfl, d1, d2, df, df, _, rfl, ?_⟩
      refine iteB (fun c => ?_) (fun _ => ?_)
      · exfalso
        have c' : (!decide (V.str d.shown = V.str d.shown)) = true := c
        rw [yes] at c'
        cases c'
      · exact ⟨y, _, _, _, rfl, b7.trans (b8.trans (But.of (t9.trans t10))), w8.same (t9.trans t10), ay, next⟩
    · rintro σ H7 ⟨z, s1, s2, s4, rfl, b7, w7, _, _⟩
      exact ⟨_, _, _, _, rfl, b7, w7⟩
  rintro σ H1 ⟨s1, s2, s3, s4, rfl, b1, w1⟩
  refine ⟨_, rfl, (by show 0 ≤ sizeLine; decide), fun t1 n1 => ⟨small (by decide), fun t2 n2 => fun t3 n3 => ⟨two, fun t4 n4 => ⟨(by show 7 ≤ sizeLine; exact small (by decide)), fun t5 n5 => ?_⟩⟩⟩⟩
  have g1 := same_new n1 (.tup [])
  have g2 := same_new n2 (.lst [.str "?"])
  have g3 := same_new n3 (.dK [])
  have g4 := same_new n4 (.tup [.str "D", .str "lW"])
  have g5 := same_new n5 (.tup [.non, .int 0, .bl true, .ref t1, .ref t2, .ref t3, .ref t4])
  have gA := g1.trans (g2.trans (g3.trans (g4.trans g5)))
  have wA := w1.same gA
  have f1 := (g2.trans (g3.trans (g4.trans g5))) _ _ (upd_same (H := H1) (a := t1) (o := .tup []))
  have f2 := (g3.trans (g4.trans g5)) _ _ (upd_same (H := upd H1 t1 (.tup [])) (a := t2) (o := .lst [.str "?"]))
  have f3 := (g4.trans g5) _ _ (upd_same (H := upd (upd H1 t1 (.tup [])) t2 (.lst [.str "?"])) (a := t3) (o := .dK []))
  have f4 := g5 _ _ (upd_same (H := upd (upd (upd H1 t1 (.tup [])) t2 (.lst [.str "?"])) t3 (.dK [])) (a := t4) (o := .tup [.str "D", .str "lW"]))
  have f5 := upd_same (H := upd (upd (upd (upd H1 t1 (.tup [])) t2 (.lst [.str "?"])) t3 (.dK [])) t4 (.tup [.str "D", .str "lW"])) (a := t5) (o := .tup [.non, .int 0, .bl true, .ref t1, .ref t2, .ref t3, .ref t4])
  have m2 : t2 ≠ p := (w1.same g1).ne n2
  have m3 : t3 ≠ p := (w1.same (g1.trans g2)).ne n3
  generalize upd (upd (upd (upd (upd H1 t1 (.tup [])) t2 (.lst [.str "?"])) t3 (.dK [])) t4 (.tup [.str "D", .str "lW"])) t5 (.tup [.non, .int 0, .bl true, .ref t1, .ref t2, .ref t3, .ref t4]) = H5 at gA wA f1 f2 f3 f4 f5 ⊢
  refine ⟨p, t5, _, rfl, wA, wA.off (SqT.of f5), by show 0 < 7; decide, by show 7 < 1000; decide, fun i v H6 hi b6 w6 => ?_⟩
  have ts := TS.but b6 wA
  obtain ⟨T', ty, nt⟩ : ∃ T', TyB K H6 v T' ∧ T' ≠ "str" := by
    have m := List.mem_of_getElem? hi
    simp only [List.mem_cons, List.mem_nil_iff, or_false] at m
    rcases m with rfl | rfl | rfl | rfl | rfl | rfl | rfl
    · exact ⟨_, .non, by decide⟩
    · exact ⟨_, .int _, by decide⟩
    · exact ⟨_, .bl _, by decide⟩
    · exact ⟨_, .tup (ts.tup (SqT.of f1)), by decide⟩
    · exact ⟨_, .lst (SqL.of (b6 _ _ m2 f2)), by decide⟩
    · exact ⟨_, .dK (b6 _ _ m3 f3), by decide⟩
    · exact ⟨_, .tup (ts.tup (SqT.of f4)), by decide⟩
  have r1 : readG ((("" : String) : Str)).cps.toList = .bad 0 := by
    have e : ((("" : String) : Str)).cps.toList = [] := by decide +kernel
    rw [e]
    rfl
  have r2 : readG ((("I" : String) : Str) ++ tx (List.replicate 8 0)).cps.toList = .bad 0 := by
    have e : ((("I" : String) : Str) ++ tx (List.replicate 8 0)).cps.toList = 73 :: List.replicate 8 63 := by decide +kernel
    rw [e]
    rfl
  have r3 : readG ((("?" : String) : Str)).cps.toList = .told 0 [] := by
    have e : ((("?" : String) : Str)).cps.toList = [63] := by decide +kernel
    rw [e]
    rfl
  have a1 : Asc ((("" : String) : Str)) := by unfold Asc; decide +kernel
  have a2 : Asc ((("I" : String) : Str) ++ tx (List.replicate 8 0)) := by unfold Asc; decide +kernel
  have a3 : Asc ((("?" : String) : Str)) := by unfold Asc; decide +kernel
  have e63 : ((("?" : String) : Str)) = tx [0] := by decide +kernel
  refine ⟨_, rfl, .inr ⟨v, T', false, rfl, ty, nt, fun l1 H7 h7 hl1 => ?_⟩⟩
  refine .inl ⟨(("" : String) : Str), false, rfl, a1, by decide +kernel, fun x1 H8 h8 hx1 => ?_⟩
  refine ⟨congrArg V.str e63, rfl, _, _, rfl, rfl, small (by decide +kernel), ?_⟩
  refine .inl ⟨(("I" : String) : Str) ++ tx (List.replicate 8 0), false, rfl, a2, by decide +kernel, fun x2 H9 h9 hx2 => ?_⟩
  refine .inl ⟨(("?" : String) : Str), false, rfl, a3, by decide +kernel, fun x3 H10 h10 hx3 => ?_⟩
  rw [r1] at hx1
  rw [r2] at hx2
  rw [r3] at hx3
  obtain ⟨l2, rfl, hl2⟩ := hx1
  obtain ⟨l3, rfl, hl3⟩ := hx2
  obtain ⟨l4, g, es, rfl, hl4, hg, gg, ii⟩ := hx3
  have es0 : es = [] := by
    cases es with
    | nil => rfl
    | cons e es => exact absurd ((ii e).mp (List.mem_cons_self ..)) (fun z => nomatch z)
  subst es0
  have u1 := (h9.trans h10) _ _ hl2
  have u2 := h10 _ _ hl3
  have u3 := hl4
  have b10 : But p H H10 := b1.trans ((But.of gA).trans (b6.trans (But.of (h7.trans (h8.trans (h9.trans h10))))))
  refine ⟨(by show 4 ≤ sizeLine; exact small (by decide)), fun L nL => ?_⟩
  have k0 := same_new nL (.lst [.ref l1, .ref l2, .ref l3, .ref l4])
  have v0 := upd_same (H := H10) (a := L) (o := .lst [.ref l1, .ref l2, .ref l3, .ref l4])
  generalize upd H10 L (.lst [.ref l1, .ref l2, .ref l3, .ref l4]) = HA at k0 v0 ⊢
  refine ⟨_, rfl, two, fun c1 n1 => ⟨two, fun c2 n2 => ⟨two, fun c3 n3 => ⟨(by show 0 ≤ sizeLine; decide), fun c4 n4 => ⟨two, fun c5 n5 => ⟨two, fun c6 n6 => ⟨(by show 4 ≤ sizeLine; exact small (by decide)), fun c7 n7 => ?_⟩⟩⟩⟩⟩⟩⟩
  have k1 := same_new n1 (.lst [.str "wrong", .non])
  have k2 := same_new n2 (.lst [.str "wrong", .int 0])
  have k3 := same_new n3 (.lst [.str "wrong", .int 0])
  have k4 := same_new n4 (.tup [])
  have k5 := same_new n5 (.tup [.int 0, .ref c4])
  have k6 := same_new n6 (.lst [.str "told", .ref c5])
  have k7 := same_new n7 (.lst [.ref c1, .ref c2, .ref c3, .ref c6])
  have v1 := (k2.trans (k3.trans (k4.trans (k5.trans (k6.trans k7))))) c1 _ upd_same
  have v2 := (k3.trans (k4.trans (k5.trans (k6.trans k7)))) c2 _ upd_same
  have v3 := (k4.trans (k5.trans (k6.trans k7))) c3 _ upd_same
  have v4 := (k5.trans (k6.trans k7)) c4 _ upd_same
  have v5 := (k6.trans k7) c5 _ upd_same
  have v6 := k7 c6 _ upd_same
  have kZ := k1.trans (k2.trans (k3.trans (k4.trans (k5.trans (k6.trans k7)))))
  have v7 := upd_same (H := upd (upd (upd (upd (upd (upd HA c1 (.lst [.str "wrong", .non])) c2 (.lst [.str "wrong", .int 0])) c3 (.lst [.str "wrong", .int 0])) c4 (.tup [])) c5 (.tup [.int 0, .ref c4])) c6 (.lst [.str "told", .ref c5])) (a := c7) (o := .lst [.ref c1, .ref c2, .ref c3, .ref c6])
  generalize upd (upd (upd (upd (upd (upd (upd HA c1 (.lst [.str "wrong", .non])) c2 (.lst [.str "wrong", .int 0])) c3 (.lst [.str "wrong", .int 0])) c4 (.tup [])) c5 (.tup [.int 0, .ref c4])) c6 (.lst [.str "told", .ref c5])) c7 (.lst [.ref c1, .ref c2, .ref c3, .ref c6]) = HZ at kZ v1 v2 v3 v4 v5 v6 v7 ⊢
  have kB := k0.trans kZ
  have dw : ∀ (l : Addr), HZ l = some (.lst [.str "wrong", .int 0]) → Dp K HZ (.ref l) (.list [.str "wrong", .int 0]) := fun l h => .lst (SqL.of h) (.cons (.str _) (.cons (.int _) .nil))
  have dn : ∀ (l : Addr), HZ l = some (.lst [.str "wrong", .non]) → Dp K HZ (.ref l) (.list [.str "wrong", .none]) := fun l h => .lst (SqL.of h) (.cons (.str _) (.cons .non .nil))
  have dg : Dp K HZ (.ref c5) (graphD 0 []) := .tup (SqT.of v5) (.cons (.int _) (.cons (.tup (SqT.of v4) .nil) .nil))
  have dt : ∀ (l : Addr) (x : V), HZ l = some (.lst [.str "told", x]) → Dp K HZ x (graphD 0 []) → Dp K HZ (.ref l) (.list [.str "told", graphD 0 []]) := fun l x h d => .lst (SqL.of h) (.cons (.str _) (.cons d .nil))
  have pl : (PyData.list [.list [.str "wrong", .none], .list [.str "wrong", .int 0], .list [.str "wrong", .int 0], .list [.str "told", graphD 0 []]]).hasDict = false := by decide +kernel
  have fine : Fine (.list [.list [.str "wrong", .none], .list [.str "wrong", .int 0], .list [.str "wrong", .int 0], .list [.str "told", graphD 0 []]]) := by decide +kernel
  have hg0 := (hg.same kB).dp
  have dd1 : Dd K HZ (.ref L) (.list [.list [.str "wrong", .none], .list [.str "wrong", .int 0], .list [.str "wrong", .int 0], .list [.str "told", graphD 0 []]]) :=
    .dat (.lst (SqL.of (kZ _ _ v0)) (.cons (dn l1 ((h8.trans (h9.trans (h10.trans kB))) _ _ hl1)) (.cons (dw l2 (kB _ _ u1)) (.cons (dw l3 (kB _ _ u2)) (.cons (dt l4 g (kB _ _ u3) hg0) .nil))))) pl
  have dd2 : Dd K HZ (.ref c7) (.list [.list [.str "wrong", .none], .list [.str "wrong", .int 0], .list [.str "wrong", .int 0], .list [.str "told", graphD 0 []]]) :=
    .dat (.lst (SqL.of v7) (.cons (dn c1 v1) (.cons (dw c2 v2) (.cons (dw c3 v3) (.cons (dt c6 _ v6 dg) .nil))))) pl
  generalize (PyData.list [.list [.str "wrong", .none], .list [.str "wrong", .int 0], .list [.str "wrong", .int 0], .list [.str "told", graphD 0 []]]) = dat at fine dd1 dd2
  refine ⟨.ref L, .ref c7, dat, dat, rfl, dd1, dd2, fine, fine, ?_⟩
  show Q (.bl (decide (V.str dat.shown = V.str dat.shown))) HZ
  rw [decide_eq_true rfl]
  exact q HZ (b10.trans (But.of kB))
end
end My

set_option maxHeartbeats 4000000
namespace My
open PySem PySem.Spec PyProof.Rows L2
abbrev sLaw : Stmt := top 44
theorem scLaw : FnScope ["script", "turn"] ["script"] (defScope sLaw) := ⟨rfl, rfl, rfl, by decide +kernel, rfl, by decide +kernel, by decide +kernel⟩
def spLaw (K : PySem.W.Frag) : Sp := fun vs H Q _ => ∃ (a : Addr) (ns : List Int), vs = [.ref a] ∧ SqL K H a (ns.map V.int) ∧ ns.length ≤ 63 ∧ ∀ H', Q (.bl true) H'
section
variable {P : Program} {w : World} {K : PySem.W.Frag} {mg : Str → Option Value} {base : Heap} {f fW fR : Addr} {fd dW dR : FuncData} {n : Nat}
theorem ok_law (F : L2.Fun K "law" "law" sLaw f fd) (GW : FnOk P w K mg base CX0 1 fW dW ["script", "turn"] (spWell K)) (bW : L2.Binds K dW ["script", "turn"] []) (kW : PySem.W.keepIn K (.ref fW) = true) (mW : mg "_law_well" = some (.ref fW))
    (GR : FnG P w K mg base CX0 (n + 1) fR dR ["well"] spRight) (bR : L2.Binds K dR ["well"] []) (kR : PySem.W.keepIn K (.ref fR) = true) (mR : mg "_law_right" = some (.ref fR))
    (mr : mg "range" = none) (ml : mg "len" = none) (ma : mg "all" = none) (mx : mg "max" = none) (mn : mg "min" = none) : FnG P w K mg base CX0 (n + 2) f fd ["script"] (spLaw K) := by
  refine okG F scLaw (fun vs H Q E h => ?_) (fun cdv A outer s H vs Q E gd hr h => ?_)
  · obtain ⟨a, ns, rfl, _⟩ := h
    rfl
  obtain ⟨a, ns, rfl, hS, h63, q⟩ := h
  have gd' : (A.deeper (envOfC "law" (defScope sLaw) s.heap.objs.size f cdv)).guards = some [] := gd
  refine ⟨_, pss_one (ps_ret (pe_callB (cr_all rfl) (by rfl) ma (by decide +kernel) (pa_cons (pe_lc (own := [("turn", 1)]) (g := gName 1) (tt := tYes) rfl scLaw.nd
      (pi_range1 rfl mr (pa_cons (pe_callB (call_max2 rfl) (by rfl) mx (by decide +kernel) (pa_cons pe_int (pa_cons (pe_callB (call_min2 rfl) (by rfl) mn (by decide +kernel) (pa_cons (pe_callB call_len_seq (by rfl) ml PySem.boot_len (pa_cons (pv 0) pa_nil)) (pa_cons pe_int pa_nil))) pa_nil))) pa_nil))
      (blkOk_by (N := ["script", "turn"]) (sc := defScope sLaw) (by decide +kernel)) (fun _ _ _ _ _ => pg_name (i := 1) scLaw.nd rfl (Or.inl rfl)) (fun _ _ _ _ _ => pts_nil)
      (fun _ _ _ _ _ => pe_callG GR gd' hr (by rfl) mR kR bR pass0 (pa_cons (pe_call GW (hr.mono (Nat.le_add_left 1 n)) (by rfl) mW kW bW .nil pass0 (pa_cons (pv 0) (pa_cons (pv 1) pa_nil))) pa_nil))) pa_nil))), ?_⟩
  have hl : (ns.map V.int).length = ns.length := List.length_map _
  refine ⟨_, rfl, a, _, rfl, .inl hS, _, _, rfl, _, _, rfl, ?_⟩
  rw [hl]
  obtain ⟨j, hj, j0, j3⟩ : ∃ j : Int, (if (if (3 : Int) < ((ns.length : Nat) : Int) then (3 : Int) else ((ns.length : Nat) : Int)) > 2 then (if (3 : Int) < ((ns.length : Nat) : Int) then (3 : Int) else ((ns.length : Nat) : Int)) else 2) = j ∧ 0 ≤ j ∧ j ≤ 3 := by
    refine ⟨_, rfl, ?_, ?_⟩
    · split <;> (try split) <;> omega
    · split <;> (try split) <;> omega
  rw [hj]
  refine ⟨j, rfl, by omega, by omega, fun D nD => lc_range (lo := 0) (n := j.toNat) (fun k H' => Same H H' ∧ H' D = some (.lst ((List.replicate k true).map V.bl))) ⟨same_new nD _, upd_same⟩ ?_ ?_⟩
  · rintro k H1 lk ⟨s1, hD⟩
    rw [Int.zero_add]
    refine ⟨rfl, ?_⟩
    refine ⟨_, rfl, _, rfl, a, ns, k, rfl, L2.Same.seq s1 hS, h63, by omega, fun H2 p s2 np wl => ⟨p, rfl, wl, fun H3 bt => ?_⟩⟩
    have s3 : Same H1 H3 := fun b o e => bt b o (ne_of_none e np) (s2 b o e)
    refine ⟨_, s3 _ _ hD, ?_, same_put (s1.trans s3) nD, ?_⟩
    · rw [List.length_map, List.length_replicate]
      exact small1000 (by omega)
    · rw [upd_same, List.replicate_succ', List.map_append]
      rfl
  · rintro H1 ⟨s1, hD⟩
    refine ⟨D, List.replicate j.toNat true, rfl, SqL.of hD, ?_⟩
    have e : (List.replicate j.toNat true).all id = true := by simp
    rw [e]
    exact q H1
end

/-! ### facts of the written part, by looking -/
def oexB (K : PySem.W.Frag) (C : Addr) : Bool := match K.lookup C with
  | some ⟨.type "type", _, .cls cd, sl⟩ => (match cd.mro, sl.toList with
    | .ref D :: bm, [_, _, _, _, some (.builtin n), _] => decide (D = C) && (decide (n = "ValueError.__new__") && (!cd.hasDel && (cd.hasDict && PySem.HandSPX.refsVE bm)))
    | _, _ => false)
  | _ => false
theorem oexB_ok {K : PySem.W.Frag} {C : Addr} (h : oexB K C = true) : ∃ nm q N bs bm sn sub ab col dd k0 k1 k2 k3 k5, K.lookup C = some (excClassObj nm q C N bs bm true sn sub ab col dd k0 k1 k2 k3 k5 "ValueError.__new__") ∧ PySem.HandSPX.refsVE bm = true := by
  unfold oexB at h
  split at h
  · rename_i dd cd sl ho
    split at h
    · rename_i D bm k0 k1 k2 k3 n k5 hm hs
      simp only [Bool.and_eq_true, decide_eq_true_eq, Bool.not_eq_true'] at h
      obtain ⟨rfl, rfl, hdel, hdict, hv⟩ := h
      obtain ⟨nm, bs, mro, ns, qn, hd, sn, sub, ab, col, del⟩ := cd
      dsimp only at hm hdel hdict
      subst hm hdel hdict
      obtain ⟨ls⟩ := sl
      simp only at hs
      subst hs
      exact ⟨nm, qn, ns, bs, bm, sn, sub, ab, col, dd, k0, k1, k2, k3, k5, ho, hv⟩
    · cases h
  · cases h
def xisB (K : PySem.W.Frag) (C : Addr) : Bool := (PySem.W.clsIn K C).isSome && (xfB K C && (decide (PySem.W.findIn K (.ref C) "__class__" = some (some (.builtin "object.__class__"))) && decide (PySem.W.mroIn K C (.type "object") = some true)))
def descB (K : PySem.W.Frag) : Bool := decide (PySem.W.specialIn K (.builtin "object.__class__") "__get__" = some (some (.builtin "getset_descriptor.__get__"))) && decide (PySem.W.takesIn K (.builtin "object.__class__") = some true)
theorem xisB_ok {K : PySem.W.Frag} {C : Addr} (d : descB K = true) (h : xisB K C = true) : XIs K C := by
  unfold xisB at h
  unfold descB at d
  simp only [Bool.and_eq_true, decide_eq_true_eq] at h d
  obtain ⟨h1, h2, h3, h4⟩ := h
  exact ⟨h1, xfB_ok h2, h3, d.1, d.2, h4⟩
def iniB (K : PySem.W.Frag) (C fI : Addr) (fld : Str) : Bool := oexB K C && (decide (PySem.W.findIn K (.ref C) "__setattr__" = some (some (.builtin "object.__setattr__"))) && (decide (PySem.W.subIn K (.ref C) (.type "BaseException") = some true) &&
  (decide (PySem.W.typeIn K (.ref C) = some (.type "type")) && (PySem.W.keepIn K (.ref C) && (decide (PySem.W.typeIn K (.ref fI) = some (.type "function")) && (xfB K C && decide (PySem.W.findIn K (.ref C) fld = some none)))))))
theorem iniB_ok {K : PySem.W.Frag} {C fI : Addr} {fld : Str} (i : PySem.W.findIn K (.ref C) "__init__" = some (some (.ref fI))) (h : iniB K C fI fld = true) : XCls K C fI fld := by
  unfold iniB at h
  simp only [Bool.and_eq_true, decide_eq_true_eq] at h
  obtain ⟨h1, h2, h3, h4, h5, h6, h7, h8⟩ := h
  exact ⟨⟨oexB_ok h1, h2, h3, h4, h5⟩, i, h6, xfB_ok h7, h8⟩

set_option maxHeartbeats 16000000 in
theorem all_mk {l : PySem.W.OpenLaw} {w : World} {K : PySem.W.Frag} {h : Heap} {mg : Str → Option Value} {fa C I G f_is_whole f_is_whole_from f_is_tuple_of_two f_is_ascending f_is_graph f_is_vertex_pair f_check_graph f_graph6 f_from_graph6 f__can_tell f__signs_for f__pairs_by_greater f__law_well f__law_draw f__law_pick f__law_same f__law_of_pairs f__law_turned f__law_round f__law_called f__law_order f__law_random f__law_sides f__law_beside f__law_folded f__law_grown f__law_graph f__law_signs f__law_bits f__law_code f__law_read f__law_bent f__law_told f__law_right f_law : Addr} {tkM tkB tkS : Tok} {sg : Str} (X : K.In h) (GN : h.Ns mainGlobals mg) (hfa : mg "law" = some (.ref fa))
    (aC : PySem.W.nsIn K mainGlobals "InvalidSign" = some (some (.ref C)))
    (aG : PySem.W.nsIn K mainGlobals "GraphError" = some (some (.ref G)))
    {o0 k0 e0 m0 d0 t0 : Value} {D0 N0 : Option Addr} {S0 : Array (Option Value)}
    (i0 : PySem.W.findIn K (.ref C) "__init__" = some (some (.ref I)))
    (l0 : K.lookup I = some ⟨o0, D0, .func (PySem.W.fnOf "__init__" "InvalidSign.__init__" (defArgs (inClass (top 3) 0)) (defBody (inClass (top 3) 0)) (defScope (inClass (top 3) 0)) .none k0 e0 m0 N0 d0 t0), S0⟩)
    (c0 : PySem.W.codeIn K d0 "InvalidSign.__init__" = true)
    (q0 : PySem.W.keepIn K (.ref I) = true)
    {fo_is_whole fk_is_whole fe_is_whole fm_is_whole fc_is_whole ft_is_whole : Value} {fD_is_whole fN_is_whole : Option Addr} {fS_is_whole : Array (Option Value)}
    (fa_is_whole : PySem.W.nsIn K mainGlobals "is_whole" = some (some (.ref f_is_whole)))
    (fl_is_whole : K.lookup f_is_whole = some ⟨fo_is_whole, fD_is_whole, .func (PySem.W.fnOf "is_whole" "is_whole" (defArgs (top 6)) (defBody (top 6)) (defScope (top 6)) .none fk_is_whole fe_is_whole fm_is_whole fN_is_whole fc_is_whole ft_is_whole), fS_is_whole⟩)
    (fcc_is_whole : PySem.W.codeIn K fc_is_whole "is_whole" = true)
    (fq_is_whole : PySem.W.keepIn K (.ref f_is_whole) = true)
    {fo_is_whole_from fk_is_whole_from fe_is_whole_from fm_is_whole_from fc_is_whole_from ft_is_whole_from : Value} {fD_is_whole_from fN_is_whole_from : Option Addr} {fS_is_whole_from : Array (Option Value)}
    (fa_is_whole_from : PySem.W.nsIn K mainGlobals "is_whole_from" = some (some (.ref f_is_whole_from)))
    (fl_is_whole_from : K.lookup f_is_whole_from = some ⟨fo_is_whole_from, fD_is_whole_from, .func (PySem.W.fnOf "is_whole_from" "is_whole_from" (defArgs (top 7)) (defBody (top 7)) (defScope (top 7)) .none fk_is_whole_from fe_is_whole_from fm_is_whole_from fN_is_whole_from fc_is_whole_from ft_is_whole_from), fS_is_whole_from⟩)
    (fcc_is_whole_from : PySem.W.codeIn K fc_is_whole_from "is_whole_from" = true)
    (fq_is_whole_from : PySem.W.keepIn K (.ref f_is_whole_from) = true)
    {fo_is_tuple_of_two fk_is_tuple_of_two fe_is_tuple_of_two fm_is_tuple_of_two fc_is_tuple_of_two ft_is_tuple_of_two : Value} {fD_is_tuple_of_two fN_is_tuple_of_two : Option Addr} {fS_is_tuple_of_two : Array (Option Value)}
    (fa_is_tuple_of_two : PySem.W.nsIn K mainGlobals "is_tuple_of_two" = some (some (.ref f_is_tuple_of_two)))
    (fl_is_tuple_of_two : K.lookup f_is_tuple_of_two = some ⟨fo_is_tuple_of_two, fD_is_tuple_of_two, .func (PySem.W.fnOf "is_tuple_of_two" "is_tuple_of_two" (defArgs (top 8)) (defBody (top 8)) (defScope (top 8)) .none fk_is_tuple_of_two fe_is_tuple_of_two fm_is_tuple_of_two fN_is_tuple_of_two fc_is_tuple_of_two ft_is_tuple_of_two), fS_is_tuple_of_two⟩)
    (fcc_is_tuple_of_two : PySem.W.codeIn K fc_is_tuple_of_two "is_tuple_of_two" = true)
    (fq_is_tuple_of_two : PySem.W.keepIn K (.ref f_is_tuple_of_two) = true)
    {fo_is_ascending fk_is_ascending fe_is_ascending fm_is_ascending fc_is_ascending ft_is_ascending : Value} {fD_is_ascending fN_is_ascending : Option Addr} {fS_is_ascending : Array (Option Value)}
    (fa_is_ascending : PySem.W.nsIn K mainGlobals "is_ascending" = some (some (.ref f_is_ascending)))
    (fl_is_ascending : K.lookup f_is_ascending = some ⟨fo_is_ascending, fD_is_ascending, .func (PySem.W.fnOf "is_ascending" "is_ascending" (defArgs (top 9)) (defBody (top 9)) (defScope (top 9)) .none fk_is_ascending fe_is_ascending fm_is_ascending fN_is_ascending fc_is_ascending ft_is_ascending), fS_is_ascending⟩)
    (fcc_is_ascending : PySem.W.codeIn K fc_is_ascending "is_ascending" = true)
    (fq_is_ascending : PySem.W.keepIn K (.ref f_is_ascending) = true)
    {fo_is_graph fk_is_graph fe_is_graph fm_is_graph fc_is_graph ft_is_graph : Value} {fD_is_graph fN_is_graph : Option Addr} {fS_is_graph : Array (Option Value)}
    (fa_is_graph : PySem.W.nsIn K mainGlobals "is_graph" = some (some (.ref f_is_graph)))
    (fl_is_graph : K.lookup f_is_graph = some ⟨fo_is_graph, fD_is_graph, .func (PySem.W.fnOf "is_graph" "is_graph" (defArgs (top 10)) (defBody (top 10)) (defScope (top 10)) .none fk_is_graph fe_is_graph fm_is_graph fN_is_graph fc_is_graph ft_is_graph), fS_is_graph⟩)
    (fcc_is_graph : PySem.W.codeIn K fc_is_graph "is_graph" = true)
    (fq_is_graph : PySem.W.keepIn K (.ref f_is_graph) = true)
    {fo_is_vertex_pair fk_is_vertex_pair fe_is_vertex_pair fm_is_vertex_pair fc_is_vertex_pair ft_is_vertex_pair : Value} {fD_is_vertex_pair fN_is_vertex_pair : Option Addr} {fS_is_vertex_pair : Array (Option Value)}
    (fa_is_vertex_pair : PySem.W.nsIn K mainGlobals "is_vertex_pair" = some (some (.ref f_is_vertex_pair)))
    (fl_is_vertex_pair : K.lookup f_is_vertex_pair = some ⟨fo_is_vertex_pair, fD_is_vertex_pair, .func (PySem.W.fnOf "is_vertex_pair" "is_vertex_pair" (defArgs (top 11)) (defBody (top 11)) (defScope (top 11)) .none fk_is_vertex_pair fe_is_vertex_pair fm_is_vertex_pair fN_is_vertex_pair fc_is_vertex_pair ft_is_vertex_pair), fS_is_vertex_pair⟩)
    (fcc_is_vertex_pair : PySem.W.codeIn K fc_is_vertex_pair "is_vertex_pair" = true)
    (fq_is_vertex_pair : PySem.W.keepIn K (.ref f_is_vertex_pair) = true)
    {fo_check_graph fk_check_graph fe_check_graph fm_check_graph fc_check_graph ft_check_graph : Value} {fD_check_graph fN_check_graph : Option Addr} {fS_check_graph : Array (Option Value)}
    (fa_check_graph : PySem.W.nsIn K mainGlobals "check_graph" = some (some (.ref f_check_graph)))
    (fl_check_graph : K.lookup f_check_graph = some ⟨fo_check_graph, fD_check_graph, .func (PySem.W.fnOf "check_graph" "check_graph" (defArgs (top 12)) (defBody (top 12)) (defScope (top 12)) .none fk_check_graph fe_check_graph fm_check_graph fN_check_graph fc_check_graph ft_check_graph), fS_check_graph⟩)
    (fcc_check_graph : PySem.W.codeIn K fc_check_graph "check_graph" = true)
    (fq_check_graph : PySem.W.keepIn K (.ref f_check_graph) = true)
    {fo_graph6 fk_graph6 fe_graph6 fm_graph6 fc_graph6 ft_graph6 : Value} {fD_graph6 fN_graph6 : Option Addr} {fS_graph6 : Array (Option Value)}
    (fa_graph6 : PySem.W.nsIn K mainGlobals "graph6" = some (some (.ref f_graph6)))
    (fl_graph6 : K.lookup f_graph6 = some ⟨fo_graph6, fD_graph6, .func (PySem.W.fnOf "graph6" "graph6" (defArgs (top 16)) (defBody (top 16)) (defScope (top 16)) .none fk_graph6 fe_graph6 fm_graph6 fN_graph6 fc_graph6 ft_graph6), fS_graph6⟩)
    (fcc_graph6 : PySem.W.codeIn K fc_graph6 "graph6" = true)
    (fq_graph6 : PySem.W.keepIn K (.ref f_graph6) = true)
    {fo_from_graph6 fk_from_graph6 fe_from_graph6 fm_from_graph6 fc_from_graph6 ft_from_graph6 : Value} {fD_from_graph6 fN_from_graph6 : Option Addr} {fS_from_graph6 : Array (Option Value)}
    (fa_from_graph6 : PySem.W.nsIn K mainGlobals "from_graph6" = some (some (.ref f_from_graph6)))
    (fl_from_graph6 : K.lookup f_from_graph6 = some ⟨fo_from_graph6, fD_from_graph6, .func (PySem.W.fnOf "from_graph6" "from_graph6" (defArgs (top 17)) (defBody (top 17)) (defScope (top 17)) .none fk_from_graph6 fe_from_graph6 fm_from_graph6 fN_from_graph6 fc_from_graph6 ft_from_graph6), fS_from_graph6⟩)
    (fcc_from_graph6 : PySem.W.codeIn K fc_from_graph6 "from_graph6" = true)
    (fq_from_graph6 : PySem.W.keepIn K (.ref f_from_graph6) = true)
    {fo__can_tell fk__can_tell fe__can_tell fm__can_tell fc__can_tell ft__can_tell : Value} {fD__can_tell fN__can_tell : Option Addr} {fS__can_tell : Array (Option Value)}
    (fa__can_tell : PySem.W.nsIn K mainGlobals "_can_tell" = some (some (.ref f__can_tell)))
    (fl__can_tell : K.lookup f__can_tell = some ⟨fo__can_tell, fD__can_tell, .func (PySem.W.fnOf "_can_tell" "_can_tell" (defArgs (top 18)) (defBody (top 18)) (defScope (top 18)) .none fk__can_tell fe__can_tell fm__can_tell fN__can_tell fc__can_tell ft__can_tell), fS__can_tell⟩)
    (fcc__can_tell : PySem.W.codeIn K fc__can_tell "_can_tell" = true)
    (fq__can_tell : PySem.W.keepIn K (.ref f__can_tell) = true)
    {fo__signs_for fk__signs_for fe__signs_for fm__signs_for fc__signs_for ft__signs_for : Value} {fD__signs_for fN__signs_for : Option Addr} {fS__signs_for : Array (Option Value)}
    (fa__signs_for : PySem.W.nsIn K mainGlobals "_signs_for" = some (some (.ref f__signs_for)))
    (fl__signs_for : K.lookup f__signs_for = some ⟨fo__signs_for, fD__signs_for, .func (PySem.W.fnOf "_signs_for" "_signs_for" (defArgs (top 19)) (defBody (top 19)) (defScope (top 19)) .none fk__signs_for fe__signs_for fm__signs_for fN__signs_for fc__signs_for ft__signs_for), fS__signs_for⟩)
    (fcc__signs_for : PySem.W.codeIn K fc__signs_for "_signs_for" = true)
    (fq__signs_for : PySem.W.keepIn K (.ref f__signs_for) = true)
    {fo__pairs_by_greater fk__pairs_by_greater fe__pairs_by_greater fm__pairs_by_greater fc__pairs_by_greater ft__pairs_by_greater : Value} {fD__pairs_by_greater fN__pairs_by_greater : Option Addr} {fS__pairs_by_greater : Array (Option Value)}
    (fa__pairs_by_greater : PySem.W.nsIn K mainGlobals "_pairs_by_greater" = some (some (.ref f__pairs_by_greater)))
    (fl__pairs_by_greater : K.lookup f__pairs_by_greater = some ⟨fo__pairs_by_greater, fD__pairs_by_greater, .func (PySem.W.fnOf "_pairs_by_greater" "_pairs_by_greater" (defArgs (top 20)) (defBody (top 20)) (defScope (top 20)) .none fk__pairs_by_greater fe__pairs_by_greater fm__pairs_by_greater fN__pairs_by_greater fc__pairs_by_greater ft__pairs_by_greater), fS__pairs_by_greater⟩)
    (fcc__pairs_by_greater : PySem.W.codeIn K fc__pairs_by_greater "_pairs_by_greater" = true)
    (fq__pairs_by_greater : PySem.W.keepIn K (.ref f__pairs_by_greater) = true)
    {fo__law_well fk__law_well fe__law_well fm__law_well fc__law_well ft__law_well : Value} {fD__law_well fN__law_well : Option Addr} {fS__law_well : Array (Option Value)}
    (fa__law_well : PySem.W.nsIn K mainGlobals "_law_well" = some (some (.ref f__law_well)))
    (fl__law_well : K.lookup f__law_well = some ⟨fo__law_well, fD__law_well, .func (PySem.W.fnOf "_law_well" "_law_well" (defArgs (top 22)) (defBody (top 22)) (defScope (top 22)) .none fk__law_well fe__law_well fm__law_well fN__law_well fc__law_well ft__law_well), fS__law_well⟩)
    (fcc__law_well : PySem.W.codeIn K fc__law_well "_law_well" = true)
    (fq__law_well : PySem.W.keepIn K (.ref f__law_well) = true)
    {fo__law_draw fk__law_draw fe__law_draw fm__law_draw fc__law_draw ft__law_draw : Value} {fD__law_draw fN__law_draw : Option Addr} {fS__law_draw : Array (Option Value)}
    (fa__law_draw : PySem.W.nsIn K mainGlobals "_law_draw" = some (some (.ref f__law_draw)))
    (fl__law_draw : K.lookup f__law_draw = some ⟨fo__law_draw, fD__law_draw, .func (PySem.W.fnOf "_law_draw" "_law_draw" (defArgs (top 23)) (defBody (top 23)) (defScope (top 23)) .none fk__law_draw fe__law_draw fm__law_draw fN__law_draw fc__law_draw ft__law_draw), fS__law_draw⟩)
    (fcc__law_draw : PySem.W.codeIn K fc__law_draw "_law_draw" = true)
    (fq__law_draw : PySem.W.keepIn K (.ref f__law_draw) = true)
    {fo__law_pick fk__law_pick fe__law_pick fm__law_pick fc__law_pick ft__law_pick : Value} {fD__law_pick fN__law_pick : Option Addr} {fS__law_pick : Array (Option Value)}
    (fa__law_pick : PySem.W.nsIn K mainGlobals "_law_pick" = some (some (.ref f__law_pick)))
    (fl__law_pick : K.lookup f__law_pick = some ⟨fo__law_pick, fD__law_pick, .func (PySem.W.fnOf "_law_pick" "_law_pick" (defArgs (top 24)) (defBody (top 24)) (defScope (top 24)) .none fk__law_pick fe__law_pick fm__law_pick fN__law_pick fc__law_pick ft__law_pick), fS__law_pick⟩)
    (fcc__law_pick : PySem.W.codeIn K fc__law_pick "_law_pick" = true)
    (fq__law_pick : PySem.W.keepIn K (.ref f__law_pick) = true)
    {fo__law_same fk__law_same fe__law_same fm__law_same fc__law_same ft__law_same : Value} {fD__law_same fN__law_same : Option Addr} {fS__law_same : Array (Option Value)}
    (fa__law_same : PySem.W.nsIn K mainGlobals "_law_same" = some (some (.ref f__law_same)))
    (fl__law_same : K.lookup f__law_same = some ⟨fo__law_same, fD__law_same, .func (PySem.W.fnOf "_law_same" "_law_same" (defArgs (top 25)) (defBody (top 25)) (defScope (top 25)) .none fk__law_same fe__law_same fm__law_same fN__law_same fc__law_same ft__law_same), fS__law_same⟩)
    (fcc__law_same : PySem.W.codeIn K fc__law_same "_law_same" = true)
    (fq__law_same : PySem.W.keepIn K (.ref f__law_same) = true)
    {fo__law_of_pairs fk__law_of_pairs fe__law_of_pairs fm__law_of_pairs fc__law_of_pairs ft__law_of_pairs : Value} {fD__law_of_pairs fN__law_of_pairs : Option Addr} {fS__law_of_pairs : Array (Option Value)}
    (fa__law_of_pairs : PySem.W.nsIn K mainGlobals "_law_of_pairs" = some (some (.ref f__law_of_pairs)))
    (fl__law_of_pairs : K.lookup f__law_of_pairs = some ⟨fo__law_of_pairs, fD__law_of_pairs, .func (PySem.W.fnOf "_law_of_pairs" "_law_of_pairs" (defArgs (top 26)) (defBody (top 26)) (defScope (top 26)) .none fk__law_of_pairs fe__law_of_pairs fm__law_of_pairs fN__law_of_pairs fc__law_of_pairs ft__law_of_pairs), fS__law_of_pairs⟩)
    (fcc__law_of_pairs : PySem.W.codeIn K fc__law_of_pairs "_law_of_pairs" = true)
    (fq__law_of_pairs : PySem.W.keepIn K (.ref f__law_of_pairs) = true)
    {fo__law_turned fk__law_turned fe__law_turned fm__law_turned fc__law_turned ft__law_turned : Value} {fD__law_turned fN__law_turned : Option Addr} {fS__law_turned : Array (Option Value)}
    (fa__law_turned : PySem.W.nsIn K mainGlobals "_law_turned" = some (some (.ref f__law_turned)))
    (fl__law_turned : K.lookup f__law_turned = some ⟨fo__law_turned, fD__law_turned, .func (PySem.W.fnOf "_law_turned" "_law_turned" (defArgs (top 27)) (defBody (top 27)) (defScope (top 27)) .none fk__law_turned fe__law_turned fm__law_turned fN__law_turned fc__law_turned ft__law_turned), fS__law_turned⟩)
    (fcc__law_turned : PySem.W.codeIn K fc__law_turned "_law_turned" = true)
    (fq__law_turned : PySem.W.keepIn K (.ref f__law_turned) = true)
    {fo__law_round fk__law_round fe__law_round fm__law_round fc__law_round ft__law_round : Value} {fD__law_round fN__law_round : Option Addr} {fS__law_round : Array (Option Value)}
    (fa__law_round : PySem.W.nsIn K mainGlobals "_law_round" = some (some (.ref f__law_round)))
    (fl__law_round : K.lookup f__law_round = some ⟨fo__law_round, fD__law_round, .func (PySem.W.fnOf "_law_round" "_law_round" (defArgs (top 28)) (defBody (top 28)) (defScope (top 28)) .none fk__law_round fe__law_round fm__law_round fN__law_round fc__law_round ft__law_round), fS__law_round⟩)
    (fcc__law_round : PySem.W.codeIn K fc__law_round "_law_round" = true)
    (fq__law_round : PySem.W.keepIn K (.ref f__law_round) = true)
    {fo__law_called fk__law_called fe__law_called fm__law_called fc__law_called ft__law_called : Value} {fD__law_called fN__law_called : Option Addr} {fS__law_called : Array (Option Value)}
    (fa__law_called : PySem.W.nsIn K mainGlobals "_law_called" = some (some (.ref f__law_called)))
    (fl__law_called : K.lookup f__law_called = some ⟨fo__law_called, fD__law_called, .func (PySem.W.fnOf "_law_called" "_law_called" (defArgs (top 29)) (defBody (top 29)) (defScope (top 29)) .none fk__law_called fe__law_called fm__law_called fN__law_called fc__law_called ft__law_called), fS__law_called⟩)
    (fcc__law_called : PySem.W.codeIn K fc__law_called "_law_called" = true)
    (fq__law_called : PySem.W.keepIn K (.ref f__law_called) = true)
    {fo__law_order fk__law_order fe__law_order fm__law_order fc__law_order ft__law_order : Value} {fD__law_order fN__law_order : Option Addr} {fS__law_order : Array (Option Value)}
    (fa__law_order : PySem.W.nsIn K mainGlobals "_law_order" = some (some (.ref f__law_order)))
    (fl__law_order : K.lookup f__law_order = some ⟨fo__law_order, fD__law_order, .func (PySem.W.fnOf "_law_order" "_law_order" (defArgs (top 30)) (defBody (top 30)) (defScope (top 30)) .none fk__law_order fe__law_order fm__law_order fN__law_order fc__law_order ft__law_order), fS__law_order⟩)
    (fcc__law_order : PySem.W.codeIn K fc__law_order "_law_order" = true)
    (fq__law_order : PySem.W.keepIn K (.ref f__law_order) = true)
    {fo__law_random fk__law_random fe__law_random fm__law_random fc__law_random ft__law_random : Value} {fD__law_random fN__law_random : Option Addr} {fS__law_random : Array (Option Value)}
    (fa__law_random : PySem.W.nsIn K mainGlobals "_law_random" = some (some (.ref f__law_random)))
    (fl__law_random : K.lookup f__law_random = some ⟨fo__law_random, fD__law_random, .func (PySem.W.fnOf "_law_random" "_law_random" (defArgs (top 31)) (defBody (top 31)) (defScope (top 31)) .none fk__law_random fe__law_random fm__law_random fN__law_random fc__law_random ft__law_random), fS__law_random⟩)
    (fcc__law_random : PySem.W.codeIn K fc__law_random "_law_random" = true)
    (fq__law_random : PySem.W.keepIn K (.ref f__law_random) = true)
    {fo__law_sides fk__law_sides fe__law_sides fm__law_sides fc__law_sides ft__law_sides : Value} {fD__law_sides fN__law_sides : Option Addr} {fS__law_sides : Array (Option Value)}
    (fa__law_sides : PySem.W.nsIn K mainGlobals "_law_sides" = some (some (.ref f__law_sides)))
    (fl__law_sides : K.lookup f__law_sides = some ⟨fo__law_sides, fD__law_sides, .func (PySem.W.fnOf "_law_sides" "_law_sides" (defArgs (top 32)) (defBody (top 32)) (defScope (top 32)) .none fk__law_sides fe__law_sides fm__law_sides fN__law_sides fc__law_sides ft__law_sides), fS__law_sides⟩)
    (fcc__law_sides : PySem.W.codeIn K fc__law_sides "_law_sides" = true)
    (fq__law_sides : PySem.W.keepIn K (.ref f__law_sides) = true)
    {fo__law_beside fk__law_beside fe__law_beside fm__law_beside fc__law_beside ft__law_beside : Value} {fD__law_beside fN__law_beside : Option Addr} {fS__law_beside : Array (Option Value)}
    (fa__law_beside : PySem.W.nsIn K mainGlobals "_law_beside" = some (some (.ref f__law_beside)))
    (fl__law_beside : K.lookup f__law_beside = some ⟨fo__law_beside, fD__law_beside, .func (PySem.W.fnOf "_law_beside" "_law_beside" (defArgs (top 33)) (defBody (top 33)) (defScope (top 33)) .none fk__law_beside fe__law_beside fm__law_beside fN__law_beside fc__law_beside ft__law_beside), fS__law_beside⟩)
    (fcc__law_beside : PySem.W.codeIn K fc__law_beside "_law_beside" = true)
    (fq__law_beside : PySem.W.keepIn K (.ref f__law_beside) = true)
    {fo__law_folded fk__law_folded fe__law_folded fm__law_folded fc__law_folded ft__law_folded : Value} {fD__law_folded fN__law_folded : Option Addr} {fS__law_folded : Array (Option Value)}
    (fa__law_folded : PySem.W.nsIn K mainGlobals "_law_folded" = some (some (.ref f__law_folded)))
    (fl__law_folded : K.lookup f__law_folded = some ⟨fo__law_folded, fD__law_folded, .func (PySem.W.fnOf "_law_folded" "_law_folded" (defArgs (top 34)) (defBody (top 34)) (defScope (top 34)) .none fk__law_folded fe__law_folded fm__law_folded fN__law_folded fc__law_folded ft__law_folded), fS__law_folded⟩)
    (fcc__law_folded : PySem.W.codeIn K fc__law_folded "_law_folded" = true)
    (fq__law_folded : PySem.W.keepIn K (.ref f__law_folded) = true)
    {fo__law_grown fk__law_grown fe__law_grown fm__law_grown fc__law_grown ft__law_grown : Value} {fD__law_grown fN__law_grown : Option Addr} {fS__law_grown : Array (Option Value)}
    (fa__law_grown : PySem.W.nsIn K mainGlobals "_law_grown" = some (some (.ref f__law_grown)))
    (fl__law_grown : K.lookup f__law_grown = some ⟨fo__law_grown, fD__law_grown, .func (PySem.W.fnOf "_law_grown" "_law_grown" (defArgs (top 35)) (defBody (top 35)) (defScope (top 35)) .none fk__law_grown fe__law_grown fm__law_grown fN__law_grown fc__law_grown ft__law_grown), fS__law_grown⟩)
    (fcc__law_grown : PySem.W.codeIn K fc__law_grown "_law_grown" = true)
    (fq__law_grown : PySem.W.keepIn K (.ref f__law_grown) = true)
    {fo__law_graph fk__law_graph fe__law_graph fm__law_graph fc__law_graph ft__law_graph : Value} {fD__law_graph fN__law_graph : Option Addr} {fS__law_graph : Array (Option Value)}
    (fa__law_graph : PySem.W.nsIn K mainGlobals "_law_graph" = some (some (.ref f__law_graph)))
    (fl__law_graph : K.lookup f__law_graph = some ⟨fo__law_graph, fD__law_graph, .func (PySem.W.fnOf "_law_graph" "_law_graph" (defArgs (top 36)) (defBody (top 36)) (defScope (top 36)) .none fk__law_graph fe__law_graph fm__law_graph fN__law_graph fc__law_graph ft__law_graph), fS__law_graph⟩)
    (fcc__law_graph : PySem.W.codeIn K fc__law_graph "_law_graph" = true)
    (fq__law_graph : PySem.W.keepIn K (.ref f__law_graph) = true)
    {fo__law_signs fk__law_signs fe__law_signs fm__law_signs fc__law_signs ft__law_signs : Value} {fD__law_signs fN__law_signs : Option Addr} {fS__law_signs : Array (Option Value)}
    (fa__law_signs : PySem.W.nsIn K mainGlobals "_law_signs" = some (some (.ref f__law_signs)))
    (fl__law_signs : K.lookup f__law_signs = some ⟨fo__law_signs, fD__law_signs, .func (PySem.W.fnOf "_law_signs" "_law_signs" (defArgs (top 37)) (defBody (top 37)) (defScope (top 37)) .none fk__law_signs fe__law_signs fm__law_signs fN__law_signs fc__law_signs ft__law_signs), fS__law_signs⟩)
    (fcc__law_signs : PySem.W.codeIn K fc__law_signs "_law_signs" = true)
    (fq__law_signs : PySem.W.keepIn K (.ref f__law_signs) = true)
    {fo__law_bits fk__law_bits fe__law_bits fm__law_bits fc__law_bits ft__law_bits : Value} {fD__law_bits fN__law_bits : Option Addr} {fS__law_bits : Array (Option Value)}
    (fa__law_bits : PySem.W.nsIn K mainGlobals "_law_bits" = some (some (.ref f__law_bits)))
    (fl__law_bits : K.lookup f__law_bits = some ⟨fo__law_bits, fD__law_bits, .func (PySem.W.fnOf "_law_bits" "_law_bits" (defArgs (top 38)) (defBody (top 38)) (defScope (top 38)) .none fk__law_bits fe__law_bits fm__law_bits fN__law_bits fc__law_bits ft__law_bits), fS__law_bits⟩)
    (fcc__law_bits : PySem.W.codeIn K fc__law_bits "_law_bits" = true)
    (fq__law_bits : PySem.W.keepIn K (.ref f__law_bits) = true)
    {fo__law_code fk__law_code fe__law_code fm__law_code fc__law_code ft__law_code : Value} {fD__law_code fN__law_code : Option Addr} {fS__law_code : Array (Option Value)}
    (fa__law_code : PySem.W.nsIn K mainGlobals "_law_code" = some (some (.ref f__law_code)))
    (fl__law_code : K.lookup f__law_code = some ⟨fo__law_code, fD__law_code, .func (PySem.W.fnOf "_law_code" "_law_code" (defArgs (top 39)) (defBody (top 39)) (defScope (top 39)) .none fk__law_code fe__law_code fm__law_code fN__law_code fc__law_code ft__law_code), fS__law_code⟩)
    (fcc__law_code : PySem.W.codeIn K fc__law_code "_law_code" = true)
    (fq__law_code : PySem.W.keepIn K (.ref f__law_code) = true)
    {fo__law_read fk__law_read fe__law_read fm__law_read fc__law_read ft__law_read : Value} {fD__law_read fN__law_read : Option Addr} {fS__law_read : Array (Option Value)}
    (fa__law_read : PySem.W.nsIn K mainGlobals "_law_read" = some (some (.ref f__law_read)))
    (fl__law_read : K.lookup f__law_read = some ⟨fo__law_read, fD__law_read, .func (PySem.W.fnOf "_law_read" "_law_read" (defArgs (top 40)) (defBody (top 40)) (defScope (top 40)) .none fk__law_read fe__law_read fm__law_read fN__law_read fc__law_read ft__law_read), fS__law_read⟩)
    (fcc__law_read : PySem.W.codeIn K fc__law_read "_law_read" = true)
    (fq__law_read : PySem.W.keepIn K (.ref f__law_read) = true)
    {fo__law_bent fk__law_bent fe__law_bent fm__law_bent fc__law_bent ft__law_bent : Value} {fD__law_bent fN__law_bent : Option Addr} {fS__law_bent : Array (Option Value)}
    (fa__law_bent : PySem.W.nsIn K mainGlobals "_law_bent" = some (some (.ref f__law_bent)))
    (fl__law_bent : K.lookup f__law_bent = some ⟨fo__law_bent, fD__law_bent, .func (PySem.W.fnOf "_law_bent" "_law_bent" (defArgs (top 41)) (defBody (top 41)) (defScope (top 41)) .none fk__law_bent fe__law_bent fm__law_bent fN__law_bent fc__law_bent ft__law_bent), fS__law_bent⟩)
    (fcc__law_bent : PySem.W.codeIn K fc__law_bent "_law_bent" = true)
    (fq__law_bent : PySem.W.keepIn K (.ref f__law_bent) = true)
    {fo__law_told fk__law_told fe__law_told fm__law_told fc__law_told ft__law_told : Value} {fD__law_told fN__law_told : Option Addr} {fS__law_told : Array (Option Value)}
    (fa__law_told : PySem.W.nsIn K mainGlobals "_law_told" = some (some (.ref f__law_told)))
    (fl__law_told : K.lookup f__law_told = some ⟨fo__law_told, fD__law_told, .func (PySem.W.fnOf "_law_told" "_law_told" (defArgs (top 42)) (defBody (top 42)) (defScope (top 42)) .none fk__law_told fe__law_told fm__law_told fN__law_told fc__law_told ft__law_told), fS__law_told⟩)
    (fcc__law_told : PySem.W.codeIn K fc__law_told "_law_told" = true)
    (fq__law_told : PySem.W.keepIn K (.ref f__law_told) = true)
    {fo__law_right fk__law_right fe__law_right fm__law_right fc__law_right ft__law_right : Value} {fD__law_right fN__law_right : Option Addr} {fS__law_right : Array (Option Value)}
    (fa__law_right : PySem.W.nsIn K mainGlobals "_law_right" = some (some (.ref f__law_right)))
    (fl__law_right : K.lookup f__law_right = some ⟨fo__law_right, fD__law_right, .func (PySem.W.fnOf "_law_right" "_law_right" (defArgs (top 43)) (defBody (top 43)) (defScope (top 43)) .none fk__law_right fe__law_right fm__law_right fN__law_right fc__law_right ft__law_right), fS__law_right⟩)
    (fcc__law_right : PySem.W.codeIn K fc__law_right "_law_right" = true)
    (fq__law_right : PySem.W.keepIn K (.ref f__law_right) = true)
    {fo_law fk_law fe_law fm_law fc_law ft_law : Value} {fD_law fN_law : Option Addr} {fS_law : Array (Option Value)}
    (fa_law : PySem.W.nsIn K mainGlobals "law" = some (some (.ref f_law)))
    (fl_law : K.lookup f_law = some ⟨fo_law, fD_law, .func (PySem.W.fnOf "law" "law" (defArgs (top 44)) (defBody (top 44)) (defScope (top 44)) .none fk_law fe_law fm_law fN_law fc_law ft_law), fS_law⟩)
    (fcc_law : PySem.W.codeIn K fc_law "law" = true)
    (fq_law : PySem.W.keepIn K (.ref f_law) = true)
    (gM : PySem.W.nsIn K mainGlobals "MOST_VERTICES" = some (some (.int 9 tkM)))
    (gB : PySem.W.nsIn K mainGlobals "BITS" = some (some (.int 6 tkB)))
    (gS : PySem.W.nsIn K mainGlobals "SIGNS" = some (some (.str sg tkS)))
    (eS : sg = SG)
    (z_len : PySem.W.nsIn K mainGlobals "len" = some none)
    (z_int : PySem.W.nsIn K mainGlobals "int" = some none)
    (z_abs : PySem.W.nsIn K mainGlobals "abs" = some none)
    (z_divmod : PySem.W.nsIn K mainGlobals "divmod" = some none)
    (z_repr : PySem.W.nsIn K mainGlobals "repr" = some none)
    (z_isinstance : PySem.W.nsIn K mainGlobals "isinstance" = some none)
    (z_range : PySem.W.nsIn K mainGlobals "range" = some none)
    (z_all : PySem.W.nsIn K mainGlobals "all" = some none)
    (z_max : PySem.W.nsIn K mainGlobals "max" = some none)
    (z_min : PySem.W.nsIn K mainGlobals "min" = some none)
    (z_list : PySem.W.nsIn K mainGlobals "list" = some none)
    (z_tuple : PySem.W.nsIn K mainGlobals "tuple" = some none)
    (z_sorted : PySem.W.nsIn K mainGlobals "sorted" = some none)
    (z_set : PySem.W.nsIn K mainGlobals "set" = some none)
    (z_type : PySem.W.nsIn K mainGlobals "type" = some none)
    (z_str : PySem.W.nsIn K mainGlobals "str" = some none)
    (z_enumerate : PySem.W.nsIn K mainGlobals "enumerate" = some none)
    (z_zip : PySem.W.nsIn K mainGlobals "zip" = some none)
    (b1 : iniB K C I "index" = true)
    (b2 : xisB K C = true)
    (b3 : descB K = true)
    (b4 : PySem.W.kitOne K (.ref C) (.ref G) = some true)
    (b5 : PySem.W.exmOne K (.ref C) (.ref C) = some true)
    : ∃ fd : FuncData, (∀ (s : Shared) (v : Value), BindsTo s fd ⟨[v], []⟩ [("script", v)]) ∧ ∀ base : Heap, K.In base → base.Ns mainGlobals mg → FnG l.prog w K mg base CX0 8 fa fd ["script"] (spLaw K) := by
  subst eS
  have e := hfa.symm.trans (PySem.W.mg_of X GN fa_law)
  cases e
  have J0 := fun_mk (st := inClass (top 3) 0) l0 c0 q0
  have Bi0 := J0.binds (ps := ["self", "index"]) fun _ _ _ _ _ _ us hl => match us, hl with | [_, _], _ => rfl
  have F_is_whole := fun_mk (st := top 6) fl_is_whole fcc_is_whole fq_is_whole
  have B_is_whole := F_is_whole.binds (ps := ["value", "low", "high"]) fun _ _ _ _ _ _ us hl => match us, hl with | [_, _, _], _ => rfl
  have F_is_whole_from := fun_mk (st := top 7) fl_is_whole_from fcc_is_whole_from fq_is_whole_from
  have B_is_whole_from := F_is_whole_from.binds (ps := ["value", "low"]) fun _ _ _ _ _ _ us hl => match us, hl with | [_, _], _ => rfl
  have F_is_tuple_of_two := fun_mk (st := top 8) fl_is_tuple_of_two fcc_is_tuple_of_two fq_is_tuple_of_two
  have B_is_tuple_of_two := F_is_tuple_of_two.binds (ps := ["value"]) fun _ _ _ _ _ _ us hl => match us, hl with | [_], _ => rfl
  have F_is_ascending := fun_mk (st := top 9) fl_is_ascending fcc_is_ascending fq_is_ascending
  have B_is_ascending := F_is_ascending.binds (ps := ["row"]) fun _ _ _ _ _ _ us hl => match us, hl with | [_], _ => rfl
  have F_is_graph := fun_mk (st := top 10) fl_is_graph fcc_is_graph fq_is_graph
  have B_is_graph := F_is_graph.binds (ps := ["value"]) fun _ _ _ _ _ _ us hl => match us, hl with | [_], _ => rfl
  have F_is_vertex_pair := fun_mk (st := top 11) fl_is_vertex_pair fcc_is_vertex_pair fq_is_vertex_pair
  have B_is_vertex_pair := F_is_vertex_pair.binds (ps := ["value", "many"]) fun _ _ _ _ _ _ us hl => match us, hl with | [_, _], _ => rfl
  have F_check_graph := fun_mk (st := top 12) fl_check_graph fcc_check_graph fq_check_graph
  have B_check_graph := F_check_graph.binds (ps := ["graph"]) fun _ _ _ _ _ _ us hl => match us, hl with | [_], _ => rfl
  have F_graph6 := fun_mk (st := top 16) fl_graph6 fcc_graph6 fq_graph6
  have B_graph6 := F_graph6.binds (ps := ["graph"]) fun _ _ _ _ _ _ us hl => match us, hl with | [_], _ => rfl
  have F_from_graph6 := fun_mk (st := top 17) fl_from_graph6 fcc_from_graph6 fq_from_graph6
  have B_from_graph6 := F_from_graph6.binds (ps := ["text"]) fun _ _ _ _ _ _ us hl => match us, hl with | [_], _ => rfl
  have F__can_tell := fun_mk (st := top 18) fl__can_tell fcc__can_tell fq__can_tell
  have B__can_tell := F__can_tell.binds (ps := ["number", "left"]) fun _ _ _ _ _ _ us hl => match us, hl with | [_, _], _ => rfl
  have F__signs_for := fun_mk (st := top 19) fl__signs_for fcc__signs_for fq__signs_for
  have B__signs_for := F__signs_for.binds (ps := ["bits"]) fun _ _ _ _ _ _ us hl => match us, hl with | [_], _ => rfl
  have F__pairs_by_greater := fun_mk (st := top 20) fl__pairs_by_greater fcc__pairs_by_greater fq__pairs_by_greater
  have B__pairs_by_greater := F__pairs_by_greater.binds (ps := ["many"]) fun _ _ _ _ _ _ us hl => match us, hl with | [_], _ => rfl
  have F__law_well := fun_mk (st := top 22) fl__law_well fcc__law_well fq__law_well
  have B__law_well := F__law_well.binds (ps := ["script", "turn"]) fun _ _ _ _ _ _ us hl => match us, hl with | [_, _], _ => rfl
  have F__law_draw := fun_mk (st := top 23) fl__law_draw fcc__law_draw fq__law_draw
  have B__law_draw := F__law_draw.binds (ps := ["well", "many"]) fun _ _ _ _ _ _ us hl => match us, hl with | [_, _], _ => rfl
  have F__law_pick := fun_mk (st := top 24) fl__law_pick fcc__law_pick fq__law_pick
  have B__law_pick := F__law_pick.binds (ps := ["well", "some"]) fun _ _ _ _ _ _ us hl => match us, hl with | [_, _], _ => rfl
  have F__law_same := fun_mk (st := top 25) fl__law_same fcc__law_same fq__law_same
  have B__law_same := F__law_same.binds (ps := ["told", "due"]) fun _ _ _ _ _ _ us hl => match us, hl with | [_, _], _ => rfl
  have F__law_of_pairs := fun_mk (st := top 26) fl__law_of_pairs fcc__law_of_pairs fq__law_of_pairs
  have B__law_of_pairs := F__law_of_pairs.binds (ps := ["n", "pairs"]) fun _ _ _ _ _ _ us hl => match us, hl with | [_, _], _ => rfl
  have F__law_turned := fun_mk (st := top 27) fl__law_turned fcc__law_turned fq__law_turned
  have B__law_turned := F__law_turned.binds (ps := ["graph"]) fun _ _ _ _ _ _ us hl => match us, hl with | [_], _ => rfl
  have F__law_round := fun_mk (st := top 28) fl__law_round fcc__law_round fq__law_round
  have B__law_round := F__law_round.binds (ps := ["many"]) fun _ _ _ _ _ _ us hl => match us, hl with | [_], _ => rfl
  have F__law_called := fun_mk (st := top 29) fl__law_called fcc__law_called fq__law_called
  have B__law_called := F__law_called.binds (ps := ["graph", "names"]) fun _ _ _ _ _ _ us hl => match us, hl with | [_, _], _ => rfl
  have F__law_order := fun_mk (st := top 30) fl__law_order fcc__law_order fq__law_order
  have B__law_order := F__law_order.binds (ps := ["well", "many"]) fun _ _ _ _ _ _ us hl => match us, hl with | [_, _], _ => rfl
  have F__law_random := fun_mk (st := top 31) fl__law_random fcc__law_random fq__law_random
  have B__law_random := F__law_random.binds (ps := ["well", "n"]) fun _ _ _ _ _ _ us hl => match us, hl with | [_, _], _ => rfl
  have F__law_sides := fun_mk (st := top 32) fl__law_sides fcc__law_sides fq__law_sides
  have B__law_sides := F__law_sides.binds (ps := ["well", "n"]) fun _ _ _ _ _ _ us hl => match us, hl with | [_, _], _ => rfl
  have F__law_beside := fun_mk (st := top 33) fl__law_beside fcc__law_beside fq__law_beside
  have B__law_beside := F__law_beside.binds (ps := ["one", "two", "is_joined"]) fun _ _ _ _ _ _ us hl => match us, hl with | [_, _, _], _ => rfl
  have F__law_folded := fun_mk (st := top 34) fl__law_folded fcc__law_folded fq__law_folded
  have B__law_folded := F__law_folded.binds (ps := ["well", "n"]) fun _ _ _ _ _ _ us hl => match us, hl with | [_, _], _ => rfl
  have F__law_grown := fun_mk (st := top 35) fl__law_grown fcc__law_grown fq__law_grown
  have B__law_grown := F__law_grown.binds (ps := ["well", "graph", "n"]) fun _ _ _ _ _ _ us hl => match us, hl with | [_, _, _], _ => rfl
  have F__law_graph := fun_mk (st := top 36) fl__law_graph fcc__law_graph fq__law_graph
  have B__law_graph := F__law_graph.binds (ps := ["well", "most"]) fun _ _ _ _ _ _ us hl => match us, hl with | [_, _], _ => rfl
  have F__law_signs := fun_mk (st := top 37) fl__law_signs fcc__law_signs fq__law_signs
  have B__law_signs := F__law_signs.binds (ps := []) fun _ _ _ _ _ _ us hl => match us, hl with | [], _ => rfl
  have F__law_bits := fun_mk (st := top 38) fl__law_bits fcc__law_bits fq__law_bits
  have B__law_bits := F__law_bits.binds (ps := ["n", "edges"]) fun _ _ _ _ _ _ us hl => match us, hl with | [_, _], _ => rfl
  have F__law_code := fun_mk (st := top 39) fl__law_code fcc__law_code fq__law_code
  have B__law_code := F__law_code.binds (ps := ["graph"]) fun _ _ _ _ _ _ us hl => match us, hl with | [_], _ => rfl
  have F__law_read := fun_mk (st := top 40) fl__law_read fcc__law_read fq__law_read
  have B__law_read := F__law_read.binds (ps := ["text"]) fun _ _ _ _ _ _ us hl => match us, hl with | [_], _ => rfl
  have F__law_bent := fun_mk (st := top 41) fl__law_bent fcc__law_bent fq__law_bent
  have B__law_bent := F__law_bent.binds (ps := ["well", "text"]) fun _ _ _ _ _ _ us hl => match us, hl with | [_, _], _ => rfl
  have F__law_told := fun_mk (st := top 42) fl__law_told fcc__law_told fq__law_told
  have B__law_told := F__law_told.binds (ps := ["text", "is_named"]) fun _ _ _ _ _ _ us hl => match us, hl with | [_, _], _ => rfl
  have F__law_right := fun_mk (st := top 43) fl__law_right fcc__law_right fq__law_right
  have B__law_right := F__law_right.binds (ps := ["well"]) fun _ _ _ _ _ _ us hl => match us, hl with | [_], _ => rfl
  have F_law := fun_mk (st := top 44) fl_law fcc_law fq_law
  have B_law := F_law.binds (ps := ["script"]) fun _ _ _ _ _ _ us hl => match us, hl with | [_], _ => rfl
  have m_len := PySem.W.mg_none_of X GN z_len
  have m_int := PySem.W.mg_none_of X GN z_int
  have m_abs := PySem.W.mg_none_of X GN z_abs
  have m_divmod := PySem.W.mg_none_of X GN z_divmod
  have m_repr := PySem.W.mg_none_of X GN z_repr
  have m_isinstance := PySem.W.mg_none_of X GN z_isinstance
  have m_range := PySem.W.mg_none_of X GN z_range
  have m_all := PySem.W.mg_none_of X GN z_all
  have m_max := PySem.W.mg_none_of X GN z_max
  have m_min := PySem.W.mg_none_of X GN z_min
  have m_list := PySem.W.mg_none_of X GN z_list
  have m_tuple := PySem.W.mg_none_of X GN z_tuple
  have m_sorted := PySem.W.mg_none_of X GN z_sorted
  have m_set := PySem.W.mg_none_of X GN z_set
  have m_type := PySem.W.mg_none_of X GN z_type
  have m_str := PySem.W.mg_none_of X GN z_str
  have m_enumerate := PySem.W.mg_none_of X GN z_enumerate
  have m_zip := PySem.W.mg_none_of X GN z_zip
  have T : XCls K C I "index" := iniB_ok i0 b1
  have TI : XIs K C := xisB_ok b3 b2
  have mM := PySem.W.mg_of X GN gM
  have mB := PySem.W.mg_of X GN gB
  have mS := PySem.W.mg_of X GN gS
  have mC := PySem.W.mg_of X GN aC
  have mG := PySem.W.mg_of X GN aG
  refine ⟨PySem.W.fnOf "law" "law" (defArgs (top 44)) (defBody (top 44)) (defScope (top 44)) .none fk_law fe_law fm_law fN_law fc_law ft_law, fun s v => .of_eq rfl, fun base _ _ => ?_⟩
  have O__law_well := ok_well (P := l.prog) (w := w) (K := K) (mg := mg) (base := base) F__law_well m_len m_int m_abs
  have O__law_draw := ok_draw (P := l.prog) (w := w) (K := K) (mg := mg) (base := base) F__law_draw m_divmod m_int
  have O__law_pick := ok_pick (P := l.prog) (w := w) (K := K) (mg := mg) (base := base) F__law_pick O__law_draw B__law_draw fq__law_draw (PySem.W.mg_of X GN fa__law_draw) m_len
  have O__law_same := ok_same (P := l.prog) (w := w) (K := K) (mg := mg) (base := base) F__law_same m_repr
  have O__law_of_pairs := ok_of_pairs (P := l.prog) (w := w) (K := K) (mg := mg) (base := base) F__law_of_pairs m_tuple m_sorted m_set m_min m_max
  have O__law_turned := ok_turned (P := l.prog) (w := w) (K := K) (mg := mg) (base := base) F__law_turned m_range m_tuple
  have O__law_round := ok_round (P := l.prog) (w := w) (K := K) (mg := mg) (base := base) F__law_round O__law_of_pairs B__law_of_pairs fq__law_of_pairs (PySem.W.mg_of X GN fa__law_of_pairs) m_range m_int
  have O__law_called := ok_called (P := l.prog) (w := w) (K := K) (mg := mg) (base := base) F__law_called O__law_of_pairs B__law_of_pairs fq__law_of_pairs (PySem.W.mg_of X GN fa__law_of_pairs)
  have O__law_order := ok_order (P := l.prog) (w := w) (K := K) (mg := mg) (base := base) F__law_order O__law_draw B__law_draw fq__law_draw (PySem.W.mg_of X GN fa__law_draw) m_len m_range m_list m_tuple
  have O__law_random := ok_random (P := l.prog) (w := w) (K := K) (mg := mg) (base := base) F__law_random O__law_draw B__law_draw fq__law_draw (PySem.W.mg_of X GN fa__law_draw) O__law_of_pairs B__law_of_pairs fq__law_of_pairs (PySem.W.mg_of X GN fa__law_of_pairs) O__law_pick B__law_pick fq__law_pick (PySem.W.mg_of X GN fa__law_pick) m_range
  have O__law_sides := ok_sides (P := l.prog) (w := w) (K := K) (mg := mg) (base := base) F__law_sides O__law_draw B__law_draw fq__law_draw (PySem.W.mg_of X GN fa__law_draw) O__law_of_pairs B__law_of_pairs fq__law_of_pairs (PySem.W.mg_of X GN fa__law_of_pairs) m_range
  have O__law_beside := ok_beside (P := l.prog) (w := w) (K := K) (mg := mg) (base := base) F__law_beside O__law_of_pairs B__law_of_pairs fq__law_of_pairs (PySem.W.mg_of X GN fa__law_of_pairs) m_range m_list
  have O__law_folded := ok_folded (P := l.prog) (w := w) (K := K) (mg := mg) (base := base) F__law_folded O__law_draw B__law_draw fq__law_draw (PySem.W.mg_of X GN fa__law_draw) O__law_beside B__law_beside fq__law_beside (PySem.W.mg_of X GN fa__law_beside) O__law_turned B__law_turned fq__law_turned (PySem.W.mg_of X GN fa__law_turned) m_range
  have O__law_grown := ok_grown (P := l.prog) (w := w) (K := K) (mg := mg) (base := base) F__law_grown O__law_draw B__law_draw fq__law_draw (PySem.W.mg_of X GN fa__law_draw) O__law_of_pairs B__law_of_pairs fq__law_of_pairs (PySem.W.mg_of X GN fa__law_of_pairs) m_range m_list m_min m_max
  have O__law_graph := ok_graph (P := l.prog) (w := w) (K := K) (mg := mg) (base := base) F__law_graph O__law_draw B__law_draw fq__law_draw (PySem.W.mg_of X GN fa__law_draw) O__law_random B__law_random fq__law_random (PySem.W.mg_of X GN fa__law_random) O__law_sides B__law_sides fq__law_sides (PySem.W.mg_of X GN fa__law_sides) O__law_folded B__law_folded fq__law_folded (PySem.W.mg_of X GN fa__law_folded) O__law_grown B__law_grown fq__law_grown (PySem.W.mg_of X GN fa__law_grown) O__law_round B__law_round fq__law_round (PySem.W.mg_of X GN fa__law_round) O__law_pick B__law_pick fq__law_pick (PySem.W.mg_of X GN fa__law_pick) O__law_turned B__law_turned fq__law_turned (PySem.W.mg_of X GN fa__law_turned) O__law_called B__law_called fq__law_called (PySem.W.mg_of X GN fa__law_called) O__law_order B__law_order fq__law_order (PySem.W.mg_of X GN fa__law_order) m_max
  have OPS := ok_pickS (P := l.prog) (w := w) (K := K) (mg := mg) (base := base) F__law_pick O__law_draw B__law_draw fq__law_draw (PySem.W.mg_of X GN fa__law_draw) m_len
  have O_is_whole_from := ok_whole_from (P := l.prog) (w := w) (K := K) (mg := mg) (base := base) F_is_whole_from m_type m_int
  have O_is_whole := ok_is_whole (P := l.prog) (w := w) (K := K) (mg := mg) (base := base) F_is_whole O_is_whole_from B_is_whole_from fq_is_whole_from (PySem.W.mg_of X GN fa_is_whole_from)
  have O_is_tuple_of_two := ok_is_two (P := l.prog) (w := w) (K := K) (mg := mg) (base := base) F_is_tuple_of_two m_type m_tuple m_len
  have O_is_vertex_pair := ok_is_vp (P := l.prog) (w := w) (K := K) (mg := mg) (base := base) F_is_vertex_pair O_is_tuple_of_two B_is_tuple_of_two fq_is_tuple_of_two (PySem.W.mg_of X GN fa_is_tuple_of_two) O_is_whole B_is_whole fq_is_whole (PySem.W.mg_of X GN fa_is_whole) m_all
  have O_is_ascending := ok_ascP (P := l.prog) (w := w) (K := K) (mg := mg) (base := base) F_is_ascending m_all m_zip
  have O_is_graph := ok_is_graph (P := l.prog) (w := w) (K := K) (mg := mg) (base := base) F_is_graph O_is_tuple_of_two B_is_tuple_of_two fq_is_tuple_of_two (PySem.W.mg_of X GN fa_is_tuple_of_two) O_is_whole B_is_whole fq_is_whole (PySem.W.mg_of X GN fa_is_whole) O_is_vertex_pair B_is_vertex_pair fq_is_vertex_pair (PySem.W.mg_of X GN fa_is_vertex_pair) O_is_ascending B_is_ascending fq_is_ascending (PySem.W.mg_of X GN fa_is_ascending) tkM mM m_type m_tuple m_all
  have O_check_graph := ok_check_graph (P := l.prog) (w := w) (K := K) (mg := mg) (base := base) F_check_graph O_is_graph B_is_graph fq_is_graph (PySem.W.mg_of X GN fa_is_graph)
  have O__law_signs := ok_signs (P := l.prog) (w := w) (K := K) (mg := mg) (base := base) F__law_signs 
  have O__law_bits := ok_bits (P := l.prog) (w := w) (K := K) (mg := mg) (base := base) F__law_bits m_range m_int m_len
  have O__law_code := ok_code (P := l.prog) (w := w) (K := K) (mg := mg) (base := base) F__law_code O__law_signs B__law_signs fq__law_signs (PySem.W.mg_of X GN fa__law_signs) O__law_bits B__law_bits fq__law_bits (PySem.W.mg_of X GN fa__law_bits) m_range m_len
  have O__signs_for := ok_signs_for (P := l.prog) (w := w) (K := K) (mg := mg) (base := base) F__signs_for mB
  have O__pairs_by_greater := ok_by_greater (P := l.prog) (w := w) (K := K) (mg := mg) (base := base) F__pairs_by_greater m_range
  have O_graph6 := ok_graph6 (P := l.prog) (w := w) (K := K) (mg := mg) (base := base) F_graph6 O_check_graph B_check_graph fq_check_graph (PySem.W.mg_of X GN fa_check_graph) O__pairs_by_greater B__pairs_by_greater fq__pairs_by_greater (PySem.W.mg_of X GN fa__pairs_by_greater) O__signs_for B__signs_for fq__signs_for (PySem.W.mg_of X GN fa__signs_for) mB mS m_range m_len
  have OI := ok_initS (P := l.prog) (w := w) (mg := mg) (base := base) J0 T.ox T.no
  have O__can_tell := ok_can_tell (P := l.prog) (w := w) (K := K) (mg := mg) (base := base) F__can_tell mB m_max
  have O_from_graph6 := ok_from (P := l.prog) (w := w) (K := K) (mg := mg) (base := base) F_from_graph6 T OI Bi0 mC O__can_tell B__can_tell fq__can_tell (PySem.W.mg_of X GN fa__can_tell) O__pairs_by_greater B__pairs_by_greater fq__pairs_by_greater (PySem.W.mg_of X GN fa__pairs_by_greater) O__signs_for B__signs_for fq__signs_for (PySem.W.mg_of X GN fa__signs_for) mB mS mM m_type m_str m_enumerate m_len m_tuple m_sorted m_zip
  have O__law_read := ok_read (P := l.prog) (w := w) (K := K) (mg := mg) (base := base) F__law_read O__law_signs B__law_signs fq__law_signs (PySem.W.mg_of X GN fa__law_signs) m_range m_len m_isinstance m_str m_list m_divmod m_tuple m_sorted
  have O__law_told := ok_told (P := l.prog) (w := w) (K := K) (mg := mg) (base := base) F__law_told T mC TI mG b4 b5 O_from_graph6 B_from_graph6 (fun s u => .of_eq rfl) fq_from_graph6 (PySem.W.mg_of X GN fa_from_graph6) m_isinstance
  have O__law_bent := ok_bent (P := l.prog) (w := w) (K := K) (mg := mg) (base := base) F__law_bent O__law_draw B__law_draw fq__law_draw (PySem.W.mg_of X GN fa__law_draw) O__law_pick OPS B__law_pick fq__law_pick (PySem.W.mg_of X GN fa__law_pick) O__law_signs B__law_signs fq__law_signs (PySem.W.mg_of X GN fa__law_signs) m_len
  have O__law_right := ok_right (P := l.prog) (w := w) (K := K) (mg := mg) (base := base) F__law_right O__law_graph B__law_graph fq__law_graph (PySem.W.mg_of X GN fa__law_graph) O__law_code B__law_code fq__law_code (PySem.W.mg_of X GN fa__law_code) O__law_same B__law_same fq__law_same (PySem.W.mg_of X GN fa__law_same) O_graph6 B_graph6 (fun s u => .of_eq rfl) fq_graph6 (PySem.W.mg_of X GN fa_graph6) O__law_told B__law_told fq__law_told (PySem.W.mg_of X GN fa__law_told) O__law_bent B__law_bent fq__law_bent (PySem.W.mg_of X GN fa__law_bent) O__law_read B__law_read fq__law_read (PySem.W.mg_of X GN fa__law_read) O__law_pick B__law_pick fq__law_pick (PySem.W.mg_of X GN fa__law_pick) m_range
  exact ok_law (n := 6) F_law O__law_well B__law_well fq__law_well (PySem.W.mg_of X GN fa__law_well) O__law_right B__law_right fq__law_right (PySem.W.mg_of X GN fa__law_right) m_range m_len m_all m_max m_min
end My

open PySem PySem.W PyProof.Rows
set_option maxRecDepth 100000 in
set_option maxHeartbeats 0 in
theorem PySem.Challenge.cw_perfectgraphs_k04_whole_graph6_by_own_bi_holds : PySem.Challenge.rw_perfectgraphs_k04_whole_graph6_by_own_bi.Holds := by
  w_on; o_law; k_head; (case hw => w_witness2)
  k_fill
  refine My.walkG (l := PySem.Challenge.rw_perfectgraphs_k04_whole_graph6_by_own_bi) (m := 63) (n := 8) (x := "script") (sp := fun K => My.spLaw K) rfl (by decide) rfl ⟨rfl, by decide, by decide⟩ (fun w h Y => PySem.W.kIn_of Y) ?F (fun K H a ns hl _ hS => ⟨a, ns, rfl, hS, hl, fun _ => rfl⟩)
  case F =>
    intro w mg fa h KX G hmg
    refine' My.all_mk KX G hmg ?aC ?aG ?i0 ?l0 ?c0 ?q0 ?fa_is_whole ?fl_is_whole ?fcc_is_whole ?fq_is_whole ?fa_is_whole_from ?fl_is_whole_from ?fcc_is_whole_from ?fq_is_whole_from ?fa_is_tuple_of_two ?fl_is_tuple_of_two ?fcc_is_tuple_of_two ?fq_is_tuple_of_two ?fa_is_ascending ?fl_is_ascending ?fcc_is_ascending ?fq_is_ascending ?fa_is_graph ?fl_is_graph ?fcc_is_graph ?fq_is_graph ?fa_is_vertex_pair ?fl_is_vertex_pair ?fcc_is_vertex_pair ?fq_is_vertex_pair ?fa_check_graph ?fl_check_graph ?fcc_check_graph ?fq_check_graph ?fa_graph6 ?fl_graph6 ?fcc_graph6 ?fq_graph6 ?fa_from_graph6 ?fl_from_graph6 ?fcc_from_graph6 ?fq_from_graph6 ?fa__can_tell ?fl__can_tell ?fcc__can_tell ?fq__can_tell ?fa__signs_for ?fl__signs_for ?fcc__signs_for ?fq__signs_for ?fa__pairs_by_greater ?fl__pairs_by_greater ?fcc__pairs_by_greater ?fq__pairs_by_greater ?fa__law_well ?fl__law_well ?fcc__law_well ?fq__law_well ?fa__law_draw ?fl__law_draw ?fcc__law_draw ?fq__law_draw ?fa__law_pick ?fl__law_pick ?fcc__law_pick ?fq__law_pick ?fa__law_same ?fl__law_same ?fcc__law_same ?fq__law_same ?fa__law_of_pairs ?fl__law_of_pairs ?fcc__law_of_pairs ?fq__law_of_pairs ?fa__law_turned ?fl__law_turned ?fcc__law_turned ?fq__law_turned ?fa__law_round ?fl__law_round ?fcc__law_round ?fq__law_round ?fa__law_called ?fl__law_called ?fcc__law_called ?fq__law_called ?fa__law_order ?fl__law_order ?fcc__law_order ?fq__law_order ?fa__law_random ?fl__law_random ?fcc__law_random ?fq__law_random ?fa__law_sides ?fl__law_sides ?fcc__law_sides ?fq__law_sides ?fa__law_beside ?fl__law_beside ?fcc__law_beside ?fq__law_beside ?fa__law_folded ?fl__law_folded ?fcc__law_folded ?fq__law_folded ?fa__law_grown ?fl__law_grown ?fcc__law_grown ?fq__law_grown ?fa__law_graph ?fl__law_graph ?fcc__law_graph ?fq__law_graph ?fa__law_signs ?fl__law_signs ?fcc__law_signs ?fq__law_signs ?fa__law_bits ?fl__law_bits ?fcc__law_bits ?fq__law_bits ?fa__law_code ?fl__law_code ?fcc__law_code ?fq__law_code ?fa__law_read ?fl__law_read ?fcc__law_read ?fq__law_read ?fa__law_bent ?fl__law_bent ?fcc__law_bent ?fq__law_bent ?fa__law_told ?fl__law_told ?fcc__law_told ?fq__law_told ?fa__law_right ?fl__law_right ?fcc__law_right ?fq__law_right ?fa_law ?fl_law ?fcc_law ?fq_law ?gM ?gB ?gS ?eS ?z_len ?z_int ?z_abs ?z_divmod ?z_repr ?z_isinstance ?z_range ?z_all ?z_max ?z_min ?z_list ?z_tuple ?z_sorted ?z_set ?z_type ?z_str ?z_enumerate ?z_zip ?b1 ?b2 ?b3 ?b4 ?b5
    (case aC => k_is)
    (case aG => k_is)
    (case i0 => k_is)
    (case l0 => k_is)
    (case c0 => k_is)
    (case q0 => k_is)
    (case fa_is_whole => k_is)
    (case fl_is_whole => k_is)
    (case fcc_is_whole => k_is)
    (case fq_is_whole => k_is)
    (case fa_is_whole_from => k_is)
    (case fl_is_whole_from => k_is)
    (case fcc_is_whole_from => k_is)
    (case fq_is_whole_from => k_is)
    (case fa_is_tuple_of_two => k_is)
    (case fl_is_tuple_of_two => k_is)
    (case fcc_is_tuple_of_two => k_is)
    (case fq_is_tuple_of_two => k_is)
    (case fa_is_ascending => k_is)
    (case fl_is_ascending => k_is)
    (case fcc_is_ascending => k_is)
    (case fq_is_ascending => k_is)
    (case fa_is_graph => k_is)
    (case fl_is_graph => k_is)
    (case fcc_is_graph => k_is)
    (case fq_is_graph => k_is)
    (case fa_is_vertex_pair => k_is)
    (case fl_is_vertex_pair => k_is)
    (case fcc_is_vertex_pair => k_is)
    (case fq_is_vertex_pair => k_is)
    (case fa_check_graph => k_is)
    (case fl_check_graph => k_is)
    (case fcc_check_graph => k_is)
    (case fq_check_graph => k_is)
    (case fa_graph6 => k_is)
    (case fl_graph6 => k_is)
    (case fcc_graph6 => k_is)
    (case fq_graph6 => k_is)
    (case fa_from_graph6 => k_is)
    (case fl_from_graph6 => k_is)
    (case fcc_from_graph6 => k_is)
    (case fq_from_graph6 => k_is)
    (case fa__can_tell => k_is)
    (case fl__can_tell => k_is)
    (case fcc__can_tell => k_is)
    (case fq__can_tell => k_is)
    (case fa__signs_for => k_is)
    (case fl__signs_for => k_is)
    (case fcc__signs_for => k_is)
    (case fq__signs_for => k_is)
    (case fa__pairs_by_greater => k_is)
    (case fl__pairs_by_greater => k_is)
    (case fcc__pairs_by_greater => k_is)
    (case fq__pairs_by_greater => k_is)
    (case fa__law_well => k_is)
    (case fl__law_well => k_is)
    (case fcc__law_well => k_is)
    (case fq__law_well => k_is)
    (case fa__law_draw => k_is)
    (case fl__law_draw => k_is)
    (case fcc__law_draw => k_is)
    (case fq__law_draw => k_is)
    (case fa__law_pick => k_is)
    (case fl__law_pick => k_is)
    (case fcc__law_pick => k_is)
    (case fq__law_pick => k_is)
    (case fa__law_same => k_is)
    (case fl__law_same => k_is)
    (case fcc__law_same => k_is)
    (case fq__law_same => k_is)
    (case fa__law_of_pairs => k_is)
    (case fl__law_of_pairs => k_is)
    (case fcc__law_of_pairs => k_is)
    (case fq__law_of_pairs => k_is)
    (case fa__law_turned => k_is)
    (case fl__law_turned => k_is)
    (case fcc__law_turned => k_is)
    (case fq__law_turned => k_is)
    (case fa__law_round => k_is)
    (case fl__law_round => k_is)
    (case fcc__law_round => k_is)
    (case fq__law_round => k_is)
    (case fa__law_called => k_is)
    (case fl__law_called => k_is)
    (case fcc__law_called => k_is)
    (case fq__law_called => k_is)
    (case fa__law_order => k_is)
    (case fl__law_order => k_is)
    (case fcc__law_order => k_is)
    (case fq__law_order => k_is)
    (case fa__law_random => k_is)
    (case fl__law_random => k_is)
    (case fcc__law_random => k_is)
    (case fq__law_random => k_is)
    (case fa__law_sides => k_is)
    (case fl__law_sides => k_is)
    (case fcc__law_sides => k_is)
    (case fq__law_sides => k_is)
    (case fa__law_beside => k_is)
    (case fl__law_beside => k_is)
    (case fcc__law_beside => k_is)
    (case fq__law_beside => k_is)
    (case fa__law_folded => k_is)
    (case fl__law_folded => k_is)
    (case fcc__law_folded => k_is)
    (case fq__law_folded => k_is)
    (case fa__law_grown => k_is)
    (case fl__law_grown => k_is)
    (case fcc__law_grown => k_is)
    (case fq__law_grown => k_is)
    (case fa__law_graph => k_is)
    (case fl__law_graph => k_is)
    (case fcc__law_graph => k_is)
    (case fq__law_graph => k_is)
    (case fa__law_signs => k_is)
    (case fl__law_signs => k_is)
    (case fcc__law_signs => k_is)
    (case fq__law_signs => k_is)
    (case fa__law_bits => k_is)
    (case fl__law_bits => k_is)
    (case fcc__law_bits => k_is)
    (case fq__law_bits => k_is)
    (case fa__law_code => k_is)
    (case fl__law_code => k_is)
    (case fcc__law_code => k_is)
    (case fq__law_code => k_is)
    (case fa__law_read => k_is)
    (case fl__law_read => k_is)
    (case fcc__law_read => k_is)
    (case fq__law_read => k_is)
    (case fa__law_bent => k_is)
    (case fl__law_bent => k_is)
    (case fcc__law_bent => k_is)
    (case fq__law_bent => k_is)
    (case fa__law_told => k_is)
    (case fl__law_told => k_is)
    (case fcc__law_told => k_is)
    (case fq__law_told => k_is)
    (case fa__law_right => k_is)
    (case fl__law_right => k_is)
    (case fcc__law_right => k_is)
    (case fq__law_right => k_is)
    (case fa_law => k_is)
    (case fl_law => k_is)
    (case fcc_law => k_is)
    (case fq_law => k_is)
    (case gM => k_is)
    (case gB => k_is)
    (case gS => k_is)
    (case eS => decide +kernel)
    (case z_len => k_is)
    (case z_int => k_is)
    (case z_abs => k_is)
    (case z_divmod => k_is)
    (case z_repr => k_is)
    (case z_isinstance => k_is)
    (case z_range => k_is)
    (case z_all => k_is)
    (case z_max => k_is)
    (case z_min => k_is)
    (case z_list => k_is)
    (case z_tuple => k_is)
    (case z_sorted => k_is)
    (case z_set => k_is)
    (case z_type => k_is)
    (case z_str => k_is)
    (case z_enumerate => k_is)
    (case z_zip => k_is)
    (case b1 => kernel_rfl)
    (case b2 => kernel_rfl)
    (case b3 => kernel_rfl)
    (case b4 => kernel_rfl)
    (case b5 => kernel_rfl)
#print axioms PySem.Challenge.cw_perfectgraphs_k04_whole_graph6_by_own_bi_holds

