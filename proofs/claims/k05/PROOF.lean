import PyProof.Rows.All
import Wide.All
import OpenK.AllK
import Wide.FinOn
import HandS.ForMost
import HandS.ForExc
import HandS.ExcInit
import HandS.ExcValue
import HandS.IsInst
import KE.KExcIs
import HandS.ExcField
import HandS.TupSets
import HandS.Deep
import HandS.Conv
import HandS.Style
import KE.DatumOrd
import HandS.Walk
import HandS.Iter
import HandS.Text
import HandS.StrMore
import HandS.SortRule
import PyProof.StrLawsRepr
import HandS.TupAny
import HandS.Zip
import PyProof.Rows.BitMore
import HandS.Sort
import PyProof.ListRange
import HandS.NamedTupSort
import HandS.Strs
import PyProof.ListStr
import PyProof.CollectIter
import PyProof.Walks
import PyProof.WalksMore
import PyProof.TupleIter
import HandS.More
import HandS.Dict
import HandS.TupLe
import KE.KDictZip
import HandS.FStr
import HandS.ExcOwn
import PySem.Challenge.RW_perfectgraphs_k05_graphs_lots_complement
set_option Elab.async false
set_option linter.all false
set_option maxRecDepth 100000
set_option maxHeartbeats 2000000
/-! Defs that are asked where nothing is being displayed: repr of data, whatever it holds. -/
namespace My
open PySem PySem.Spec PyProof.Rows L2

/-- like FnOk, for calls outside of any display -/
structure FnG (P : Program) (w : World) (K : PySem.W.Frag) (mg : Str → Option Value) (base : Heap) (C : CXT) (n : Nat) (f : Addr) (fd : FuncData) (ps : List Str) (sp : Sp) : Prop where
  arity : ∀ xs H Q E, sp xs H Q E → xs.length = ps.length
  goes : ∀ (A : Around) (out : List Env) (s : Shared) (H : Hp) (args : Args) (us : List Value) (xs : List V) (Q : VK) (E : XK), A.guards = some [] → Room n A → Env0 P w K mg base A out s H →
    BindsTo s fd args (ps.zip us) → Vals xs us → sp xs H Q E → codeAny (model P w) A (.call (.ref f) args) (CR C out P w H s Q E) s
section
variable {P : Program} {w : World} {K : PySem.W.Frag} {mg : Str → Option Value} {base : Heap} {C : CXT} {n : Nat} {f : Addr} {fd : FuncData} {ps : List Str} {sp : Sp}
theorem FnG.of (F : FnOk P w K mg base C n f fd ps sp) : FnG P w K mg base C n f fd ps sp :=
  { arity := F.len, goes := fun A out s H args us xs Q E _ r e b v h => F.run A out s H args us xs Q E r e b v h }
end

section
variable {X : Cx} {C : CXT} {n : Nat} {f : Addr} {fd : FuncData} {ps : List Str} {sp : Sp} {E : XK} {nm : Str} {p pos : Pos} {a : Expr} {as : List Expr} {t : TA}
theorem FnG.call_at {pins : List (Addr × Obj)} {σ : L2.St} {H : Hp} {s : Shared} {Q : VK} {us : List Value} {xs : List V} (F : FnG X.prog X.w X.K X.mg X.base C n f fd ps sp) (gd : X.A.guards = some []) (r : Room n X.A) (b : Binds X.K fd ps []) (x : Passes C X E)
    (I : Inv X pins σ H s) (v : Vals xs us) (h : sp xs H Q E) : wpAny (model X.prog X.w) X.A (call (.ref f) us) (EP X pins σ Q) X.xe s := by
  have len : (us ++ []).length = ps.length := by
    rw [List.append_nil, ← v.length]
    exact F.arity _ _ _ _ h
  have bd := b s us I.kIn len
  rw [List.append_nil] at bd
  refine wpAny_call (codeAny_mono (F.goes X.A X.stack s H ⟨us, []⟩ us xs Q E gd r I.env0 bd v h) ?_)
  rintro (er | fl) s' hq
  · exact x pins σ H s er s' I hq
  · cases fl <;> first | exact hq.elim | exact I.after hq
/-- f(a, ..), f such a def -/
theorem pe_callG (F : FnG X.prog X.w X.K X.mg X.base C n f fd ps sp) (gd : X.A.guards = some []) (r : Room n X.A) (g : Gl X nm) (m : X.mg nm = some (.ref f)) (kp : PySem.W.keepIn X.K (.ref f) = true) (b : Binds X.K fd ps []) (x : Passes C X E)
    (ha : PA X (a :: as) t) (nd : (nm == ("__debug__" : Str)) = false := by decide) (st : starEach (a :: as) X.env = (false, eval a X.env) :: starEach as X.env := by rfl) (pl : (backTo pos (starEach as X.env)).any (·.1) = false := by rfl) :
    PE X (.Call (.Name nm p) (a :: as) [] pos) (tCall sp [] E t) := by
  constructor
  intro pins s σ H Q I h
  refine wpAny_Call_Name_kw (ld_glob I g m ?_ nd)
  refine PySem.W.callWith_K (h₀ := X.base) I.ok.mod.kin kp (thn (ha.run pos pins s σ H _ I h) ?_) st pl
  rintro us s1 ⟨xs, H1, I1, v, q⟩
  rw [List.append_nil] at q
  exact ⟨I1.kIn, F.call_at gd r b x I1 v q⟩
end

section
variable {P : Program} {w : World} {K : PySem.W.Frag} {mg : Str → Option Value} {base : Heap} {C : CXT} {n : Nat} {f : Addr} {ps N : List Str} {sp : Sp}
/-- such a def by its body -/
theorem fnG_of {name qual : Str} {pm : Arguments} {body : List Stmt} {sc : Scope} {dV kV doc md cdv ct oc : Value} {an od : Option Addr} {sl : Array (Option Value)}
    (lk : K.lookup f = some ⟨oc, od, .func (PySem.W.fnOf name qual pm body sc dV kV doc md an cdv ct), sl⟩) (cd : PySem.W.codeIn K cdv qual = true) (S : FnScope N ps sc) (ar : ∀ xs H Q E, sp xs H Q E → xs.length = ps.length)
    (hb : ∀ (A : Around) (out : List Env) (s : Shared) (H : Hp) (xs : List V) (Q : VK) (E : XK), A.guards = some [] → Room n (A.deeper (envOfC qual sc s.heap.objs.size f cdv)) → sp xs H Q E →
      ∃ t, PSs (cxOf C P w K mg base N qual sc f cdv A out s H E) body t ∧ t { nx := fun _ H' => Q .non H', rt := Q } (start N xs) H) :
    FnG P w K mg base C (n + 1) f (PySem.W.fnOf name qual pm body sc dV kV doc md an cdv ct) ps sp := by
  refine { arity := ar, goes := ?_ }
  intro A out s H args us xs Q E gd r e bd v h
  have all : K.In s.heap := e.mod.kin.keeps fun b o z => (e.bs b o z).1
  have nolim : s.heap.NoLimit := e.mod.nolimit.keeps fun b o z => (e.bs b o z).1
  have kinds : ∀ y ∈ ps.zip us, sc.names.lookup y.1 = some .local ∨ (sc.names.lookup y.1 = some .cell ∧ ((cellsFrom (s.heap.objs.size + 1) sc.names []).lookup y.1).isSome = true) := by
    rintro ⟨y, u⟩ hy
    exact (S.par y (List.of_mem_zip hy).1).imp id fun z => ⟨z, PySem.W.cellsFrom_some _ _ _ (.inl z)⟩
  refine codeAny_call_function r.depth (all _ _ lk) rfl S.co S.gen rfl (PySem.W.codeRec_of all cd) (bd _ _ _ _ (wpAny_newFunctionEnv_cells S.kind kinds ?_))
  intro env he s1 x
  cases he
  obtain ⟨t, ht, hq⟩ := hb A out s H xs Q E gd (r.deeper _) h
  refine ⟨nolim.keeps x.toInCall.keep, codeAny_func (wpAny_mono (ht.run [] s1 (start N xs) H _ (inv_start S r.hd e (ar _ _ _ _ h) v x) hq) ?_ fun _ _ z => z)⟩
  rintro fl s' hs
  cases fl with
  | ret u =>
    obtain ⟨y, σ', H', J, ry, q⟩ := hs
    exact ⟨y, H', J.os, J.bare, J.base, J.hok, ry, q⟩
  | next =>
    obtain ⟨σ', H', J, q⟩ := hs
    exact ⟨.non, H', J.os, J.bare, J.base, J.hok, rfl, q⟩
  | brk => exact hs.choose_spec.choose_spec.2.elim
  | cont => exact hs.choose_spec.choose_spec.2.elim
theorem okG {name qual : Str} {st : Stmt} {fd : FuncData} (F : L2.Fun K name qual st f fd) (S : FnScope N ps (defScope st)) (ar : ∀ xs H Q E, sp xs H Q E → xs.length = ps.length)
    (hb : ∀ (cdv : Value) (A : Around) (out : List Env) (s : Shared) (H : Hp) (xs : List V) (Q : VK) (E : XK), A.guards = some [] → Room n (A.deeper (envOfC qual (defScope st) s.heap.objs.size f cdv)) → sp xs H Q E →
      ∃ t, PSs (cxOf CX0 P w K mg base N qual (defScope st) f cdv A out s H E).nox (defBody st) t ∧ t { nx := fun _ H' => Q .non H', rt := Q } (start N xs) H) : FnG P w K mg base CX0 (n + 1) f fd ps sp := by
  obtain ⟨_, _, _, _, _, _, cdv, _, _, rfl, lk, cd⟩ := F.ex
  refine fnG_of lk cd S ar ?_
  intro A out s H xs Q E gd r h
  obtain ⟨t, ht, q⟩ := hb cdv A out s H xs Q E gd r h
  exact ⟨t, ht.nox, q⟩
end

/-! ### the end of a law's row -/
/-- the call of the law itself, over one abstract heap -/
theorem law_at {P : Program} {w : World} {K : PySem.W.Frag} {mg mb : Str → Option Value} {n : Nat} {fa a : Addr} {fd : FuncData} {x : Str} {sp : Sp} {s : Shared} {vs : List Value} {H : Hp}
    (KX : K.In s.heap) (hns : s.heap.Ns mainGlobals mg) (hb : s.heap.Ns builtinsNs mb) (hbb : ∀ x : Str, x ≠ "__name__" → mb x = bootBuiltins x) (lim : s.heap.NoLimit) (ng : s.gens = #[])
    (ha : s.heap.get? a = some { cls := .type "list", data := .seq vs.toArray }) (hr : Room n callerA)
    (F : ∀ base : Heap, K.In base → base.Ns mainGlobals mg → FnG P w K mg base CX0 n fa fd [x] sp) (bd : BindsTo s fd ⟨[.ref a], []⟩ [(x, .ref a)])
    (hsp : sp [.ref a] H (fun v _ => v = .bl true) E0) (hO : Only H) (hok : HOk P w H s.heap) (one : ∀ b, H b ≠ none → b = a) (apart : H a ≠ none → K.lookup a = none) :
    codeAny (model P w) callerA (.call (.ref fa) ⟨[.ref a], []⟩) (fun r s' => r = .ok (.ret (.bool true)) ∧ OldK s.heap s'.heap ∧ s'.os = s.os ∧ AllBare s'.gens) s := by
  have no : ∀ {b : Addr} {o : Obj}, s.heap.get? b = some o → (∀ its m, o.data ≠ .seq its m) → H b = none := by
    intro b o e d
    refine Classical.byContradiction fun z => ?_
    cases one b z
    rw [ha] at e
    cases e
    exact d _ _ rfl
  have keep : ∀ {b : Addr} {m : Str → Option Value}, s.heap.Ns b m → (hidT s.heap H).Ns b m := by
    rintro b m ⟨o, es, ep, e, d, r⟩
    exact ⟨o, es, ep, hidT_get e (no e fun its m z => by rw [d] at z; cases z), d, r⟩
  have inb : K.In (hidT s.heap H) := by
    intro b o e
    refine hidT_get (KX b o e) (Classical.byContradiction fun z => ?_)
    have eb := one b z
    rw [eb] at z e
    rw [apart z] at e
    cases e
  obtain ⟨mc, l1, l2⟩ := lim
  have M : Mod K mg (hidT s.heap H) := ⟨inb, keep hns, ⟨mb, keep hb, hbb⟩, ⟨mc, keep l1, l2⟩⟩
  have e0 : Env0 P w K mg (hidT s.heap H) callerA [] s H :=
    { frames := rfl, mod := M, bs := fun b o e => of_hidT e, bsz := Nat.le_of_eq (hidT_size _ _), funs := trivial, frf := fun b z => absurd (show b ∈ ([] : List Addr) from z) List.not_mem_nil, hok := hok, bare := .of_eq ng }
  refine codeAny_mono ((F _ inb (keep hns)).goes callerA [] s H ⟨[.ref a], []⟩ [.ref a] [.ref a] _ _ rfl hr e0 bd (.cons rfl .nil) hsp) ?_
  rintro (er | fl) s' h
  · exact False.elim h
  · cases fl with
    | ret u =>
      obtain ⟨v, H', os, bare, un, hok', rv, q⟩ := h
      cases (show v = .bl true from q)
      cases (show u = Value.bool true from rv)
      refine ⟨rfl, OldK.of_keep ?_, os, bare⟩
      intro b o e
      rcases hO b with z | ⟨ob, xs, z⟩
      · exact un.keep b o e z (fun y => absurd (show b ∈ ([] : List Addr) from y) List.not_mem_nil) List.not_mem_nil
      · have i1 := (hok b _ z).1
        rw [e] at i1
        rw [i1]
        exact (hok' b _ (un.frzs b ob _ z)).1
    | next => exact False.elim h
    | brk => exact False.elim h
    | cont => exact False.elim h
theorem walkG {l : PySem.W.OpenLaw} {m n : Nat} {q : Program} {loose : List Str} {XP : (Str → Option Value) → Heap → Prop} {YP : World → Heap → Prop} {d : DefRec} {K : Params → PySem.W.Frag} {sp : PySem.W.Frag → Sp} {x : Str}
    (hm : l.most = some m) (hm2 : m ≤ sizeLine) (hdf : d.params.defaults = []) (hr : Room n callerA) (hY : ∀ (w : World) (h : Heap), YP w h → (K w.params).In h)
    (F : ∀ (w : World) (mg : Str → Option Value) (fa : Addr) (h : Heap), (K w.params).In h → h.Ns mainGlobals mg → mg d.name = some (.ref fa) →
      ∃ fd : FuncData, (∀ (s : Shared) (u : Value), BindsTo s fd ⟨[u], []⟩ [(x, u)]) ∧
        ∀ base : Heap, (K w.params).In base → base.Ns mainGlobals mg → FnG l.prog w (K w.params) mg base CX0 n fa fd [x] (sp (K w.params)))
    (hsp : ∀ (K : PySem.W.Frag) (H : Hp) (a : Addr) (ns : List Int), ns.length ≤ m → Only H → SqL K H a (ns.map V.int) → sp K [.ref a] H (fun v _ => v = .bl true) E0) :
    PySem.W.WalkO q loose XP YP l.row.toRowW d [] (fun f vs => PySem.call f vs) := by
  refine Att.attach_call hm hdf ?_
  intro w s₀ s mg mb fa o pm cd doc a vs ns G Y ho hd hcd hmg hobj hints hlen hg
  have KX := hY w _ Y
  obtain ⟨fd, hb, hF⟩ := F w mg fa _ KX G.T.g hmg
  have rv := vals_ints hints
  have hl : (ns.map V.int).length ≤ sizeLine := by
    rw [List.length_map]
    exact Nat.le_trans hlen hm2
  cases hk : (K w.params).lookup a with
  | some ob =>
    have e := KX a ob hk
    rw [hobj] at e
    cases e
    refine law_at KX G.T.g G.T.b G.T.builtins G.T.nolimit hg hobj hr hF (hb s _) (H := fun _ => none) (hsp _ _ a ns hlen (fun _ => .inl rfl) (.inr ?_)) (fun _ => .inl rfl) (fun b u z => nomatch (show (none : Option HO) = some u from z)) (fun b z => absurd rfl z) fun z => absurd rfl z
    exact ⟨_, vs.toArray, _, hk, rfl, rfl, rfl, by rw [List.size_toArray, ← rv.length]; exact hl, by simpa using rv⟩
  | none =>
    let T : HO := .frz { cls := .type "list", data := .seq vs.toArray } (.lst (ns.map V.int))
    let H0 : Hp := fun _ => none
    have at_a : upd H0 a T a = some T := upd_same
    have off : ∀ b, b ≠ a → upd H0 a T b = none := fun b z => upd_ne z
    refine law_at KX G.T.g G.T.b G.T.builtins G.T.nolimit hg hobj hr hF (hb s _) (H := upd H0 a T) (hsp _ _ a ns hlen ?_ (.inl (.inr ⟨_, at_a⟩))) ?_ ?_ ?_ fun _ => hk
    · intro b
      by_cases z : b = a
      · cases z
        exact .inr ⟨_, _, at_a⟩
      · exact .inl (off b z)
    · intro b
      by_cases z : b = a
      · cases z
        exact .inr ⟨_, _, at_a⟩
      · exact .inl (off b z)
    · intro b u e
      by_cases z : b = a
      · cases z
        cases at_a.symm.trans e
        exact ⟨hobj, hl, vs, _, rv, hobj⟩
      · rw [off b z] at e
        cases e
    · intro b z
      exact Classical.byContradiction fun y => z (off b y)
end My

set_option maxHeartbeats 2000000
/-! repr of data: flat things, lists, tuples at any depth, and dicts of flat things. -/
namespace My
open PySem PySem.Spec PyProof.Rows L2

def flatD : V → Option PyData
  | .non => some .none
  | .bl b => some (.bool b)
  | .int i => some (.int i)
  | .str x => some (.str x)
  | _ => none
def keyD : Key → PyData
  | .inl i => .int i
  | .inr x => .str x
/-- the value v is the datum d -/
inductive Dd (K : PySem.W.Frag) (H : Hp) : V → PyData → Prop
  | dat {v : V} {d : PyData} : Dp K H v d → d.hasDict = false → Dd K H v d
  | dct {a : Addr} {kvs : List (Key × V)} {ds : List PyData} : H a = some (.dK kvs) → kvs.map (fun p => flatD p.2) = ds.map some → Dd K H (.ref a) (.dict ((kvs.map fun p => keyD p.1).zip ds))
theorem flat_reads {h : Heap} {v : V} {u : Value} {d : PyData} (e : flatD v = some d) (r : RelV v u) : Reads h u d [] := by
  cases v with
  | non => cases e; cases (show u = Value.none from r); exact .none
  | bl b => cases e; cases (show u = Value.bool b from r); exact .bool b
  | int i => cases e; obtain ⟨t, rfl⟩ := (show ∃ t, u = Value.int i t from r); exact .int i t
  | str x => cases e; obtain ⟨t, rfl⟩ := (show ∃ t, u = Value.str x t from r); exact .str x t
  | byt b => cases e
  | flt b => cases e
  | ref a => cases e
  | ty n => cases e
theorem key_reads {h : Heap} {k : Key} {u : Value} (e : keyIs k u = true) : Reads h u (keyD k) [] := by
  rcases keyIs_shape e with ⟨i, t, rfl, rfl⟩ | ⟨x, t, rfl, rfl⟩
  · exact .int i t
  · exact .str x t
theorem pairs_reads {P : Program} {w : World} {h : Heap} : ∀ {kvs : List (Key × V)} {vs : List (Key × Value)} {es : List DictEntry} {ds : List PyData}, KV kvs vs → Pairs (mixKind P w) es vs → kvs.map (fun p => flatD p.2) = ds.map some →
    ReadsAll h (es.map (·.key)) (((kvs.map fun p => keyD p.1).zip ds).map (·.1)) [] ∧ ReadsAll h (es.map (·.val)) (((kvs.map fun p => keyD p.1).zip ds).map (·.2)) []
  | [], _, _, [], .nil, .nil, _ => ⟨.nil, .nil⟩
  | [], _, _, _ :: _, _, _, e => by cases e
  | _ :: _, _, _, [], _, _, e => by cases e
  | p :: kvs, _, _, d :: ds, .cons r rs, .cons k v ps, e => by
    obtain ⟨e1, e2⟩ := List.cons.inj e
    obtain ⟨i1, i2⟩ := pairs_reads (h := h) rs ps e2
    rw [← r.1] at k
    rw [← v] at r
    exact ⟨ReadsAll.cons (as := []) (bs := []) (key_reads k) i1, ReadsAll.cons (as := []) (bs := []) (flat_reads e1 r.2) i2⟩
section
variable {X : Cx} {pins : List (Addr × Obj)} {σ : L2.St} {H : Hp} {s : Shared}
theorem Dd.reads (I : Inv X pins σ H s) {v : V} {u : Value} {d : PyData} (h : Dd X.K H v d) (r : RelV v u) : ∃ as, Reads s.heap u d as ∧ (d.hasDict = true → sysModules ∉ as) := by
  cases h with
  | dat hd n =>
    obtain ⟨as, q⟩ := Dp.reads I d v u hd r
    exact ⟨as, q, fun z => by rw [n] at z; cases z⟩
  | @dct a kvs ds ha e =>
    cases (show u = Value.ref a from r)
    obtain ⟨_, ns, vs, kv, o, es, ep, ho, ex, hd, _, ps, _⟩ := (show ObjOk X.prog X.w H s.heap a (.dK kvs) from I.hok a _ ha)
    obtain ⟨q1, q2⟩ := pairs_reads (h := s.heap) kv ps e
    refine ⟨_, Reads.dict (as := []) (bs := []) ho ex.1 hd q1 q2, fun _ z => ?_⟩
    have z' : sysModules = a := by simpa using z
    rw [z'] at ns
    simp at ns
/-- repr(v), v a datum -/
def rRepr (K : PySem.W.Frag) : List V → Hp → VK → Prop := fun xs H Q => ∃ v d, xs = [v] ∧ Dd K H v d ∧ d.showable = true ∧ d.depth ≤ 60 ∧ d.shown.length ≤ sizeLine ∧ Q (.str d.shown) H
theorem call_repr (gd : X.A.guards = some []) (hu : X.A.units + 64 < cLine) : CallR X (.builtin "repr") (rRepr X.K) := by
  rintro pins s σ H xs us Q I r ⟨v, d, rfl, hd, sh, dp, sz, q⟩
  obtain ⟨u, rfl, ru⟩ := vals1 r
  obtain ⟨as, rd, ns⟩ := hd.reads I ru
  cases rd with
  | none =>
    refine PySem.P.repr_of_none ⟨.str "None", H, I.tok _, ⟨_, rfl⟩, ?_⟩
    simpa only [PyData.shown] using q
  | bool b =>
    refine PySem.P.repr_of_bool ⟨.str (if b then "True" else "False"), H, I.tok _, ⟨_, rfl⟩, ?_⟩
    simpa only [PyData.shown] using q
  | int i t =>
    refine PySem.P.repr_of_int (by simpa [PyData.showable] using sh) ⟨.str (toString i), H, I.tok _, ⟨_, rfl⟩, ?_⟩
    simpa only [PyData.shown] using q
  | str x t =>
    refine PySem.P.repr_of_str ⟨.str (reprText x), H, I.tok _, ⟨_, rfl⟩, ?_⟩ (by simpa only [PyData.shown] using sz)
    simpa only [PyData.shown] using q
  | list h1 h2 h3 h4 => exact repr_of_reads' (.list h1 h2 h3 h4) sh ns gd (by omega) (fun _ _ e => e) (fun h1 u tk hk => ⟨.str _, H, I.kept hk, ⟨u, rfl⟩, q⟩) sz
  | tuple h1 h2 h3 h4 => exact repr_of_reads' (.tuple h1 h2 h3 h4) sh ns gd (by omega) (fun _ _ e => e) (fun h1 u tk hk => ⟨.str _, H, I.kept hk, ⟨u, rfl⟩, q⟩) sz
  | dict h1 h2 h3 h4 h5 => exact repr_of_reads' (.dict h1 h2 h3 h4 h5) sh ns gd (by omega) (fun _ _ e => e) (fun h1 u tk hk => ⟨.str _, H, I.kept hk, ⟨u, rfl⟩, q⟩) sz
end
theorem Same.tup {K : PySem.W.Frag} {H H' : Hp} {a : Addr} {xs : List V} (e : Same H H') (h : SqT K H a xs) : SqT K H' a xs := by
  rcases h with (h | ⟨o, h⟩) | h
  · exact .inl (.inl (e _ _ h))
  · exact .inl (.inr ⟨o, e _ _ h⟩)
  · exact .inr h
mutual
theorem Dp.same {K : PySem.W.Frag} {H H' : Hp} (e : Same H H') : ∀ (d : PyData) (v : V), Dp K H v d → Dp K H' v d
  | .none, _, h => by cases h; exact .non
  | .bool _, _, h => by cases h; exact .bl _
  | .int _, _, h => by cases h; exact .int _
  | .str _, _, h => by cases h; exact .str _
  | .list ds, _, h => by
    cases h with
    | lst s a => exact .lst (L2.Same.seq e s) (DpAll.same e ds _ a)
  | .tuple ds, _, h => by
    cases h with
    | tup s a => exact .tup (Same.tup e s) (DpAll.same e ds _ a)
  | .dict _, _, h => by cases h
theorem DpAll.same {K : PySem.W.Frag} {H H' : Hp} (e : Same H H') : ∀ (ds : List PyData) (vs : List V), DpAll K H vs ds → DpAll K H' vs ds
  | [], _, h => by cases h; exact .nil
  | d :: ds, _, h => by
    cases h with
    | cons a b => exact .cons (Dp.same e d _ a) (DpAll.same e ds _ b)
end
theorem Dd.same {K : PySem.W.Frag} {H H' : Hp} (e : Same H H') {v : V} {d : PyData} (h : Dd K H v d) : Dd K H' v d := by
  cases h with
  | dat a n => exact .dat (Dp.same e _ _ a) n
  | dct a n => exact .dct (e _ _ a) n
end My

set_option maxHeartbeats 4000000
/-! Exceptions of own classes over ValueError as values: made by position and by name, their fields, isinstance. -/
namespace MyX
open PySem PySem.W PySem.Calls PyProof.Rows PySem.HandSPX
open Builtin Builtin.ObjectAttr
section
variable {M : Model} {prog : Program} {w : World} {A : Around} {E : Value → Shared → Prop} {R : Result → Shared → Prop} {h : Heap} {g : Array GenState} {d : Drawn} {t : Nat} {os : OsState}
variable {nm q : Str} {C N : Addr} {bs bm bmB : List Value} {hdct : Bool} {sn : List Str} {sub : List Value} {ab : Bool} {col : Option Bool} {dd : Option Addr} {k0 k1 k2 k3 k5 : Option Value} {B newId initId : String} {key : Str} {val : Value}
theorem check_type_kw {Q : Unit → Shared → Prop} (hC : h.get? C = some (excClassObj nm q C N bs bm hdct sn sub ab col dd k0 k1 k2 k3 k5 newId)) (z : Q () ⟨h, g, d, t, os⟩) :
    wpAny M A (checkBuiltinCall "type.__call__" ⟨[.ref C], [(key, val)]⟩) Q E ⟨h, g, d, t, os⟩ := by
  have e3 := tc_sub
  have ty : (⟨h, g, d, t, os⟩ : Shared).TypeIs (.ref C) "type" := ⟨_, hC, rfl⟩
  simp only [checkBuiltinCall, tc_kind, tc_split]
  repeat (any_goals (first
    | assumption
    | with_reducible refine wpAny_loadPart_at hC ?_
    | with_reducible refine wpAny_onRaise ?_
    | with_reducible refine wpAny_map ?_
    | wp_step))
theorem check_new_kw (F : ExcBaseFacts B newId initId bmB) (hT : ∀ X : String, bm.contains (.type X) = bmB.contains (.type X)) {Q : Unit → Shared → Prop}
    (hC : h.get? C = some (excClassObj nm q C N bs bm hdct sn sub ab col dd k0 k1 k2 k3 k5 newId)) (z : Q () ⟨h, g, d, t, os⟩) : wpAny M A (checkBuiltinCall newId ⟨[.ref C], [(key, val)]⟩) Q E ⟨h, g, d, t, os⟩ := by
  have hc : (Value.ref C :: bm).contains (.type B) = true := by rw [List.contains_cons, hT, F.hasB, Bool.or_true]
  have ns := F.noStar
  simp only [checkBuiltinCall, F.newKind, F.newSplit, F.newRow]
  repeat (first
    | refine wpAny_loadPart_at hC ?_
    | (refine wpAny_isSubtype_exc hC ?_; rw [hc])
    | refine wpAny_staticBase_exc hC ?_
    | refine wpAny_madeBy_exc hC ?_
    | simp only [bne_self_eq_false, Bool.false_eq_true, if_false]
    | wp_step)
  exact z
theorem new_kw (F : ExcBaseFacts B newId initId bmB) (hT : ∀ X : String, bm.contains (.type X) = bmB.contains (.type X))
    (hC : h.get? C = some (excClassObj nm q C N bs bm hdct sn sub ab col dd k0 k1 k2 k3 k5 newId))
    (z : R (.ok (.ret (.ref (h.objs.size + 1)))) ⟨(h.push (kdv_tup [])).push (excO C h.objs.size), g, d, t, os⟩) :
    codeAny (model prog w) A (.builtin newId ⟨[.ref C], [(key, val)]⟩) R ⟨h, g, d, t, os⟩ := by
  have he := F.ends
  have c1 : (Value.ref C :: bm).contains (.type B) = true := by rw [List.contains_cons, hT, F.hasB, Bool.or_true]
  have c2 : (Value.ref C :: bm).contains (.type "AttributeError") = false := by
    rw [List.contains_cons, hT, F.noAttr]
    rfl
  have c3 : (Value.ref C :: bm).contains (.type "NameError") = false := by
    rw [List.contains_cons, hT, F.noName]
    rfl
  refine codeAny_builtinAt F.entry ?_
  unfold Builtin.«BaseException.__new__»
  refine PySem.wpAt_bind ?_
  show PySem.wpAt _ _ _ (stack >>= _) _ _ _
  refine PySem.wpAt_bind (PySem.wpAt_stack fun p below => PySem.wpAt_of_wpAny ?_)
  wp_walk
  refine PySem.wpAt_of_wpAny ?_
  rw [F.owner]
  repeat (first
    | with_reducible refine wpAny_madeHere_exc F.canon hC ?_
    | with_reducible refine wpAny_loadPart_at hC ?_
    | (with_reducible refine wpAny_isSubtype_exc hC ?_; first | rw [c1] | rw [c2] | rw [c3])
    | wp_step)
  show R _ _
  rw [Heap.size_push]
  exact z
theorem type_call_kw (F : ExcBaseFacts B newId initId bmB) (hT : ∀ X : String, bm.contains (.type X) = bmB.contains (.type X)) {fI : Addr} {Q : Fin → Shared → Prop}
    (hC : h.get? C = some (excClassObj nm q C N bs bm hdct sn sub ab col dd k0 k1 k2 k3 k5 newId))
    (hi : Looks (model prog w) h (typeLookup (.ref C) "__init__") (some (.ref fI))) (hb : ∀ self, Looks (model prog w) h (bindSpecial (.ref fI) self) (.ref fI, [self]))
    (z : codeAny (model prog w) A (.call (.ref fI) ⟨[.ref (h.objs.size + 1)], [(key, val)]⟩)
      (fun r s' => match r with | .ok (.ret v) => v = .none ∧ Q (.done (.ret (.ref (h.objs.size + 1)))) s' | .ok _ => False | .error e => E e s')
      ⟨(h.push (kdv_tup [])).push (excO C h.objs.size), g, d, t, os⟩) :
    wpAny (model prog w) A (Builtin.«type.__call__» ⟨[.ref C], [(key, val)]⟩) Q E ⟨h, g, d, t, os⟩ := by
  repeat (first
    | with_reducible refine wpAny_loadPart_at hC ?_
    | with_reducible refine wpAny_madeBy_exc hC ?_
    | wp_step)
  refine codeAny_call_builtin_code (Code.quiet_builtin _ F.quiet) (check_new_kw F hT hC ?_)
  refine new_kw F hT hC ?_
  show wpAny _ _ _ _ _ _
  have k : ∀ b o, h.get? b = some o → ((h.push (kdv_tup [])).push (excO C h.objs.size)).get? b = some o := fun b o e => Heap.get?_push_of_some _ (Heap.get?_push_of_some _ e)
  have hC2 := k _ _ hC
  have at1 : ((h.push (kdv_tup [])).push (excO C h.objs.size)).get? (h.objs.size + 1) = some (excO C h.objs.size) := by heap_get
  have cc : (Value.ref C :: bm).contains (.ref C) = true := by simp
  have i1 := hi.keeps k
  have b1 := (hb (.ref (h.objs.size + 1))).keeps k
  unfold isInstance
  repeat (first
    | with_reducible refine wpAny_loadPart_at at1 ?_
    | (with_reducible refine wpAny_isSubtype_exc hC2 ?_; rw [cc])
    | wp_step)
  show wpAny _ _ (typeLookup (.ref C) _) _ _ _
  refine i1.at ?_
  refine wpAny_holding (wpAny_bind (b1.at ?_))
  refine wpAny_bind (wpAny_call (codeAny_mono z ?_))
  rintro (e | (v | _ | _ | _)) s' y <;> first | exact y | exact y.elim | skip
  all_goals first
    | (obtain ⟨rfl, y⟩ := y; first | exact wpAny_pure (wpAny_pure y) | (wp_walk; exact y))
    | exact y
theorem call_kw (F : ExcBaseFacts B newId initId bmB) (hT : ∀ X : String, bm.contains (.type X) = bmB.contains (.type X)) {fI : Addr}
    (hC : h.get? C = some (excClassObj nm q C N bs bm hdct sn sub ab col dd k0 k1 k2 k3 k5 newId))
    (hi : Looks (model prog w) h (typeLookup (.ref C) "__init__") (some (.ref fI))) (hb : ∀ self, Looks (model prog w) h (bindSpecial (.ref fI) self) (.ref fI, [self]))
    (z : codeAny (model prog w) (A.under (.builtin "type.__call__" ⟨[.ref C], [(key, val)]⟩)) (.call (.ref fI) ⟨[.ref (h.objs.size + 1)], [(key, val)]⟩) (InitBack (h.objs.size + 1) R)
      ⟨(h.push (kdv_tup [])).push (excO C h.objs.size), g, d, t, os⟩) :
    codeAny (model prog w) A (.call (.ref C) ⟨[], [(key, val)]⟩) R ⟨h, g, d, t, os⟩ := by
  have e1 := tc_lookup
  have e2 := tc_bind (.ref C)
  have ty : (⟨h, g, d, t, os⟩ : Shared).TypeIs (.ref C) "type" := ⟨_, hC, rfl⟩
  refine codeAny_of_tree ?_
  show wpAny _ _ (callAny (.ref C) _) _ _ _
  repeat (any_goals (first
    | assumption
    | with_reducible refine wpAny_loadPart_at hC ?_
    | wp_step))
  refine ⟨rfl, ?_⟩
  refine codeAny_call_builtin_at (Code.quiet_builtin _ (by decide +kernel)) entry_typeCall (check_type_kw hC (type_call_kw F hT hC hi hb ?_))
  refine codeAny_mono z ?_
  rintro (e | (v | _ | _ | _)) s' y <;> exact y
end
end MyX

set_option maxHeartbeats 4000000
/-! The layer's rules for exceptions as values. -/
namespace My
open PySem PySem.Spec PyProof.Rows L2

/-- an exception's own __init__: one field -/
def spInit (C : Addr) (fld : Str) : Sp := fun xs H Q _ => ∃ (a : Addr) (v : V), xs = [.ref a, v] ∧ H a = some (exo a C none) ∧
  ∀ d, H d = none → d ≠ a → Q .non (upd (upd H d (exd d [(fld, v)])) a (exo a C (some d)))
/-- what the class at C, its __init__ at fI must be -/
structure XCls (K : PySem.W.Frag) (C fI : Addr) (fld : Str) : Prop where
  ox : OexC K C
  iC : PySem.W.findIn K (.ref C) "__init__" = some (some (.ref fI))
  tI : PySem.W.typeIn K (.ref fI) = some (.type "function")
  xf : XfC K C
  no : PySem.W.findIn K (.ref C) fld = some none
/-- a new exception of the class at C, its dict with the one field -/
def NewX (C : Addr) (fld : Str) (v : V) (H : Hp) (Q : VK) : Prop := ∀ a d, H a = none → H d = none → d ≠ a → Q (.ref a) (upd (upd (upd H a (exo a C none)) d (exd d [(fld, v)])) a (exo a C (some d)))
def tMkX (C : Addr) (fld : Str) (ta : TA) : TE := fun σ H Q => ta σ H fun vs H1 => ∃ v, vs = [v] ∧ NewX C fld v H1 Q
section
variable {X : Cx} {nm : Str} {C fI : Addr} {k : Nat} {fd : FuncData} {fld : Str} {e : Expr} {te : TE} {ta : TA} {p pos kpos : Pos} {pins : List (Addr × Obj)} {σ : L2.St} {H : Hp}
theorem mkx_start {hp : Heap} {g : Array GenState} {dr : Drawn} {tk : Nat} {os : OsState} {us : List Value} {v : V} {Q : VK} (I : Inv X pins σ H ⟨hp, g, dr, tk, os⟩) (q : NewX C fld v H Q) :
    Inv X pins σ (upd H (hp.objs.size + 1) (exo (hp.objs.size + 1) C none)) ⟨(hp.push (PySem.W.kdv_tup us)).push (PySem.HandSPX.excO C hp.objs.size), g, dr, tk, os⟩ ∧
    spInit C fld [.ref (hp.objs.size + 1), v] (upd H (hp.objs.size + 1) (exo (hp.objs.size + 1) C none)) (fun r H2 => r = .non ∧ Q (.ref (hp.objs.size + 1)) H2) E0 := by
  have big : hp.objs.size ≤ hp.objs.size + 1 := Nat.le_succ _
  have none1 : H (hp.objs.size + 1) = none := I.hok.fresh big
  have here : ((hp.push (PySem.W.kdv_tup us)).push (PySem.HandSPX.excO C hp.objs.size)).get? (hp.objs.size + 1) = some (PySem.HandSPX.excO C hp.objs.size) := by heap_get
  refine ⟨I.laid (fun b o e => Heap.get?_push_of_some _ (Heap.get?_push_of_some _ e)) big (exo_ok here), _, v, rfl, upd_same, ?_⟩
  intro d hd hne
  rw [upd_ne hne] at hd
  exact ⟨rfl, q _ d none1 hd hne⟩
/-- behind __init__ -/
theorem mkx_end {s : Shared} {n : Addr} {Q : VK} (I : Inv X pins σ H s) {r : Result} {s' : Shared} (h : CR CX0 X.stack X.prog X.w H s (fun r H2 => r = .non ∧ Q (.ref n) H2) E0 r s') :
    PySem.W.InitBack n (fun r s' => match r with | .ok (.ret v) => EP X pins σ Q v s' | .ok _ => False | .error e => X.xe e s') r s' := by
  rcases r with er | fl
  · exact False.elim h
  · cases fl with
    | ret u =>
      obtain ⟨v, H', J, rv, ev, q⟩ := I.after h
      subst ev
      exact ⟨rv, .ref n, H', J, rfl, q⟩
    | next => exact False.elim h
    | brk => exact False.elim h
    | cont => exact False.elim h
theorem pe_mkX (T : XCls X.K C fI fld) (G : FnOk X.prog X.w X.K X.mg X.base CX0 k fI fd ["self", fld] (spInit C fld)) (hr : Room (k + 1) X.A) (hb : Binds X.K fd ["self", fld] []) (hg : Gl X nm) (hm : X.mg nm = some (.ref C)) (ha : PA X [e] ta)
    (hdb : (nm == ("__debug__" : Str)) = false := by decide) (hs : starEach [e] X.env = (false, eval e X.env) :: starEach [] X.env := by rfl) (hpl : (backTo pos (starEach [] X.env)).any (·.1) = false := by rfl) :
    PE X (.Call (.Name nm p) [e] [] pos) (tMkX C fld ta) := by
  refine ⟨?_⟩
  intro pins s σ H Q I h
  obtain ⟨cn, q, N, bs, bm, sn, sub, ab, col, dd, k0, k1, k2, k3, k5, hC, hbm⟩ := T.ox.cls
  refine wpAny_Call_Name_kw (ld_glob I hg hm ?_ hdb)
  refine PySem.W.callWith_K (h₀ := X.base) I.ok.mod.kin T.ox.kC (thn (ha.run pos pins s σ H _ I h) ?_) hs hpl
  rintro us s1 ⟨vs, H1, I1, r, v, rfl, q1⟩
  refine ⟨I1.kIn, ?_⟩
  obtain ⟨u, rfl, ru⟩ := vals1 r
  obtain ⟨hp, g, dr, tk, os⟩ := s1
  obtain ⟨I2, h2⟩ := mkx_start (us := [u]) I1 q1
  show wpAny _ _ (call (.ref C) [u]) _ _ _
  have bd := hb _ [.ref (hp.objs.size + 1), u] I2.kIn rfl
  refine wpAny_call (PySem.HandSPX.call_own PySem.F.excBase_ValueError (fun Y => PySem.HandSPX.refsVE_contains Y bm hbm) (I1.kIn _ _ hC) (PySem.W.looks_findIn I1.kIn T.iC) (fun self => PySem.W.bind_fn I1.kIn self T.tI) (by show 1 ≤ sizeLine; decide) ?_)
  refine codeAny_mono (G.run _ X.stack _ _ ⟨[.ref (hp.objs.size + 1), u], []⟩ [.ref (hp.objs.size + 1), u] [.ref (hp.objs.size + 1), v] _ E0 (hr.make C [u] []) (I2.env0.make C [u] []) bd (.cons rfl (.cons ru .nil)) h2) ?_
  intro r s' hq
  exact mkx_end I2 hq
/-- the same by the field's name -/
theorem pe_mkXK {tk : TA} (T : XCls X.K C fI fld) (G : FnOk X.prog X.w X.K X.mg X.base CX0 k fI fd ["self", fld] (spInit C fld)) (hr : Room (k + 1) X.A) (hb : ∀ (s : Shared) (a u : Value), BindsTo s fd ⟨[a], [(fld, u)]⟩ ([("self" : Str), fld].zip [a, u])) (hg : Gl X nm) (hm : X.mg nm = some (.ref C))
    {kws : List Keyword} (hk : PK X kws tk) (hall : (backToKw pos (keywordEach kws X.env)).all (·.1.isSome) = true := by rfl) (hks : (backToKw pos (keywordEach kws X.env)).filterMap (·.1) = [fld] := by rfl)
    (hdb : (nm == ("__debug__" : Str)) = false := by decide) (hpl : ((backTo pos (starEach [] X.env)).any (·.1) || (backToKw pos (keywordEach kws X.env)).any (·.1.isNone)) = false := by rfl) :
    PE X (.Call (.Name nm p) [] kws pos) (tMkX C fld tk) := by
  refine ⟨?_⟩
  intro pins s σ H Q I h
  obtain ⟨cn, q, N, bs, bm, sn, sub, ab, col, dd, k0, k1, k2, k3, k5, hC, hbm⟩ := T.ox.cls
  refine wpAny_Call_Name_kw (ld_glob I hg hm ?_ hdb)
  refine PySem.W.callWith_KW0 (h₀ := X.base) I.ok.mod.kin T.ox.kC hall (thn (hk.run pos pins s σ H _ I h) ?_) hpl
  rintro us s1 ⟨vs, H1, I1, r, v, rfl, q1⟩
  refine ⟨I1.kIn, ?_⟩
  obtain ⟨u, rfl, ru⟩ := vals1 r
  rw [hks]
  obtain ⟨hp, g, dr, tk, os⟩ := s1
  obtain ⟨I2, h2⟩ := mkx_start (us := []) I1 q1
  show wpAny _ _ (call (.ref C) [] [(fld, u)]) _ _ _
  refine wpAny_call (MyX.call_kw PySem.F.excBase_ValueError (fun Y => PySem.HandSPX.refsVE_contains Y bm hbm) (I1.kIn _ _ hC) (PySem.W.looks_findIn I1.kIn T.iC) (fun self => PySem.W.bind_fn I1.kIn self T.tI) ?_)
  refine codeAny_mono (G.run _ X.stack _ _ ⟨[.ref (hp.objs.size + 1)], [(fld, u)]⟩ [.ref (hp.objs.size + 1), u] [.ref (hp.objs.size + 1), v] _ E0 (hr.make C [] [(fld, u)]) (I2.env0.make C [] [(fld, u)]) (hb _ _ _) (.cons rfl (.cons ru .nil)) h2) ?_
  intro r s' hq
  exact mkx_end I2 hq
/-- C(), an own exception class without an __init__ -/
theorem pe_mkX0 {bmB : List Value} {B newId initId : String} (F : ExcBaseFacts B newId initId bmB) (q : PySem.W.excIn X.K C bmB newId = true) (gC : X.mg nm = some (.ref C)) (kC : PySem.W.keepIn X.K (.ref C) = true) (hg : Gl X nm) (hdb : (nm == ("__debug__" : Str)) = false := by decide) :
    PE X (.Call (.Name nm p) [] [] pos) (fun _ H Q => ∀ a, H a = none → Q (.ref a) (upd H a (ExO (.ref C) a))) := by
  refine ⟨?_⟩
  intro pins s σ H Q I h
  refine wpAny_Call_Name_kw (ld_glob I hg gC ?_ hdb)
  refine PySem.W.callWith_K0 I.kIn kC ?_
  show wpAny _ _ (call (.ref C) []) _ _ _
  obtain ⟨bm, N, nm, qn, bs, hdct, sn, sub, ab, col, dd, k0, k1, k2, k3, k5, mN, hC, hN, hni, T⟩ := exc_obj I.kIn q
  refine wpAny_call_exc_subT F T hC hN hni ?_ (by show 0 ≤ sizeLine; decide)
  intro h' a hm
  have hn : H a = none := I.hok.gone hm.new
  obtain ⟨t, ht, _, _⟩ := hm.there
  exact ⟨.ref a, _, I.laidN hm.keeps hm.new hn (exO_ok ht ⟨rfl, rfl⟩ rfl rfl rfl (show 4 < 6 by decide)), rfl, h a hn⟩

/-- e.f, e such an exception -/
def tXget (K : PySem.W.Frag) (f : Str) (te : TE) : TE := fun σ H Q => te σ H fun x H1 => ∃ (a C d : Addr) (fs : List (Str × V)) (v : V), x = .ref a ∧ H1 a = some (exo a C (some d)) ∧ H1 d = some (exd d fs) ∧ XfC K C ∧
  PySem.W.findIn K (.ref C) f = some none ∧ fs.lookup f = some v ∧ Q v H1
theorem pe_xget {f : Str} (he : PE X e te) (hb : attributeBase e f X.env (eval e X.env) = eval e X.env := by rfl) : PE X (.Attribute e f pos) (tXget X.K f te) := by
  refine ⟨?_⟩
  intro pins s σ H Q I h
  refine attr_of hb (thn (he.run pins s σ H _ I h) ?_)
  rintro u s1 ⟨x, H1, I1, rx, a, C, d, fs, v, rfl, ha, hd, T, no, l, q⟩
  obtain rfl : u = Value.ref a := rx
  obtain ⟨t1, oa⟩ := exo_at I1.hok ha
  obtain ⟨mA, ns, rel⟩ := exd_at I1.hok hd
  obtain ⟨od, hod, hl⟩ := lookIn_ns ns
  obtain ⟨u, hu, ru⟩ := RelO.some_of (v := v) (o := mA f) (by rw [← l]; exact rel f)
  have J : PySem.W.InstAt s1.heap a { cls := .ref C, dict := some d, data := .fields #[.ref t1, .none, .none, .none, .bool false, .none] } C (some od) := ⟨oa, rfl, rfl, hod⟩
  exact HandSPX.exc_get I1.kIn J T.ga T.gg T.exC (PySem.W.findObj_own T.hdC no rfl (by rw [hl, hu])) (handed_of ru) ⟨v, H1, I1.tok _, ru, q⟩

/-- at a: an exception of the class at C -/
def IsX (H : Hp) (a C : Addr) : Prop := (∃ d fs, H a = some (exo a C (some d)) ∧ H d = some (exd d fs)) ∨ H a = some (ExO (.ref C) a)
/-- what isinstance asks of such a class -/
structure XIs (K : PySem.W.Frag) (C : Addr) : Prop where
  cl : (PySem.W.clsIn K C).isSome = true
  xf : XfC K C
  ha : PySem.W.findIn K (.ref C) "__class__" = some (some (.builtin "object.__class__"))
  hn : PySem.W.specialIn K (.builtin "object.__class__") "__get__" = some (some (.builtin "getset_descriptor.__get__"))
  ht : PySem.W.takesIn K (.builtin "object.__class__") = some true
  hm : PySem.W.mroIn K C (.type "object") = some true
def rIsX (K : PySem.W.Frag) : List V → Hp → VK → Prop := fun xs H Q => ∃ (a C : Addr) (c : V) (u : Value) (b : Bool), xs = [.ref a, c] ∧ ClsV c u ∧ IsX H a C ∧ XIs K C ∧ PySem.W.kitOne K (.ref C) u = some b ∧ Q (.bl b) H
theorem call_isX : CallR X (.builtin "isinstance") (rIsX X.K) := by
  rintro pins s σ H xs us Q I r ⟨a, C, c, u, b, rfl, cv, hx, T, kit, q⟩
  obtain ⟨u1, u2, rfl, r1, r2⟩ := vals2 r
  obtain rfl : u2 = u := cv.eq r2
  obtain rfl : u1 = Value.ref a := r1
  have go : ∀ (ox : Obj) (od : Option Obj), PySem.W.InstAt s.heap a ox C od → wpAny (model X.prog X.w) X.A (call (.builtin "isinstance") [.ref a, u2]) (EP X pins σ Q) X.xe s := fun ox od J =>
    PySem.W.kia_one (PySem.W.kitx_exc T.cl T.xf.ga T.xf.gg T.xf.exC T.ha T.hn T.ht T.hm) I.kIn J kit (fun z => nomatch z) fun tk => ⟨.bl b, H, I.tok tk, rfl, q⟩
  rcases hx with ⟨d, fs, ha, hd⟩ | ha
  · obtain ⟨t1, oa⟩ := exo_at I.hok ha
    obtain ⟨mA, ⟨od, es, ep, hod, _⟩, _⟩ := exd_at I.hok hd
    exact go _ (some od) ⟨oa, rfl, rfl, hod⟩
  · have z : ObjOk X.prog X.w H s.heap a (ExO (.ref C) a) := I.hok a _ ha
    obtain ⟨⟨oe, vs, ho, ⟨z1, z2⟩, hd, _⟩, _⟩ := z
    refine go oe none ⟨ho, z1, ?_, ?_⟩
    · unfold PySem.W.notCls
      rw [hd]
    · rw [z2]
      trivial
end
end My

set_option maxHeartbeats 2000000
/-! Graphs as pairs of numbers: what a GRAPH is, in plain Lean. -/
namespace My
open PySem PySem.Spec PyProof.Rows L2
abbrev E2 := Nat × Nat
theorem same_put {H H1 : Hp} {D : Addr} {o : HO} (s : Same H H1) (n : H D = none) : Same H (upd H1 D o) := fun b u e => by
  rw [upd_ne (ne_of_none e n)]
  exact s b u e
/-- a stands ahead of b, as tuples -/
def ahead (a b : E2) : Prop := a.1 < b.1 ∨ (a.1 = b.1 ∧ a.2 < b.2)
instance (a b : E2) : Decidable (ahead a b) := inferInstanceAs (Decidable (_ ∨ _))
structure Good (n : Nat) (es : List E2) : Prop where
  n9 : n ≤ 9
  lt : ∀ p ∈ es, p.1 < p.2 ∧ p.2 < n
  up : es.Pairwise ahead
/-- the pairs with u ahead, below n; all pairs below n, ascending -/
def rowP (n u : Nat) : List E2 := (List.range (n - (u + 1))).map fun j => (u, u + 1 + j)
def allP (n : Nat) : List E2 := (List.range n).flatMap (rowP n)
theorem mem_rowP {n u : Nat} {p : E2} : p ∈ rowP n u ↔ p.1 = u ∧ u < p.2 ∧ p.2 < n := by
  unfold rowP
  rw [List.mem_map]
  constructor
  · rintro ⟨j, hj, rfl⟩
    have := List.mem_range.mp hj
    refine ⟨rfl, ?_, ?_⟩ <;> show _ < _ <;> omega
  · rintro ⟨h1, h2, h3⟩
    refine ⟨p.2 - (u + 1), List.mem_range.mpr (by omega), ?_⟩
    obtain ⟨a, b⟩ := p
    simp only at h1 h2 h3 ⊢
    rw [h1, show u + 1 + (b - (u + 1)) = b by omega]
theorem mem_allP {n : Nat} {p : E2} : p ∈ allP n ↔ p.1 < p.2 ∧ p.2 < n := by
  unfold allP
  rw [List.mem_flatMap]
  constructor
  · rintro ⟨u, hu, h⟩
    obtain ⟨h1, h2, h3⟩ := mem_rowP.mp h
    omega
  · rintro ⟨h1, h2⟩
    exact ⟨p.1, List.mem_range.mpr (by omega), mem_rowP.mpr ⟨rfl, h1, h2⟩⟩
theorem allP_up : ∀ n, n ≤ 9 → (allP n).Pairwise ahead := by decide +kernel
theorem allP_few : ∀ n, n ≤ 9 → (allP n).length ≤ 36 := by decide +kernel
theorem ahead_ne {a b : E2} (h : ahead a b) : a ≠ b := by
  rintro rfl
  rcases h with h | h <;> omega
theorem sub_few {α : Type} [DecidableEq α] : ∀ {l m : List α}, l.Nodup → (∀ x ∈ l, x ∈ m) → l.length ≤ m.length
  | [], _, _, _ => Nat.zero_le _
  | a :: l, m, nd, sub => by
    obtain ⟨na, nl⟩ := List.nodup_cons.mp nd
    have ma : a ∈ m := sub a (List.mem_cons_self ..)
    have ih := sub_few (l := l) (m := m.erase a) nl fun x hx => by
      have hne : x ≠ a := fun e => na (e ▸ hx)
      exact (List.mem_erase_of_ne hne).mpr (sub x (List.mem_cons_of_mem _ hx))
    have le := List.length_erase_of_mem ma
    have pos : 0 < m.length := List.length_pos_of_mem ma
    rw [List.length_cons]
    omega
theorem Good.nodup {n : Nat} {es : List E2} (g : Good n es) : es.Nodup := g.up.imp fun h => ahead_ne h
theorem Good.few {n : Nat} {es : List E2} (g : Good n es) : es.length ≤ 36 := Nat.le_trans (sub_few g.nodup fun p hp => mem_allP.mpr (g.lt p hp)) (allP_few n g.n9)
theorem Good.filter {n : Nat} (h : n ≤ 9) (f : E2 → Bool) : Good n ((allP n).filter f) := ⟨h, fun p hp => mem_allP.mp (List.mem_filter.mp hp).1, (allP_up n h).filter _⟩
theorem Good.nil {n : Nat} (h : n ≤ 9) : Good n [] := ⟨h, fun _ z => (nomatch z), .nil⟩
theorem Good.more {n m : Nat} {es : List E2} (g : Good n es) (h : n ≤ m) (h9 : m ≤ 9) : Good m es := ⟨h9, fun p hp => ⟨(g.lt p hp).1, by have := (g.lt p hp).2; omega⟩, g.up⟩

/-! ### on the heap -/
/-- the pair p as a tuple -/
def PairAt (K : PySem.W.Frag) (H : Hp) (x : V) (p : E2) : Prop := ∃ t, x = .ref t ∧ SqT K H t [.int (p.1 : Int), .int (p.2 : Int)]
abbrev PairsAt (K : PySem.W.Frag) (H : Hp) : List V → List E2 → Prop := Paired (PairAt K H)
theorem PairAt.same {K : PySem.W.Frag} {H H' : Hp} (e : Same H H') {x : V} {p : E2} (h : PairAt K H x p) : PairAt K H' x p := by
  obtain ⟨t, rfl, h⟩ := h
  exact ⟨t, rfl, Same.tup e h⟩
theorem PairsAt.same {K : PySem.W.Frag} {H H' : Hp} (e : Same H H') : ∀ {xs : List V} {ps : List E2}, PairsAt K H xs ps → PairsAt K H' xs ps
  | _, _, .nil => .nil
  | _, _, .cons a b => .cons (a.same e) (PairsAt.same e b)
theorem PairsAt.append {K : PySem.W.Frag} {H : Hp} : ∀ {xs ys : List V} {ps qs : List E2}, PairsAt K H xs ps → PairsAt K H ys qs → PairsAt K H (xs ++ ys) (ps ++ qs)
  | _, _, _, _, .nil, h => h
  | _, _, _, _, .cons a b, h => .cons a (PairsAt.append b h)
/-- a graph -/
def GraphAt (K : PySem.W.Frag) (H : Hp) (x : V) (n : Nat) (es : List E2) : Prop := ∃ (t e : Addr) (xs : List V), x = .ref t ∧ SqT K H t [.int (n : Int), .ref e] ∧ SqT K H e xs ∧ PairsAt K H xs es
theorem GraphAt.same {K : PySem.W.Frag} {H H' : Hp} (s : Same H H') {x : V} {n : Nat} {es : List E2} (h : GraphAt K H x n es) : GraphAt K H' x n es := by
  obtain ⟨t, e, xs, rfl, h1, h2, h3⟩ := h
  exact ⟨t, e, xs, rfl, Same.tup s h1, Same.tup s h2, h3.same s⟩
def pairD (p : E2) : PyData := .tuple [.int (p.1 : Int), .int (p.2 : Int)]
def graphD (n : Nat) (es : List E2) : PyData := .tuple [.int (n : Int), .tuple (es.map pairD)]
theorem PairAt.dp {K : PySem.W.Frag} {H : Hp} {x : V} {p : E2} (h : PairAt K H x p) : Dp K H x (pairD p) := by
  obtain ⟨t, rfl, h⟩ := h
  exact .tup h (.cons (.int _) (.cons (.int _) .nil))
theorem PairsAt.dp {K : PySem.W.Frag} {H : Hp} : ∀ {xs : List V} {ps : List E2}, PairsAt K H xs ps → DpAll K H xs (ps.map pairD)
  | _, _, .nil => .nil
  | _, _, .cons a b => .cons a.dp (PairsAt.dp b)
theorem GraphAt.dp {K : PySem.W.Frag} {H : Hp} {x : V} {n : Nat} {es : List E2} (h : GraphAt K H x n es) : Dp K H x (graphD n es) := by
  obtain ⟨t, e, xs, rfl, h1, h2, h3⟩ := h
  exact .tup h1 (.cons (.int _) (.cons (.tup h2 h3.dp) .nil))
theorem PairsAt.get {K : PySem.W.Frag} {H : Hp} {xs : List V} {ps : List E2} {i : Nat} {x : V} (h : PairsAt K H xs ps) (e : xs[i]? = some x) : ∃ p, ps[i]? = some p ∧ PairAt K H x p := by
  have go : ∀ {xs : List V} {ps : List E2} {i : Nat} {x : V}, PairsAt K H xs ps → xs[i]? = some x → ∃ p, ps[i]? = some p ∧ PairAt K H x p := by
    intro xs
    induction xs with
    | nil => intro ps i x _ e; simp at e
    | cons a l ih =>
      intro ps i x h e
      cases h with
      | cons r t =>
        cases i with
        | zero => simp at e; subst e; exact ⟨_, rfl, r⟩
        | succ i => obtain ⟨p, h1, h2⟩ := ih t (by simpa using e); exact ⟨p, by simpa using h1, h2⟩
  exact go h e
end My

set_option maxHeartbeats 2000000
/-! Rules that pairs want: the lesser and the greater number of one; a list of pairs made a set, sorted, made a tuple. -/
namespace My
open PySem PySem.Spec PyProof.Rows L2
section
variable {X : Cx}
def rOfPair (f : Int → Int → Int) (K : PySem.W.Frag) : List V → Hp → VK → Prop := fun xs H Q => ∃ (t : Addr) (u v : Int), xs = [.ref t] ∧ SqT K H t [.int u, .int v] ∧ Q (.int (f u v)) H
theorem pair_reads {pins : List (Addr × Obj)} {σ : L2.St} {H : Hp} {s : Shared} {t : Addr} {u v : Int} (I : Inv X pins σ H s) (h : SqT X.K H t [.int u, .int v]) : ∃ vs : Array Value, s.heap.IsTuple t vs ∧ ∃ as, ReadsAll s.heap vs.toList [.int u, .int v] as := by
  obtain ⟨its, r, p, _⟩ := I.tuple h
  obtain ⟨as, q⟩ := Dp.readsAll I [.int u, .int v] [.int u, .int v] its (.cons (.int _) (.cons (.int _) .nil)) r
  obtain ⟨o, ho, hc, n, hd⟩ := p
  exact ⟨its.toArray, ⟨o, ho, hc, n, hd⟩, as, by simpa using q⟩
theorem call_minPair (hc : X.calm = true) (hu : X.A.units + 64 < cLine) : CallR X (.builtin "min") (rOfPair min X.K) := by
  rintro pins s σ H xs us Q I r ⟨t, u, v, rfl, h, q⟩
  rw [Vals.ref1 r]
  obtain ⟨vs, ht, as, rs⟩ := pair_reads I h
  refine PySem.W.min_tuple_data (I.ok.hd hc) ht rs (PySem.W.alikeAll_datum [u, v]) (by simp only [PyData.depthAll, PyData.depth]; omega) ?_
  intro i x h' tk bs hi rd hk
  have e := PySem.W.minD_ints u [v]
  have e' : PySem.W.minD (.int u) [.int v] = .int (min u v) := e
  rw [e'] at rd
  cases rd
  exact ⟨.int _, H, I.kept hk, ⟨_, rfl⟩, q⟩
theorem call_maxPair (hc : X.calm = true) (hu : X.A.units + 64 < cLine) : CallR X (.builtin "max") (rOfPair max X.K) := by
  rintro pins s σ H xs us Q I r ⟨t, u, v, rfl, h, q⟩
  rw [Vals.ref1 r]
  obtain ⟨vs, ht, as, rs⟩ := pair_reads I h
  refine PySem.W.max_tuple_data (I.ok.hd hc) ht rs (PySem.W.alikeAll_datum [u, v]) (by simp only [PyData.depthAll, PyData.depth]; omega) ?_
  intro i x h' tk bs hi rd hk
  have e := PySem.W.maxD_ints u [v]
  have e' : PySem.W.maxD (.int u) [.int v] = .int (max u v) := e
  rw [e'] at rd
  cases rd
  exact ⟨.int _, H, I.kept hk, ⟨_, rfl⟩, q⟩
end
/-! ### a pair among the pairs of a tuple -/
theorem pairD_lay (p : E2) : (pairD p).canLay0 = true := by simp [pairD, PyData.canLay0, PyData.canLayAll0]
theorem pairD_depth (p : E2) : (pairD p).depth = 1 := by simp [pairD, PyData.depth, PyData.depthAll]
theorem pairsD_lay : ∀ ps : List E2, PyData.canLayAll0 (ps.map pairD) = true
  | [] => by rw [List.map_nil]; simp [PyData.canLayAll0]
  | p :: ps => by simp [PyData.canLayAll0, pairD_lay p, pairsD_lay ps]
theorem pairsD_depth : ∀ ps : List E2, PyData.depthAll (ps.map pairD) ≤ 1
  | [] => by rw [List.map_nil]; simp [PyData.depthAll]
  | p :: ps => by
    have a := pairsD_depth ps
    have b := pairD_depth p
    rw [List.map_cons]
    simp only [PyData.depthAll]
    omega
theorem pairD_eqv (p q : E2) : PyData.eqv (pairD p) (pairD q) = decide (p = q) := by
  obtain ⟨a, b⟩ := p
  obtain ⟨c, d⟩ := q
  simp only [pairD, PyData.eqv, PyData.eqvAll, Bool.and_true]
  by_cases h1 : a = c
  · subst h1
    by_cases h2 : b = d
    · subst h2
      simp
    · have z : ((b : Int) == (d : Int)) = false := beq_eq_false_iff_ne.mpr fun e => h2 (by omega)
      simp [z, h2]
  · have z : ((a : Int) == (c : Int)) = false := beq_eq_false_iff_ne.mpr fun e => h1 (by omega)
    simp [z, h1]
theorem any_pairs (p : E2) : ∀ es : List E2, ((es.map pairD).any fun z => PyData.eqv z (pairD p)) = decide (p ∈ es)
  | [] => rfl
  | q :: es => by
    rw [List.map_cons, List.any_cons, any_pairs p es, pairD_eqv]
    by_cases h : q = p
    · subst h
      simp
    · have h' : p ≠ q := fun e => h e.symm
      simp [h, h']
section
variable {X : Cx}
def rInP (k : Bool → Bool) (K : PySem.W.Frag) : R2 := fun x y H Q => ∃ (p : E2) (t : Addr) (xs : List V) (es : List E2), PairAt K H x p ∧ y = .ref t ∧ SqT K H t xs ∧ PairsAt K H xs es ∧ Q (.bl (k (decide (p ∈ es)))) H
theorem op_inP (hu : X.A.units + 64 < cLine) : OpR X (compareOp .In) (rInP id X.K) := by
  rintro pins s σ H x y v u Q I rx ry ⟨p, t, xs, es, hp, rfl, ht, hes, q⟩
  obtain ⟨as, r1⟩ := Dp.reads I _ x v hp.dp rx
  obtain ⟨bs, r2⟩ := Dp.reads I (.tuple (es.map pairD)) (.ref t) u (.tup ht hes.dp) ry
  refine SeqAt.in_tuple_reads r2 r1 (pairsD_lay es) (pairD_lay p) ?_ ?_
  · have := pairD_depth p
    have := Nat.min_le_right (PyData.depthAll (es.map pairD)) (pairD p).depth
    omega
  · rw [any_pairs]
    exact ⟨.bl _, H, I, rfl, q⟩
theorem op_notInP (hu : X.A.units + 64 < cLine) : OpR X (compareOp .NotIn) (rInP not X.K) := by
  rintro pins s σ H x y v u Q I rx ry ⟨p, t, xs, es, hp, rfl, ht, hes, q⟩
  obtain ⟨as, r1⟩ := Dp.reads I _ x v hp.dp rx
  obtain ⟨bs, r2⟩ := Dp.reads I (.tuple (es.map pairD)) (.ref t) u (.tup ht hes.dp) ry
  refine SeqAt.notIn_tuple_reads r2 r1 (pairsD_lay es) (pairD_lay p) ?_ ?_
  · have := pairD_depth p
    have := Nat.min_le_right (PyData.depthAll (es.map pairD)) (pairD p).depth
    omega
  · rw [any_pairs]
    exact ⟨.bl _, H, I, rfl, q⟩
end
end My

set_option maxHeartbeats 2000000
/-! graph6 in plain Lean. -/
namespace My
open PySem PySem.Spec PyProof.Rows L2
/-- a walk from any heap on: S says a turn, by what follows it -/
theorem lo_it {J : It} {n : Nat} {G : Hp → Prop} {Y : Nat → Hp → V → Hp → Prop} (w : Walk J n G Y) {S : V → Hp → (Hp → Prop) → Prop} {Qd : Hp → Prop} {H0 : Hp} (Pv : Nat → Hp → Prop) (h0 : Pv 0 H0) (hG : ∀ i H, i ≤ n → Pv i H → G H)
    (hs : ∀ i x H H', i < n → Pv i H → Y i H x H' → S x H' (Pv (i + 1))) (hd : ∀ H, Pv n H → Qd H) :
    ∃ W : Nat → Nat → Hp → Prop, (∃ m, W 0 m H0) ∧ ∀ i m H, W i m H → (J.stop i H ∧ Qd H) ∨ (J.go i H ∧ ∃ Nx : Hp → Prop, (∀ H', Nx H' → ∃ m', m' < m ∧ W (i + 1) m' H') ∧ ∀ x H', J.yld i H x H' → S x H' Nx) := by
  refine ⟨fun i m H => i + m = n ∧ Pv i H, ⟨n, Nat.zero_add n, h0⟩, fun i m H hw => ?_⟩
  obtain ⟨e, pv⟩ := hw
  have g := hG i H (by omega) pv
  rcases Nat.eq_zero_or_pos m with z | z
  · have en : i = n := by omega
    subst en
    exact .inl ⟨w.stops H g, hd H pv⟩
  · refine .inr ⟨w.goes i H (by omega) g, Pv (i + 1), fun H' pv' => ⟨m - 1, by omega, by omega, pv'⟩, fun x H' y => ?_⟩
    exact hs i x H H' (by omega) pv (w.yields i H x H' (by omega) g y)
/-- the pairs by their greater number, then by the lesser -/
def pairsG (n : Nat) : List E2 := (List.range n).flatMap fun v => (List.range v).map fun u => (u, v)
def bit1 (es : List E2) (p : E2) : Nat := if p ∈ es then 1 else 0
def bitsOf (n : Nat) (es : List E2) : List Nat := (pairsG n).map (bit1 es)
def pad (b : List Nat) : List Nat := b ++ List.replicate ((b.length + 5) / 6 * 6 - b.length) 0
def numOf (b : List Nat) : Nat := b.foldl (fun a x => 2 * a + x) 0
def chunk (b : List Nat) (i : Nat) : List Nat := (b.drop (6 * i)).take 6
def groups (b : List Nat) : Nat := (b.length + 5) / 6
/-- the text of signs told by numbers -/
def tx (ks : List Nat) : Str := ⟨(ks.map (63 + ·)).toArray⟩
/-- the 64 signs -/
def SG : Str := tx (List.range 64)
def codeL (n : Nat) (es : List E2) : List Nat := n :: (List.range (groups (bitsOf n es))).map fun i => numOf (chunk (pad (bitsOf n es)) i)
theorem tx_len (ks : List Nat) : (tx ks).length = ks.length := by
  show ((ks.map (63 + ·)).toArray).size = _
  rw [List.size_toArray, List.length_map]
theorem tx_append (ks ls : List Nat) : tx ks ++ tx ls = tx (ks ++ ls) := by
  show Str.append _ _ = _
  unfold Str.append tx
  rw [List.map_append]
  simp
theorem join_tx : ∀ ks : List Nat, Str.join "" (ks.map fun k => tx [k]) = tx ks
  | [] => rfl
  | [k] => rfl
  | k :: l :: ks => by
    show tx [k] ++ (("" : String) : Str) ++ Str.join "" ((l :: ks).map fun k => tx [k]) = _
    rw [join_tx (l :: ks)]
    have e : tx [k] ++ (("" : String) : Str) = tx [k] := by
      show Str.append _ _ = _
      unfold Str.append
      have z : ((("" : String) : Str)).cps = #[] := by decide +kernel
      rw [z, Array.append_empty]
    rw [e, tx_append]
    rfl
theorem pairsG_succ (n : Nat) : pairsG (n + 1) = pairsG n ++ (List.range n).map fun u => (u, n) := by
  unfold pairsG
  rw [List.range_succ, List.flatMap_append, List.flatMap_cons, List.flatMap_nil, List.append_nil]
theorem pairsG_few : ∀ n, n ≤ 9 → (pairsG n).length ≤ 36 := by decide +kernel
theorem mem_pairsG {n : Nat} {p : E2} : p ∈ pairsG n ↔ p.1 < p.2 ∧ p.2 < n := by
  unfold pairsG
  rw [List.mem_flatMap]
  constructor
  · rintro ⟨v, hv, h⟩
    obtain ⟨u, hu, rfl⟩ := List.mem_map.mp h
    exact ⟨List.mem_range.mp hu, List.mem_range.mp hv⟩
  · rintro ⟨h1, h2⟩
    exact ⟨p.2, List.mem_range.mpr h2, List.mem_map.mpr ⟨p.1, List.mem_range.mpr h1, rfl⟩⟩
theorem bits_len (n : Nat) (es : List E2) : (bitsOf n es).length = (pairsG n).length := List.length_map _
theorem bits_few {n : Nat} (h : n ≤ 9) (es : List E2) : (bitsOf n es).length ≤ 36 := by rw [bits_len]; exact pairsG_few n h
theorem bits_le (n : Nat) (es : List E2) : ∀ b ∈ bitsOf n es, b ≤ 1 := by
  intro b hb
  obtain ⟨p, _, rfl⟩ := List.mem_map.mp hb
  unfold bit1
  split <;> omega
theorem pad_len (b : List Nat) : (pad b).length = 6 * groups b := by
  unfold pad groups
  rw [List.length_append, List.length_replicate]
  omega
theorem pad_le {b : List Nat} (h : ∀ x ∈ b, x ≤ 1) : ∀ x ∈ pad b, x ≤ 1 := by
  intro x hx
  rcases List.mem_append.mp hx with hx | hx
  · exact h x hx
  · rw [(List.mem_replicate.mp hx).2]
    exact Nat.zero_le _
theorem foldl_lt : ∀ (b : List Nat) (a k : Nat), (∀ x ∈ b, x ≤ 1) → a < 2 ^ k → b.foldl (fun a x => 2 * a + x) a < 2 ^ (k + b.length)
  | [], a, k, _, h => h
  | x :: b, a, k, hb, h => by
    have hx := hb x (List.mem_cons_self ..)
    have z := foldl_lt b (2 * a + x) (k + 1) (fun y hy => hb y (List.mem_cons_of_mem _ hy)) (by rw [Nat.pow_succ]; omega)
    rw [List.foldl_cons, List.length_cons, show k + (b.length + 1) = k + 1 + b.length by omega]
    exact z
theorem numOf_lt {b : List Nat} (h : ∀ x ∈ b, x ≤ 1) : numOf b < 2 ^ b.length := by
  have z := foldl_lt b 0 0 h (by decide)
  rw [Nat.zero_add] at z
  exact z
theorem numOf_snoc (b : List Nat) (x : Nat) : numOf (b ++ [x]) = 2 * numOf b + x := by
  unfold numOf
  rw [List.foldl_append]
  rfl
theorem chunk_sub (b : List Nat) (i : Nat) : ∀ x ∈ chunk b i, x ∈ b := fun x hx => List.mem_of_mem_drop (List.mem_of_mem_take hx)
theorem chunk_len {b : List Nat} {i : Nat} (h : 6 * i + 6 ≤ b.length) : (chunk b i).length = 6 := by
  unfold chunk
  rw [List.length_take, List.length_drop]
  omega
theorem chunk_lt {b : List Nat} {i : Nat} (hb : ∀ x ∈ b, x ≤ 1) : numOf (chunk b i) < 64 := by
  have z := numOf_lt (b := chunk b i) fun x hx => hb x (chunk_sub b i x hx)
  have l : (chunk b i).length ≤ 6 := by
    unfold chunk
    rw [List.length_take]
    omega
  exact Nat.lt_of_lt_of_le z (Nat.pow_le_pow_right (by decide) l)
theorem SG_at : ∀ k : Nat, k < 64 → atI SG.cps.toList (k : Int) = some (63 + k) := by
  intro k hk
  refine atI_nat ?_
  show ((List.range 64).map (63 + ·))[k]? = _
  rw [List.getElem?_map, List.getElem?_range hk]
  rfl
theorem six : ∀ k : Nat, k ≤ 42 → RgC 0 (k : Int) 6 ((k + 5) / 6) := by
  have h : ∀ k : Nat, k ≤ 42 → Builtin.Range.small 0 (k : Int) 6 = true ∧ Builtin.Range.rangeSize 0 (k : Int) 6 = (((k + 5) / 6 : Nat) : Int) := by decide +kernel
  exact fun k hk => ⟨by decide, by decide, (h k hk).1, (h k hk).2⟩
end My

set_option maxHeartbeats 2000000
/-! Reading graph6, in plain Lean: by the signs' codes. -/
namespace My
open PySem PySem.Spec PyProof.Rows L2
/-- the sign c can stand at place a behind the first one, with L pairs to tell -/
def goodS (L a c : Nat) : Bool := decide (63 ≤ c ∧ c < 127) && decide (6 * a < L) && decide ((c - 63) % 2 ^ (6 - (L - 6 * a)) = 0)
/-- where it is wrong, by how many signs are right -/
def scan (L : Nat) : Nat → List Nat → Option Nat
  | a, [] => if 6 * a < L then some (a + 1) else none
  | a, c :: cs => if goodS L a c = true then scan L (a + 1) cs else some (a + 1)
def bits6 (c : Nat) : List Nat := [5, 4, 3, 2, 1, 0].map fun p => (c - 63) / 2 ^ p % 2
def bitsC (cs : List Nat) : List Nat := cs.flatMap bits6
def tellP (ps : List E2) (bs : List Nat) : List E2 := ((ps.zip bs).filter fun q => q.2 != 0).map (·.1)
inductive RdG where
  | bad (k : Nat)
  | told (n : Nat) (ps : List E2)
def readG : List Nat → RdG
  | [] => .bad 0
  | c :: cs => if 63 ≤ c ∧ c ≤ 72 then match scan (pairsG (c - 63)).length 0 cs with
    | some k => .bad k
    | none => .told (c - 63) (tellP (pairsG (c - 63)) (bitsC cs))
    else .bad 0
theorem bitsC_len (cs : List Nat) : (bitsC cs).length = 6 * cs.length := by
  unfold bitsC
  induction cs with
  | nil => rfl
  | cons c cs ih => rw [List.flatMap_cons, List.length_append, ih, List.length_cons]; show 6 + _ = _; omega
theorem eq_of_up : ∀ {es fs : List E2}, es.Pairwise ahead → fs.Pairwise ahead → (∀ q, q ∈ es ↔ q ∈ fs) → es = fs
  | [], [], _, _, _ => rfl
  | [], f :: fs, _, _, h => absurd ((h f).mpr (List.mem_cons_self ..)) (fun z => nomatch z)
  | e :: es, [], _, _, h => absurd ((h e).mp (List.mem_cons_self ..)) (fun z => nomatch z)
  | e :: es, f :: fs, he, hf, h => by
    obtain ⟨e1, e2⟩ := List.pairwise_cons.mp he
    obtain ⟨f1, f2⟩ := List.pairwise_cons.mp hf
    have ef : e = f := by
      rcases List.mem_cons.mp ((h e).mp (List.mem_cons_self ..)) with z | z
      · exact z
      · rcases List.mem_cons.mp ((h f).mpr (List.mem_cons_self ..)) with y | y
        · exact y.symm
        · have a1 := f1 e z
          have a2 := e1 f y
          unfold ahead at a1 a2
          omega
    subst ef
    refine congrArg (e :: ·) (eq_of_up e2 f2 fun q => ⟨fun z => ?_, fun z => ?_⟩)
    · rcases List.mem_cons.mp ((h q).mp (List.mem_cons_of_mem _ z)) with y | y
      · exact absurd (e1 q z) (fun w => ahead_ne w y.symm)
      · exact y
    · rcases List.mem_cons.mp ((h q).mpr (List.mem_cons_of_mem _ z)) with y | y
      · exact absurd (f1 q z) (fun w => ahead_ne w y.symm)
      · exact y
theorem tellP_snoc {ps : List E2} {bs : List Nat} {p : E2} {b : Nat} (h : ps.length = bs.length) : tellP (ps ++ [p]) (bs ++ [b]) = tellP ps bs ++ (if b != 0 then [p] else []) := by
  unfold tellP
  rw [List.zip_append h, List.filter_append, List.map_append]
  congr 1
  show (([(p, b)] : List (E2 × Nat)).filter _).map _ = _
  cases e : (b != 0)
  · rw [List.filter_cons_of_neg (by simpa using e)]
    rfl
  · rw [List.filter_cons_of_pos (by simpa using e)]
    rfl
theorem tellP_sub (ps : List E2) (bs : List Nat) : ∀ q ∈ tellP ps bs, q ∈ ps := by
  intro q hq
  obtain ⟨r, hr, rfl⟩ := List.mem_map.mp hq
  exact (List.of_mem_zip (List.mem_filter.mp hr).1).1
/-! ### there and back -/
theorem bits6_of : ∀ a b c d e f : Nat, a ≤ 1 → b ≤ 1 → c ≤ 1 → d ≤ 1 → e ≤ 1 → f ≤ 1 → bits6 (63 + numOf [a, b, c, d, e, f]) = [a, b, c, d, e, f] := by
  have h : ∀ a b c d e f : Fin 2, bits6 (63 + numOf [a.val, b.val, c.val, d.val, e.val, f.val]) = [a.val, b.val, c.val, d.val, e.val, f.val] := by decide +kernel
  exact fun a b c d e f h1 h2 h3 h4 h5 h6 => h ⟨a, by omega⟩ ⟨b, by omega⟩ ⟨c, by omega⟩ ⟨d, by omega⟩ ⟨e, by omega⟩ ⟨f, by omega⟩
theorem bits6_chunk {b : List Nat} (l : b.length = 6) (h : ∀ x ∈ b, x ≤ 1) : bits6 (63 + numOf b) = b := by
  match b, l, h with
  | [a, b, c, d, e, f], _, h => exact bits6_of a b c d e f (h a (by simp)) (h b (by simp)) (h c (by simp)) (h d (by simp)) (h e (by simp)) (h f (by simp))
theorem chunks_all {b : List Nat} : ∀ m, b.length = 6 * m → (List.range m).flatMap (chunk b) = b
  | 0, h => by
    rw [List.range_zero, List.flatMap_nil]
    exact (List.eq_nil_of_length_eq_zero (by omega)).symm
  | m + 1, h => by
    have ih := chunks_all (b := b.drop 6) m (by rw [List.length_drop]; omega)
    rw [List.range_succ_eq_map, List.flatMap_cons, List.flatMap_map]
    have e : (List.range m).flatMap (fun i => chunk b (Nat.succ i)) = (List.range m).flatMap (chunk (b.drop 6)) := by
      congr 1
      funext i
      unfold chunk
      rw [List.drop_drop]
      congr 2
      omega
    rw [e, ih]
    unfold chunk
    rw [Nat.mul_zero, List.drop_zero, List.take_append_drop]
theorem bitsC_code {b : List Nat} {m : Nat} (l : b.length = 6 * m) (h : ∀ x ∈ b, x ≤ 1) : bitsC ((List.range m).map fun i => 63 + numOf (chunk b i)) = b := by
  unfold bitsC
  rw [List.flatMap_map]
  have e : ∀ i ∈ List.range m, bits6 (63 + numOf (chunk b i)) = chunk b i := fun i hi => by
    have im := List.mem_range.mp hi
    exact bits6_chunk (chunk_len (by omega)) fun x hx => h x (chunk_sub b i x hx)
  have e2 : (List.range m).flatMap (fun i => bits6 (63 + numOf (chunk b i))) = (List.range m).flatMap (chunk b) := by
    rw [List.flatMap_def, List.flatMap_def, List.map_congr_left e]
  rw [e2, chunks_all m l]
theorem numOf_zeros (b : List Nat) : ∀ k, numOf (b ++ List.replicate k 0) = numOf b * 2 ^ k
  | 0 => by rw [List.replicate_zero, List.append_nil, Nat.pow_zero, Nat.mul_one]
  | k + 1 => by
    rw [List.replicate_succ', ← List.append_assoc, numOf_snoc, numOf_zeros b k, Nat.pow_succ, Nat.add_zero, Nat.mul_comm 2, Nat.mul_assoc]
theorem goodS_code {bs : List Nat} {i : Nat} (h : ∀ x ∈ bs, x ≤ 1) (hi : i < groups bs) : goodS bs.length i (63 + numOf (chunk (pad bs) i)) = true := by
  have lt := chunk_lt (i := i) (pad_le h)
  unfold groups at hi
  unfold goodS
  rw [Bool.and_eq_true, Bool.and_eq_true]
  refine ⟨⟨decide_eq_true (by omega), decide_eq_true (by omega)⟩, decide_eq_true ?_⟩
  rw [Nat.add_sub_cancel_left]
  by_cases f : 6 * i + 6 ≤ bs.length
  · rw [show 6 - (bs.length - 6 * i) = 0 by omega, Nat.pow_zero, Nat.mod_one]
  · have e : chunk (pad bs) i = bs.drop (6 * i) ++ List.replicate (6 - (bs.length - 6 * i)) 0 := by
      unfold chunk pad
      rw [List.drop_append_of_le_length (by omega)]
      rw [List.take_of_length_le (by rw [List.length_append, List.length_drop, List.length_replicate]; omega)]
      congr 2
      omega
    rw [e, numOf_zeros, Nat.mul_mod_left]
theorem scan_code {L m : Nat} (f : Nat → Nat) (hm : m = (L + 5) / 6) (h : ∀ i, i < m → goodS L i (f i) = true) : ∀ k, k ≤ m → scan L k (((List.range m).drop k).map f) = none := by
  intro k hk
  induction e : m - k generalizing k with
  | zero =>
    have : k = m := by omega
    subst this
    rw [List.drop_eq_nil_of_le (by rw [List.length_range]; exact Nat.le_refl _)]
    show (if 6 * k < L then some (k + 1) else none) = none
    rw [if_neg (by omega)]
  | succ d ih =>
    have lk : k < (List.range m).length := by rw [List.length_range]; omega
    rw [List.drop_eq_getElem_cons lk, List.getElem_range, List.map_cons]
    show (if goodS L k (f k) = true then scan L (k + 1) _ else some (k + 1)) = none
    rw [if_pos (h k (by omega))]
    exact ih (k + 1) (by omega) (by omega)
theorem tellP_bits (es : List E2) : ∀ (ps : List E2) (k : Nat), tellP ps (ps.map (bit1 es) ++ List.replicate k 0) = ps.filter fun p => decide (p ∈ es)
  | [], k => by
    unfold tellP
    rw [List.zip_nil_left]
    rfl
  | p :: ps, k => by
    have ih := tellP_bits es ps k
    unfold tellP at ih ⊢
    rw [List.map_cons, List.cons_append, List.zip_cons_cons]
    unfold bit1 at *
    by_cases h : p ∈ es
    · rw [List.filter_cons_of_pos (by simp [h]), List.map_cons, List.filter_cons_of_pos (by simpa using h), ih]
    · rw [List.filter_cons_of_neg (by simp [h]), List.filter_cons_of_neg (by simpa using h), ih]
/-- the text of a graph, read -/
theorem read_code {n : Nat} {es : List E2} (g : Good n es) : readG ((codeL n es).map (63 + ·)) = .told n ((pairsG n).filter fun p => decide (p ∈ es)) := by
  unfold codeL
  rw [List.map_cons, List.map_map]
  have n9 := g.n9
  have hb := bits_le n es
  show (if 63 ≤ 63 + n ∧ 63 + n ≤ 72 then _ else _) = _
  rw [if_pos (by omega), Nat.add_sub_cancel_left]
  have e1 : ((fun x => 63 + x) ∘ fun i => numOf (chunk (pad (bitsOf n es)) i)) = fun i => 63 + numOf (chunk (pad (bitsOf n es)) i) := rfl
  rw [e1]
  have s := scan_code (L := (pairsG n).length) (m := groups (bitsOf n es)) (fun i => 63 + numOf (chunk (pad (bitsOf n es)) i)) (by unfold groups; rw [bits_len]) (fun i hi => by rw [← bits_len n es]; exact goodS_code hb hi) 0 (Nat.zero_le _)
  rw [List.drop_zero] at s
  rw [s, bitsC_code (pad_len _) (pad_le hb)]
  show RdG.told n (tellP (pairsG n) (pad (bitsOf n es))) = _
  unfold pad
  rw [show bitsOf n es = (pairsG n).map (bit1 es) from rfl, tellP_bits]
end My

set_option maxHeartbeats 2000000
/-! Pairs that stand in the heap by themselves; sorted lists of them. -/
namespace My
open PySem PySem.Spec PyProof.Rows L2
def PairT (H : Hp) (x : V) (p : E2) : Prop := ∃ t, x = .ref t ∧ H t = some (.tup [.int (p.1 : Int), .int (p.2 : Int)])
abbrev PairsT (H : Hp) : List V → List E2 → Prop := Paired (PairT H)
theorem PairT.at {K : PySem.W.Frag} {H : Hp} {x : V} {p : E2} (h : PairT H x p) : PairAt K H x p := by
  obtain ⟨t, e, h⟩ := h
  exact ⟨t, e, SqT.of h⟩
theorem PairsT.at {K : PySem.W.Frag} {H : Hp} : ∀ {xs : List V} {ps : List E2}, PairsT H xs ps → PairsAt K H xs ps
  | _, _, .nil => .nil
  | _, _, .cons a b => .cons a.at (PairsT.at b)
theorem PairsT.same {H H' : Hp} (s : Same H H') : ∀ {xs : List V} {ps : List E2}, PairsT H xs ps → PairsT H' xs ps
  | _, _, .nil => .nil
  | _, _, .cons ⟨t, e, h⟩ b => .cons ⟨t, e, s _ _ h⟩ (PairsT.same s b)
theorem PairsT.put {H : Hp} {D : Addr} {o : HO} {zs : List V} (hD : H D = some (.lst zs)) : ∀ {xs : List V} {ps : List E2}, PairsT H xs ps → PairsT (upd H D o) xs ps
  | _, _, .nil => .nil
  | _, _, .cons ⟨t, e, h⟩ b => .cons ⟨t, e, by rw [upd_ne (fun z => by rw [z, hD] at h; cases h)]; exact h⟩ (PairsT.put hD b)
theorem PairsT.append {H : Hp} : ∀ {xs ys : List V} {ps qs : List E2}, PairsT H xs ps → PairsT H ys qs → PairsT H (xs ++ ys) (ps ++ qs)
  | _, _, _, _, .nil, h => h
  | _, _, _, _, .cons a b, h => .cons a (PairsT.append b h)
theorem PairsT.len {H : Hp} : ∀ {xs : List V} {ps : List E2}, PairsT H xs ps → xs.length = ps.length
  | _, _, .nil => rfl
  | _, _, .cons _ b => congrArg (· + 1) (PairsT.len b)
theorem push_pairT {H : Hp} {D r : Addr} {zs : List V} {ps : List E2} (p : E2) (hD : H D = some (.lst zs)) (nr : H r = none) (h : PairsT H zs ps) :
    PairsT (upd (upd H r (.tup [.int (p.1 : Int), .int (p.2 : Int)])) D (.lst (zs ++ [.ref r]))) (zs ++ [.ref r]) (ps ++ [p]) := by
  have s1 : Same H (upd H r (.tup [.int (p.1 : Int), .int (p.2 : Int)])) := fun b u q => by rw [upd_ne (ne_of_none q nr)]; exact q
  have h2 : PairsT (upd H r (.tup [.int (p.1 : Int), .int (p.2 : Int)])) (zs ++ [.ref r]) (ps ++ [p]) := (h.same s1).append (.cons ⟨r, rfl, upd_same⟩ .nil)
  exact h2.put (s1 _ _ hD)
/-- the numbers of a pair at a value -/
def kOf (H : Hp) (x : V) : Int × Int := match x with
  | .ref t => match H t with
    | some (.tup [.int i, .int j]) => (i, j)
    | _ => (0, 0)
  | _ => (0, 0)
def gOf (H : Hp) (x : V) : E2 := ((kOf H x).1.toNat, (kOf H x).2.toNat)
theorem kOf_at {H : Hp} {x : V} {p : E2} (h : PairT H x p) : kOf H x = ((p.1 : Int), (p.2 : Int)) := by
  obtain ⟨t, rfl, h⟩ := h
  show (match H t with
    | some (.tup [.int i, .int j]) => (i, j)
    | _ => ((0 : Int), (0 : Int))) = _
  rw [h]
theorem gOf_at {H : Hp} {x : V} {p : E2} (h : PairT H x p) : gOf H x = p := by
  unfold gOf
  rw [kOf_at h]
  rfl
theorem map_gOf {H : Hp} : ∀ {xs : List V} {ps : List E2}, PairsT H xs ps → xs.map (gOf H) = ps
  | _, _, .nil => rfl
  | _, _, .cons a b => by rw [List.map_cons, gOf_at a, map_gOf b]
theorem PairsT.mem {H : Hp} : ∀ {xs : List V} {ps : List E2}, PairsT H xs ps → ∀ x ∈ xs, PairT H x (gOf H x)
  | _, _, .nil => fun _ z => nomatch z
  | _, _, .cons a b => fun x hx => by
    rcases List.mem_cons.mp hx with rfl | hx
    · rw [gOf_at a]; exact a
    · exact PairsT.mem b x hx
theorem PairsT.of_mem {H : Hp} : ∀ {ys : List V}, (∀ y ∈ ys, PairT H y (gOf H y)) → PairsT H ys (ys.map (gOf H))
  | [], _ => .nil
  | y :: ys, h => .cons (h y (List.mem_cons_self ..)) (PairsT.of_mem fun z hz => h z (List.mem_cons_of_mem _ hz))
/-- sorted pairs, none twice, ascend -/
theorem sorted_pairs {H : Hp} {xs ys : List V} {ps : List E2} (h : PairsT H xs ps) (nd : ps.Nodup) (so : SrtO.Srtd (ltP (kOf H)) ys) (st : SrtO.Stb (ltP (kOf H)) ys xs) :
    PairsT H ys (ys.map (gOf H)) ∧ (ys.map (gOf H)).Pairwise ahead ∧ ∀ q, q ∈ ys.map (gOf H) ↔ q ∈ ps := by
  have pm : (ys.map (gOf H)).Perm ps := by
    have z := st.perm.map (gOf H)
    rw [map_gOf h] at z
    exact z
  have hy : ∀ y ∈ ys, PairT H y (gOf H y) := fun y hy => h.mem y (st.perm.mem_iff.mp hy)
  refine ⟨PairsT.of_mem hy, ?_, fun q => pm.mem_iff⟩
  have nd2 : (ys.map (gOf H)).Nodup := pm.nodup_iff.mpr nd
  rw [List.pairwise_map]
  refine (so.and (List.pairwise_map.mp nd2)).imp_of_mem ?_
  intro a b ha hb ⟨le, ne⟩
  have ka := kOf_at (hy a ha)
  have kb := kOf_at (hy b hb)
  have le2 : SrtO.lexB (kOf H b) (kOf H a) = false := le
  rw [ka, kb] at le2
  have le3 := mt (SrtO.lexB_iff (p := (((gOf H b).1 : Int), ((gOf H b).2 : Int))) (q := (((gOf H a).1 : Int), ((gOf H a).2 : Int)))).mpr (by rw [le2]; decide)
  dsimp only at le3
  have ne2 : ¬ ((gOf H a).1 = (gOf H b).1 ∧ (gOf H a).2 = (gOf H b).2) := fun ⟨x, y⟩ => ne (Prod.ext x y)
  unfold ahead
  omega
theorem find_sg : ∀ c : Nat, c < 128 → Txt.find SG ⟨#[c]⟩ = if 63 ≤ c ∧ c < 127 then (c : Int) - 63 else -1 := by decide +kernel
theorem and_one : ∀ x : Nat, x < 64 → Builtin.bitAnd (x : Int) 1 = ((x % 2 : Nat) : Int) := by decide +kernel
/-- the number that a sign tells -/
def nm (c : Nat) : Int := if 63 ≤ c ∧ c < 127 then (c : Int) - 63 else -1
def numsZ (cs : List Nat) : List V := cs.map fun c => V.int (nm c)
theorem scan_good {L : Nat} : ∀ (cs : List Nat) (a : Nat), scan L a cs = none → ∀ i c, cs[i]? = some c → goodS L (a + i) c = true
  | [], _, _, i, c, h => by simp at h
  | d :: cs, a, h, i, c, hi => by
    have h' : (if goodS L a d = true then scan L (a + 1) cs else some (a + 1)) = none := h
    by_cases g : goodS L a d = true
    · rw [if_pos g] at h'
      cases i with
      | zero =>
        have e : d = c := by simpa using hi
        rw [← e]
        exact g
      | succ i =>
        have z := scan_good cs (a + 1) h' i c (by simpa using hi)
        rw [show a + (i + 1) = a + 1 + i by omega]
        exact z
    · rw [if_neg g] at h'
      cases h'
theorem scan_enough {L : Nat} : ∀ (cs : List Nat) (a : Nat), scan L a cs = none → L ≤ 6 * (a + cs.length)
  | [], a, h => by
    have h' : (if 6 * a < L then some (a + 1) else none) = none := h
    by_cases l : 6 * a < L
    · rw [if_pos l] at h'
      cases h'
    · rw [List.length_nil]
      omega
  | d :: cs, a, h => by
    have h' : (if goodS L a d = true then scan L (a + 1) cs else some (a + 1)) = none := h
    by_cases g : goodS L a d = true
    · rw [if_pos g] at h'
      have := scan_enough cs (a + 1) h'
      rw [List.length_cons]
      omega
    · rw [if_neg g] at h'
      cases h'
theorem bits6_at (c : Nat) : ∀ j, j < 6 → (bits6 c)[j]? = some ((c - 63) / 2 ^ (5 - j) % 2) := by
  intro j hj
  unfold bits6
  match j, hj with
  | 0, _ => rfl
  | 1, _ => rfl
  | 2, _ => rfl
  | 3, _ => rfl
  | 4, _ => rfl
  | 5, _ => rfl
theorem places_at {x : V} {j : Nat} (h : ([.int 5, .int 4, .int 3, .int 2, .int 1, .int 0] : List V)[j]? = some x) : j < 6 ∧ x = .int ((5 - j : Nat) : Int) := by
  match j, h with
  | 0, h => exact ⟨by decide, (Option.some.inj h).symm⟩
  | 1, h => exact ⟨by decide, (Option.some.inj h).symm⟩
  | 2, h => exact ⟨by decide, (Option.some.inj h).symm⟩
  | 3, h => exact ⟨by decide, (Option.some.inj h).symm⟩
  | 4, h => exact ⟨by decide, (Option.some.inj h).symm⟩
  | 5, h => exact ⟨by decide, (Option.some.inj h).symm⟩
  | j + 6, h => exact absurd h (by simp)
theorem bitsC_succ {cs : List Nat} {i c : Nat} (h : cs[i]? = some c) : bitsC (cs.take (i + 1)) = bitsC (cs.take i) ++ bits6 c := by
  unfold bitsC
  rw [List.take_succ, h, List.flatMap_append]
  show _ ++ ([c].flatMap bits6) = _
  rw [List.flatMap_cons, List.flatMap_nil, List.append_nil]
theorem pairsG_nodup : ∀ n, n ≤ 9 → (pairsG n).Nodup := by decide +kernel
theorem tellP_sublist : ∀ (ps : List E2) (bs : List Nat), (tellP ps bs).Sublist ps
  | [], bs => by unfold tellP; rw [List.zip_nil_left]; exact List.Sublist.refl _
  | p :: ps, [] => by unfold tellP; rw [List.zip_nil_right]; exact List.nil_sublist _
  | p :: ps, b :: bs => by
    have ih := tellP_sublist ps bs
    unfold tellP at ih ⊢
    rw [List.zip_cons_cons, List.filter_cons]
    split
    · rw [List.map_cons]
      exact ih.cons_cons p
    · exact ih.cons p
theorem tellP_nodup {ps : List E2} {bs : List Nat} (h : ps.Nodup) : (tellP ps bs).Nodup := h.sublist (tellP_sublist ps bs)
end My

set_option maxHeartbeats 4000000
/-! What is told is fit to be shown. -/
namespace My
open PySem PySem.Spec PyProof.Rows L2
theorem app_len (a b : Str) : (a ++ b).length = a.length + b.length := by
  show (a.cps ++ b.cps).size = _
  rw [Array.size_append]
  rfl
theorem tup_len (ts : List Str) : (tupleText ts).length ≤ (ts.map (·.length)).sum + 2 * ts.length + 3 := by
  have h := StrLaws.join_length_le ", " ts
  have c : ((", " : String) : Str).length = 2 := by decide +kernel
  have o : (("(" : String) : Str).length = 1 := by decide +kernel
  have e1 : ((",)" : String) : Str).length = 2 := by decide +kernel
  have e2 : ((")" : String) : Str).length = 1 := by decide +kernel
  unfold tupleText
  rw [app_len, app_len, o]
  rw [c] at h
  split
  · rw [e1]; omega
  · rw [e2]; omega
theorem from_len : ∀ (ts : List Str) (k : Nat) (acc : Str), (textFrom k acc ts).length ≤ acc.length + (ts.map (·.length)).sum + 2 * ts.length
  | [], k, acc => by show acc.length ≤ acc.length + 0 + 0; omega
  | t :: ts, k, acc => by
    have h := from_len ts (k + 1) (acc ++ (((if k > 0 then ", " else "" : String)) : Str) ++ t)
    have c : ((", " : String) : Str).length = 2 := by decide +kernel
    have c0 : (("" : String) : Str).length = 0 := by decide +kernel
    have e : (acc ++ (((if k > 0 then ", " else "" : String)) : Str) ++ t : Str).length ≤ acc.length + 2 + t.length := by
      rw [app_len, app_len]
      split
      · rw [c]; omega
      · rw [c0]; omega
    show (textFrom (k + 1) (acc ++ (((if k > 0 then ", " else "" : String)) : Str) ++ t) ts).length ≤ _
    rw [List.map_cons, List.sum_cons, List.length_cons]
    omega
theorem lst_len (ts : List Str) : (listText ts).length ≤ (ts.map (·.length)).sum + 2 * ts.length + 2 := by
  have h := from_len ts 0 "["
  have o : (("[" : String) : Str).length = 1 := by decide +kernel
  have e2 : (("]" : String) : Str).length = 1 := by decide +kernel
  unfold listText
  rw [app_len, e2]
  rw [o] at h
  omega
theorem pair_fine : ∀ a, a ≤ 9 → ∀ b, b ≤ 9 → (pairD (a, b)).shown.length ≤ 6 ∧ (pairD (a, b)).showable = true := by decide +kernel
theorem pairs_fine : ∀ {es : List E2}, (∀ p ∈ es, p.1 ≤ 9 ∧ p.2 ≤ 9) → ((PyData.shownAll (es.map pairD)).map (·.length)).sum ≤ 6 * es.length ∧ (PyData.shownAll (es.map pairD)).length = es.length ∧ PyData.showableAll (es.map pairD) = true
  | [], _ => ⟨Nat.le_refl _, rfl, by rw [List.map_nil]; simp [PyData.showableAll]⟩
  | p :: es, h => by
    obtain ⟨h1, h2, h3⟩ := pairs_fine (es := es) fun q hq => h q (List.mem_cons_of_mem _ hq)
    obtain ⟨a, b⟩ := h p (List.mem_cons_self ..)
    obtain ⟨f1, f2⟩ := pair_fine p.1 a p.2 b
    rw [List.map_cons]
    simp only [PyData.shownAll, PyData.showableAll, List.map_cons, List.sum_cons, List.length_cons]
    refine ⟨?_, by omega, ?_⟩
    · have f1' : (pairD p).shown.length ≤ 6 := f1
      omega
    · have f2' : (pairD p).showable = true := f2
      rw [f2', h3]
      rfl
theorem num_fine : ∀ n : Nat, n ≤ 9 → (PyData.int (n : Int)).shown.length ≤ 1 ∧ (PyData.int (n : Int)).showable = true := by decide +kernel
theorem graph_fine {n : Nat} {es : List E2} (g : Good n es) : (graphD n es).shown.length ≤ 400 ∧ (graphD n es).showable = true ∧ (graphD n es).depth ≤ 3 := by
  have n9 := g.n9
  obtain ⟨h1, h2, h3⟩ := pairs_fine (es := es) fun p hp => by have := g.lt p hp; omega
  obtain ⟨f1, f2⟩ := num_fine n n9
  have few := g.few
  have t1 := tup_len (PyData.shownAll (es.map pairD))
  have t2 := tup_len [(PyData.int (n : Int)).shown, tupleText (PyData.shownAll (es.map pairD))]
  have pd := pairsD_depth es
  unfold graphD
  refine ⟨?_, ?_, ?_⟩
  · have e : (PyData.tuple [.int (n : Int), .tuple (es.map pairD)]).shown = tupleText [(PyData.int (n : Int)).shown, tupleText (PyData.shownAll (es.map pairD))] := by simp [PyData.shown, PyData.shownAll]
    rw [e]
    simp only [List.map_cons, List.map_nil, List.sum_cons, List.sum_nil, List.length_cons, List.length_nil] at t2
    omega
  · simp [PyData.showable, PyData.showableAll, h3]
    simpa [PyData.showable] using f2
  · simp only [PyData.depth, PyData.depthAll]
    omega
def FineD (d : PyData) : Prop := d.showable = true ∧ d.depth ≤ 60 ∧ d.shown.length ≤ sizeLine
instance (d : PyData) : Decidable (FineD d) := inferInstanceAs (Decidable (_ ∧ _ ∧ _))
theorem bad_fine : ∀ k : Nat, k ≤ 950 → FineD (.list [.str "wrong", .int (k : Int)]) := by decide +kernel
theorem told_fine {n : Nat} {es : List E2} (g : Good n es) : FineD (.list [.str "told", graphD n es]) := by
  obtain ⟨h1, h2, h3⟩ := graph_fine g
  have c : (reprText "told").length = 6 := by decide +kernel
  have t := lst_len [reprText "told", (graphD n es).shown]
  refine ⟨?_, ?_, ?_⟩
  · simp [PyData.showable, PyData.showableAll, h2]
  · simp only [PyData.depth, PyData.depthAll]
    omega
  · have e : (PyData.list [.str "told", graphD n es]).shown = listText [reprText "told", (graphD n es).shown] := by simp [PyData.shown, PyData.shownAll]
    rw [e]
    simp only [List.map_cons, List.map_nil, List.sum_cons, List.sum_nil, List.length_cons, List.length_nil] at t
    exact Nat.le_trans t (Nat.le_of_lt (small1000 (by omega)))
theorem three_fine {n : Nat} {es : List E2} (g : Good n es) {z : Str} (hz : ∀ c ∈ z.cps.toList, c < 128) (zl : z.length ≤ 30) : FineD (.list [.str z, .str z, .list [.str "told", graphD n es]]) := by
  obtain ⟨h1, h2, h3⟩ := told_fine g
  obtain ⟨k1, k2, k3⟩ := graph_fine g
  have r := StrLaws.reprText_len z fun c hc => Nat.lt_trans (hz c hc) (by decide)
  have c : (reprText "told").length = 6 := by decide +kernel
  have t0 := lst_len [reprText "told", (graphD n es).shown]
  have t := lst_len [reprText z, reprText z, listText [reprText "told", (graphD n es).shown]]
  refine ⟨?_, ?_, ?_⟩
  · simp [PyData.showable, PyData.showableAll, k2]
  · simp only [PyData.depth, PyData.depthAll]
    omega
  · have e : (PyData.list [.str z, .str z, .list [.str "told", graphD n es]]).shown = listText [reprText z, reprText z, listText [reprText "told", (graphD n es).shown]] := by simp [PyData.shown, PyData.shownAll]
    rw [e]
    simp only [List.map_cons, List.map_nil, List.sum_cons, List.sum_nil, List.length_cons, List.length_nil] at t t0
    exact Nat.le_of_lt (Nat.lt_of_le_of_lt t (by
      refine Nat.lt_of_lt_of_le (show _ < 5000 by omega) ?_
      rw [sizeLine_eq]
      decide))
end My

set_option maxHeartbeats 2000000
/-! Values of any kind, by their shape; what is a graph, a lot. -/
namespace My
open PySem PySem.Spec PyProof.Rows L2
inductive Sh where
  | int (i : Int)
  | bool (b : Bool)
  | str (x : Str)
  | tup (ss : List Sh)
  | oth
mutual
inductive ShAt (K : PySem.W.Frag) (H : Hp) : V → Sh → Prop
  | int (i : Int) : ShAt K H (.int i) (.int i)
  | bool (b : Bool) : ShAt K H (.bl b) (.bool b)
  | tup {t : Addr} {xs : List V} {ss : List Sh} (h : SqT K H t xs) (r : ShsAt K H xs ss) : ShAt K H (.ref t) (.tup ss)
  | non : ShAt K H .non .oth
  | str (x : Str) : ShAt K H (.str x) (.str x)
  | lst {a : Addr} {xs : List V} (h : SqL K H a xs) : ShAt K H (.ref a) .oth
  | dct {a : Addr} {kvs : List (Key × V)} (h : H a = some (.dK kvs)) : ShAt K H (.ref a) .oth
inductive ShsAt (K : PySem.W.Frag) (H : Hp) : List V → List Sh → Prop
  | nil : ShsAt K H [] []
  | cons {x : V} {s : Sh} {xs : List V} {ss : List Sh} (a : ShAt K H x s) (r : ShsAt K H xs ss) : ShsAt K H (x :: xs) (s :: ss)
end
/-- tuples and dicts stay, lists stay lists -/
structure Kp (K : PySem.W.Frag) (H H' : Hp) : Prop where
  tup : ∀ t xs, SqT K H t xs → SqT K H' t xs
  lst : ∀ a xs, SqL K H a xs → ∃ ys, SqL K H' a ys
  dct : ∀ a kvs, H a = some (.dK kvs) → H' a = some (.dK kvs)
theorem Kp.of {K : PySem.W.Frag} {H H' : Hp} (s : Same H H') : Kp K H H' := ⟨fun t xs h => Same.tup s h, fun a xs h => ⟨xs, L2.Same.seq s h⟩, fun a kvs h => s _ _ h⟩
theorem Kp.trans {K : PySem.W.Frag} {H1 H2 H3 : Hp} (a : Kp K H1 H2) (b : Kp K H2 H3) : Kp K H1 H3 := ⟨fun t xs h => b.tup t xs (a.tup t xs h), fun c xs h => by
    obtain ⟨ys, h2⟩ := a.lst c xs h
    exact b.lst c ys h2, fun c kvs h => b.dct c kvs (a.dct c kvs h)⟩
mutual
theorem ShAt.kp {K : PySem.W.Frag} {H H' : Hp} (e : Kp K H H') : ∀ {v : V} {s : Sh}, ShAt K H v s → ShAt K H' v s
  | _, _, .int i => .int i
  | _, _, .bool b => .bool b
  | _, _, .tup h r => .tup (e.tup _ _ h) (ShsAt.kp e r)
  | _, _, .non => .non
  | _, _, .str x => .str x
  | _, _, .lst h => by
    obtain ⟨ys, h2⟩ := e.lst _ _ h
    exact .lst h2
  | _, _, .dct h => .dct (e.dct _ _ h)
theorem ShsAt.kp {K : PySem.W.Frag} {H H' : Hp} (e : Kp K H H') : ∀ {xs : List V} {ss : List Sh}, ShsAt K H xs ss → ShsAt K H' xs ss
  | _, _, .nil => .nil
  | _, _, .cons a r => .cons (a.kp e) (ShsAt.kp e r)
end
theorem ShAt.same {K : PySem.W.Frag} {H H' : Hp} (e : Same H H') {v : V} {s : Sh} (h : ShAt K H v s) : ShAt K H' v s := h.kp (Kp.of e)
theorem ShsAt.same {K : PySem.W.Frag} {H H' : Hp} (e : Same H H') {xs : List V} {ss : List Sh} (h : ShsAt K H xs ss) : ShsAt K H' xs ss := h.kp (Kp.of e)
theorem ShsAt.len {K : PySem.W.Frag} {H : Hp} : ∀ {xs : List V} {ss : List Sh}, ShsAt K H xs ss → xs.length = ss.length
  | _, _, .nil => rfl
  | _, _, .cons _ r => congrArg (· + 1) (ShsAt.len r)
theorem ShsAt.get {K : PySem.W.Frag} {H : Hp} : ∀ {xs : List V} {ss : List Sh}, ShsAt K H xs ss → ∀ {i : Nat} {x : V}, xs[i]? = some x → ∃ s, ss[i]? = some s ∧ ShAt K H x s
  | _, _, .nil, i, x, e => by simp at e
  | _, _, .cons a r, 0, x, e => by simp at e; subst e; exact ⟨_, rfl, a⟩
  | _, _, .cons a r, i + 1, x, e => by
    obtain ⟨s, h1, h2⟩ := ShsAt.get r (i := i) (x := x) (by simpa using e)
    exact ⟨s, by simpa using h1, h2⟩
theorem ShsAt.app {K : PySem.W.Frag} {H : Hp} : ∀ {xs ys : List V} {ss ts : List Sh}, ShsAt K H xs ss → ShsAt K H ys ts → ShsAt K H (xs ++ ys) (ss ++ ts)
  | _, _, _, _, .nil, h => h
  | _, _, _, _, .cons a r, h => .cons a (ShsAt.app r h)
/-- the type's name -/
def tyOk (T : String) : Sh → Prop
  | .int _ => T = "int"
  | .bool _ => T = "bool"
  | .tup _ => T = "tuple"
  | .str _ => T = "str"
  | .oth => T ≠ "int" ∧ T ≠ "bool" ∧ T ≠ "tuple" ∧ T ≠ "str"
theorem ShAt.ty {K : PySem.W.Frag} {H : Hp} {v : V} {s : Sh} (h : ShAt K H v s) : ∃ T, TyB K H v T ∧ tyOk T s := by
  cases h with
  | int i => exact ⟨_, .int i, rfl⟩
  | bool b => exact ⟨_, .bl b, rfl⟩
  | tup h r => exact ⟨_, .tup h, rfl⟩
  | non => exact ⟨_, .non, (by decide : ("NoneType" : String) ≠ "int" ∧ ("NoneType" : String) ≠ "bool" ∧ ("NoneType" : String) ≠ "tuple" ∧ ("NoneType" : String) ≠ "str")⟩
  | str x => exact ⟨_, .str x, rfl⟩
  | lst h => exact ⟨_, .lst h, (by decide : ("list" : String) ≠ "int" ∧ ("list" : String) ≠ "bool" ∧ ("list" : String) ≠ "tuple" ∧ ("list" : String) ≠ "str")⟩
  | dct h => exact ⟨_, .dK h, (by decide : ("dict" : String) ≠ "int" ∧ ("dict" : String) ≠ "bool" ∧ ("dict" : String) ≠ "tuple" ∧ ("dict" : String) ≠ "str")⟩
def wholeF (lo : Int) : Sh → Bool
  | .int i => decide (i ≥ lo)
  | _ => false
def wholeR (lo hi : Int) : Sh → Bool
  | .int i => decide (i ≥ lo) && decide (i ≤ hi)
  | _ => false
def isTwo : Sh → Bool
  | .tup [_, _] => true
  | _ => false
def vpB (n : Int) : Sh → Bool
  | .tup [a, b] => wholeR 0 (n - 1) a && wholeR 0 (n - 1) b
  | _ => false
def lt2 : Sh → Bool
  | .tup [.int a, .int b] => decide (a < b)
  | _ => false
def edgeB (n : Int) (s : Sh) : Bool := vpB n s && lt2 s
/-- one stands ahead of the other, as numbers or as pairs of numbers -/
def ltS : Sh → Sh → Bool
  | .int a, .int b => decide (a < b)
  | .tup [.int a, .int b], .tup [.int c, .int d] => HT.lexLt [a, b] [c, d]
  | _, _ => false
def ascB : List Sh → Bool
  | s :: t :: r => ltS s t && ascB (t :: r)
  | _ => true
def isGr : Sh → Bool
  | .tup [.int n, .tup es] => (decide (n ≥ 0) && decide (n ≤ 9)) && (es.all (edgeB n) && ascB es)
  | _ => false
def isLot (n : Nat) : Sh → Bool
  | .tup ss => ss.all (wholeR 0 ((n : Int) - 1)) && ascB ss
  | _ => false
end My

set_option maxHeartbeats 4000000
/-! What the second family of laws draws from: the pot; values of any kind made from written ones. -/
namespace My
open PySem PySem.Spec PyProof.Rows L2
theorem same_new {H : Hp} {p : Addr} (h : H p = none) (o : HO) : Same H (upd H p o) := fun b u q => by rw [upd_ne (ne_of_none q h)]; exact q
theorem small {n : Nat} (h : n ≤ 1000) : n ≤ sizeLine := Nat.le_of_lt (small1000 h)
theorem iteB {c : Bool} {A B : Prop} (h1 : c = true → A) (h2 : c = false → B) : if c = true then A else B := by
  cases c with
  | true => exact iteT (h1 rfl)
  | false => exact iteF (h2 rfl)
theorem join {i : Nat} {σ : L2.St} {N : L2.St → Hp → Prop} {H : Hp} {G : Prop} {R : V → Prop} (h : (∀ v, R v → gName i v σ H N) → G) (g : ∀ v, R v → gName i v σ H N) : G := h g
theorem joinS {i : Nat} {σ : L2.St} {N : L2.St → Hp → Prop} {G : Prop} {R : V → Hp → Prop} (h : (∀ v H, R v H → gName i v σ H N) → G) (g : ∀ v H, R v H → gName i v σ H N) : G := h g
theorem joinT {N : L2.St → Hp → Prop} {G : Prop} {R : L2.St → Hp → Prop} (h : (∀ σ H, R σ H → N σ H) → G) (g : ∀ σ H, R σ H → N σ H) : G := h g
/-- a pot at p -/
def Wl (H : Hp) (p : Addr) : Prop := ∃ (a : Int) (b : Fin 2147483629) (c : Int), H p = some (.lst [.int a, .int ((b.val : Nat) : Int), .int c])
theorem wl_mk {H : Hp} {p : Addr} {a x c : Int} (h : H p = some (.lst [.int a, .int x, .int c])) (h0 : 0 ≤ x) (h1 : x < 2147483629) : Wl H p := by
  refine ⟨a, ⟨x.toNat, by omega⟩, c, ?_⟩
  rw [h]
  have : ((x.toNat : Nat) : Int) = x := by omega
  show _ = some (HO.lst [.int a, .int ((x.toNat : Nat) : Int), .int c])
  rw [this]
/-- all but p is as it was -/
def But (p : Addr) (H H' : Hp) : Prop := ∀ q o, q ≠ p → H q = some o → H' q = some o
theorem But.refl (p : Addr) (H : Hp) : But p H H := fun _ _ _ e => e
theorem But.trans {p : Addr} {H1 H2 H3 : Hp} (x : But p H1 H2) (y : But p H2 H3) : But p H1 H3 := fun q o n e => y q o n (x q o n e)
theorem But.new {p q : Addr} {H : Hp} {o : HO} (n : H q = none) : But p H (upd H q o) := fun b u _ e => by rw [upd_ne (ne_of_none e n)]; exact e
theorem But.put {p : Addr} {H : Hp} {o : HO} : But p H (upd H p o) := fun b u n e => by rw [upd_ne n]; exact e
theorem But.of {p : Addr} {H H' : Hp} (s : Same H H') : But p H H' := fun b u _ e => s b u e
/-- the heap without p -/
def hide (p : Addr) (H : Hp) : Hp := fun q => if q = p then none else H q
theorem hide_ne {p q : Addr} {H : Hp} (h : q ≠ p) : hide p H q = H q := if_neg h
theorem hide_at {p : Addr} {H : Hp} : hide p H p = none := if_pos rfl
theorem hide_some {p q : Addr} {H : Hp} {o : HO} (h : hide p H q = some o) : q ≠ p ∧ H q = some o := by
  by_cases e : q = p
  · rw [e, hide_at] at h
    cases h
  · rw [hide_ne e] at h
    exact ⟨e, h⟩
theorem hide_sub (p : Addr) (H : Hp) : Same (hide p H) H := fun q o h => (hide_some h).2
theorem But.hide {p : Addr} {H H' : Hp} (h : But p H H') : Same (hide p H) (hide p H') := fun q o e => by
  obtain ⟨n, e⟩ := hide_some e
  rw [hide_ne n]
  exact h q o n e
def Fine (d : PyData) : Prop := d.showable = true ∧ d.depth ≤ 60 ∧ d.shown.length ≤ sizeLine
instance (d : PyData) : Decidable (Fine d) := inferInstanceAs (Decidable (_ ∧ _ ∧ _))
theorem take_succ {α : Type} {l : List α} {i : Nat} {x : α} (h : l[i]? = some x) : l.take (i + 1) = l.take i ++ [x] := by
  rw [List.take_succ, h]
  rfl
/-- every tuple stays -/
def TS (H H' : Hp) : Prop := ∀ q xs, Rd H q (.tup xs) → Rd H' q (.tup xs)
theorem TS.refl (H : Hp) : TS H H := fun _ _ h => h
theorem TS.trans {H1 H2 H3 : Hp} (a : TS H1 H2) (b : TS H2 H3) : TS H1 H3 := fun q xs h => b q xs (a q xs h)
theorem TS.of {H H' : Hp} (s : Same H H') : TS H H' := fun q xs h => by
  rcases h with h | ⟨o, h⟩
  · exact .inl (s _ _ h)
  · exact .inr ⟨o, s _ _ h⟩
theorem TS.put {H : Hp} {D : Addr} {zs : List V} {o : HO} (h : H D = some (.lst zs)) : TS H (upd H D o) := fun q xs r => by
  have ne : q ≠ D := fun z => by
    rw [z] at r
    rcases r with r | ⟨_, r⟩ <;> (rw [h] at r; cases r)
  unfold Rd
  rw [upd_ne ne]
  exact r
theorem TS.but {p : Addr} {H H' : Hp} (b : But p H H') (w : Wl H p) : TS H H' := fun q xs r => by
  obtain ⟨x, y, z, hp⟩ := w
  have ne : q ≠ p := fun e => by
    rw [e] at r
    rcases r with r | ⟨_, r⟩ <;> (rw [hp] at r; cases r)
  rcases r with r | ⟨o, r⟩
  · exact .inl (b _ _ ne r)
  · exact .inr ⟨o, b _ _ ne r⟩
theorem TS.tup {K : PySem.W.Frag} {H H' : Hp} (s : TS H H') {t : Addr} {xs : List V} (h : SqT K H t xs) : SqT K H' t xs := by
  rcases h with h | h
  · exact .inl (s _ _ h)
  · exact .inr h
theorem PairsAt.ts {K : PySem.W.Frag} {H H' : Hp} (e : TS H H') : ∀ {xs : List V} {ps : List E2}, PairsAt K H xs ps → PairsAt K H' xs ps
  | _, _, .nil => .nil
  | _, _, .cons ⟨t, h1, h2⟩ b => .cons ⟨t, h1, e.tup h2⟩ (PairsAt.ts e b)
theorem PairsAt.len {K : PySem.W.Frag} {H : Hp} : ∀ {xs : List V} {ps : List E2}, PairsAt K H xs ps → xs.length = ps.length
  | _, _, .nil => rfl
  | _, _, .cons _ b => congrArg (· + 1) (PairsAt.len b)
theorem GraphAt.ts {K : PySem.W.Frag} {H H' : Hp} (s : TS H H') {x : V} {n : Nat} {es : List E2} (h : GraphAt K H x n es) : GraphAt K H' x n es := by
  obtain ⟨t, e, xs, rfl, h1, h2, h3⟩ := h
  exact ⟨t, e, xs, rfl, s.tup h1, s.tup h2, h3.ts s⟩
theorem Wl.same {H H' : Hp} {p : Addr} (s : Same H H') (w : Wl H p) : Wl H' p := by
  obtain ⟨a, b, c, h⟩ := w
  exact ⟨a, b, c, s _ _ h⟩
theorem Wl.put {H : Hp} {p D : Addr} {o : HO} (w : Wl H p) (ne : D ≠ p) : Wl (upd H D o) p := by
  obtain ⟨a, b, c, h⟩ := w
  exact ⟨a, b, c, by rw [upd_ne (Ne.symm ne)]; exact h⟩
theorem Wl.ne {H : Hp} {p D : Addr} (w : Wl H p) (n : H D = none) : D ≠ p := by
  obtain ⟨a, b, c, h⟩ := w
  rintro rfl
  rw [h] at n
  cases n
theorem Wl.off {K : PySem.W.Frag} {H : Hp} {p t : Addr} {xs : List V} (w : Wl H p) (h : SqT K H t xs) : SqT K (hide p H) t xs := by
  obtain ⟨a, b, c, hp⟩ := w
  rcases h with h | h
  · left
    have ne : t ≠ p := fun e => by
      rw [e] at h
      rcases h with r | ⟨_, r⟩ <;> (rw [hp] at r; cases r)
    unfold Rd
    rw [hide_ne ne]
    exact h
  · exact .inr h
theorem Wl.ts {K : PySem.W.Frag} {H H' : Hp} {p t : Addr} {xs : List V} (w : Wl H p) (b : But p H H') (h : SqT K H t xs) : SqT K H' t xs := (TS.but b w).tup h
theorem Kp.but {K : PySem.W.Frag} {p : Addr} {H H' : Hp} (b : But p H H') (w : Wl H p) (w' : Wl H' p) : Kp K H H' := by
  refine ⟨fun t xs h => (TS.but b w).tup h, fun a xs h => ?_, fun a kvs h => ?_⟩
  · obtain ⟨x, y, z, hp⟩ := w
    obtain ⟨x', y', z', hp'⟩ := w'
    rcases h with (h | ⟨o, h⟩) | h
    · by_cases e : a = p
      · subst e
        exact ⟨_, SqL.of hp'⟩
      · exact ⟨xs, SqL.of (b _ _ e h)⟩
    · by_cases e : a = p
      · subst e
        rw [hp] at h
        cases h
      · exact ⟨xs, .inl (.inr ⟨o, b _ _ e h⟩)⟩
    · exact ⟨xs, .inr h⟩
  · obtain ⟨x, y, z, hp⟩ := w
    have e : a ≠ p := fun e => by
      subst e
      rw [hp] at h
      cases h
    exact b _ _ e h
theorem ShAt.but {K : PySem.W.Frag} {p : Addr} {H H' : Hp} (b : But p H H') (w : Wl H p) (w' : Wl H' p) {v : V} {s : Sh} (h : ShAt K H v s) : ShAt K H' v s := h.kp (Kp.but b w w')
theorem ShsAt.but {K : PySem.W.Frag} {p : Addr} {H H' : Hp} (b : But p H H') (w : Wl H p) (w' : Wl H' p) {v : List V} {s : List Sh} (h : ShsAt K H v s) : ShsAt K H' v s := h.kp (Kp.but b w w')
/-! ### rules -/
/-- t + u, whatever of them is () -/
def rCatW (K : PySem.W.Frag) : R2 := fun x y H Q => ∃ a b xs ys, x = .ref a ∧ y = .ref b ∧ SqT K H a xs ∧ SqT K H b ys ∧ xs.length + ys.length ≤ sizeLine ∧ ∀ p H', Same H H' → SqT K H' p (xs ++ ys) → Q (.ref p) H'
theorem op_catW {X : Cx} : OpR X (binaryOp .Add) (rCatW X.K) := by
  intro pins s σ H x y v u Q I rx ry h
  obtain ⟨a, b, xs, ys, rfl, rfl, ha, hb, hz, q⟩ := h
  refine op_catA pins s σ H _ _ v u Q I rx ry ⟨a, b, xs, ys, rfl, rfl, ha, hb, hz, fun e => ?_, fun _ e => ?_, fun _ _ p np => q p _ (same_new np _) (SqT.of upd_same)⟩
  · subst e
    exact q b H (Same.refl H) hb
  · subst e
    exact q a H (Same.refl H) (by rw [List.append_nil]; exact ha)
/-- t[lo:hi], the whole of it too -/
def rSlW (K : PySem.W.Frag) : V → Option Int → Option Int → Hp → VK → Prop := fun x lo hi H Q => ∃ a xs, x = .ref a ∧ SqT K H a xs ∧ ∀ p H', Same H H' → SqT K H' p (cutV xs lo hi) → Q (.ref p) H'
theorem sl_tupW {X : Cx} : SlR X (rSlW X.K) := by
  intro pins s σ H x v vl vu lo hi sl Q I rx hs pl pu h
  obtain ⟨a, xs, rfl, hx, q⟩ := h
  refine sl_tupA pins s σ H _ v vl vu lo hi sl Q I rx hs pl pu ⟨a, xs, rfl, hx, fun w => q a H (Same.refl H) ?_, fun _ p np => q p _ (same_new np _) (SqT.of upd_same)⟩
  have e : cutV xs lo hi = xs := by
    unfold cutV
    rw [w.1, w.2, List.drop_zero, Nat.sub_zero, List.take_length]
  rw [e]
  exact hx
theorem ShsAt.drop {K : PySem.W.Frag} {H : Hp} : ∀ {xs : List V} {ss : List Sh} (k : Nat), ShsAt K H xs ss → ShsAt K H (xs.drop k) (ss.drop k)
  | _, _, 0, h => h
  | _, _, k + 1, .nil => .nil
  | _, _, k + 1, .cons _ r => ShsAt.drop k r
theorem ShsAt.take {K : PySem.W.Frag} {H : Hp} : ∀ {xs : List V} {ss : List Sh} (k : Nat), ShsAt K H xs ss → ShsAt K H (xs.take k) (ss.take k)
  | _, _, 0, _ => .nil
  | _, _, k + 1, .nil => .nil
  | _, _, k + 1, .cons a r => .cons a (ShsAt.take k r)
theorem ShsAt.cut {K : PySem.W.Frag} {H : Hp} {xs : List V} {ss : List Sh} (h : ShsAt K H xs ss) (lo hi : Option Int) : ∃ ts, ShsAt K H (cutV xs lo hi) ts := ⟨_, (h.drop _).take _⟩
theorem ShsAt.rev {K : PySem.W.Frag} {H : Hp} : ∀ {xs : List V} {ss : List Sh}, ShsAt K H xs ss → ShsAt K H xs.reverse ss.reverse
  | _, _, .nil => .nil
  | _, _, .cons a r => by
    rw [List.reverse_cons, List.reverse_cons]
    exact (ShsAt.rev r).app (.cons a .nil)
theorem ShsAt.mem {K : PySem.W.Frag} {H : Hp} {xs : List V} {ss : List Sh} (h : ShsAt K H xs ss) {x : V} (m : x ∈ xs) : ∃ s, s ∈ ss ∧ ShAt K H x s := by
  obtain ⟨i, hi, e⟩ := List.getElem_of_mem m
  obtain ⟨s, h1, h2⟩ := h.get (i := i) (x := x) (by rw [List.getElem?_eq_getElem hi, e])
  exact ⟨s, List.mem_of_getElem? h1, h2⟩
/-- t[::-1], t a tuple -/
theorem getItem_tuple_rev {prog : Program} {w : World} {A : Around} {E : Value → Shared → Prop} {s : Shared} {t sl : Addr} {items : Array Value} {k : Tok} {Q : Value → Shared → Prop} (ht : IsTup s.heap t items) (hs : s.heap.IsSliceOf sl .none .none (.int (-1) k))
    (h : Q (.ref s.heap.objs.size) { s with heap := s.heap.push { cls := .type "tuple", data := .seq items.toList.reverse.toArray } }) (hsz : items.size ≤ sizeLine) : wpAny (model prog w) A (getItem (.ref t) (.ref sl)) Q E s := by
  have htake : sizeOk (.seq items.toList.reverse.toArray) := by
    show items.toList.reverse.toArray.size ≤ sizeLine
    rw [List.size_toArray, List.length_reverse, Array.length_toList]
    exact hsz
  obtain ⟨os, hos, hcs, hds⟩ := id hs
  have hTs : s.TypeIs (.ref sl) "slice" := ⟨os, hos, hcs⟩
  unfold getItem
  try with_reducible refine wpAny_holding ?_
  first | refine wpAny_bind (wpAny_pure ?_) | skip
  refine wpAny_bind (wpAny_sequenceKey ht.typeIs (by decide) ?_)
  refine wpAny_bind (wpAny_callSpecial?_slot (name := Str.ofString "__getitem__") ht.typeIs PyProof.Rows.slot_tuple_getitem
    (wpAny_call_entry PyProof.Rows.slot_tuple_getitem ht.typeIs entry_tuple_getitem ?_ (args_tuple_getitem _ _)))
  show wpAny _ _ (Builtin.Tuple.tupleItemsOf (.ref t) >>= _) _ _ s
  refine wpAny_bind (tupleItemsOf_ ht ?_)
  refine wpAny_bind (wpAny_typeOf hTs ?_)
  rw [if_pos (by decide)]
  have ap : Builtin.Slice.sliceAdjust none none (-1) (items.size : Int) = ((items.size : Int) - 1, -1) := rfl
  have pl : Builtin.Slice.slicePlaces ((items.size : Int) - 1) (-1) (-1) = items.size := by
    unfold Builtin.Slice.slicePlaces
    rw [if_neg (by decide)]
    by_cases z : items.size = 0
    · rw [z]
      rfl
    · rw [if_pos (by omega)]
      have : ((items.size : Int) - 1 - -1 - 1) / (- -1) + 1 = (items.size : Int) := by
        rw [show - (-1 : Int) = 1 by decide, Int.ediv_one]
        omega
      rw [this, Int.toNat_natCast]
  have pk : ((List.range items.size).filterMap fun (m : Nat) => items[(((items.size : Int) - 1) + (m : Int) * -1).toNat]?).toArray = items.toList.reverse.toArray := by
    congr 1
    refine List.ext_getElem? fun j => ?_
    have e : ∀ n, n ≤ items.size → (List.range n).filterMap (fun (m : Nat) => items[(((items.size : Int) - 1) + (m : Int) * -1).toNat]?) = (items.toList.reverse).take n := fun n => by
      induction n with
      | zero => intro _; rfl
      | succ n ih =>
        intro h
        have hn : n < items.toList.reverse.length := by rw [List.length_reverse, Array.length_toList]; omega
        rw [List.range_succ, List.filterMap_append, ih (by omega), List.take_add_one, List.getElem?_eq_getElem hn]
        congr 1
        have i1 : (((items.size : Int) - 1) + (n : Int) * -1).toNat = items.size - 1 - n := by omega
        have lt : items.size - 1 - n < items.size := by omega
        rw [List.getElem_reverse]
        simp only [List.filterMap_cons, List.filterMap_nil, i1, Array.getElem?_eq_getElem lt, Option.toList_some]
        simp
    rw [e _ (Nat.le_refl _), List.take_of_length_le (by rw [List.length_reverse, Array.length_toList]; exact Nat.le_refl _)]
  refine wpAny_bind ?_
  unfold Builtin.Slice.sliceApplied Builtin.Slice.sliceFields
  refine wpAny_bind (wpAny_bind (wpAny_field hos hds (x := .none) rfl (wpAny_bind (wpAny_field hos hds (x := .none) rfl (wpAny_bind (wpAny_field hos hds (x := .int (-1) k) rfl (wpAny_pure ?_)))))))
  refine wpAny_bind (HT.slicePart_ (.int (-1) k) ?_)
  show wpAny _ _ (if ((-1 : Int) == 0) = true then _ else _) _ _ s
  rw [if_neg (by decide)]
  refine wpAny_bind (HT.slicePart_ .none (wpAny_bind (HT.slicePart_ .none (wpAny_bind (wpAny_pure ?_)))))
  show wpAny _ _ (match Builtin.Slice.sliceAdjust none none (-1) (items.size : Int) with | (lo, hi) => pure (lo, (-1 : Int), Builtin.Slice.slicePlaces lo hi (-1))) _ _ s
  rw [ap]
  show wpAny _ _ (pure ((items.size : Int) - 1, (-1 : Int), Builtin.Slice.slicePlaces ((items.size : Int) - 1) (-1) (-1))) _ _ s
  rw [pl]
  refine wpAny_pure ?_
  have hno : ¬ (((items.size : Int) - 1 == 0 && (-1 : Int) == 1 && items.size == items.size) = true) := by simp
  show wpAny _ _ (if ((items.size : Int) - 1 == 0 && (-1 : Int) == 1 && items.size == items.size) = true then _ else _) _ _ s
  rw [if_neg hno, pk]
  first
    | exact wpAny_bind (m := Builtin.Tuple.tupleExact _) (wpAny_newObj_type (wpAny_pure ⟨_, rfl, wpAny_pure h⟩) htake)
    | exact wpAny_bind (m := Builtin.Tuple.tupleExact _) (wpAny_newObj_type (wpAny_bind (wpAny_pure (wpAny_pure ⟨_, rfl, wpAny_pure h⟩))) htake)
    | exact wpAny_bind (wpAny_bind (m := Builtin.Tuple.tupleExact _) (wpAny_newObj_type (wpAny_pure (wpAny_pure ⟨_, rfl, wpAny_pure h⟩)) htake))
    | exact wpAny_bind (wpAny_bind (m := Builtin.Tuple.tupleExact _) (wpAny_newObj_type (wpAny_pure ⟨_, rfl, wpAny_pure h⟩) htake))
section
variable {X : Cx}
def tRevT (K : PySem.W.Frag) (te : TE) : TE := fun σ H Q => te σ H fun x H1 => ∃ a xs, x = .ref a ∧ SqT K H1 a xs ∧ ∀ p, H1 p = none → Q (.ref p) (upd H1 p (.tup xs.reverse))
theorem pe_revT {e : Expr} {te : TE} {k : Nat} {p1 p2 p3 pos : Pos} (he : PE X e te) : PE X (.Subscript e (.Slice none none (some (.UnaryOp .USub (.Constant (.int 1) k p1) p2)) p3) pos) (tRevT X.K te) := by
  refine ⟨fun pins s σ H Q I h => ?_⟩
  refine Subscript_ (thn (he.run pins s σ H _ I h) fun v s1 ⟨x, H1, I1, r1, q1⟩ => ?_)
  obtain ⟨a, xs, ex, hx, q⟩ := q1
  subst ex
  cases r1
  have hst : PO X (some (.UnaryOp .USub (.Constant (.int 1) k p1) p2)) (tPart (tUn (rU fun i => .int (-i)) (tC (.int 1)))) := po_some (pe_un un_neg pe_int)
  refine wpAny_Slice (thn (po_none.run pins s1 σ H1 (fun o H2 => o = none ∧ H2 = H1) I1 ⟨rfl, rfl⟩) fun vl s2 ⟨l, H2, I2, pl, el, e2⟩ => ?_)
  subst el e2
  refine thn (po_none.run pins s2 σ H2 (fun o H3 => o = none ∧ H3 = H2) I2 ⟨rfl, rfl⟩) fun vu s3 ⟨u, H3, I3, pu, eu, e3⟩ => ?_
  subst eu e3
  refine thn (hst.run pins s3 σ H3 (fun o H4 => o = some (-1) ∧ H4 = H3) I3 ⟨1, rfl, -1, rfl, rfl, rfl⟩) fun vs s4 ⟨o, H4, I4, ps, eo, e4⟩ => ?_
  subst eo e4
  cases pl
  cases pu
  obtain ⟨tk, rfl⟩ : ∃ tk, vs = Value.int (-1) tk := by
    cases ps
    exact ⟨_, rfl⟩
  have I5 : L2.Inv X pins σ H4 { s4 with heap := s4.heap.push { cls := .type "slice", data := .fields #[.none, .none, .int (-1) tk] } } := I4.kept (t' := s4.toks) fun b ob q => Heap.get?_push_of_some _ q
  obtain ⟨its, r, ht, hz⟩ := I5.tuple hx
  have hlen := r.length
  show wpAny (model X.prog X.w) X.A (subscriptTail e (.Slice none none (some (.UnaryOp .USub (.Constant (.int 1) k p1) p2)) p3) (.ref a) (.ref s4.heap.objs.size)) (EP X pins σ Q) X.xe { s4 with heap := s4.heap.push { cls := .type "slice", data := .fields #[.none, .none, .int (-1) tk] } }
  refine tail_any (ops := [.ref a, .ref s4.heap.objs.size]) ht.typeIs (PyProof.Rows.slot_tuple_getitem.lookup) ?_ (by with_unfolding_all rfl)
  refine getItem_tuple_rev ht (Heap.IsSliceOf.new _ .none .none (.int (-1) tk)) ?_ (by rw [List.size_toArray]; omega)
  refine ⟨.ref _, _, I5.laid (t' := s4.toks) (o := .tup xs.reverse) (fun b ob q => Heap.get?_push_of_some _ q) (Nat.le_refl _) ?_, rfl, q _ (I5.hok.fresh (Nat.le_refl _))⟩
  exact ⟨by rw [List.length_reverse]; exact hz, _, r.reverse, IsTup.new _ _⟩
end
theorem but_put {p l : Addr} {H H1 : Hp} {o : HO} (b : But p H H1) (n : H l = none) : But p H (upd H1 l o) := fun q u ne e => by
  rw [upd_ne (ne_of_none e n)]
  exact b q u ne e
theorem cut_to {xs : List V} {k : Nat} (h : k ≤ xs.length) : cutV xs none (some (k : Int)) = xs.take k := by
  unfold cutV
  rw [HT.sIx_none, HT.sIx_nat, List.drop_zero, Nat.sub_zero, Nat.min_eq_left h]
theorem cut_from {xs : List V} {k : Nat} (h : k ≤ xs.length) : cutV xs (some (k : Int)) none = xs.drop k := by
  unfold cutV
  rw [HT.sIx_none, HT.sIx_nat, Nat.min_eq_left h, List.take_of_length_le (by rw [List.length_drop]; exact Nat.le_refl _)]
/-! ### what is asked of a value's kind -/
def isTup : Sh → Bool
  | .tup _ => true
  | _ => false
def isInt : Sh → Bool
  | .int _ => true
  | .bool _ => true
  | _ => false
def isBool : Sh → Bool
  | .bool _ => true
  | _ => false
theorem tyx_tup {K : PySem.W.Frag} {H : Hp} {t : Addr} {xs : List V} (h : SqT K H t xs) : TyX K H (.ref t) (.type "tuple") := by
  rcases h with (h | ⟨o, h⟩) | ⟨o, its, n, h, c, _⟩
  · exact .base (.tup h)
  · exact .fTuple h
  · exact .kTuple h c
theorem tyx_lst {K : PySem.W.Frag} {H : Hp} {t : Addr} {xs : List V} (h : SqL K H t xs) : TyX K H (.ref t) (.type "list") := by
  rcases h with (h | ⟨o, h⟩) | ⟨o, its, n, h, c, _⟩
  · exact .base (.lst h)
  · exact .base (.frz h)
  · exact .kList h c
theorem isi_of {K : PySem.W.Frag} {H : Hp} {v : V} {s : Sh} (h : ShAt K H v s) : ∃ t, TyX K H v t ∧ PySem.W.kitOne K t (.type "tuple") = some (isTup s) ∧ PySem.W.kitOne K t (.type "int") = some (isInt s) ∧ PySem.W.kitOne K t (.type "bool") = some (isBool s) := by
  cases h with
  | int i => exact ⟨_, .base (.int i), rfl, rfl, rfl⟩
  | bool b => exact ⟨_, .base (.bl b), rfl, rfl, rfl⟩
  | tup h r => exact ⟨_, tyx_tup h, rfl, rfl, rfl⟩
  | non => exact ⟨_, .base .non, rfl, rfl, rfl⟩
  | str x => exact ⟨_, .base (.str x), rfl, rfl, rfl⟩
  | lst h => exact ⟨_, tyx_lst h, rfl, rfl, rfl⟩
  | dct h => exact ⟨_, .base (.dK h), rfl, rfl, rfl⟩
/-! ### shapes of pairs -/
def pairS (p : E2) : Sh := .tup [.int (p.1 : Int), .int (p.2 : Int)]
theorem PairsAt.sh {K : PySem.W.Frag} {H : Hp} : ∀ {xs : List V} {ps : List E2}, PairsAt K H xs ps → ShsAt K H xs (ps.map pairS)
  | _, _, .nil => .nil
  | _, _, .cons ⟨t, h1, h2⟩ b => by
    subst h1
    exact .cons (.tup h2 (.cons (.int _) (.cons (.int _) .nil))) (PairsAt.sh b)
theorem sh_pairs {K : PySem.W.Frag} {H : Hp} : ∀ {xs : List V} {ps : List E2}, ShsAt K H xs (ps.map pairS) → PairsAt K H xs ps
  | _, [], h => by cases h; exact .nil
  | _, p :: ps, h => by
    cases h with
    | cons a r =>
      refine .cons ?_ (sh_pairs r)
      cases a with
      | tup ht ra =>
        cases ra with
        | cons r1 ra =>
          cases ra with
          | cons r2 ra =>
            cases ra
            cases r1
            cases r2
            exact ⟨_, rfl, ht⟩
theorem PairsT.but {p : Addr} {H H' : Hp} (b : But p H H') (w : Wl H p) : ∀ {xs : List V} {ps : List E2}, PairsT H xs ps → PairsT H' xs ps
  | _, _, .nil => .nil
  | _, _, .cons ⟨t, e, h⟩ r => .cons ⟨t, e, b _ _ (fun z => by
      obtain ⟨x, y, c, hp⟩ := w
      rw [z, hp] at h
      cases h) h⟩ (PairsT.but b w r)
/-- sorted pairs, some of them maybe alike -/
theorem sorted_pairsD {H : Hp} {xs ys : List V} {ps : List E2} (h : PairsT H xs ps) (so : SrtO.Srtd (ltP (kOf H)) ys) (st : SrtO.Stb (ltP (kOf H)) ys xs) :
    PairsT H ys (ys.map (gOf H)) ∧ ((ys.map (gOf H)).Pairwise fun a b => ¬ ahead b a) ∧ (ys.map (gOf H)).Perm ps := by
  have pm : (ys.map (gOf H)).Perm ps := by
    have z := st.perm.map (gOf H)
    rw [map_gOf h] at z
    exact z
  have hy : ∀ y ∈ ys, PairT H y (gOf H y) := fun y hy => h.mem y (st.perm.mem_iff.mp hy)
  refine ⟨PairsT.of_mem hy, ?_, pm⟩
  rw [List.pairwise_map]
  refine List.Pairwise.imp_of_mem ?_ so
  intro a b ha hb le
  have ka := kOf_at (hy a ha)
  have kb := kOf_at (hy b hb)
  have le2 : SrtO.lexB (kOf H b) (kOf H a) = false := le
  rw [ka, kb] at le2
  have le3 := mt (SrtO.lexB_iff (p := (((gOf H b).1 : Int), ((gOf H b).2 : Int))) (q := (((gOf H a).1 : Int), ((gOf H a).2 : Int)))).mpr (by rw [le2]; decide)
  dsimp only at le3
  unfold ahead
  omega
theorem PairsT.ks {H : Hp} {xs : List V} {ps : List E2} (h : PairsT H xs ps) : ∀ x ∈ xs, ∃ t, x = V.ref t ∧ H t = some (.tup [.int (kOf H x).1, .int (kOf H x).2]) := fun x hx => by
  have z := h.mem x hx
  have k := kOf_at z
  obtain ⟨t, e, ht⟩ := z
  exact ⟨t, e, by rw [k]; exact ht⟩
theorem wl_tup {p t : Addr} {H : Hp} {xs : List V} (w : Wl H p) (h : H t = some (.tup xs)) : t ≠ p := fun z => by
  obtain ⟨x, y, c, hp⟩ := w
  rw [z, hp] at h
  cases h
theorem rows_few : ∀ u, u ≤ 9 → ∀ n, n ≤ 9 → ((List.range u).flatMap (rowP n)).length ≤ 81 := by decide +kernel
/-- lists of numbers -/
def numsN (l : List Nat) : List V := l.map fun k => V.int ((k : Nat) : Int)
theorem numsN_len (l : List Nat) : (numsN l).length = l.length := List.length_map _
theorem numsN_app (l m : List Nat) : numsN (l ++ m) = numsN l ++ numsN m := List.map_append
theorem numsN_get {l : List Nat} {i : Nat} {x : V} (h : (numsN l)[i]? = some x) : ∃ k, l[i]? = some k ∧ x = .int ((k : Nat) : Int) := by
  unfold numsN at h
  rw [List.getElem?_map] at h
  cases e : l[i]? with
  | none => rw [e] at h; cases h
  | some k => rw [e] at h; cases h; exact ⟨k, rfl, rfl⟩
/-! ### values of some kind, not too long -/
inductive Lb : Sh → Prop
  | int (i : Int) : Lb (.int i)
  | bool (b : Bool) : Lb (.bool b)
  | str (x : Str) : Lb (.str x)
  | oth : Lb .oth
  | tup {ss : List Sh} (l : ss.length ≤ 900) (h : ∀ z ∈ ss, Lb z) : Lb (.tup ss)
def Va (K : PySem.W.Frag) (H : Hp) (v : V) : Prop := ∃ s, ShAt K H v s ∧ Lb s
section
variable {K : PySem.W.Frag} {H : Hp}
theorem Va.int (i : Int) : Va K H (.int i) := ⟨_, .int i, .int i⟩
theorem Va.bl (b : Bool) : Va K H (.bl b) := ⟨_, .bool b, .bool b⟩
theorem Va.str (x : Str) : Va K H (.str x) := ⟨_, .str x, .str x⟩
theorem Va.non : Va K H .non := ⟨_, .non, .oth⟩
theorem Va.lst {a : Addr} {xs : List V} (h : SqL K H a xs) : Va K H (.ref a) := ⟨_, .lst h, .oth⟩
theorem Va.dct {a : Addr} {kvs : List (Key × V)} (h : H a = some (.dK kvs)) : Va K H (.ref a) := ⟨_, .dct h, .oth⟩
theorem va_all : ∀ {xs : List V}, (∀ x ∈ xs, Va K H x) → ∃ ss, ShsAt K H xs ss ∧ ∀ z ∈ ss, Lb z
  | [], _ => ⟨[], .nil, fun _ z => nomatch z⟩
  | x :: xs, h => by
    obtain ⟨s, h1, h2⟩ := h x (List.mem_cons_self ..)
    obtain ⟨ss, h3, h4⟩ := va_all (xs := xs) fun y hy => h y (List.mem_cons_of_mem _ hy)
    refine ⟨s :: ss, .cons h1 h3, fun z hz => ?_⟩
    rcases List.mem_cons.mp hz with rfl | hz
    · exact h2
    · exact h4 z hz
theorem Va.tup {t : Addr} {xs : List V} (h : SqT K H t xs) (l : xs.length ≤ 900) (a : ∀ x ∈ xs, Va K H x) : Va K H (.ref t) := by
  obtain ⟨ss, h1, h2⟩ := va_all a
  exact ⟨.tup ss, .tup h h1, .tup (by rw [← h1.len]; exact l) h2⟩
theorem Va.kp {H' : Hp} (e : Kp K H H') {v : V} (h : Va K H v) : Va K H' v := by
  obtain ⟨s, h1, h2⟩ := h
  exact ⟨s, h1.kp e, h2⟩
theorem Va.same {H' : Hp} (e : Same H H') {v : V} (h : Va K H v) : Va K H' v := h.kp (Kp.of e)
theorem Va.but {p : Addr} {H' : Hp} (b : But p H H') (w : Wl H p) (w' : Wl H' p) {v : V} (h : Va K H v) : Va K H' v := h.kp (Kp.but b w w')
theorem va_cut {xs : List V} (lo hi : Option Int) (h : ∀ x ∈ xs, Va K H x) : ∀ x ∈ cutV xs lo hi, Va K H x := fun x hx => h x (List.mem_of_mem_drop (List.mem_of_mem_take hx))
theorem va_app {xs ys : List V} (h : ∀ x ∈ xs, Va K H x) (g : ∀ x ∈ ys, Va K H x) : ∀ x ∈ xs ++ ys, Va K H x := fun x hx => (List.mem_append.mp hx).elim (h x) (g x)
theorem va_nil : ∀ x ∈ ([] : List V), Va K H x := fun _ z => nomatch z
theorem va_cons {x : V} {xs : List V} (a : Va K H x) (h : ∀ x ∈ xs, Va K H x) : ∀ y ∈ x :: xs, Va K H y := fun y hy => by
  rcases List.mem_cons.mp hy with rfl | hy
  · exact a
  · exact h y hy
end
/-! ### values made from written ones -/
def Mk (K : PySem.W.Frag) (t : TE) : Prop := ∀ (σ : L2.St) (H : Hp) (Q : VK), (∀ v H', Same H H' → Va K H' v → Q v H') → t σ H Q
def MkA (K : PySem.W.Frag) (n : Nat) (t : TA) : Prop := ∀ (σ : L2.St) (H : Hp) (Q : List V → Hp → Prop), (∀ vs H', Same H H' → vs.length = n → (∀ v ∈ vs, Va K H' v) → Q vs H') → t σ H Q
section
variable {K : PySem.W.Frag}
theorem mk_int (i : Int) : Mk K (tC (.int i)) := fun σ H Q h => h _ H (Same.refl H) (.int i)
theorem mk_bl (b : Bool) : Mk K (tC (.bl b)) := fun σ H Q h => h _ H (Same.refl H) (.bl b)
theorem mk_str (x : Str) : Mk K (tC (.str x)) := fun σ H Q h => h _ H (Same.refl H) (.str x)
theorem mk_non : Mk K (tC .non) := fun σ H Q h => h _ H (Same.refl H) .non
theorem mk_nil : MkA K 0 tNil := fun σ H Q h => h _ H (Same.refl H) rfl va_nil
theorem mk_cons {t : TE} {ts : TA} {n : Nat} (a : Mk K t) (b : MkA K n ts) : MkA K (n + 1) (tCons t ts) := fun σ H Q h =>
  a σ H _ fun v H1 s1 hv => b σ H1 _ fun vs H2 s2 l hs => h _ H2 (s1.trans s2) (congrArg (· + 1) l) (va_cons (hv.same s2) hs)
theorem mk_tup {ts : TA} {n : Nat} (hn : n ≤ 900) (b : MkA K n ts) : Mk K (tTup ts) := fun σ H Q h =>
  b σ H _ fun vs H1 s1 l hs => ⟨by rw [l]; exact small (by omega), fun p np => h _ _ (s1.trans (same_new np _)) (.tup (SqT.of upd_same) (by omega) fun x hx => (hs x hx).same (same_new np _))⟩
theorem mk_lst {ts : TA} {n : Nat} (hn : n ≤ 1000) (b : MkA K n ts) : Mk K (tLst ts) := fun σ H Q h =>
  b σ H _ fun vs H1 s1 l hs => ⟨by rw [l]; exact small hn, fun p np => h _ _ (s1.trans (same_new np _)) (.lst (SqL.of upd_same))⟩
theorem mk_dct : Mk K tDNewK := fun σ H Q h => fun p np => h _ _ (same_new np _) (.dct upd_same)
theorem mk_pow (i j : Int) (h : CPow i j) : Mk K (tOp (rI CPow fun i j => .int (i ^ j.toNat)) (tC (.int i)) (tC (.int j))) := fun σ H Q q => ⟨_, _, rfl, rfl, h, q _ H (Same.refl H) (.int _)⟩
theorem mk_neg (i : Int) : Mk K (tUn (rU fun i => .int (-i)) (tC (.int i))) := fun σ H Q q => ⟨i, rfl, q _ H (Same.refl H) (.int _)⟩
theorem set_mk {n i : Nat} {ts : TA} {rest : L2.TS} {D : Ends} {σ : L2.St} {H : Hp} (m : MkA K n ts) (hn : n ≤ 1000) (go : ∀ vs F H1, Same H H1 → vs.length = n → (∀ v ∈ vs, Va K H1 v) → H F = none → H1 F = some (.lst vs) → rest D (σ.set i (some (.ref F))) H1) : tSeq (tAsg (tLst ts) (gName i)) rest D σ H :=
  m σ H _ fun vs H1 s1 l h1 => ⟨by rw [l]; exact small hn, fun F nF => go vs F _ (s1.trans (same_new nF _)) l (fun x hx => (h1 x hx).same (same_new nF _)) (s1.free nF) upd_same⟩
end
end My

set_option maxHeartbeats 4000000
/-! The law's draws from a well, on PtM. -/
namespace My
open PySem PySem.Spec PyProof.Rows L2
def top (i : Nat) : Stmt := PySem.Challenge.pw_perfectgraphs_k05_graphs_lots_complement.main.body.getD i (.Pass ⟨0, 0, 0, 0⟩)
abbrev sWell : Stmt := top 22
abbrev sDraw : Stmt := top 23
abbrev sPick : Stmt := top 24
abbrev sSame : Stmt := top 25
theorem scWell : FnScope ["script", "turn", "cell", "mixed", "each"] ["script", "turn"] (defScope sWell) := ⟨rfl, rfl, rfl, by decide +kernel, rfl, by decide +kernel, by decide +kernel⟩
theorem scDraw : FnScope ["well", "many", "figure", "mixed"] ["well", "many"] (defScope sDraw) := ⟨rfl, rfl, rfl, by decide +kernel, rfl, by decide +kernel, by decide +kernel⟩
theorem scPick : FnScope ["well", "some"] ["well", "some"] (defScope sPick) := ⟨rfl, rfl, rfl, by decide +kernel, rfl, by decide +kernel, by decide +kernel⟩
theorem scSame : FnScope ["told", "due"] ["told", "due"] (defScope sSame) := ⟨rfl, rfl, rfl, by decide +kernel, rfl, by decide +kernel, by decide +kernel⟩

def spWell (K : PySem.W.Frag) : Sp := fun vs H Q _ => ∃ (a : Addr) (ns : List Int) (t : Nat), vs = [.ref a, .int (t : Int)] ∧ SqL K H a (ns.map V.int) ∧ ns.length ≤ 63 ∧ t ≤ 2 ∧
  ∀ (H' : Hp) (p : Addr), Same H H' → H p = none → Wl H' p → Q (.ref p) H'
def spDraw : Sp := fun vs H Q _ => ∃ (p : Addr) (m : Int), vs = [.ref p, .int m] ∧ Wl H p ∧ 0 < m ∧ m < 1000000 ∧
  ∀ (r : Int) (H' : Hp), 0 ≤ r → r < m → But p H H' → Wl H' p → Q (.int r) H'
/-- from a tuple that stands beside the well -/
def spPick (K : PySem.W.Frag) : Sp := fun vs H Q _ => ∃ (p t : Addr) (xs : List V), vs = [.ref p, .ref t] ∧ Wl H p ∧ SqT K (hide p H) t xs ∧ 0 < xs.length ∧ xs.length < 1000 ∧
  ∀ (i : Nat) (v : V) (H' : Hp), xs[i]? = some v → But p H H' → Wl H' p → Q v H'
def spSame (K : PySem.W.Frag) : Sp := fun vs H Q _ => ∃ (x y : V) (d e : PyData), vs = [x, y] ∧ Dd K H x d ∧ Dd K H y e ∧ Fine d ∧ Fine e ∧ Q (.bl (decide (V.str d.shown = V.str e.shown))) H
section
variable {P : Program} {w : World} {K : PySem.W.Frag} {mg : Str → Option Value} {base : Heap} {f fD : Addr} {fd dD : FuncData}
theorem ok_well (F : L2.Fun K "_law_well" "_law_well" sWell f fd) (ml : mg "len" = none) (mi : mg "int" = none) (ma : mg "abs" = none) : FnOk P w K mg base CX0 1 f fd ["script", "turn"] (spWell K) := by
  refine F.ok scWell (fun vs H Q E h => ?_) (fun cdv A outer s H vs Q E hr h => ?_)
  · obtain ⟨a, ns, t, rfl, _⟩ := h
    rfl
  obtain ⟨a, ns, t, rfl, hS, h63, h2, q⟩ := h
  refine ⟨_, pss_cons (ps_set (i := 2) scWell.nd rfl (.inl rfl) (pe_ifExp (pt_cmpR op_lt (pv 1) (pe_callB call_len_seq (by rfl) ml PySem.boot_len (pa_cons (pv 0) pa_nil)) (nomark _))
        (pe_callTy call_int1 (by rfl) mi (by decide +kernel) (pa_cons (pe_ix ix_list (pv 0) (pv 1) (fun _ _ => rfl)) pa_nil))
        (pe_op op_add (pe_op op_mul pe_int (pv 1)) pe_int)))
    (pss_cons (ps_set (i := 3) scWell.nd rfl (.inl rfl) (pe_op op_add pe_int (pe_op op_mul pe_int (pv 1))))
    (pss_cons (ps_for PassesOwn.never rfl (pi_list (pe_slice sl_list (pv 0) po_none (po_some pe_int))) (pg_name (i := 4) scWell.nd rfl (.inl rfl))
      (pss_one (ps_set (i := 3) scWell.nd rfl (.inl rfl) (pe_op op_mod (pe_callTy call_int1 (by rfl) mi (by decide +kernel) (pa_cons (pe_op op_add (pe_op op_add (pe_op op_mul (pv 3) pe_int)
        (pe_op op_mod (pe_callTy call_int1 (by rfl) mi (by decide +kernel) (pa_cons (pv 4) pa_nil)) pe_int)) pe_int) pa_nil)) pe_int))))
    (pss_cons (ps_set (i := 3) scWell.nd rfl (.inl rfl) (pe_op op_mod (pe_callTy call_int1 (by rfl) mi (by decide +kernel) (pa_cons (pe_op op_add (pe_op op_add (pe_op op_mul (pv 3) pe_int)
        (pe_op op_mul (pe_op op_mod (pe_callTy call_int1 (by rfl) mi (by decide +kernel) (pa_cons (pv 2) pa_nil)) pe_int) pe_int)) pe_int) pa_nil)) pe_int))
    (pss_one (ps_ret (pe_lst (pa_cons (pe_ifExp (PW.pt (pw_or (pt_cmpR op_lt (pv 2) pe_int (nomark _)) (pw_or1 (pt_cmpR op_ge (pv 2) (pe_op op_pow pe_int pe_int) (nomark _)))))
      (pe_callB call_abs (by rfl) ma (by decide +kernel) (pa_cons (pv 2) pa_nil)) pe_int) (pa_cons (pv 3) (pa_cons pe_int pa_nil))))))))), ?_⟩
  have hl : (ns.map V.int).length = ns.length := List.length_map _
  refine ⟨_, rfl, _, rfl, a, _, rfl, .inl hS, _, _, rfl, rfl, _, rfl, ?_⟩
  refine' join (i := 2) (R := fun v => ∃ n : Int, v = V.int n) (fun go => ?_) ?_
  rotate_left 3
  · refine iteB (fun c => ?_) (fun c => ?_)
    · have c1 : ((t : Nat) : Int) < (((ns.map V.int).length : Nat) : Int) := of_decide_eq_true c
      have c2 : t < ns.length := by rw [hl] at c1; omega
      have at1 : atI (ns.map V.int) ((t : Nat) : Int) = some (.int ns[t]) := atI_nat (by rw [List.getElem?_map, List.getElem?_eq_getElem c2] <;> rfl)
      exact ⟨_, rfl, _, rfl, a, _, _, _, rfl, rfl, hS, at1, .inl ⟨_, rfl, go _ ⟨_, rfl⟩⟩⟩
    · exact ⟨_, rfl, _, _, rfl, rfl, .inl ⟨by decide, by decide⟩, _, _, rfl, rfl, go _ ⟨_, rfl⟩⟩
  rintro _ ⟨cell, rfl⟩
  refine ⟨_, rfl, _, _, rfl, rfl, .inl ⟨by decide, by decide⟩, _, _, rfl, rfl, ?_⟩
  refine ⟨_, rfl, 9, rfl, a, _, rfl, hS, fun p np => ?_⟩
  refine ⟨p, rfl, ⟨_, SqL.of upd_same⟩, for_list (K := K) (a := p) (xs := cutV (ns.map V.int) none (some 9)) (fun i σ H' => ∃ (m : Int) (e : Option V), σ = [some (.ref a), some (.int (t : Int)), some (.int cell), some (.int m), e] ∧ H' = upd H p (.lst (cutV (ns.map V.int) none (some 9)))) ⟨_, none, rfl, rfl⟩ ?_ ?_ ?_⟩
  · rintro i σ H' _ ⟨m, e, rfl, rfl⟩
    exact SqL.of upd_same
  · rintro i x σ H' hi ⟨m, e, rfl, rfl⟩
    obtain ⟨z, rfl⟩ : ∃ z, x = V.int z := by
      have mem := List.mem_of_getElem? hi
      unfold cutV at mem
      have mem2 := List.mem_of_mem_drop (List.mem_of_mem_take mem)
      obtain ⟨z, _, e⟩ := List.mem_map.mp mem2
      exact ⟨z, e.symm⟩
    refine ⟨_, rfl, _, _, rfl, rfl, .inr ⟨by decide, by decide⟩, _, rfl, .inl ⟨_, rfl, _, _, rfl, rfl, (show (0 : Int) < 2147483543 by decide), _, _, rfl, rfl, _, _, rfl, rfl, .inl ⟨_, rfl, _, _, rfl, rfl, (show (0 : Int) < 2147483629 by decide), ?_⟩⟩⟩
    exact ⟨_, _, rfl, rfl⟩
  rintro σ H' ⟨m, e, rfl, rfl⟩
  refine ⟨_, rfl, _, _, rfl, rfl, .inr ⟨by decide, by decide⟩, _, rfl, .inl ⟨_, rfl, _, _, rfl, rfl, (show (0 : Int) < 2147483543 by decide), _, _, rfl, rfl, .inr ⟨by decide, by decide⟩, _, _, rfl, rfl, _, _, rfl, rfl, .inl ⟨_, rfl, _, _, rfl, rfl, (show (0 : Int) < 2147483629 by decide), ?_⟩⟩⟩
  have fin : ∀ (x y : Int) (r : Addr), 0 ≤ y → y < 2147483629 → upd H p (.lst (cutV (ns.map V.int) none (some 9))) r = none → Q (.ref r) (upd (upd H p (.lst (cutV (ns.map V.int) none (some 9)))) r (.lst [.int x, .int y, .int 0])) := fun x y r y0 y1 nr =>
    q _ r ((same_new np _).trans (same_new nr _)) ((same_new np _).free nr) (wl_mk upd_same y0 y1)
  refine ⟨_, rfl, _, _, rfl, rfl, _, rfl, iteB (fun _ => iteT ?_) (fun _ => ⟨_, rfl, _, _, rfl, rfl, (by show (0 : Int) ≤ 15 ∧ (15 : Int) ≤ 1000000 ∧ (10 : Int).natAbs < 2 ^ 64; decide), _, _, rfl, rfl, _, rfl, iteB (fun _ => ?_) (fun _ => ?_)⟩)⟩
  · exact ⟨_, rfl, _, rfl, _, rfl, (by show 3 ≤ sizeLine; decide), fun r nr => fin _ _ r (Int.emod_nonneg _ (by decide)) (Int.emod_lt_of_pos _ (by decide)) nr⟩
  · exact ⟨_, rfl, _, rfl, _, rfl, (by show 3 ≤ sizeLine; decide), fun r nr => fin _ _ r (Int.emod_nonneg _ (by decide)) (Int.emod_lt_of_pos _ (by decide)) nr⟩
  · exact ⟨_, rfl, (by show 3 ≤ sizeLine; decide), fun r nr => fin _ _ r (Int.emod_nonneg _ (by decide)) (Int.emod_lt_of_pos _ (by decide)) nr⟩
theorem ok_draw (F : L2.Fun K "_law_draw" "_law_draw" sDraw f fd) (md : mg "divmod" = none) (mi : mg "int" = none) : FnOk P w K mg base CX0 1 f fd ["well", "many"] spDraw := by
  refine F.ok scDraw (fun vs H Q E h => ?_) (fun cdv A outer s H vs Q E hr h => ?_)
  · obtain ⟨p, m, rfl, _⟩ := h
    rfl
  obtain ⟨p, m, rfl, ⟨a, b, c, hp⟩, m0, m1, q⟩ := h
  refine ⟨_, pss_cons (ps_if (pt_cmpR op_gt (pe_ix ix_list (pv 0) pe_int (fun _ _ => rfl)) pe_int (nomark _))
      (pss_cons (ps_asg (pe_callB call_divmod (by rfl) md (by decide +kernel) (pa_cons (pe_ix ix_list (pv 0) pe_int (fun _ _ => rfl)) (pa_cons (pv 1) pa_nil))) (pg_tup (by rfl) (pgs_cons (pg_sub (pv 0) pe_int set_list) (pgs_cons (pg_name (i := 2) scDraw.nd rfl (.inl rfl)) pgs_nil))))
        (pss_one (ps_ret (pv 2)))) pss_nil)
    (pss_cons (ps_asg (pe_op op_add (pe_ix ix_list (pv 0) pe_int (fun _ _ => rfl)) pe_int) (pg_sub (pv 0) pe_int set_list))
    (pss_cons (ps_set (i := 3) scDraw.nd rfl (.inl rfl) (pe_op op_mod (pe_callTy call_int1 (by rfl) mi (by decide +kernel) (pa_cons (pe_op op_add (pe_op op_add (pe_op op_mul (pe_ix ix_list (pv 0) pe_int (fun _ _ => rfl)) pe_int)
        (pe_op op_mul pe_int (pe_ix ix_list (pv 0) pe_int (fun _ _ => rfl)))) pe_int) pa_nil)) pe_int))
    (pss_cons (ps_asg (pe_op op_mod (pe_callTy call_int1 (by rfl) mi (by decide +kernel) (pa_cons (pe_op op_add (pe_op op_mul (pv 3) (pe_op op_add (pe_op op_mod (pe_callTy call_int1 (by rfl) mi (by decide +kernel) (pa_cons (pv 3) pa_nil)) pe_int) pe_int))
        (pe_ix ix_list (pv 0) pe_int (fun _ _ => rfl))) pa_nil)) pe_int) (pg_sub (pv 0) pe_int set_list))
    (pss_one (ps_ret (pe_op op_mod (pe_callTy call_int1 (by rfl) mi (by decide +kernel) (pa_cons (pe_op op_fdiv (pe_ix ix_list (pv 0) pe_int (fun _ _ => rfl)) pe_int) pa_nil)) (pv 1))))))), ?_⟩
  refine ⟨_, rfl, p, _, _, _, rfl, rfl, SqL.of hp, rfl, _, _, rfl, rfl, _, rfl, iteB (fun c1 => ?_) (fun _ => ?_)⟩
  · have a0 : a > 0 := of_decide_eq_true c1
    refine ⟨_, rfl, p, _, _, _, rfl, rfl, SqL.of hp, rfl, _, rfl, a, m, rfl, ⟨m0, by omega⟩, fun t nt => ?_⟩
    refine ⟨t, _, rfl, SqT.of upd_same, rfl, _, _, rfl, _, rfl, p, [.int a, .int ((b.val : Nat) : Int), .int c], _, 0, rfl, rfl, ?_, rfl, ?_⟩
    · rw [upd_ne (ne_of_none hp nt)]
      exact hp
    refine ⟨_, _, rfl, ⟨rfl, _, rfl, ?_⟩⟩
    exact q (a % m) _ (Int.emod_nonneg _ (by omega)) (Int.emod_lt_of_pos _ m0) ((But.new nt).trans But.put) ⟨_, b, _, upd_same⟩
  · refine ⟨_, rfl, p, _, _, _, rfl, rfl, SqL.of hp, rfl, _, _, rfl, rfl, _, rfl, p, [.int a, .int ((b.val : Nat) : Int), .int c], _, 2, rfl, rfl, hp, rfl, ?_⟩
    have h1 : upd H p (.lst [.int a, .int ((b.val : Nat) : Int), .int (c + 1)]) p = some (.lst [.int a, .int ((b.val : Nat) : Int), .int (c + 1)]) := upd_same
    refine ⟨_, rfl, p, _, _, _, rfl, rfl, SqL.of h1, rfl, _, _, rfl, rfl, .inr ⟨by decide, by decide⟩, _, rfl, p, _, _, _, rfl, rfl, SqL.of h1, rfl, _, _, rfl, rfl, .inl ⟨by decide, by decide⟩, _, _, rfl, rfl, _, _, rfl, rfl,
      .inl ⟨_, rfl, _, _, rfl, rfl, (show (0 : Int) < 2147483399 by decide), ?_⟩⟩
    generalize (((b.val : Nat) : Int) * 40692 + 3301 * (c + 1) + 83) % 2147483399 = z
    have y1 := Int.emod_nonneg z (show (4001 : Int) ≠ 0 by decide)
    have y2 := Int.emod_lt_of_pos z (show (0 : Int) < 4001 by decide)
    refine ⟨_, rfl, _, rfl, .inl ⟨_, rfl, _, _, rfl, rfl, (show (0 : Int) < 4001 by decide), _, _, rfl, rfl, _, _, rfl, rfl, .inr ⟨by omega, by omega⟩, _, rfl, p, _, _, _, rfl, rfl, SqL.of h1, rfl, _, _, rfl, rfl,
      .inl ⟨_, rfl, _, _, rfl, rfl, (show (0 : Int) < 2147483399 by decide), _, rfl, p, [.int a, .int ((b.val : Nat) : Int), .int (c + 1)], _, 1, rfl, rfl, h1, rfl, ?_⟩⟩⟩
    refine ⟨_, rfl, p, _, _, _, rfl, rfl, SqL.of upd_same, rfl, _, _, rfl, rfl, ⟨by decide, by decide⟩, .inl ⟨_, rfl, _, rfl, _, _, rfl, rfl, m0, ?_⟩⟩
    exact q _ _ (Int.emod_nonneg _ (by omega)) (Int.emod_lt_of_pos _ m0) (But.put.trans But.put) (wl_mk upd_same (Int.emod_nonneg _ (by decide)) (Int.lt_trans (Int.emod_lt_of_pos _ (show (0 : Int) < 2147483399 by decide)) (by decide)))
theorem ok_pick (F : L2.Fun K "_law_pick" "_law_pick" sPick f fd) (GD : FnOk P w K mg base CX0 1 fD dD ["well", "many"] spDraw) (bD : L2.Binds K dD ["well", "many"] []) (kD : PySem.W.keepIn K (.ref fD) = true) (mD : mg "_law_draw" = some (.ref fD)) (ml : mg "len" = none) :
    FnOk P w K mg base CX0 2 f fd ["well", "some"] (spPick K) := by
  refine F.ok scPick (fun vs H Q E h => ?_) (fun cdv A outer s H vs Q E hr h => ?_)
  · obtain ⟨p, t, xs, rfl, _⟩ := h
    rfl
  obtain ⟨p, t, xs, rfl, hW, hT, l0, l1, q⟩ := h
  refine ⟨_, pss_one (ps_ret (pe_ix ix_tup (pv 1) (pe_call GD hr (by rfl) mD kD bD .nil pass0 (pa_cons (pv 0) (pa_cons (pe_callB call_len_seq (by rfl) ml PySem.boot_len (pa_cons (pv 1) pa_nil)) pa_nil))) (fun _ _ => rfl))), ?_⟩
  have hT0 : SqT K H t xs := Same.tup (hide_sub p H) hT
  refine ⟨_, rfl, _, rfl, _, rfl, t, xs, rfl, .inr hT0, p, _, rfl, hW, by omega, by omega, fun r H' r0 r1 bt hW' => ?_⟩
  obtain ⟨i, rfl⟩ : ∃ i : Nat, r = (i : Int) := ⟨r.toNat, by omega⟩
  have hi : i < xs.length := by omega
  exact ⟨t, xs, _, xs[i], rfl, rfl, Same.tup (hide_sub p H') (Same.tup bt.hide hT), atI_nat (List.getElem?_eq_getElem hi), q i _ H' (List.getElem?_eq_getElem hi) bt hW'⟩
theorem ok_same (F : L2.Fun K "_law_same" "_law_same" sSame f fd) (mr : mg "repr" = none) : FnG P w K mg base CX0 1 f fd ["told", "due"] (spSame K) := by
  refine okG F scSame (fun vs H Q E h => ?_) (fun cdv A outer s H vs Q E gd hr h => ?_)
  · obtain ⟨x, y, d, e, rfl, _⟩ := h
    rfl
  obtain ⟨x, y, d, e, rfl, h1, h2, ⟨f1, f2, f3⟩, ⟨g1, g2, g3⟩, q⟩ := h
  have gd' : (A.deeper (envOfC "_law_same" (defScope sSame) s.heap.objs.size f cdv)).guards = some [] := gd
  refine ⟨_, pss_one (ps_ret (pe_cmpR op_eq (pe_callB (call_repr gd' hr.units) (by rfl) mr (by decide +kernel) (pa_cons (pv 0) pa_nil)) (pe_callB (call_repr gd' hr.units) (by rfl) mr (by decide +kernel) (pa_cons (pv 1) pa_nil)) (nomark _))), ?_⟩
  exact ⟨_, rfl, _, d, rfl, h1, f1, f2, f3, _, rfl, _, e, rfl, h2, g1, g2, g3, rfl, q⟩
end
end My

set_option maxHeartbeats 4000000
namespace My
open PySem PySem.Spec PyProof.Rows L2 RZ
abbrev sIsWhole : Stmt := top 7
abbrev sWholeFrom : Stmt := top (7 + 1)
abbrev sIsTwo : Stmt := top (7 + 2)
abbrev sAsc : Stmt := top (7 + 3)
abbrev sIsGraph : Stmt := top (7 + 4)
abbrev sIsVP : Stmt := top (7 + 5)
abbrev sCheckGraph : Stmt := top (7 + 6)
theorem scIsWhole : FnScope ["value", "low", "high"] ["value", "low", "high"] (defScope sIsWhole) := ⟨rfl, rfl, rfl, by decide +kernel, rfl, by decide +kernel, by decide +kernel⟩
theorem scWholeFrom : FnScope ["value", "low"] ["value", "low"] (defScope sWholeFrom) := ⟨rfl, rfl, rfl, by decide +kernel, rfl, by decide +kernel, by decide +kernel⟩
theorem scIsTwo : FnScope ["value"] ["value"] (defScope sIsTwo) := ⟨rfl, rfl, rfl, by decide +kernel, rfl, by decide +kernel, by decide +kernel⟩
theorem scAsc : FnScope ["row", "value", "following"] ["row"] (defScope sAsc) := ⟨rfl, rfl, rfl, by decide +kernel, rfl, by decide +kernel, by decide +kernel⟩
theorem scIsGraph : FnScope ["value", "many", "edges", "edge"] ["value"] (defScope sIsGraph) := ⟨rfl, rfl, rfl, by decide +kernel, rfl, by decide +kernel, by decide +kernel⟩
theorem scIsVP : FnScope ["value", "many", "vertex"] ["value", "many"] (defScope sIsVP) := ⟨rfl, rfl, rfl, by decide +kernel, rfl, by decide +kernel, by decide +kernel⟩
theorem scCheckGraph : FnScope ["graph"] ["graph"] (defScope sCheckGraph) := ⟨rfl, rfl, rfl, by decide +kernel, rfl, by decide +kernel, by decide +kernel⟩
theorem opOr {X : Cx} {op : Value → Value → Sem Value} {r r' : R2} (a : OpR X op r) (b : OpR X op r') : OpR X op (fun x y H Q => r x y H Q ∨ r' x y H Q) := by
  intro pins s σ H x y v u Q I rx ry h
  rcases h with h | h
  · exact a pins s σ H x y v u Q I rx ry h
  · exact b pins s σ H x y v u Q I rx ry h
theorem walk_zipT {K : PySem.W.Frag} {a b : Addr} {xs ys : List V} {n : Nat} (hn : n = min xs.length ys.length) : Walk (ItzT K a b) n (fun H => SqT K H a xs ∧ SqT K H b ys) (YPair (fun i => xs[i]?) (fun i => ys[i]?)) := by
  subst hn
  refine ⟨fun i _ hi q => ?_, fun _ q => ⟨xs, ys, q.1, q.2, by omega⟩, fun i H v H' _ q y => ?_⟩
  · have h1 : i < xs.length := by omega
    have h2 : i < ys.length := by omega
    exact ⟨xs, ys, xs[i], ys[i], q.1, q.2, by simp [h1], by simp [h2]⟩
  · obtain ⟨T, x, z, h1, h2, h3, h4, h5⟩ := y
    exact ⟨T, x, z, h1, h2, h3, h4 xs q.1, h5 ys q.2⟩
/-- what may be compared: numbers alone, or pairs of numbers alone -/
def Cmp (ss : List Sh) : Prop := (∀ s ∈ ss, ∃ i, s = .int i) ∨ (∀ s ∈ ss, ∃ i j, s = .tup [.int i, .int j])
theorem asc_zip : ∀ ss : List Sh, (List.zipWith ltS ss (ss.drop 1)).all id = ascB ss
  | [] => rfl
  | [s] => rfl
  | s :: t :: r => by
    have ih := asc_zip (t :: r)
    show (ltS s t && (List.zipWith ltS (t :: r) ((t :: r).drop 1)).all id) = (ltS s t && ascB (t :: r))
    rw [ih]
def spWholeFromA (K : PySem.W.Frag) : Sp := fun vs H Q _ => ∃ (v : V) (s : Sh) (lo : Int), vs = [v, .int lo] ∧ ShAt K H v s ∧ Q (.bl (wholeF lo s)) H
def spIsWholeA (K : PySem.W.Frag) : Sp := fun vs H Q _ => ∃ (v : V) (s : Sh) (lo hi : Int), vs = [v, .int lo, .int hi] ∧ ShAt K H v s ∧ Q (.bl (wholeR lo hi s)) H
def spIsTwoA (K : PySem.W.Frag) : Sp := fun vs H Q _ => ∃ (v : V) (s : Sh), vs = [v] ∧ ShAt K H v s ∧ Q (.bl (isTwo s)) H
def spAscA (K : PySem.W.Frag) : Sp := fun vs H Q _ => ∃ (e : Addr) (xs : List V) (ss : List Sh), vs = [.ref e] ∧ SqT K H e xs ∧ ShsAt K H xs ss ∧ Cmp ss ∧ ss.length ≤ 900 ∧ ∀ H', Same H H' → Q (.bl (ascB ss)) H'
def spVPA (K : PySem.W.Frag) : Sp := fun vs H Q _ => ∃ (v : V) (s : Sh) (n : Int), vs = [v, .int n] ∧ ShAt K H v s ∧ ∀ H', Same H H' → Q (.bl (vpB n s)) H'
/-- no tuple in it is too long -/
def shortS : Sh → Prop
  | .tup [_, .tup es] => es.length ≤ 900
  | _ => True
def spIsGraphA (K : PySem.W.Frag) : Sp := fun vs H Q _ => ∃ (v : V) (s : Sh), vs = [v] ∧ ShAt K H v s ∧ shortS s ∧ ∀ H', Same H H' → Q (.bl (isGr s)) H'
section
variable {P : Program} {w : World} {K : PySem.W.Frag} {mg : Str → Option Value} {base : Heap} {f fW fI fE fG : Addr} {fd dW dI dE dG : FuncData}
theorem ok_whole_from (F : L2.Fun K "is_whole_from" "is_whole_from" sWholeFrom f fd) (mty : mg "type" = none) (mi : mg "int" = none) : FnOk P w K mg base CX0 1 f fd ["value", "low"] (spWholeFromA K) := by
  refine F.ok scWholeFrom (fun vs H Q E h => ?_) (fun cdv A outer s H vs Q E hr h => ?_)
  · obtain ⟨v, s, lo, rfl, _⟩ := h
    rfl
  obtain ⟨v, s, lo, rfl, hv, q⟩ := h
  refine ⟨_, pss_one (ps_ret (pe_and (pe_cmpR op_isTy (pe_callTy call_type1 (by rfl) mty (by decide +kernel) (pa_cons (pv 0) pa_nil)) (pe_bltn (v := .ty "int") (by rfl) mi (by decide +kernel) rfl) (nomark _)) (pe_one (pe_cmpR op_ge (pv 0) (pv 1) (nomark _))))), ?_⟩
  obtain ⟨T, ty, ok⟩ := hv.ty
  refine ⟨_, rfl, v, T, rfl, ty, T, "int", rfl, rfl, _, rfl, iteB (fun c => ?_) (fun c => ?_)⟩
  · have c' : T = "int" := of_decide_eq_true c
    cases hv with
    | int i => exact ⟨_, rfl, _, rfl, _, _, rfl, rfl, q⟩
    | bool b => cases ty; exact absurd c' (by decide)
    | tup h r => rw [show T = "tuple" from ok] at c'; exact absurd c' (by decide)
    | non => exact absurd c' ok.1
    | str x => rw [show T = "str" from ok] at c'; exact absurd c' (by decide)
    | lst h => exact absurd c' ok.1
    | dct h => exact absurd c' ok.1
  · show Q (.bl false) H
    have nc : T ≠ "int" := of_decide_eq_false c
    have e : wholeF lo s = false := by
      cases s with
      | int i => exact absurd ok nc
      | _ => rfl
    rw [e] at q
    exact q
theorem ok_is_whole (F : L2.Fun K "is_whole" "is_whole" sIsWhole f fd) (GW : FnOk P w K mg base CX0 1 fW dW ["value", "low"] (spWholeFromA K)) (bW : L2.Binds K dW ["value", "low"] []) (kW : PySem.W.keepIn K (.ref fW) = true) (mW : mg "is_whole_from" = some (.ref fW)) : FnOk P w K mg base CX0 2 f fd ["value", "low", "high"] (spIsWholeA K) := by
  refine F.ok scIsWhole (fun vs H Q E h => ?_) (fun cdv A outer s H vs Q E hr h => ?_)
  · obtain ⟨v, s, lo, hi, rfl, _⟩ := h
    rfl
  obtain ⟨v, s, lo, hi, rfl, hv, q⟩ := h
  refine ⟨_, pss_one (ps_ret (pe_and (pe_call GW hr (by rfl) mW kW bW .nil pass0 (pa_cons (pv 0) (pa_cons (pv 1) pa_nil))) (pe_one (pe_cmpR op_le (pv 0) (pv 2) (nomark _))))), ?_⟩
  refine ⟨_, rfl, _, rfl, v, s, lo, rfl, hv, _, rfl, iteB (fun c => ?_) (fun c => ?_)⟩
  · cases s with
    | int i =>
      cases hv
      refine ⟨_, rfl, _, rfl, _, _, rfl, rfl, ?_⟩
      have e : wholeR lo hi (.int i) = decide (i ≤ hi) := by
        show (decide (i ≥ lo) && decide (i ≤ hi)) = _
        rw [show decide (i ≥ lo) = true from c]
        rfl
      rw [e] at q
      exact q
    | bool b => cases c
    | tup ss => cases c
    | str x => cases c
    | oth => cases c
  · show Q (.bl false) H
    have c' : wholeF lo s = false := c
    have e : wholeR lo hi s = false := by
      cases s with
      | int i =>
        show (decide (i ≥ lo) && decide (i ≤ hi)) = false
        rw [show decide (i ≥ lo) = false from c']
        rfl
      | _ => rfl
    rw [e] at q
    exact q
theorem ok_is_two (F : L2.Fun K "is_tuple_of_two" "is_tuple_of_two" sIsTwo f fd) (mty : mg "type" = none) (mt : mg "tuple" = none) (ml : mg "len" = none) : FnOk P w K mg base CX0 1 f fd ["value"] (spIsTwoA K) := by
  refine F.ok scIsTwo (fun vs H Q E h => ?_) (fun cdv A outer s H vs Q E hr h => ?_)
  · obtain ⟨v, s, rfl, _⟩ := h
    rfl
  obtain ⟨v, s, rfl, hv, q⟩ := h
  refine ⟨_, pss_one (ps_ret (pe_and (pe_cmpR op_isTy (pe_callTy call_type1 (by rfl) mty (by decide +kernel) (pa_cons (pv 0) pa_nil)) (pe_bltn (v := .ty "tuple") (by rfl) mt (by decide +kernel) rfl) (nomark _)) (pe_one (pe_cmpR op_eq (pe_callB call_len_seq (by rfl) ml PySem.boot_len (pa_cons (pv 0) pa_nil)) pe_int (nomark _))))), ?_⟩
  obtain ⟨T, ty, ok⟩ := hv.ty
  refine ⟨_, rfl, v, T, rfl, ty, T, "tuple", rfl, rfl, _, rfl, iteB (fun c => ?_) (fun c => ?_)⟩
  · have c' : T = "tuple" := of_decide_eq_true c
    cases hv with
    | int i => rw [show T = "int" from ok] at c'; exact absurd c' (by decide)
    | bool b => rw [show T = "bool" from ok] at c'; exact absurd c' (by decide)
    | @tup t xs ss h r =>
      refine ⟨_, rfl, t, xs, rfl, .inr h, rfl, ?_⟩
      have le := r.len
      show Q (.bl (decide (V.int ((xs.length : Nat) : Int) = V.int 2))) H
      have e : isTwo (.tup ss) = decide (V.int ((xs.length : Nat) : Int) = V.int 2) := by
        rw [le]
        rcases ss with _ | ⟨a, _ | ⟨b, _ | ⟨c, r⟩⟩⟩
        · rfl
        · rfl
        · rfl
        · symm
          show decide _ = false
          refine decide_eq_false fun z => ?_
          injection z with z
          simp at z
          omega
      rw [e] at q
      exact q
    | non => exact absurd c' ok.2.2.1
    | str x => rw [show T = "str" from ok] at c'; exact absurd c' (by decide)
    | lst h => exact absurd c' ok.2.2.1
    | dct h => exact absurd c' ok.2.2.1
  · show Q (.bl false) H
    have nc : T ≠ "tuple" := of_decide_eq_false c
    have e : isTwo s = false := by
      cases s with
      | tup ss => exact absurd ok nc
      | _ => rfl
    rw [e] at q
    exact q
theorem ok_asc (F : L2.Fun K "is_ascending" "is_ascending" sAsc f fd) (ma : mg "all" = none) (mz : mg "zip" = none) : FnOk P w K mg base CX0 1 f fd ["row"] (spAscA K) := by
  refine F.ok scAsc (fun vs H Q E h => ?_) (fun cdv A outer s H vs Q E hr h => ?_)
  · obtain ⟨e, xs, ss, rfl, _⟩ := h
    rfl
  obtain ⟨e, xs, ss, rfl, he, hs, cmp, few, q⟩ := h
  refine ⟨_, pss_one (ps_ret (pe_callB (cr_all rfl) (by rfl) ma (by decide +kernel) (pa_cons (pe_lc (own := [("value", 1), ("following", 2)]) (g := gTup K 2 (gCons (gName 1) (gCons (gName 2) gNil))) (tt := tYes) rfl scAsc.nd (pi_zipA (by rfl) mz (pa_cons (pv 0) (pa_cons (pe_slice sl_tupA (pv 0) (po_some pe_int) po_none) pa_nil)))
        (blkOk_by (N := ["row", "value", "following"]) (sc := defScope sAsc) (by decide +kernel)) (fun _ _ _ _ _ => pg_tup (by rfl) (pgs_cons (pg_name (i := 1) scAsc.nd rfl (Or.inl rfl)) (pgs_cons (pg_name (i := 2) scAsc.nd rfl (Or.inl rfl)) pgs_nil))) (fun _ _ _ _ _ => pts_nil)
        (fun _ _ _ _ _ => pe_cmpR (r := fun x y H Q => rI0 (fun i j => .bl (decide (i < j))) x y H Q ∨ rLtT K x y H Q) (opOr op_lt (op_ltT hr.units0)) (pv 1) (pv 2) (nomark _))) pa_nil))), ?_⟩
  have lxs := hs.len
  have lz : (List.zipWith ltS ss (ss.drop 1)).length = ss.length - 1 := by rw [List.length_zipWith, List.length_drop]; omega
  cases xs with
  | nil =>
    cases hs
    refine ⟨_, rfl, _, rfl, 1, rfl, e, [], rfl, he, fun _ => ?_, fun z => absurd ⟨rfl, rfl⟩ z⟩
    refine ⟨e, e, [], [], rfl, .inr ⟨he, he, fun B nB => lc_it (walk_zipT (n := 0) rfl) (fun i H3 => i = 0 ∧ Same H H3 ∧ H3 B = some (.lst [])) ⟨rfl, same_new nB _, upd_same⟩ (fun i H3 _ ⟨_, s3, _⟩ => ⟨Same.tup s3 he, Same.tup s3 he⟩) (fun i x H3 H4 hi => absurd hi (Nat.not_lt_zero _)) ?_⟩⟩
    rintro H3 ⟨_, s3, hB⟩
    exact ⟨B, [], rfl, SqL.of hB, q H3 s3⟩
  | cons x0 xs =>
    have hs3 : ShsAt K H xs (ss.drop 1) := by cases hs; assumption
    have cut : cutV (x0 :: xs) (some 1) none = xs := by
      unfold cutV
      rw [HT.sIx_none, show ((1 : Int)) = ((1 : Nat) : Int) from rfl, HT.sIx_nat, List.length_cons, show min 1 (xs.length + 1) = 1 by omega, List.drop_one, List.tail_cons, Nat.add_sub_cancel, List.take_length]
    refine ⟨_, rfl, _, rfl, 1, rfl, e, x0 :: xs, rfl, he, fun z => ?_, fun _ c nc => ?_⟩
    · exfalso
      have z1 := z.1
      rw [show ((1 : Int)) = ((1 : Nat) : Int) from rfl, HT.sIx_nat, List.length_cons] at z1
      omega
    rw [cut]
    have s3 := same_new nc (.tup xs)
    have l1 : xs.length + 1 = ss.length := by rw [← lxs, List.length_cons]
    refine ⟨e, c, x0 :: xs, xs, rfl, .inr ⟨Same.tup s3 he, SqT.of upd_same, fun B nB => lc_it (walk_zipT (n := xs.length) (by rw [List.length_cons]; omega)) (fun i H3 => Same (upd H c (.tup xs)) H3 ∧ H3 B = some (.lst (((List.zipWith ltS ss (ss.drop 1)).take i).map V.bl))) ⟨same_new nB _, upd_same⟩ (fun i H3 _ ⟨s4, _⟩ => ⟨Same.tup (s3.trans s4) he, Same.tup s4 (SqT.of upd_same)⟩) (fun i x H3 H4 hi ⟨s4, hB⟩ ⟨T, y, z, e1, nT, e2, hy, hz⟩ => ?_) ?_⟩⟩
    · subst e1
      subst e2
      have s5 := same_new nT (.tup [y, z])
      have sA := s3.trans (s4.trans s5)
      obtain ⟨a, ha, sa⟩ := (hs.same sA).get hy
      obtain ⟨b, hb, sb⟩ := (hs3.same sA).get hz
      have hz' : (List.zipWith ltS ss (ss.drop 1))[i]? = some (ltS a b) := by rw [List.getElem?_zipWith, ha, hb]
      have fin : Same (upd H c (.tup xs)) (upd (upd H3 T (.tup [y, z])) B (.lst (((List.zipWith ltS ss (ss.drop 1)).take i).map V.bl ++ [V.bl (ltS a b)]))) ∧ upd (upd H3 T (.tup [y, z])) B (.lst (((List.zipWith ltS ss (ss.drop 1)).take i).map V.bl ++ [V.bl (ltS a b)])) B = some (.lst (((List.zipWith ltS ss (ss.drop 1)).take (i + 1)).map V.bl)) := by
        refine ⟨same_put (s4.trans s5) nB, ?_⟩
        rw [upd_same, take_succ hz', List.map_append]
        rfl
      have ln : (((List.zipWith ltS ss (ss.drop 1)).take i).map V.bl).length < sizeLine := small1000 (by rw [List.length_map, List.length_take]; omega)
      have hB5 := s5 _ _ hB
      refine ⟨T, _, rfl, SqT.of upd_same, rfl, _, _, rfl, _, _, rfl, rfl, rfl, ?_⟩
      refine ⟨_, rfl, _, rfl, ?_⟩
      have ma := List.mem_of_getElem? ha
      have mb := List.mem_of_mem_drop (List.mem_of_getElem? hb)
      rcases cmp with cm | cm
      · obtain ⟨k, rfl⟩ := cm a ma
        obtain ⟨l, rfl⟩ := cm b mb
        cases sa
        cases sb
        exact .inl ⟨_, _, rfl, rfl, _, hB5, ln, fin⟩
      · obtain ⟨k, k2, rfl⟩ := cm a ma
        obtain ⟨l, l2, rfl⟩ := cm b mb
        cases sa with
        | @tup t1 ys1 _ h1 r1 =>
          cases sb with
          | @tup t2 ys2 _ h2 r2 =>
            cases r1 with
            | cons p1 r1 =>
              cases r1 with
              | cons p2 r1 =>
                cases r1
                cases p1
                cases p2
                cases r2 with
                | cons p3 r2 =>
                  cases r2 with
                  | cons p4 r2 =>
                    cases r2
                    cases p3
                    cases p4
                    exact .inr ⟨t1, t2, [k, k2], [l, l2], rfl, rfl, h1, h2, _, hB5, ln, fin⟩
    · rintro H3 ⟨s4, hB⟩
      refine ⟨B, _, rfl, SqL.of hB, ?_⟩
      rw [List.take_of_length_le (by omega), asc_zip]
      exact q H3 (s3.trans s4)
theorem ok_vp (F : L2.Fun K "is_vertex_pair" "is_vertex_pair" sIsVP f fd) (GI : FnOk P w K mg base CX0 1 fI dI ["value"] (spIsTwoA K)) (bI : L2.Binds K dI ["value"] []) (kI : PySem.W.keepIn K (.ref fI) = true) (mI : mg "is_tuple_of_two" = some (.ref fI))
    (GW : FnOk P w K mg base CX0 2 fW dW ["value", "low", "high"] (spIsWholeA K)) (bW : L2.Binds K dW ["value", "low", "high"] []) (kW : PySem.W.keepIn K (.ref fW) = true) (mW : mg "is_whole" = some (.ref fW)) (ma : mg "all" = none) : FnOk P w K mg base CX0 3 f fd ["value", "many"] (spVPA K) := by
  refine F.ok scIsVP (fun vs H Q E h => ?_) (fun cdv A outer s H vs Q E hr h => ?_)
  · obtain ⟨v, s, n, rfl, _⟩ := h
    rfl
  obtain ⟨v, s, n, rfl, hv, q⟩ := h
  refine ⟨_, pss_one (ps_ret (pe_and (pe_call GI (hr.mono (by decide)) (by rfl) mI kI bI .nil pass0 (pa_cons (pv 0) pa_nil)) (pe_one (pe_callB (cr_all rfl) (by rfl) ma (by decide +kernel) (pa_cons (pe_lc (own := [("vertex", 2)]) (g := gName 2) (tt := tYes) rfl scIsVP.nd (pi_tup (pv 0))
        (blkOk_by (N := ["value", "many", "vertex"]) (sc := defScope sIsVP) (by decide +kernel)) (fun _ _ _ _ _ => pg_name (i := 2) scIsVP.nd rfl (Or.inl rfl)) (fun _ _ _ _ _ => pts_nil)
        (fun _ _ _ _ _ => pe_call GW hr (by rfl) mW kW bW .nil pass0 (pa_cons (pv 2) (pa_cons pe_int (pa_cons (pe_op op_sub (pv 1) pe_int) pa_nil))))) pa_nil))))), ?_⟩
  refine ⟨_, rfl, v, s, rfl, hv, _, rfl, iteB (fun c => ?_) (fun c => ?_)⟩
  · obtain ⟨a, b, rfl⟩ : ∃ a b, s = .tup [a, b] := by
      unfold isTwo at c
      split at c
      · exact ⟨_, _, rfl⟩
      · cases c
    cases hv with
    | @tup t xs _ h r =>
      have lx := r.len
      refine ⟨_, rfl, t, rfl, ⟨_, h⟩, fun D nD => lc_tup (K := K) (a := t) (xs := xs) (fun i H2 => Same H H2 ∧ H2 D = some (.lst ((([a, b].take i).map (wholeR 0 (n - 1))).map V.bl))) ⟨same_new nD _, upd_same⟩ (fun i H1 _ ⟨s1, _⟩ => Same.tup s1 h) ?_ ?_⟩
      · rintro i x H2 hi ⟨s2, hD⟩
        obtain ⟨z, hz, sz⟩ := (r.same s2).get hi
        refine ⟨rfl, ?_⟩
        refine ⟨_, rfl, _, rfl, _, _, rfl, rfl, x, z, 0, n - 1, rfl, sz, _, hD, small1000 (by rw [List.length_map, List.length_map, List.length_take]; exact Nat.le_trans (Nat.min_le_right _ _) (by show 2 ≤ 1000; decide)), same_put s2 nD, ?_⟩
        rw [upd_same, take_succ hz, List.map_append, List.map_append]
        rfl
      · rintro H2 ⟨s2, hD⟩
        rw [lx, List.take_length] at hD
        refine ⟨D, _, rfl, SqL.of hD, ?_⟩
        have e : ([a, b].map (wholeR 0 (n - 1))).all id = vpB n (.tup [a, b]) := by
          show (wholeR 0 (n - 1) a && (wholeR 0 (n - 1) b && true)) = _
          rw [Bool.and_true]
          rfl
        rw [e]
        exact q H2 s2
  · have e : vpB n s = false := by
      unfold vpB
      split
      · cases c
      · rfl
    rw [e] at q
    exact q H (L2.Same.refl H)
theorem ok_is_graph (F : L2.Fun K "is_graph" "is_graph" sIsGraph f fd) (GI : FnOk P w K mg base CX0 1 fI dI ["value"] (spIsTwoA K)) (bI : L2.Binds K dI ["value"] []) (kI : PySem.W.keepIn K (.ref fI) = true) (mI : mg "is_tuple_of_two" = some (.ref fI))
    (GW : FnOk P w K mg base CX0 2 fW dW ["value", "low", "high"] (spIsWholeA K)) (bW : L2.Binds K dW ["value", "low", "high"] []) (kW : PySem.W.keepIn K (.ref fW) = true) (mW : mg "is_whole" = some (.ref fW))
    (GE : FnOk P w K mg base CX0 3 fE dE ["value", "many"] (spVPA K)) (bE : L2.Binds K dE ["value", "many"] []) (kE : PySem.W.keepIn K (.ref fE) = true) (mE : mg "is_vertex_pair" = some (.ref fE))
    (GA : FnOk P w K mg base CX0 1 fG dG ["row"] (spAscA K)) (bA : L2.Binds K dG ["row"] []) (kA : PySem.W.keepIn K (.ref fG) = true) (mA : mg "is_ascending" = some (.ref fG))
    (tk : Tok) (mM : mg "MOST_VERTICES" = some (.int 9 tk)) (mty : mg "type" = none) (mt : mg "tuple" = none) (ma : mg "all" = none) : FnOk P w K mg base CX0 4 f fd ["value"] (spIsGraphA K) := by
  refine F.ok scIsGraph (fun vs H Q E h => ?_) (fun cdv A outer s H vs Q E hr h => ?_)
  · obtain ⟨v, s, rfl, _⟩ := h
    rfl
  obtain ⟨v, s, rfl, hv, sh, q⟩ := h
  refine ⟨_, pss_cons (ps_if (pt_not (pt_val (pe_call GI (hr.mono (by decide)) (by rfl) mI kI bI .nil pass0 (pa_cons (pv 0) pa_nil)))) (pss_one (ps_ret pe_bl)) pss_nil)
    (pss_cons (ps_asg (pv 0) (pg_tup (by rfl) (pgs_cons (pg_name (i := 1) scIsGraph.nd rfl (.inr rfl)) (pgs_cons (pg_name (i := 2) scIsGraph.nd rfl (.inl rfl)) pgs_nil))))
    (pss_cons (ps_if (PW.pt (pw_or (pt_not (pt_val (pe_call GW (hr.mono (by decide)) (by rfl) mW kW bW .nil pass0 (pa_cons (pv 1) (pa_cons pe_int (pa_cons (pe_glob (v := .int 9) (by rfl) mM ⟨_, rfl⟩) pa_nil))))))
        (pw_or1 (pt_cmpR op_isNotTy (pe_callTy call_type1 (by rfl) mty (by decide +kernel) (pa_cons (pv 2) pa_nil)) (pe_bltn (v := .ty "tuple") (by rfl) mt (by decide +kernel) rfl) (nomark _))))) (pss_one (ps_ret pe_bl)) pss_nil)
    (pss_one (ps_ret (pe_and (pe_callB (cr_all rfl) (by rfl) ma (by decide +kernel) (pa_cons (pe_lc (own := [("edge", 3)]) (g := gName 3) (tt := tYes) rfl scIsGraph.nd (pi_tup (pv 2))
        (blkOk_by (N := ["value", "many", "edges", "edge"]) (sc := defScope sIsGraph) (by decide +kernel)) (fun _ _ _ _ _ => pg_name (i := 3) scIsGraph.nd rfl (Or.inl rfl)) (fun _ _ _ _ _ => pts_nil)
        (fun _ _ _ _ _ => pe_and (pe_call GE (hr.mono (by decide)) (by rfl) mE kE bE .nil pass0 (pa_cons (pv 3) (pa_cons (pv 1) pa_nil))) (pe_one (pe_cmpR op_lt (pe_ix (r := rIxT K) ix_tup (pv 3) pe_int (fun _ _ => rfl)) (pe_ix (r := rIxT K) ix_tup (pv 3) pe_int (fun _ _ => rfl)) (nomark _))))) pa_nil))
      (pe_one (pe_call GA (hr.mono (by decide)) (by rfl) mA kA bA .nil pass0 (pa_cons (pv 2) pa_nil)))))))), ?_⟩
  have q0 := q H (L2.Same.refl H)
  refine ⟨_, rfl, v, s, rfl, hv, _, rfl, iteB (fun c => ?_) (fun c => ?_)⟩
  · have e : isGr s = false := by
      unfold isGr
      split
      · cases c
      · rfl
    rw [e] at q0
    exact q0
  obtain ⟨m, es, rfl⟩ : ∃ a b, s = .tup [a, b] := by
    unfold isTwo at c
    split at c
    · exact ⟨_, _, rfl⟩
    · cases c
  cases hv with
  | @tup t xs _ ht r =>
  cases r with
  | @cons x _ xs _ hm r =>
  cases r with
  | @cons y _ xs _ hy r =>
  cases r
  refine ⟨_, rfl, t, _, rfl, ht, rfl, _, _, rfl, _, _, rfl, rfl, ?_⟩
  refine ⟨_, rfl, x, m, 0, 9, rfl, hm, _, rfl, iteB (fun c1 => ?_) (fun c1 => ?_)⟩
  · have e : isGr (.tup [m, es]) = false := by
      unfold isGr
      split
      · rename_i n es' e
        injection e with e
        injection e with e1 e2
        subst e1
        have c2 : (decide (n ≥ 0) && decide (n ≤ 9)) = false := (Bool.not_eq_true' _).mp c1
        rw [c2, Bool.false_and]
      · rfl
    rw [e] at q0
    exact q0
  obtain ⟨n, rfl, c2⟩ : ∃ n, m = .int n ∧ (decide (n ≥ 0) && decide (n ≤ 9)) = true := by
    cases m with
    | int n => exact ⟨n, rfl, (Bool.not_eq_false' _).mp c1⟩
    | _ => cases c1
  cases hm
  obtain ⟨T, ty, ok⟩ := hy.ty
  refine ⟨_, rfl, y, T, rfl, ty, T, "tuple", rfl, rfl, _, rfl, iteB (fun c3 => ?_) (fun c3 => ?_)⟩
  · have nt : T ≠ "tuple" := by simpa using c3
    have e : isGr (.tup [.int n, es]) = false := by
      cases es with
      | tup es => exact absurd ok nt
      | _ => rfl
    rw [e] at q0
    exact q0
  have et : T = "tuple" := by simpa using c3
  obtain ⟨es, rfl⟩ : ∃ ss, es = .tup ss := by
    cases es with
    | tup ss => exact ⟨ss, rfl⟩
    | int i => rw [show T = "int" from ok] at et; exact absurd et (by decide)
    | bool b => rw [show T = "bool" from ok] at et; exact absurd et (by decide)
    | str x => rw [show T = "str" from ok] at et; exact absurd et (by decide)
    | oth => exact absurd et ok.2.2.1
  have few : es.length ≤ 900 := sh
  cases hy with
  | @tup e xs _ he r =>
  have lx := r.len
  have eq : isGr (.tup [.int n, .tup es]) = (es.all (edgeB n) && ascB es) := by
    show ((decide (n ≥ 0) && decide (n ≤ 9)) && (es.all (edgeB n) && ascB es)) = _
    rw [c2, Bool.true_and]
  refine ⟨_, rfl, e, rfl, ⟨_, he⟩, fun D nD => lc_tup (K := K) (a := e) (xs := xs) (fun i H2 => Same H H2 ∧ H2 D = some (.lst (((es.take i).map (edgeB n)).map V.bl))) ⟨same_new nD _, upd_same⟩ (fun i H1 _ ⟨s1, _⟩ => Same.tup s1 he) ?_ ?_⟩
  · rintro i x H2 hi ⟨s2, hD⟩
    obtain ⟨z, hz, sz⟩ := (r.same s2).get hi
    have ln : (((es.take i).map (edgeB n)).map V.bl).length < sizeLine := small1000 (by rw [List.length_map, List.length_map, List.length_take]; omega)
    have fin : ∀ H3, Same H2 H3 → ∃ acc, H3 D = some (.lst acc) ∧ acc.length < sizeLine ∧ Same H (upd H3 D (.lst (acc ++ [V.bl (edgeB n z)]))) ∧ upd H3 D (.lst (acc ++ [V.bl (edgeB n z)])) D = some (.lst (((es.take (i + 1)).map (edgeB n)).map V.bl)) := fun H3 s3 => by
      refine ⟨_, s3 _ _ hD, ln, same_put (s2.trans s3) nD, ?_⟩
      rw [upd_same, take_succ hz, List.map_append, List.map_append]
      rfl
    refine ⟨rfl, ?_⟩
    refine ⟨_, rfl, _, rfl, x, z, n, rfl, sz, fun H3 s3 => ⟨_, rfl, iteB (fun c4 => ?_) (fun c4 => ?_)⟩⟩
    · obtain ⟨a, b, rfl⟩ : ∃ a b, z = .tup [.int a, .int b] := by
        unfold vpB at c4
        split at c4
        · rename_i a b
          cases a with
          | int a =>
            cases b with
            | int b => exact ⟨a, b, rfl⟩
            | _ => simp [wholeR] at c4
          | _ => simp [wholeR] at c4
        · cases c4
      have e1 : edgeB n (.tup [.int a, .int b]) = decide (a < b) := by
        show (vpB n (.tup [.int a, .int b]) && decide (a < b)) = _
        rw [show vpB n (.tup [.int a, .int b]) = true from c4, Bool.true_and]
      cases sz with
      | @tup u us _ hu ru =>
      cases ru with
      | cons p1 ru =>
      cases ru with
      | cons p2 ru =>
      cases ru
      cases p1
      cases p2
      have hu3 := Same.tup s3 hu
      refine ⟨_, rfl, u, _, 0, _, rfl, rfl, hu3, rfl, _, rfl, u, _, 1, _, rfl, rfl, hu3, rfl, _, _, rfl, rfl, ?_⟩
      have f := fin H3 s3
      rw [e1] at f
      exact f
    · have e1 : edgeB n z = false := by
        show (vpB n z && lt2 z) = false
        rw [show vpB n z = false from c4, Bool.false_and]
      have f := fin H3 s3
      rw [e1] at f
      exact f
  rintro H2 ⟨s2, hD⟩
  rw [lx, List.take_length] at hD
  refine ⟨D, _, rfl, SqL.of hD, _, rfl, ?_⟩
  have ea : (es.map (edgeB n)).all id = es.all (edgeB n) := by rw [List.all_map]; rfl
  rw [ea]
  refine iteB (fun c4 => ?_) (fun c4 => ?_)
  · refine ⟨_, rfl, e, xs, es, rfl, Same.tup s2 he, r.same s2, .inr fun s hs => ?_, few, fun H3 s3 => ?_⟩
    · have h1 := List.all_eq_true.mp c4 s hs
      unfold edgeB at h1
      rw [Bool.and_eq_true] at h1
      have h2 := h1.2
      unfold lt2 at h2
      split at h2
      · exact ⟨_, _, rfl⟩
      · cases h2
    · have q1 := q H3 (s2.trans s3)
      rw [eq, c4, Bool.true_and] at q1
      exact q1
  · have q1 := q H2 s2
    rw [eq, c4, Bool.false_and] at q1
    exact q1
end
end My

set_option maxHeartbeats 4000000
namespace My
open PySem PySem.Spec PyProof.Rows L2
def graphS (n : Nat) (es : List E2) : Sh := .tup [.int (n : Int), .tup (es.map pairS)]
theorem GraphAt.sh {K : PySem.W.Frag} {H : Hp} {x : V} {n : Nat} {es : List E2} (h : GraphAt K H x n es) : ShAt K H x (graphS n es) := by
  obtain ⟨t, e, xs, rfl, h1, h2, h3⟩ := h
  exact .tup h1 (.cons (.int _) (.cons (.tup h2 h3.sh) .nil))
theorem asc_pairs : ∀ {es : List E2}, es.Pairwise ahead → ascB (es.map pairS) = true
  | [], _ => rfl
  | [_], _ => rfl
  | p :: q :: r, h => by
    have h1 := (List.pairwise_cons.mp h).1 q (List.mem_cons_self ..)
    have ih := asc_pairs (es := q :: r) (List.pairwise_cons.mp h).2
    show (HT.lexLt [(p.1 : Int), (p.2 : Int)] [(q.1 : Int), (q.2 : Int)] && ascB ((q :: r).map pairS)) = true
    rw [ih, Bool.and_true]
    unfold HT.lexLt
    split
    · unfold HT.lexLt
      rcases h1 with h1 | ⟨_, h1⟩
      · omega
      · rw [if_neg (by omega)]
        exact decide_eq_true (by omega)
    · rename_i e
      rcases h1 with h1 | ⟨h1, _⟩
      · exact decide_eq_true (by omega)
      · exact absurd (by omega) e
theorem isGr_good {n : Nat} {es : List E2} (g : Good n es) : isGr (graphS n es) = true := by
  have n9 := g.n9
  show ((decide ((n : Int) ≥ 0) && decide ((n : Int) ≤ 9)) && ((es.map pairS).all (edgeB (n : Int)) && ascB (es.map pairS))) = true
  rw [asc_pairs g.up, decide_eq_true (show (n : Int) ≥ 0 by omega), decide_eq_true (show (n : Int) ≤ 9 by omega)]
  simp only [Bool.and_true, Bool.true_and]
  rw [List.all_eq_true]
  intro s hs
  obtain ⟨p, hp, rfl⟩ := List.mem_map.mp hs
  obtain ⟨l1, l2⟩ := g.lt p hp
  show (((decide ((p.1 : Int) ≥ 0) && decide ((p.1 : Int) ≤ (n : Int) - 1)) && (decide ((p.2 : Int) ≥ 0) && decide ((p.2 : Int) ≤ (n : Int) - 1))) && decide ((p.1 : Int) < (p.2 : Int))) = true
  simp
  omega
/-- a lot -/
def LotAt (K : PySem.W.Frag) (H : Hp) (x : V) (l : List Nat) : Prop := ∃ t, x = .ref t ∧ SqT K H t (l.map fun k => V.int ((k : Nat) : Int))
structure LotOk (n : Nat) (l : List Nat) : Prop where
  lt : ∀ k ∈ l, k < n
  up : l.Pairwise (· < ·)
def lotS (l : List Nat) : Sh := .tup (l.map fun k => Sh.int ((k : Nat) : Int))
theorem LotAt.same {K : PySem.W.Frag} {H H' : Hp} (s : Same H H') {x : V} {l : List Nat} (h : LotAt K H x l) : LotAt K H' x l := by
  obtain ⟨t, rfl, h⟩ := h
  exact ⟨t, rfl, Same.tup s h⟩
theorem ints_sh {K : PySem.W.Frag} {H : Hp} : ∀ l : List Nat, ShsAt K H (l.map fun k => V.int ((k : Nat) : Int)) (l.map fun k => Sh.int ((k : Nat) : Int))
  | [] => .nil
  | _ :: r => .cons (.int _) (ints_sh r)
theorem LotAt.sh {K : PySem.W.Frag} {H : Hp} {x : V} {l : List Nat} (h : LotAt K H x l) : ShAt K H x (lotS l) := by
  obtain ⟨t, rfl, h⟩ := h
  exact .tup h (ints_sh l)
theorem asc_lot : ∀ {l : List Nat}, l.Pairwise (· < ·) → ascB (l.map fun k => Sh.int ((k : Nat) : Int)) = true
  | [], _ => rfl
  | [_], _ => rfl
  | p :: q :: r, h => by
    have h1 := (List.pairwise_cons.mp h).1 q (List.mem_cons_self ..)
    have ih := asc_lot (l := q :: r) (List.pairwise_cons.mp h).2
    show (decide ((p : Int) < (q : Int)) && ascB ((q :: r).map fun k => Sh.int ((k : Nat) : Int))) = true
    rw [ih, Bool.and_true]
    exact decide_eq_true (by omega)
theorem isLot_ok {n : Nat} {l : List Nat} (g : LotOk n l) : isLot n (lotS l) = true := by
  show ((l.map fun k => Sh.int ((k : Nat) : Int)).all (wholeR 0 ((n : Int) - 1)) && ascB (l.map fun k => Sh.int ((k : Nat) : Int))) = true
  rw [asc_lot g.up, Bool.and_true, List.all_eq_true]
  intro s hs
  obtain ⟨k, hk, rfl⟩ := List.mem_map.mp hs
  have l1 := g.lt k hk
  show (decide ((k : Int) ≥ 0) && decide ((k : Int) ≤ (n : Int) - 1)) = true
  simp
  omega
theorem LotOk.few {n : Nat} {l : List Nat} (g : LotOk n l) : l.length ≤ n := by
  have nd : l.Nodup := g.up.imp fun h => Nat.ne_of_lt h
  have z := sub_few nd (m := List.range n) fun k hk => List.mem_range.mpr (g.lt k hk)
  rw [List.length_range] at z
  exact z
def shortL : Sh → Prop
  | .tup ss => ss.length ≤ 900
  | _ => True
def spCheckGraph (K : PySem.W.Frag) : Sp := fun vs H Q _ => ∃ (x : V) (n : Nat) (es : List E2), vs = [x] ∧ GraphAt K H x n es ∧ Good n es ∧ ∀ H', Same H H' → Q .non H'
section
variable {P : Program} {w : World} {K : PySem.W.Frag} {mg : Str → Option Value} {base : Heap} {f fW fA fG fC fL fO : Addr} {fd dW dA dG dC dL dO : FuncData}
theorem ok_check_graph (F : L2.Fun K "check_graph" "check_graph" sCheckGraph f fd) (GG : FnOk P w K mg base CX0 4 fG dG ["value"] (spIsGraphA K)) (bG : L2.Binds K dG ["value"] []) (kG : PySem.W.keepIn K (.ref fG) = true) (mG : mg "is_graph" = some (.ref fG)) : FnOk P w K mg base CX0 5 f fd ["graph"] (spCheckGraph K) := by
  refine F.ok scCheckGraph (fun vs H Q E h => ?_) (fun cdv A outer s H vs Q E hr h => ?_)
  · obtain ⟨x, n, es, rfl, _⟩ := h
    rfl
  obtain ⟨x, n, es, rfl, hx, g, q⟩ := h
  refine ⟨_, pss_one (ps_if (pt_not (pt_val (pe_call GG (hr.mono (by decide)) (by rfl) mG kG bG .nil pass0 (pa_cons (pv 0) pa_nil)))) (pss_one ps_never) pss_nil), ?_⟩
  have few := g.few
  refine ⟨_, rfl, x, graphS n es, rfl, hx.sh, (by show (es.map pairS).length ≤ 900; rw [List.length_map]; omega), fun H' s' => ?_⟩
  rw [isGr_good g]
  exact ⟨_, rfl, iteF (q H' s')⟩
end
end My

set_option maxHeartbeats 8000000
namespace My
open PySem PySem.Spec PyProof.Rows L2
abbrev sIsLot : Stmt := top 14
abbrev sCheckLot : Stmt := top 15
theorem scIsLot : FnScope ["graph", "value", "vertex"] ["graph", "value"] (defScope sIsLot) := ⟨rfl, rfl, rfl, by decide +kernel, rfl, by decide +kernel, by decide +kernel⟩
theorem scCheckLot : FnScope ["graph", "lot"] ["graph", "lot"] (defScope sCheckLot) := ⟨rfl, rfl, rfl, by decide +kernel, rfl, by decide +kernel, by decide +kernel⟩
def spIsLotA (K : PySem.W.Frag) : Sp := fun vs H Q _ => ∃ (x : V) (n : Nat) (es : List E2) (v : V) (s : Sh), vs = [x, v] ∧ GraphAt K H x n es ∧ Good n es ∧ ShAt K H v s ∧ shortL s ∧ ∀ H', Same H H' → Q (.bl (isLot n s)) H'
def spCheckLot (K : PySem.W.Frag) : Sp := fun vs H Q _ => ∃ (x : V) (n : Nat) (es : List E2) (v : V) (l : List Nat), vs = [x, v] ∧ GraphAt K H x n es ∧ Good n es ∧ LotAt K H v l ∧ LotOk n l ∧ ∀ H', Same H H' → Q .non H'
section
variable {P : Program} {w : World} {K : PySem.W.Frag} {mg : Str → Option Value} {base : Heap} {f fW fA fG fC fL fO : Addr} {fd dW dA dG dC dL dO : FuncData}
theorem ok_is_lot (F : L2.Fun K "is_lot" "is_lot" sIsLot f fd) (GC : FnOk P w K mg base CX0 5 fC dC ["graph"] (spCheckGraph K)) (bC : L2.Binds K dC ["graph"] []) (kC : PySem.W.keepIn K (.ref fC) = true) (mC : mg "check_graph" = some (.ref fC))
    (GW : FnOk P w K mg base CX0 2 fW dW ["value", "low", "high"] (spIsWholeA K)) (bW : L2.Binds K dW ["value", "low", "high"] []) (kW : PySem.W.keepIn K (.ref fW) = true) (mW : mg "is_whole" = some (.ref fW))
    (GA : FnOk P w K mg base CX0 1 fA dA ["row"] (spAscA K)) (bA : L2.Binds K dA ["row"] []) (kA : PySem.W.keepIn K (.ref fA) = true) (mA : mg "is_ascending" = some (.ref fA))
    (mty : mg "type" = none) (mt : mg "tuple" = none) (ma : mg "all" = none) : FnOk P w K mg base CX0 6 f fd ["graph", "value"] (spIsLotA K) := by
  refine F.ok scIsLot (fun vs H Q E h => ?_) (fun cdv A outer s H vs Q E hr h => ?_)
  · obtain ⟨x, n, es, v, s, rfl, _⟩ := h
    rfl
  obtain ⟨x, n, es, v, s, rfl, hx, g, hv, sh, q⟩ := h
  refine ⟨_, pss_cons (ps_expr (pe_call GC hr (by rfl) mC kC bC .nil pass0 (pa_cons (pv 0) pa_nil)))
    (pss_cons (ps_if (pt_cmpR op_isNotTy (pe_callTy call_type1 (by rfl) mty (by decide +kernel) (pa_cons (pv 1) pa_nil)) (pe_bltn (v := .ty "tuple") (by rfl) mt (by decide +kernel) rfl) (nomark _)) (pss_one (ps_ret pe_bl)) pss_nil)
    (pss_one (ps_ret (pe_and (pe_callB (cr_all rfl) (by rfl) ma (by decide +kernel) (pa_cons (pe_lc (own := [("vertex", 2)]) (g := gName 2) (tt := tYes) rfl scIsLot.nd (pi_tup (pv 1))
        (blkOk_by (N := ["graph", "value", "vertex"]) (sc := defScope sIsLot) (by decide +kernel)) (fun _ _ _ _ _ => pg_name (i := 2) scIsLot.nd rfl (Or.inl rfl)) (fun _ _ _ _ _ => pts_nil)
        (fun _ _ _ _ _ => pe_call GW (hr.mono (by decide)) (by rfl) mW kW bW .nil pass0 (pa_cons (pv 2) (pa_cons pe_int (pa_cons (pe_op op_sub (pe_ix (r := rIxT K) ix_tup (pv 0) pe_int (fun _ _ => rfl)) pe_int) pa_nil))))) pa_nil))
      (pe_one (pe_call GA (hr.mono (by decide)) (by rfl) mA kA bA .nil pass0 (pa_cons (pv 1) pa_nil))))))), ?_⟩
  refine ⟨_, rfl, x, n, es, rfl, hx, g, fun H1 s1 => ?_⟩
  have hv1 := hv.same s1
  obtain ⟨T, ty, ok⟩ := hv1.ty
  refine ⟨_, rfl, v, T, rfl, ty, T, "tuple", rfl, rfl, _, rfl, iteB (fun c3 => ?_) (fun c3 => ?_)⟩
  · have nt : T ≠ "tuple" := by simpa using c3
    have e : isLot n s = false := by
      cases s with
      | tup es => exact absurd ok nt
      | _ => rfl
    have q0 := q H1 s1
    rw [e] at q0
    exact q0
  have et : T = "tuple" := by simpa using c3
  obtain ⟨ss, rfl⟩ : ∃ ss, s = .tup ss := by
    cases s with
    | tup ss => exact ⟨ss, rfl⟩
    | int i => rw [show T = "int" from ok] at et; exact absurd et (by decide)
    | bool b => rw [show T = "bool" from ok] at et; exact absurd et (by decide)
    | str x => rw [show T = "str" from ok] at et; exact absurd et (by decide)
    | oth => exact absurd et ok.2.2.1
  have few : ss.length ≤ 900 := sh
  have eq : isLot n (.tup ss) = (ss.all (wholeR 0 ((n : Int) - 1)) && ascB ss) := rfl
  obtain ⟨t, e, ys, rfl, ht, _, _⟩ := hx.same s1
  have a0 : atI [V.int (n : Int), V.ref e] 0 = some (.int (n : Int)) := atI_nat (j := 0) rfl
  cases hv1 with
  | @tup u xs _ hu r =>
  have lx := r.len
  refine ⟨_, rfl, u, rfl, ⟨_, hu⟩, fun D nD => lc_tup (K := K) (a := u) (xs := xs) (fun i H2 => Same H1 H2 ∧ H2 D = some (.lst (((ss.take i).map (wholeR 0 ((n : Int) - 1))).map V.bl))) ⟨same_new nD _, upd_same⟩ (fun i H1 _ ⟨s1, _⟩ => Same.tup s1 hu) ?_ ?_⟩
  · rintro i x H2 hi ⟨s2, hD⟩
    obtain ⟨z, hz, sz⟩ := (r.same s2).get hi
    refine ⟨rfl, ?_⟩
    refine ⟨_, rfl, _, rfl, t, _, 0, _, rfl, rfl, Same.tup s2 ht, a0, _, _, rfl, rfl, x, z, 0, (n : Int) - 1, rfl, sz, _, hD, small1000 (by rw [List.length_map, List.length_map, List.length_take]; omega), same_put s2 nD, ?_⟩
    rw [upd_same, take_succ hz, List.map_append, List.map_append]
    rfl
  rintro H2 ⟨s2, hD⟩
  rw [lx, List.take_length] at hD
  refine ⟨D, _, rfl, SqL.of hD, _, rfl, ?_⟩
  have ea : (ss.map (wholeR 0 ((n : Int) - 1))).all id = ss.all (wholeR 0 ((n : Int) - 1)) := by rw [List.all_map]; rfl
  rw [ea]
  refine iteB (fun c4 => ?_) (fun c4 => ?_)
  · refine ⟨_, rfl, u, xs, ss, rfl, Same.tup s2 hu, r.same s2, .inl fun s hs => ?_, few, fun H3 s3 => ?_⟩
    · have h1 := List.all_eq_true.mp c4 s hs
      cases s with
      | int i => exact ⟨i, rfl⟩
      | _ => cases h1
    · have q1 := q H3 (s1.trans (s2.trans s3))
      rw [eq, c4, Bool.true_and] at q1
      exact q1
  · have q1 := q H2 (s1.trans s2)
    rw [eq, c4, Bool.false_and] at q1
    exact q1
theorem ok_check_lot (F : L2.Fun K "check_lot" "check_lot" sCheckLot f fd) (GL : FnOk P w K mg base CX0 6 fL dL ["graph", "value"] (spIsLotA K)) (bL : L2.Binds K dL ["graph", "value"] []) (kL : PySem.W.keepIn K (.ref fL) = true) (mL : mg "is_lot" = some (.ref fL)) : FnOk P w K mg base CX0 7 f fd ["graph", "lot"] (spCheckLot K) := by
  refine F.ok scCheckLot (fun vs H Q E h => ?_) (fun cdv A outer s H vs Q E hr h => ?_)
  · obtain ⟨x, n, es, v, l, rfl, _⟩ := h
    rfl
  obtain ⟨x, n, es, v, l, rfl, hx, g, hv, lo, q⟩ := h
  refine ⟨_, pss_one (ps_if (pt_not (pt_val (pe_call GL (hr.mono (by decide)) (by rfl) mL kL bL .nil pass0 (pa_cons (pv 0) (pa_cons (pv 1) pa_nil))))) (pss_one ps_never) pss_nil), ?_⟩
  have few := lo.few
  have n9 := g.n9
  refine ⟨_, rfl, _, rfl, x, n, es, v, lotS l, rfl, hx, g, hv.sh, (by show (l.map _).length ≤ 900; rw [List.length_map]; omega), fun H' s' => ?_⟩
  rw [isLot_ok lo]
  exact ⟨_, rfl, iteF (q H' s')⟩
end
end My

set_option maxHeartbeats 4000000
namespace My
open PySem PySem.Spec PyProof.Rows L2
abbrev sComplement : Stmt := top 19
theorem scComplement : FnScope ["graph", "many", "edges", "pairs", "one", "other", "pair"] ["graph"] (defScope sComplement) := ⟨rfl, rfl, rfl, by decide +kernel, rfl, by decide +kernel, by decide +kernel⟩
def leftP (n : Nat) (es : List E2) : List E2 := (allP n).filter fun p => decide (p ∉ es)
theorem leftP_eq (n : Nat) (es : List E2) : leftP n es = (List.range n).flatMap fun u => (rowP n u).filter fun p => decide (p ∉ es) := List.filter_flatMap
def spComplement (K : PySem.W.Frag) : Sp := fun vs H Q _ => ∃ (x : V) (n : Nat) (es : List E2), vs = [x] ∧ GraphAt K H x n es ∧ Good n es ∧ ∀ (y : V) H', Same H H' → GraphAt K H' y n (leftP n es) → Q y H'
theorem PairsT.get {H : Hp} : ∀ {xs : List V} {ps : List E2}, PairsT H xs ps → ∀ {i : Nat} {x : V}, xs[i]? = some x → ∃ p, ps[i]? = some p ∧ PairT H x p
  | _, _, .nil, i, x, e => by simp at e
  | _, _, .cons a r, 0, x, e => by simp at e; subst e; exact ⟨_, rfl, a⟩
  | _, _, .cons a r, i + 1, x, e => by
    obtain ⟨s, h1, h2⟩ := PairsT.get r (i := i) (x := x) (by simpa using e)
    exact ⟨s, by simpa using h1, h2⟩
theorem rowP_len : ∀ n, n ≤ 9 → ∀ u, u ≤ 9 → (rowP n u).length ≤ 9 := by decide +kernel
section
variable {P : Program} {w : World} {K : PySem.W.Frag} {mg : Str → Option Value} {base : Heap} {f fC : Addr} {fd dC : FuncData}
theorem ok_complement (F : L2.Fun K "complement" "complement" sComplement f fd) (GC : FnOk P w K mg base CX0 5 fC dC ["graph"] (spCheckGraph K)) (bC : L2.Binds K dC ["graph"] []) (kC : PySem.W.keepIn K (.ref fC) = true) (mC : mg "check_graph" = some (.ref fC)) (mr : mg "range" = none) (mt : mg "tuple" = none) : FnOk P w K mg base CX0 6 f fd ["graph"] (spComplement K) := by
  refine F.ok scComplement (fun vs H Q E h => ?_) (fun cdv A outer s H vs Q E hr h => ?_)
  · obtain ⟨x, n, es, rfl, _⟩ := h
    rfl
  obtain ⟨x, n, es, rfl, hx, g, q⟩ := h
  refine ⟨_, pss_cons (ps_expr (pe_call GC hr (by rfl) mC kC bC .nil pass0 (pa_cons (pv 0) pa_nil)))
    (pss_cons (ps_asg (pv 0) (pg_tup (by rfl) (pgs_cons (pg_name (i := 1) scComplement.nd rfl (.inr rfl)) (pgs_cons (pg_name (i := 2) scComplement.nd rfl (.inr rfl)) pgs_nil))))
    (pss_cons (ps_setLc2 (i := 3) (own := [("one", 4), ("other", 5)]) (vs1 := [5]) (g := gName 4) (g1 := gName 5) (tt := tYes) (tt1 := tYes) rfl scComplement.nd rfl rfl (sw_true rfl rfl rfl (by decide +kernel)) (pi_range1 rfl mr (pa_cons (pv 1) pa_nil))
        (blkOk_by (N := ["graph", "many", "edges", "pairs", "one", "other", "pair"]) (sc := defScope sComplement) (by decide +kernel)) (by decide)
        (fun _ _ _ _ _ => pg_name (i := 4) scComplement.nd rfl (Or.inl rfl)) (fun _ _ _ _ _ => pts_nil) (fun _ _ _ _ _ => pi_range2 (by rfl) mr (pa_cons (pe_op op_add (pv 4) pe_int) (pa_cons (pv 1) pa_nil))) (fun _ _ _ _ _ => pg_name (i := 5) scComplement.nd rfl (Or.inl rfl)) (fun _ _ _ _ _ => pts_nil)
        (fun _ _ _ _ _ => pe_tup (pa_cons (pv 4) (pa_cons (pv 5) pa_nil))))
    (pss_one (ps_ret (pe_tup (pa_cons (pv 1) (pa_cons (pe_callTy call_tuple_of (by rfl) mt (by decide +kernel) (pa_cons (pe_lc (own := [("pair", 6)]) (g := gName 6) rfl scComplement.nd (pi_list (pv 3))
        (blkOk_by (N := ["graph", "many", "edges", "pairs", "one", "other", "pair"]) (sc := defScope sComplement) (by decide +kernel)) (fun _ _ _ _ _ => pg_name (i := 6) scComplement.nd rfl (Or.inl rfl))
        (fun _ _ _ _ _ => pts_one (pt_cmpR (r := rInP not K) (op_notInP hr.units) (pv 6) (pv 2) (by rfl))) (fun _ _ _ _ _ => pv 6)) pa_nil)) pa_nil))))))), ?_⟩
  have n9 := g.n9
  refine ⟨_, rfl, x, n, es, rfl, hx, g, fun H1 s1 => ?_⟩
  obtain ⟨t, e, xs, rfl, ht, he, hes⟩ := hx.same s1
  refine ⟨_, rfl, t, _, rfl, ht, rfl, _, _, rfl, _, _, rfl, rfl, ?_⟩
  refine ⟨_, rfl, (n : Int), rfl, by omega, by omega, fun D nD => lo_it (walk_range (lo := 0) (n := ((n : Nat) : Int).toNat)) (fun i H2 => Same H1 H2 ∧ ∃ zs, H2 D = some (.lst zs) ∧ PairsT H2 zs ((List.range i).flatMap (rowP n))) ⟨same_new nD _, [], upd_same, .nil⟩ (fun _ _ _ _ => trivial) ?_ ?_⟩
  · rintro i x H2 _ li ⟨s2, zs, hD, pz⟩ ⟨rfl, ex⟩
    obtain rfl : x = V.int ((i : Nat) : Int) := ex.trans (congrArg V.int (Int.zero_add _))
    have l9 : zs.length ≤ 81 := by rw [PairsT.len pz]; exact rows_few i (by omega) n n9
    refine ⟨rfl, ?_⟩
    refine ⟨_, rfl, _, _, rfl, rfl, _, rfl, _, _, rfl, ⟨by omega, by omega, by omega, by omega⟩, lo_it (walk_range (lo := (i : Int) + 1) (n := ((n : Int) - ((i : Int) + 1)).toNat)) (fun j H3 => Same H1 H3 ∧ ∃ zs, H3 D = some (.lst zs) ∧ PairsT H3 zs ((List.range i).flatMap (rowP n) ++ (List.range j).map fun j => (i, i + 1 + j))) ⟨s2, zs, hD, by rw [List.range_zero, List.map_nil, List.append_nil]; exact pz⟩ (fun _ _ _ _ => trivial) ?_ ?_⟩
    · rintro j x H3 _ lj ⟨s3, zs, hD, pz⟩ ⟨rfl, ex⟩
      obtain rfl : x = V.int ((i + 1 + j : Nat) : Int) := ex.trans (congrArg V.int (by omega))
      refine ⟨rfl, ?_⟩
      refine ⟨_, rfl, _, rfl, (by show 2 ≤ sizeLine; decide), fun r nr => ?_⟩
      have p1 := push_pairT (i, i + 1 + j) hD nr pz
      have l1 : zs.length ≤ 81 + 9 := by
        have := rows_few i (by omega) n n9
        rw [PairsT.len pz, List.length_append, List.length_map, List.length_range]
        omega
      refine ⟨zs, (same_new nr _) _ _ hD, small1000 (by omega), same_put (s3.trans (same_new nr _)) nD, _, upd_same, ?_⟩
      rw [List.range_succ, List.map_append, ← List.append_assoc]
      exact p1
    · rintro H3 ⟨s3, zs, hD, pz⟩
      refine ⟨s3, zs, hD, ?_⟩
      rw [List.range_succ, List.flatMap_append, List.flatMap_cons, List.flatMap_nil, List.append_nil]
      rw [show ((n : Int) - ((i : Int) + 1)).toNat = n - (i + 1) by omega] at pz
      exact pz
  rintro H2 ⟨s2, zs, hD, pz⟩
  rw [show ((n : Nat) : Int).toNat = n by omega] at pz
  have lz : zs.length ≤ 81 := by rw [PairsT.len pz]; exact rows_few n n9 n n9
  have lzn := PairsT.len pz
  refine ⟨_, rfl, _, rfl, D, rfl, ⟨_, SqL.of hD⟩, fun B nB => lo_it (walk_list (xs := zs)) (fun i H3 => Same H2 H3 ∧ ∃ ys, H3 B = some (.lst ys) ∧ ys.length ≤ i ∧ PairsT H3 ys (((((List.range n).flatMap (rowP n)).take i)).filter fun p => decide (p ∉ es))) ⟨same_new nB _, [], upd_same, Nat.le_refl _, .nil⟩ (fun i H3 _ ⟨s3, _⟩ => SqL.of (s3 _ _ hD)) ?_ ?_⟩
  · rintro i x _ H3 li ⟨s3, ys, hB, ly, py⟩ ⟨rfl, hi⟩
    obtain ⟨p, hp, hpx⟩ := PairsT.get (pz.same s3) hi
    have sA := s2.trans s3
    have lz3 : zs.length ≤ 81 := lz
    refine ⟨rfl, ?_⟩
    refine ⟨_, rfl, _, rfl, p, e, xs, es, hpx.at, rfl, Same.tup sA he, hes.same sA, _, rfl, iteB (fun c => ?_) (fun c => ?_)⟩
    · have c' : p ∉ es := by simpa using c
      refine ⟨_, rfl, ys, hB, small1000 (by omega), same_put s3 nB, _, upd_same, by rw [List.length_append]; exact Nat.succ_le_succ ly, ?_⟩
      rw [take_succ hp, List.filter_append, List.filter_cons_of_pos (by simpa using c'), List.filter_nil]
      exact (py.append (.cons hpx .nil)).put hB
    · have c' : p ∈ es := by simpa using c
      refine ⟨s3, ys, hB, by omega, ?_⟩
      rw [take_succ hp, List.filter_append, List.filter_cons_of_neg (by simpa using c'), List.filter_nil, List.append_nil]
      exact py
  · rintro H3 ⟨s3, ys, hB, ly, py⟩
    rw [lzn, List.take_length] at py
    refine ⟨B, ys, rfl, .inl ⟨SqL.of hB, fun l nl => ⟨(by show 2 ≤ sizeLine; decide), fun r nr => ?_⟩⟩⟩
    have s4 := same_new nl (.tup ys)
    have s5 := same_new nr (.tup [.int (n : Int), .ref l])
    refine q (.ref r) _ (s1.trans (s2.trans (s3.trans (s4.trans s5)))) ⟨r, l, ys, rfl, SqT.of upd_same, SqT.of (s5 _ _ upd_same), PairsT.at ((py.same s4).same s5)⟩
end
end My

set_option maxHeartbeats 2000000
/-! Sets of vertices as masks, in plain Lean. -/
namespace My
open PySem PySem.Spec PyProof.Rows L2
theorem and_nn (a b : Nat) : Builtin.bitAnd (a : Int) (b : Int) = ((a &&& b : Nat) : Int) := by
  rw [bitAnd_pp (by omega) (by omega), Int.toNat_natCast, Int.toNat_natCast]
theorem or_nn (a b : Nat) : Builtin.bitOr (a : Int) (b : Int) = ((a ||| b : Nat) : Int) := by
  have n1 : ∀ k : Nat, Builtin.bitNot (Builtin.bitNot (k : Int)) = (k : Int) := fun k => by unfold Builtin.bitNot; omega
  have n2 : ∀ k : Nat, ¬ 0 ≤ Builtin.bitNot (k : Int) := fun k => by unfold Builtin.bitNot; omega
  unfold Builtin.bitOr Builtin.bitAnd
  simp only [n2, decide_false]
  rw [n1, n1, n1, Int.toNat_natCast, Int.toNat_natCast]
def adjB (es : List E2) (u v : Nat) : Bool := decide ((min u v, max u v) ∈ es)
theorem adj_comm (es : List E2) (u v : Nat) : adjB es u v = adjB es v u := by
  unfold adjB
  rw [Nat.min_comm, Nat.max_comm]
theorem adj_ne {n : Nat} {es : List E2} (g : Good n es) {u v : Nat} (h : adjB es u v = true) : u ≠ v ∧ u < n ∧ v < n := by
  have z := g.lt _ (of_decide_eq_true h)
  dsimp only at z
  omega
def NbOk (n : Nat) (es : List E2) (nb : List Nat) : Prop := nb.length = n ∧ ∀ u, u < n → ∀ v, (nb.getD u 0).testBit v = adjB es u v
theorem nb_nil (n : Nat) : NbOk n [] (List.replicate n 0) := by
  refine ⟨List.length_replicate .., fun u hu v => ?_⟩
  rw [List.getD_eq_getElem?_getD, List.getElem?_replicate, if_pos hu]
  simp [adjB]
theorem bit_pow (a v : Nat) : (2 ^ a).testBit v = decide (a = v) := by
  rw [Nat.testBit_two_pow]
theorem nb_step {n : Nat} {l : List E2} {nb : List Nat} {a b : Nat} (h : NbOk n l nb) (ab : a < b) (bn : b < n) :
    NbOk n (l ++ [(a, b)]) ((nb.set a (nb.getD a 0 ||| 2 ^ b)).set b ((nb.set a (nb.getD a 0 ||| 2 ^ b)).getD b 0 ||| 2 ^ a)) := by
  obtain ⟨hl, hb⟩ := h
  refine ⟨by rw [List.length_set, List.length_set, hl], fun u hu v => ?_⟩
  have eb : (nb.set a (nb.getD a 0 ||| 2 ^ b)).getD b 0 = nb.getD b 0 := by
    rw [List.getD_eq_getElem?_getD, List.getElem?_set_ne (by omega), ← List.getD_eq_getElem?_getD]
  rw [eb]
  have ad : adjB (l ++ [(a, b)]) u v = (adjB l u v || (decide (u = a ∧ v = b) || decide (u = b ∧ v = a))) := by
    unfold adjB
    rw [Bool.eq_iff_iff]
    simp only [decide_eq_true_eq, Bool.or_eq_true, List.mem_append, List.mem_singleton, Prod.mk.injEq]
    constructor
    · rintro (z | ⟨z1, z2⟩)
      · exact .inl z
      · right
        omega
    · rintro (z | z | z)
      · exact .inl z
      · right; omega
      · right; omega
  rw [ad]
  by_cases c1 : u = b
  · subst c1
    rw [List.getD_eq_getElem?_getD, List.getElem?_set_self (by rw [List.length_set, hl]; exact hu)]
    show (nb.getD u 0 ||| 2 ^ a).testBit v = _
    rw [Nat.testBit_or, hb u hu, bit_pow]
    congr 1
    rw [Bool.eq_iff_iff, Bool.or_eq_true, decide_eq_true_eq, decide_eq_true_eq, decide_eq_true_eq]
    constructor
    · intro z
      exact .inr ⟨rfl, z.symm⟩
    · rintro (z | z)
      · exact absurd z.1 (by omega)
      · exact z.2.symm
  · rw [List.getD_eq_getElem?_getD, List.getElem?_set_ne (by omega)]
    by_cases c2 : u = a
    · subst c2
      rw [List.getElem?_set_self (by rw [hl]; exact hu)]
      show (nb.getD u 0 ||| 2 ^ b).testBit v = _
      rw [Nat.testBit_or, hb u hu, bit_pow]
      congr 1
      rw [Bool.eq_iff_iff, Bool.or_eq_true, decide_eq_true_eq, decide_eq_true_eq, decide_eq_true_eq]
      constructor
      · intro z
        exact .inl ⟨rfl, z.symm⟩
      · rintro (z | z)
        · exact z.2.symm
        · exact absurd z.1 c1
    · rw [List.getElem?_set_ne (by omega), ← List.getD_eq_getElem?_getD, hb u hu]
      have z : (decide (u = a ∧ v = b) || decide (u = b ∧ v = a)) = false := by
        rw [Bool.or_eq_false_iff]
        exact ⟨decide_eq_false (fun z => c2 z.1), decide_eq_false (fun z => c1 z.1)⟩
      rw [z, Bool.or_false]
/-! cliques -/
def Clq (es : List E2) (m : Nat) : Prop := ∀ u v, m.testBit u = true → m.testBit v = true → u ≠ v → adjB es u v = true
theorem sub_and (a b : Nat) : a &&& b = a ↔ ∀ v, a.testBit v = true → b.testBit v = true := by
  constructor
  · intro h v hv
    have z := congrArg (Nat.testBit · v) h
    simp only [Nat.testBit_and, hv, Bool.true_and] at z
    exact z
  · intro h
    refine Nat.eq_of_testBit_eq fun v => ?_
    rw [Nat.testBit_and]
    cases e : a.testBit v with
    | false => rfl
    | true => rw [h v e]; rfl
def FoundOk (es : List E2) (k : Nat) (found : List Nat) : Prop := found.Nodup ∧ ∀ m, m ∈ found ↔ m < 2 ^ k ∧ Clq es m
theorem found_nil (es : List E2) : FoundOk es 0 [0] := by
  refine ⟨by simp, fun m => ?_⟩
  rw [List.mem_singleton]
  constructor
  · rintro rfl
    exact ⟨by decide, fun u v h => by simp at h⟩
  · intro h
    have := h.1
    omega
def goOn (found : List Nat) (k near : Nat) : List Nat := found ++ (found.filter fun m => m &&& near == m).map (· ||| 2 ^ k)
theorem or_pow_bit {c k v : Nat} : (c ||| 2 ^ k).testBit v = (c.testBit v || decide (k = v)) := by rw [Nat.testBit_or, bit_pow]
theorem high_out {c k v : Nat} (h : c < 2 ^ k) (hv : k ≤ v) : c.testBit v = false := Nat.testBit_lt_two_pow (Nat.lt_of_lt_of_le h (Nat.pow_le_pow_right (by decide) hv))
theorem found_step {n : Nat} {es : List E2} {nb : List Nat} {found : List Nat} {k : Nat} (h : FoundOk es k found) (nk : NbOk n es nb) (kn : k < n) : FoundOk es (k + 1) (goOn found k (nb.getD k 0)) := by
  obtain ⟨nd, mem⟩ := h
  have low : ∀ m ∈ found, m < 2 ^ k := fun m hm => ((mem m).mp hm).1
  constructor
  · unfold goOn
    rw [List.nodup_append]
    refine ⟨nd, ?_, ?_⟩
    · show List.Pairwise _ _
      rw [List.pairwise_map]
      refine List.Pairwise.imp_of_mem ?_ (nd.filter _)
      intro x y hx hy ne e
      refine ne (?_ : x = y)
      refine Nat.eq_of_testBit_eq fun v => ?_
      have lx := low x (List.mem_filter.mp hx).1
      have ly := low y (List.mem_filter.mp hy).1
      have z := congrArg (Nat.testBit · v) e
      simp only [or_pow_bit] at z
      by_cases c : k = v
      · subst c
        rw [high_out lx (Nat.le_refl _), high_out ly (Nat.le_refl _)]
      · rw [decide_eq_false c, Bool.or_false, Bool.or_false] at z
        exact z
    · intro a ha b hb e
      subst e
      obtain ⟨c, hc, e⟩ := List.mem_map.mp hb
      have z := high_out (low a ha) (Nat.le_refl k)
      rw [← e, or_pow_bit, decide_eq_true rfl, Bool.or_true] at z
      cases z
  · intro m
    unfold goOn
    rw [List.mem_append, mem m, List.mem_map]
    constructor
    · rintro (⟨h1, h2⟩ | ⟨c, hc, rfl⟩)
      · exact ⟨Nat.lt_of_lt_of_le h1 (Nat.pow_le_pow_right (by decide) (Nat.le_succ k)), h2⟩
      · obtain ⟨hc, near⟩ := List.mem_filter.mp hc
        obtain ⟨lc, cl⟩ := (mem c).mp hc
        have sub := (sub_and c _).mp (by simpa using near)
        refine ⟨Nat.or_lt_two_pow (Nat.lt_of_lt_of_le lc (Nat.pow_le_pow_right (by decide) (Nat.le_succ k))) (Nat.pow_lt_pow_right (by decide) (Nat.lt_succ_self k)), fun u v hu hv ne => ?_⟩
        rw [or_pow_bit] at hu hv
        simp only [Bool.or_eq_true, decide_eq_true_eq] at hu hv
        rcases hu with hu | rfl
        · rcases hv with hv | rfl
          · exact cl u v hu hv ne
          · rw [adj_comm, ← nk.2 k kn]
            exact sub u hu
        · rcases hv with hv | rfl
          · rw [← nk.2 k kn]
            exact sub v hv
          · exact absurd rfl ne
    · rintro ⟨h1, h2⟩
      by_cases c : m.testBit k = true
      · right
        have le : m % 2 ^ k < 2 ^ k := Nat.mod_lt _ (Nat.two_pow_pos k)
        have bits : ∀ v, (m % 2 ^ k).testBit v = (decide (v < k) && m.testBit v) := fun v => Nat.testBit_mod_two_pow m k v
        refine ⟨m % 2 ^ k, List.mem_filter.mpr ⟨(mem _).mpr ⟨le, fun u v hu hv ne => ?_⟩, ?_⟩, ?_⟩
        · rw [bits, Bool.and_eq_true] at hu hv
          exact h2 u v hu.2 hv.2 ne
        · have s : m % 2 ^ k &&& nb.getD k 0 = m % 2 ^ k := (sub_and _ _).mpr fun v hv => by
            rw [bits, Bool.and_eq_true] at hv
            have lt := of_decide_eq_true hv.1
            rw [nk.2 k kn]
            exact h2 k v c hv.2 (by omega)
          simpa using s
        · refine Nat.eq_of_testBit_eq fun v => ?_
          rw [or_pow_bit, bits]
          by_cases e : k = v
          · subst e; simp [c]
          · by_cases l : v < k
            · simp [l, e]
            · have z : m.testBit v = false := high_out h1 (by omega)
              simp [l, e, z]
      · left
        refine ⟨?_, h2⟩
        refine Nat.lt_pow_two_of_testBit m fun v hv => ?_
        by_cases e : v = k
        · subst e; simpa using c
        · exact high_out h1 (by omega)
/-! lots as masks -/
def maskN (l : List Nat) : Nat := (l.map fun k => 2 ^ k).sum
theorem desc_lt : ∀ {l : List Nat} {k : Nat}, l.Pairwise (· > ·) → (∀ a ∈ l, a < k) → maskN l < 2 ^ k
  | [], k, _, _ => Nat.two_pow_pos k
  | a :: r, k, h, lt => by
    have ak := lt a (List.mem_cons_self ..)
    have ih := desc_lt (l := r) (k := a) (List.pairwise_cons.mp h).2 fun b hb => (List.pairwise_cons.mp h).1 b hb
    have e : maskN (a :: r) = 2 ^ a + maskN r := by unfold maskN; rw [List.map_cons, List.sum_cons]
    have z : 2 ^ (a + 1) ≤ 2 ^ k := Nat.pow_le_pow_right (by decide) ak
    rw [Nat.pow_succ] at z
    omega
theorem desc_bit : ∀ {l : List Nat}, l.Pairwise (· > ·) → ∀ v, (maskN l).testBit v = decide (v ∈ l)
  | [], _, v => by simp [maskN]
  | a :: r, h, v => by
    have lt := desc_lt (l := r) (k := a) (List.pairwise_cons.mp h).2 fun b hb => (List.pairwise_cons.mp h).1 b hb
    have ih := desc_bit (l := r) (List.pairwise_cons.mp h).2 v
    have e : maskN (a :: r) = 2 ^ a + maskN r := by unfold maskN; rw [List.map_cons, List.sum_cons]
    rw [e]
    rcases Nat.lt_trichotomy v a with c | c | c
    · rw [Nat.testBit_two_pow_add_gt c, ih]
      have ne : v ≠ a := by omega
      simp [ne]
    · subst c
      rw [Nat.testBit_two_pow_add_eq, high_out lt (Nat.le_refl _)]
      simp
    · have z : 2 ^ a + maskN r < 2 ^ (a + 1) := by rw [Nat.pow_succ]; omega
      rw [high_out z c]
      have n1 : v ≠ a := by omega
      have n2 : v ∉ r := fun hv => by have := (List.pairwise_cons.mp h).1 v hv; omega
      simp [n1, n2]
theorem mask_rev (l : List Nat) : maskN l.reverse = maskN l := by
  unfold maskN
  rw [List.map_reverse]
  exact List.sum_reverse _
theorem mask_bit {l : List Nat} (h : l.Pairwise (· < ·)) (v : Nat) : (maskN l).testBit v = decide (v ∈ l) := by
  rw [← mask_rev, desc_bit (List.pairwise_reverse.mpr h)]
  simp
/-- the lot of a mask's bits below n -/
def bitsN (n m : Nat) : List Nat := (List.range n).filter fun v => m.testBit v
theorem bits_up (n m : Nat) : (bitsN n m).Pairwise (· < ·) := (List.pairwise_lt_range).filter _
theorem mem_bits {n m v : Nat} : v ∈ bitsN n m ↔ v < n ∧ m.testBit v = true := by
  unfold bitsN
  rw [List.mem_filter, List.mem_range]
theorem mask_bits {n m : Nat} (h : m < 2 ^ n) : maskN (bitsN n m) = m := by
  refine Nat.eq_of_testBit_eq fun v => ?_
  rw [mask_bit (bits_up n m)]
  by_cases c : v < n
  · cases e : m.testBit v with
    | true => exact decide_eq_true (mem_bits.mpr ⟨c, e⟩)
    | false => exact decide_eq_false fun z => by rw [(mem_bits.mp z).2] at e; cases e
  · rw [high_out h (by omega)]
    exact decide_eq_false fun z => c (mem_bits.mp z).1
/-- two ascending lists with the same members -/
theorem eq_of_lt : ∀ {l m : List Nat}, l.Pairwise (· < ·) → m.Pairwise (· < ·) → (∀ k, k ∈ l ↔ k ∈ m) → l = m
  | [], [], _, _, _ => rfl
  | [], b :: m, _, _, h => absurd ((h b).mpr (List.mem_cons_self ..)) (by simp)
  | a :: l, [], _, _, h => absurd ((h a).mp (List.mem_cons_self ..)) (by simp)
  | a :: l, b :: m, hl, hm, h => by
    have l1 := (List.pairwise_cons.mp hl).1
    have m1 := (List.pairwise_cons.mp hm).1
    have e : a = b := by
      rcases List.mem_cons.mp ((h a).mp (List.mem_cons_self ..)) with e | e
      · exact e
      · rcases List.mem_cons.mp ((h b).mpr (List.mem_cons_self ..)) with e2 | e2
        · exact e2.symm
        · have := l1 b e2
          have := m1 a e
          omega
    subst e
    rw [eq_of_lt (List.pairwise_cons.mp hl).2 (List.pairwise_cons.mp hm).2 fun k => ?_]
    constructor
    · intro hk
      have := l1 k hk
      rcases List.mem_cons.mp ((h k).mp (List.mem_cons_of_mem _ hk)) with e | e
      · omega
      · exact e
    · intro hk
      have := m1 k hk
      rcases List.mem_cons.mp ((h k).mpr (List.mem_cons_of_mem _ hk)) with e | e
      · omega
      · exact e
theorem bits_mask {n : Nat} {l : List Nat} (h : l.Pairwise (· < ·)) (lt : ∀ k ∈ l, k < n) : bitsN n (maskN l) = l := by
  refine eq_of_lt (bits_up n _) h fun k => ?_
  rw [mem_bits, mask_bit h, decide_eq_true_eq]
  exact ⟨fun z => z.2, fun z => ⟨lt k z, z⟩⟩
/-- all of a list are adjacent two by two, or no two are -/
def PairB (es : List E2) (tied : Bool) (l : List Nat) : Prop := l.Pairwise fun u v => adjB es u v = tied
instance (es : List E2) (tied : Bool) (l : List Nat) : Decidable (PairB es tied l) := inferInstanceAs (Decidable (List.Pairwise _ l))
theorem pairB_mem {es : List E2} {tied : Bool} {l : List Nat} (nd : l.Nodup) : PairB es tied l ↔ ∀ u ∈ l, ∀ v ∈ l, u ≠ v → adjB es u v = tied := by
  unfold PairB
  constructor
  · intro h
    induction l with
    | nil => intro u hu; cases hu
    | cons a r ih =>
      obtain ⟨h1, h2⟩ := List.pairwise_cons.mp h
      have ih := ih (List.nodup_cons.mp nd).2 h2
      intro u hu v hv ne
      rcases List.mem_cons.mp hu with e1 | hu2
      · rcases List.mem_cons.mp hv with e2 | hv2
        · exact absurd (e1.trans e2.symm) ne
        · rw [e1]; exact h1 v hv2
      · rcases List.mem_cons.mp hv with e2 | hv2
        · rw [adj_comm, e2]; exact h1 u hu2
        · exact ih u hu2 v hv2 ne
  · intro h
    refine List.Pairwise.imp_of_mem (R := fun u v => u ≠ v) ?_ nd
    intro u v hu hv ne
    exact h u hu v hv ne
theorem clq_mask {es : List E2} {l : List Nat} (h : l.Pairwise (· < ·)) : Clq es (maskN l) ↔ PairB es true l := by
  rw [pairB_mem (h.imp fun z => Nat.ne_of_lt z)]
  constructor
  · intro c u hu v hv ne
    exact c u v (by rw [mask_bit h]; exact decide_eq_true hu) (by rw [mask_bit h]; exact decide_eq_true hv) ne
  · intro c u v hu hv ne
    rw [mask_bit h] at hu hv
    exact c u (of_decide_eq_true hu) v (of_decide_eq_true hv) ne
end My

set_option maxHeartbeats 4000000
/-! Tables of who is adjacent to whom: lists of lists of bools. -/
namespace My
open PySem PySem.Spec PyProof.Rows L2
def tabP (n : Nat) (f : Nat → Nat → Bool) : List E2 := (allP n).filter fun p => f p.1 p.2
theorem tab_good {n : Nat} (h : n ≤ 9) (f : Nat → Nat → Bool) : Good n (tabP n f) :=
  ⟨h, fun p hp => mem_allP.mp (List.mem_filter.mp hp).1, (allP_up n h).filter _⟩
theorem tabP_eq (n : Nat) (f : Nat → Nat → Bool) : tabP n f = (List.range n).flatMap fun u => (rowP n u).filter fun p => f p.1 p.2 := List.filter_flatMap
def rowV (n : Nat) (f : Nat → Bool) : List V := (List.range n).map fun j => V.bl (f j)
theorem rowV_len (n : Nat) (f : Nat → Bool) : (rowV n f).length = n := by unfold rowV; rw [List.length_map, List.length_range]
theorem rowV_get {n j : Nat} (f : Nat → Bool) (h : j < n) : (rowV n f)[j]? = some (.bl (f j)) := by
  unfold rowV
  rw [List.getElem?_map, List.getElem?_range h]
  rfl
theorem rowV_set {n : Nat} (f : Nat → Bool) (j : Nat) (b : Bool) : (rowV n f).set j (.bl b) = rowV n fun k => if k = j then b else f k := by
  refine List.ext_getElem? fun k => ?_
  by_cases hk : k < n
  · rw [rowV_get _ hk]
    by_cases e : k = j
    · subst e
      rw [List.getElem?_set_self (by rw [rowV_len]; exact hk), if_pos rfl]
    · rw [List.getElem?_set_ne (Ne.symm e), rowV_get f hk, if_neg e]
  · rw [List.getElem?_eq_none (by rw [List.length_set, rowV_len]; omega), List.getElem?_eq_none (by rw [rowV_len]; omega)]
theorem rowV_succ (n : Nat) (f : Nat → Bool) : rowV (n + 1) f = rowV n f ++ [.bl (f n)] := by
  unfold rowV
  rw [List.range_succ, List.map_append]
  rfl
theorem rowV_congr {n : Nat} {f g : Nat → Bool} (h : ∀ j, j < n → f j = g j) : rowV n f = rowV n g := by
  unfold rowV
  exact List.map_congr_left fun j hj => by rw [h j (List.mem_range.mp hj)]
structure TabR (H : Hp) (D : Addr) (n : Nat) (f : Nat → Nat → Bool) (rs : List Addr) : Prop where
  hd : H D = some (.lst (rs.map V.ref))
  len : rs.length = n
  row : ∀ i r, rs[i]? = some r → H r = some (.lst (rowV n (f i)))
theorem TabR.same {H H' : Hp} (s : Same H H') {D : Addr} {n : Nat} {f : Nat → Nat → Bool} {rs : List Addr} (h : TabR H D n f rs) : TabR H' D n f rs := ⟨s _ _ h.hd, h.len, fun i r hi => s _ _ (h.row i r hi)⟩
theorem TabR.get {H : Hp} {D : Addr} {n : Nat} {f : Nat → Nat → Bool} {rs : List Addr} (h : TabR H D n f rs) {i : Nat} (hi : i < n) : ∃ r, rs[i]? = some r ∧ (rs.map V.ref)[i]? = some (.ref r) ∧ H r = some (.lst (rowV n (f i))) := by
  have l : i < rs.length := by rw [h.len]; exact hi
  refine ⟨rs[i], List.getElem?_eq_getElem l, by rw [List.getElem?_map, List.getElem?_eq_getElem l]; rfl, h.row i _ (List.getElem?_eq_getElem l)⟩
theorem TabR.congr {H : Hp} {D : Addr} {n : Nat} {f g : Nat → Nat → Bool} {rs : List Addr} (h : TabR H D n f rs) (e : ∀ i j, i < n → j < n → f i j = g i j) : TabR H D n g rs :=
  ⟨h.hd, h.len, fun i r hi => by
    rw [h.row i r hi, rowV_congr fun j hj => e i j (by have := (List.getElem?_eq_some_iff.mp hi).1; rw [h.len] at this; exact this) hj]⟩
theorem ixN_of {n j : Nat} (h : j < n) : ixN n (j : Int) = some j := by
  unfold ixN
  rw [if_pos (by omega), if_pos (by omega), Int.toNat_natCast]
def GraphT (H : Hp) (x : V) (n : Nat) (es : List E2) : Prop := ∃ (t e : Addr) (xs : List V), x = .ref t ∧ H t = some (.tup [.int (n : Int), .ref e]) ∧ H e = some (.tup xs) ∧ PairsT H xs es
theorem GraphT.at {K : PySem.W.Frag} {H : Hp} {x : V} {n : Nat} {es : List E2} (h : GraphT H x n es) : GraphAt K H x n es := by
  obtain ⟨t, e, xs, h1, h2, h3, h4⟩ := h
  exact ⟨t, e, xs, h1, SqT.of h2, SqT.of h3, h4.at⟩
theorem GraphT.same {H H' : Hp} (s : Same H H') {x : V} {n : Nat} {es : List E2} (h : GraphT H x n es) : GraphT H' x n es := by
  obtain ⟨t, e, xs, h1, h2, h3, h4⟩ := h
  exact ⟨t, e, xs, h1, s _ _ h2, s _ _ h3, h4.same s⟩
theorem GraphT.but {p : Addr} {H H' : Hp} (b : But p H H') (w : Wl H p) {x : V} {n : Nat} {es : List E2} (h : GraphT H x n es) : GraphT H' x n es := by
  obtain ⟨t, e, xs, h1, h2, h3, h4⟩ := h
  exact ⟨t, e, xs, h1, b _ _ (wl_tup w h2) h2, b _ _ (wl_tup w h3) h3, h4.but b w⟩
theorem GraphAt.same' {K : PySem.W.Frag} {H H' : Hp} (s : Same H H') {x : V} {n : Nat} {es : List E2} (h : GraphAt K H x n es) : GraphAt K H' x n es := h.ts (TS.of s)
theorem pair_at {K : PySem.W.Frag} {H : Hp} {xs : List V} {es : List E2} (h : PairsAt K H xs es) {i : Nat} {p : E2} (hp : es[i]? = some p) : ∃ u, xs[i]? = some (.ref u) ∧ SqT K H u [.int (p.1 : Int), .int (p.2 : Int)] := by
  have le := PairsAt.len h
  have hi : i < xs.length := by rw [le]; exact (List.getElem?_eq_some_iff.mp hp).1
  obtain ⟨q, hq, u, hu, su⟩ := PairsAt.get h (List.getElem?_eq_getElem hi)
  rw [hp] at hq
  cases hq
  exact ⟨u, by rw [List.getElem?_eq_getElem hi, hu], su⟩
theorem adj_nil (u v : Nat) : adjB [] u v = false := by simp [adjB]
theorem adj_snoc {l : List E2} {a b : Nat} (ab : a < b) (u v : Nat) : adjB (l ++ [(a, b)]) u v = (adjB l u v || (decide (u = a ∧ v = b) || decide (u = b ∧ v = a))) := by
  unfold adjB
  have e : decide ((min u v, max u v) ∈ l ++ [(a, b)]) = (decide ((min u v, max u v) ∈ l) || decide ((min u v, max u v) = (a, b))) := by
    rw [Bool.eq_iff_iff]
    simp
  rw [e]
  congr 1
  rw [Bool.eq_iff_iff]
  simp only [Bool.or_eq_true, decide_eq_true_eq, Prod.mk.injEq]
  omega
end My

set_option maxHeartbeats 4000000
/-! range(n) as a value; list(range(n)). -/
namespace My
open PySem PySem.Spec PyProof.Rows L2
section
variable {X : Cx}
def rRng1 : List V → Hp → VK → Prop := fun vs H Q => ∃ j : Int, vs = [V.int j] ∧ ∀ p, H p = none → Q (.ref p) (upd H p (.rng 0 j))
theorem cr_range1 : CallR X (.type "range") rRng1 := by
  intro pins s σ H vs us Q I r h
  obtain ⟨j, rfl, q⟩ := h
  obtain ⟨u1, rfl, t, rfl⟩ := vals1 r
  refine call_range_1 ⟨.ref s.heap.objs.size, upd H s.heap.objs.size (.rng 0 j), I.laid (t' := s.toks + 2) (fun b o e => Heap.get?_push_of_some _ e) (Nat.le_refl _) ?_, rfl, q _ (I.hok.fresh (Nat.le_refl _))⟩
  exact ⟨_, _, _, Heap.get?_push_size _ rfl⟩
def rListRng : List V → Hp → VK → Prop := fun vs H Q => ∃ (a : Addr) (n : Nat), vs = [V.ref a] ∧ H a = some (.rng 0 (n : Int)) ∧ n ≤ 1000 ∧ ∀ p, H p = none → Q (.ref p) (upd H p (.lst (numsN (List.range n))))
theorem call_listRng (hc : X.calm = true) : CallR X (.type "list") rListRng := by
  intro pins s σ H vs us Q I r h
  obtain ⟨a, n, rfl, ha, hn, q⟩ := h
  obtain ⟨u1, rfl, ru⟩ := vals1 r
  obtain rfl : u1 = Value.ref a := ru
  obtain ⟨t1, t2, t3, ho⟩ := I.hok a _ ha
  refine call_list_range (I.ok.hd hc) (n := n) ho (small_one (by decide) (by decide) (by omega) (by omega)) (by rw [rangeSize_one]; split <;> omega) (by omega) fun h' tk acc c' hk e' hi => ?_
  refine ⟨.ref s.heap.objs.size, upd H s.heap.objs.size (.lst (numsN (List.range n))), I.laid hk (Nat.le_refl _) (show ObjOk X.prog X.w _ _ _ (.lst (numsN (List.range n))) from ⟨?_, acc.toList, c', ?_, ?_⟩), rfl, q _ (I.hok.fresh (Nat.le_refl _))⟩
  · rw [numsN_len, List.length_range]; exact small hn
  · have la : acc.toList.length = n := by rw [Array.length_toList]; exact hi.1
    have es : numsN (List.range n) = (List.range acc.toList.length).map fun i => V.int ((i : Nat) : Int) := by
      rw [la]
      rfl
    rw [es]
    refine vals_of_get acc.toList _ fun j u hj => ?_
    obtain ⟨t, rfl⟩ := hi.2 j u (by rw [← hj, Array.getElem?_toList])
    exact ⟨t, by rw [Int.mul_one, Int.zero_add]⟩
  · rw [Array.toArray_toList]
    exact e'
end
end My

set_option maxHeartbeats 4000000
/-! Bipartite multigraphs, in plain Lean and in the heap. -/
namespace My
open PySem PySem.Spec PyProof.Rows L2
structure MulG (l r : Nat) (es : List E2) : Prop where
  l9 : l ≤ 9
  r9 : r ≤ 9
  lt : ∀ p ∈ es, p.1 < l ∧ p.2 < r
  up : es.Pairwise fun a b => ¬ ahead b a
def MulAt (K : PySem.W.Frag) (H : Hp) (x : V) (l r : Nat) (es : List E2) : Prop := ∃ (t e : Addr) (xs : List V), x = .ref t ∧ SqT K H t [.int (l : Int), .int (r : Int), .ref e] ∧ SqT K H e xs ∧ PairsAt K H xs es
def MulT (H : Hp) (x : V) (l r : Nat) (es : List E2) : Prop := ∃ (t e : Addr) (xs : List V), x = .ref t ∧ H t = some (.tup [.int (l : Int), .int (r : Int), .ref e]) ∧ H e = some (.tup xs) ∧ PairsT H xs es
theorem MulT.at {K : PySem.W.Frag} {H : Hp} {x : V} {l r : Nat} {es : List E2} (h : MulT H x l r es) : MulAt K H x l r es := by
  obtain ⟨t, e, xs, h1, h2, h3, h4⟩ := h
  exact ⟨t, e, xs, h1, SqT.of h2, SqT.of h3, h4.at⟩
theorem MulAt.ts {K : PySem.W.Frag} {H H' : Hp} (s : TS H H') {x : V} {l r : Nat} {es : List E2} (h : MulAt K H x l r es) : MulAt K H' x l r es := by
  obtain ⟨t, e, xs, h1, h2, h3, h4⟩ := h
  exact ⟨t, e, xs, h1, s.tup h2, s.tup h3, h4.ts s⟩
theorem MulAt.same {K : PySem.W.Frag} {H H' : Hp} (s : Same H H') {x : V} {l r : Nat} {es : List E2} (h : MulAt K H x l r es) : MulAt K H' x l r es := h.ts (TS.of s)
theorem MulT.but {p : Addr} {H H' : Hp} (b : But p H H') (w : Wl H p) {x : V} {l r : Nat} {es : List E2} (h : MulT H x l r es) : MulT H' x l r es := by
  obtain ⟨t, e, xs, h1, h2, h3, h4⟩ := h
  exact ⟨t, e, xs, h1, b _ _ (wl_tup w h2) h2, b _ _ (wl_tup w h3) h3, h4.but b w⟩
theorem MulT.same {H H' : Hp} (s : Same H H') {x : V} {l r : Nat} {es : List E2} (h : MulT H x l r es) : MulT H' x l r es := by
  obtain ⟨t, e, xs, h1, h2, h3, h4⟩ := h
  exact ⟨t, e, xs, h1, s _ _ h2, s _ _ h3, h4.same s⟩
/-! ### what is a multigraph -/
def intS : Sh → Int
  | .int i => i
  | _ => 0
def mulS (l r : Nat) (es : List E2) : Sh := .tup [.int (l : Int), .int (r : Int), .tup (es.map pairS)]
def leS : Sh → Sh → Bool
  | .tup [.int a, .int b], .tup [.int c, .int d] => if a = c then (if b = d then true else decide (b ≤ d)) else decide (a ≤ c)
  | _, _ => false
def nevB : List Sh → Bool
  | s :: t :: r => leS s t && nevB (t :: r)
  | _ => true
def edgeM (l r : Int) : Sh → Bool
  | .tup [a, b] => wholeR 0 (l - 1) a && wholeR 0 (r - 1) b
  | _ => false
def isMul : Sh → Bool
  | .tup [a, b, .tup es] => (wholeR 0 9 a && wholeR 0 9 b) && (decide (es.length ≤ 9) && (es.all (edgeM (intS a) (intS b)) && nevB es))
  | _ => false
theorem MulAt.sh {K : PySem.W.Frag} {H : Hp} {x : V} {l r : Nat} {es : List E2} (h : MulAt K H x l r es) : ShAt K H x (mulS l r es) := by
  obtain ⟨t, e, xs, rfl, h2, h3, h4⟩ := h
  exact .tup h2 (.cons (.int _) (.cons (.int _) (.cons (.tup h3 h4.sh) .nil)))
theorem sh_mul {K : PySem.W.Frag} {H : Hp} {x : V} {l r : Nat} {es : List E2} (h : ShAt K H x (mulS l r es)) : MulAt K H x l r es := by
  cases h with
  | tup ht r =>
    cases r with
    | cons a r =>
      cases r with
      | cons b r =>
        cases r with
        | cons c r =>
          cases r
          cases a
          cases b
          cases c with
          | tup he re => exact ⟨_, _, _, rfl, ht, he, sh_pairs re⟩
theorem leS_pair (p q : E2) : leS (pairS p) (pairS q) = true ↔ ¬ ahead q p := by
  show (if (p.1 : Int) = (q.1 : Int) then (if (p.2 : Int) = (q.2 : Int) then true else decide ((p.2 : Int) ≤ (q.2 : Int))) else decide ((p.1 : Int) ≤ (q.1 : Int))) = true ↔ _
  unfold ahead
  split
  · split
    · simp; omega
    · rw [decide_eq_true_eq]; omega
  · rw [decide_eq_true_eq]; omega
theorem nev_pairs : ∀ ps : List E2, nevB (ps.map pairS) = true ↔ ps.Pairwise fun a b => ¬ ahead b a
  | [] => ⟨fun _ => .nil, fun _ => rfl⟩
  | [p] => ⟨fun _ => List.pairwise_singleton _ _, fun _ => rfl⟩
  | p :: q :: r => by
    have ih := nev_pairs (q :: r)
    show (leS (pairS p) (pairS q) && nevB ((q :: r).map pairS)) = true ↔ _
    rw [Bool.and_eq_true, leS_pair, ih, List.pairwise_cons (a := p)]
    constructor
    · rintro ⟨h1, h2⟩
      refine ⟨fun z hz => ?_, h2⟩
      rcases List.mem_cons.mp hz with rfl | hz
      · exact h1
      · have h3 := (List.pairwise_cons.mp h2).1 z hz
        unfold ahead at h1 h3 ⊢
        omega
    · rintro ⟨h1, h2⟩
      exact ⟨h1 q (List.mem_cons_self ..), h2⟩
theorem edgeM_pair {l r : Int} {s : Sh} (h : edgeM l r s = true) : ∃ p : E2, s = pairS p ∧ (p.1 : Int) < l ∧ (p.2 : Int) < r := by
  unfold edgeM at h
  split at h
  · rename_i a b
    rw [Bool.and_eq_true] at h
    obtain ⟨h1, h2⟩ := h
    cases a with
    | int i =>
      cases b with
      | int j =>
        have h1' : (decide (i ≥ 0) && decide (i ≤ l - 1)) = true := h1
        have h2' : (decide (j ≥ 0) && decide (j ≤ r - 1)) = true := h2
        simp at h1' h2'
        refine ⟨(i.toNat, j.toNat), ?_, ?_, ?_⟩
        · show Sh.tup [.int i, .int j] = .tup [.int ((i.toNat : Nat) : Int), .int ((j.toNat : Nat) : Int)]
          rw [show ((i.toNat : Nat) : Int) = i by omega, show ((j.toNat : Nat) : Int) = j by omega]
        · show ((i.toNat : Nat) : Int) < l
          omega
        · show ((j.toNat : Nat) : Int) < r
          omega
      | _ => cases h2
    | _ => cases h1
  · cases h
theorem edgesM_pairs {l r : Int} : ∀ {es : List Sh}, es.all (edgeM l r) = true → ∃ ps : List E2, es = ps.map pairS ∧ ∀ p ∈ ps, (p.1 : Int) < l ∧ (p.2 : Int) < r
  | [], _ => ⟨[], rfl, fun _ z => nomatch z⟩
  | s :: es, h => by
    rw [List.all_cons, Bool.and_eq_true] at h
    obtain ⟨p, e, lt⟩ := edgeM_pair h.1
    obtain ⟨ps, e2, lts⟩ := edgesM_pairs h.2
    refine ⟨p :: ps, by rw [e, e2]; rfl, fun q hq => ?_⟩
    rcases List.mem_cons.mp hq with rfl | hq
    · exact lt
    · exact lts q hq
theorem whole9 {s : Sh} (h : wholeR 0 9 s = true) : ∃ n : Nat, s = .int (n : Int) ∧ n ≤ 9 := by
  cases s with
  | int i =>
    have h' : (decide (i ≥ 0) && decide (i ≤ 9)) = true := h
    simp at h'
    refine ⟨i.toNat, by rw [show ((i.toNat : Nat) : Int) = i by omega], by omega⟩
  | _ => cases h
theorem isMul_spec {s : Sh} (h : isMul s = true) : ∃ l r es, s = mulS l r es ∧ MulG l r es ∧ es.length ≤ 9 := by
  unfold isMul at h
  split at h
  · rename_i a b es
    rw [Bool.and_eq_true, Bool.and_eq_true, Bool.and_eq_true, Bool.and_eq_true, decide_eq_true_eq] at h
    obtain ⟨⟨h1, h2⟩, h3, h4, h5⟩ := h
    obtain ⟨l, rfl, l9⟩ := whole9 h1
    obtain ⟨r, rfl, r9⟩ := whole9 h2
    obtain ⟨ps, rfl, lt⟩ := edgesM_pairs h4
    have lt' : ∀ p ∈ ps, (p.1 : Int) < (l : Int) ∧ (p.2 : Int) < (r : Int) := lt
    exact ⟨l, r, ps, rfl, ⟨l9, r9, fun p hp => by have := lt' p hp; omega, (nev_pairs ps).mp h5⟩, by rw [List.length_map] at h3; exact h3⟩
  · cases h
theorem isMul_good {l r : Nat} {es : List E2} (g : MulG l r es) (e9 : es.length ≤ 9) : isMul (mulS l r es) = true := by
  have l9 := g.l9
  have r9 := g.r9
  show ((wholeR 0 9 (.int (l : Int)) && wholeR 0 9 (.int (r : Int))) && (decide ((es.map pairS).length ≤ 9) && ((es.map pairS).all (edgeM (l : Int) (r : Int)) && nevB (es.map pairS)))) = true
  have w : ∀ n : Nat, n ≤ 9 → wholeR 0 9 (.int (n : Int)) = true := fun n h => by
    show (decide ((n : Int) ≥ 0) && decide ((n : Int) ≤ 9)) = true
    simp
    omega
  rw [w l l9, w r r9, (nev_pairs es).mpr g.up, decide_eq_true (by rw [List.length_map]; exact e9)]
  simp only [Bool.and_true, Bool.true_and]
  rw [List.all_eq_true]
  intro s hs
  obtain ⟨p, hp, rfl⟩ := List.mem_map.mp hs
  obtain ⟨a, b⟩ := g.lt p hp
  show ((decide ((p.1 : Int) ≥ 0) && decide ((p.1 : Int) ≤ (l : Int) - 1)) && (decide ((p.2 : Int) ≥ 0) && decide ((p.2 : Int) ≤ (r : Int) - 1))) = true
  simp
  omega
/-! ### edges at a vertex, degrees, the line graph -/
def sd (i : Nat) (p : E2) : Nat := if i = 0 then p.1 else p.2
def eAt (es : List E2) (k : Nat) : E2 := es.getD k (0, 0)
theorem eAt_get {es : List E2} {k : Nat} (h : k < es.length) : es[k]? = some (eAt es k) := by
  unfold eAt
  rw [List.getD_eq_getElem?_getD, List.getElem?_eq_getElem h]
  rfl
def atL (es : List E2) (i v : Nat) : List Nat := (List.range es.length).filter fun k => sd i (eAt es k) == v
def degL (l r : Nat) (es : List E2) : List Nat := [0] ++ (List.range l).map (fun v => (atL es 0 v).length) ++ (List.range r).map fun v => (atL es 1 v).length
def meetB (es : List E2) (u v : Nat) : Bool := (eAt es u).1 == (eAt es v).1 || (eAt es u).2 == (eAt es v).2
def lineP (es : List E2) : List E2 := (allP es.length).filter fun p => meetB es p.1 p.2
theorem atL_few (es : List E2) (i v : Nat) : (atL es i v).length ≤ es.length := by
  unfold atL
  refine Nat.le_trans (List.length_filter_le _ _) ?_
  rw [List.length_range]
  exact Nat.le_refl _
theorem degL_few {l r : Nat} {es : List E2} : ∀ d ∈ degL l r es, d ≤ es.length := fun d hd => by
  unfold degL at hd
  rcases List.mem_append.mp hd with hd | hd
  · rcases List.mem_append.mp hd with hd | hd
    · rw [List.mem_singleton.mp hd]; exact Nat.zero_le _
    · obtain ⟨v, _, rfl⟩ := List.mem_map.mp hd
      exact atL_few es 0 v
  · obtain ⟨v, _, rfl⟩ := List.mem_map.mp hd
    exact atL_few es 1 v
def IsMax (ns : List Nat) (m : Nat) : Prop := m ∈ ns ∧ ∀ y ∈ ns, y ≤ m
theorem IsMax.uniq {ns : List Nat} {m m' : Nat} (h : IsMax ns m) (h' : IsMax ns m') : m = m' := Nat.le_antisymm (h'.2 _ h.1) (h.2 _ h'.1)
theorem line_good {es : List E2} (h : es.length ≤ 9) : Good es.length (lineP es) := by
  refine ⟨h, fun p hp => mem_allP.mp (List.mem_filter.mp hp).1, (allP_up es.length h).filter _⟩
theorem mem_lineP {es : List E2} {u v : Nat} : (u, v) ∈ lineP es ↔ u < v ∧ v < es.length ∧ meetB es u v = true := by
  unfold lineP
  rw [List.mem_filter, mem_allP]
  exact and_assoc
end My

set_option maxHeartbeats 4000000
/-! Orientations: lists of pairs of numbers of any kind. -/
namespace My
open PySem PySem.Spec PyProof.Rows L2
abbrev Z2 := Int × Int
def zS (p : Z2) : Sh := .tup [.int p.1, .int p.2]
def zE (p : E2) : Z2 := ((p.1 : Int), (p.2 : Int))
def zw (p : Z2) : Z2 := (p.2, p.1)
def zD (p : Z2) : PyData := .tuple [.int p.1, .int p.2]
/-- s is an orientation of es -/
def Ori (es : List E2) (s : Sh) : Prop := ∃ ps : List Z2, s = .tup (ps.map zS) ∧ ascB (ps.map zS) = true ∧ (∀ p ∈ ps, p ∈ es.map zE ∨ zw p ∈ es.map zE) ∧ ∀ e ∈ es.map zE, e ∈ ps ∨ zw e ∈ ps
open Classical in
noncomputable def oriB (es : List E2) (s : Sh) : Bool := decide (Ori es s)
theorem ori_yes {es : List E2} {s : Sh} (h : Ori es s) : oriB es s = true := @decide_eq_true _ (Classical.propDecidable _) h
theorem ori_no {es : List E2} {s : Sh} (h : ¬ Ori es s) : oriB es s = false := @decide_eq_false _ (Classical.propDecidable _) h
theorem zS_inj {p q : Z2} (h : zS p = zS q) : p = q := by
  unfold zS at h
  injection h with h
  injection h with h1 h
  injection h with h2 _
  injection h1 with h1
  injection h2 with h2
  exact Prod.ext h1 h2
theorem zSs_inj : ∀ {ps qs : List Z2}, ps.map zS = qs.map zS → ps = qs
  | [], [], _ => rfl
  | [], _ :: _, h => by cases h
  | _ :: _, [], h => by cases h
  | p :: ps, q :: qs, h => by
    rw [List.map_cons, List.map_cons] at h
    injection h with h1 h2
    rw [zS_inj h1, zSs_inj h2]
theorem ori_iff {es : List E2} {ps : List Z2} : Ori es (.tup (ps.map zS)) ↔ ascB (ps.map zS) = true ∧ (∀ p ∈ ps, p ∈ es.map zE ∨ zw p ∈ es.map zE) ∧ ∀ e ∈ es.map zE, e ∈ ps ∨ zw e ∈ ps := by
  constructor
  · rintro ⟨qs, e, h⟩
    injection e with e
    rw [zSs_inj e]
    exact h
  · exact fun h => ⟨ps, rfl, h⟩
def isZ : Sh → Bool
  | .tup [.int _, .int _] => true
  | _ => false
theorem isZ_of {s : Sh} (h : isZ s = true) : ∃ p, s = zS p := by
  unfold isZ at h
  split at h
  · exact ⟨(_, _), rfl⟩
  · cases h
theorem isZs : ∀ {ss : List Sh}, ss.all isZ = true → ∃ ps : List Z2, ss = ps.map zS
  | [], _ => ⟨[], rfl⟩
  | s :: ss, h => by
    rw [List.all_cons, Bool.and_eq_true] at h
    obtain ⟨p, rfl⟩ := isZ_of h.1
    obtain ⟨ps, rfl⟩ := isZs h.2
    exact ⟨p :: ps, rfl⟩
theorem isZ_zS (p : Z2) : isZ (zS p) = true := rfl
theorem all_isZ (ps : List Z2) : (ps.map zS).all isZ = true := by
  rw [List.all_eq_true]
  intro s hs
  obtain ⟨p, _, rfl⟩ := List.mem_map.mp hs
  rfl
theorem ori_not {es : List E2} {ss : List Sh} (h : ss.all isZ = false) : ¬ Ori es (.tup ss) := by
  rintro ⟨ps, e, _⟩
  injection e with e
  rw [e, all_isZ] at h
  cases h
theorem zS_at {K : PySem.W.Frag} {H : Hp} {x : V} {p : Z2} (h : ShAt K H x (zS p)) : ∃ t, x = .ref t ∧ SqT K H t [.int p.1, .int p.2] := by
  cases h with
  | tup h r =>
    cases r with
    | cons a r =>
      cases r with
      | cons b r =>
        cases r
        cases a
        cases b
        exact ⟨_, rfl, h⟩
theorem at_zS {K : PySem.W.Frag} {H : Hp} {t : Addr} {p : Z2} (h : SqT K H t [.int p.1, .int p.2]) : ShAt K H (.ref t) (zS p) := .tup h (.cons (.int _) (.cons (.int _) .nil))
theorem zS_dp {K : PySem.W.Frag} {H : Hp} {x : V} {p : Z2} (h : ShAt K H x (zS p)) : Dp K H x (zD p) := by
  obtain ⟨t, rfl, ht⟩ := zS_at h
  exact .tup ht (.cons (.int _) (.cons (.int _) .nil))
theorem zSs_dp {K : PySem.W.Frag} {H : Hp} : ∀ {xs : List V} {ps : List Z2}, ShsAt K H xs (ps.map zS) → DpAll K H xs (ps.map zD)
  | [], [], _ => .nil
  | _ :: _, [], h => by cases h
  | [], _ :: _, h => by cases h
  | x :: xs, p :: ps, h => by
    rw [List.map_cons] at h
    cases h with
    | cons a r => exact .cons (zS_dp a) (zSs_dp r)
theorem zSs_get {K : PySem.W.Frag} {H : Hp} {xs : List V} {ps : List Z2} (h : ShsAt K H xs (ps.map zS)) {i : Nat} {x : V} (hx : xs[i]? = some x) : ∃ p t, ps[i]? = some p ∧ x = .ref t ∧ SqT K H t [.int p.1, .int p.2] := by
  obtain ⟨s, h1, h2⟩ := h.get hx
  rw [List.getElem?_map] at h1
  cases e : ps[i]? with
  | none => rw [e] at h1; cases h1
  | some p =>
    rw [e] at h1
    cases h1
    obtain ⟨t, h3, h4⟩ := zS_at h2
    exact ⟨p, t, rfl, h3, h4⟩
theorem zD_eqv (p q : Z2) : PyData.eqv (zD p) (zD q) = decide (p = q) := by
  obtain ⟨a, b⟩ := p
  obtain ⟨c, d⟩ := q
  simp only [zD, PyData.eqv, PyData.eqvAll, Bool.and_true]
  by_cases h1 : a = c
  · subst h1
    by_cases h2 : b = d
    · subst h2
      simp
    · have z : (b == d) = false := beq_eq_false_iff_ne.mpr h2
      simp [z, h2]
  · have z : (a == c) = false := beq_eq_false_iff_ne.mpr h1
    simp [z, h1]
theorem any_zs (p : Z2) : ∀ es : List Z2, ((es.map zD).any fun z => PyData.eqv z (zD p)) = decide (p ∈ es)
  | [] => rfl
  | q :: es => by
    rw [List.map_cons, List.any_cons, any_zs p es, zD_eqv]
    by_cases h : q = p
    · subst h
      simp
    · have h' : p ≠ q := fun e => h e.symm
      simp [h, h']
theorem zD_depth (p : Z2) : (zD p).depth ≤ 3 := by simp [zD, PyData.depth, PyData.depthAll]
theorem zDs_depth : ∀ es : List Z2, PyData.depthAll (es.map zD) ≤ 3
  | [] => by simp [PyData.depthAll]
  | q :: es => by
    have h1 := zD_depth q
    have h2 := zDs_depth es
    simp only [List.map_cons, PyData.depthAll]
    omega
theorem zD_lay (p : Z2) : (zD p).canLay0 = true := by simp [zD, PyData.canLay0, PyData.canLayAll0]
theorem zDs_lay : ∀ es : List Z2, PyData.canLayAll0 (es.map zD) = true
  | [] => by simp [PyData.canLayAll0]
  | q :: es => by simp [PyData.canLayAll0, zD_lay q, zDs_lay es]
theorem pairs_zs {K : PySem.W.Frag} {H : Hp} {xs : List V} {es : List E2} (h : PairsAt K H xs es) : ShsAt K H xs ((es.map zE).map zS) := by
  have := h.sh
  rw [List.map_map]
  exact this
section
variable {X : Cx}
def rInZ (K : PySem.W.Frag) : R2 := fun x y H Q => ∃ (p : Z2) (t : Addr) (xs : List V) (es : List Z2), ShAt K H x (zS p) ∧ y = .ref t ∧ SqT K H t xs ∧ ShsAt K H xs (es.map zS) ∧ Q (.bl (decide (p ∈ es))) H
theorem op_inZ (hu : X.A.units + 64 < cLine) : OpR X (compareOp .In) (rInZ X.K) := by
  rintro pins s σ H x y v u Q I rx ry ⟨p, t, xs, es, hp, rfl, ht, hes, q⟩
  obtain ⟨as, r1⟩ := Dp.reads I _ x v (zS_dp hp) rx
  obtain ⟨bs, r2⟩ := Dp.reads I (.tuple (es.map zD)) (.ref t) u (.tup ht (zSs_dp hes)) ry
  refine SeqAt.in_tuple_reads r2 r1 (zDs_lay es) (zD_lay p) ?_ ?_
  · have := zD_depth p
    have := Nat.min_le_right (PyData.depthAll (es.map zD)) (zD p).depth
    omega
  · rw [any_zs]
    exact ⟨.bl _, H, I, rfl, q⟩
theorem pe_revK {K : PySem.W.Frag} {e : Expr} {te : TE} {k : Nat} {p1 p2 p3 pos : Pos} (he : PE X e te) (hK : X.K = K := by rfl) : PE X (.Subscript e (.Slice none none (some (.UnaryOp .USub (.Constant (.int 1) k p1) p2)) p3) pos) (tRevT K te) := by
  subst hK
  exact pe_revT he
/-- isinstance in a comprehension -/
theorem call_isiG {K : PySem.W.Frag} (hK : X.K = K := by rfl) : CallR X (.builtin "isinstance") (rIsi K) := by
  subst hK
  exact call_isi
end
theorem push_bl {f : Sh → Bool} {ss : List Sh} {i : Nat} {t : Sh} (ht : ss[i]? = some t) : ((ss.take (i + 1)).map f).map V.bl = ((ss.take i).map f).map V.bl ++ [.bl (f t)] := by
  rw [take_succ ht, List.map_append, List.map_append]
  rfl
theorem all_id {α : Type} (f : α → Bool) (l : List α) : (l.map f).all id = l.all f := by
  rw [List.all_map]
  rfl
/-- len, in a comprehension -/
def rLenZ (K : PySem.W.Frag) : List V → Hp → VK → Prop := fun xs H Q => ∃ p ys, xs = [V.ref p] ∧ (SqL K H p ys ∨ SqT K H p ys) ∧ Q (V.int ((ys.length : Nat) : Int)) H
/-! ### by what the program asks -/
theorem zE_inj {p q : E2} (h : zE p = zE q) : p = q := by
  have h1 := congrArg Prod.fst h
  have h2 := congrArg Prod.snd h
  exact Prod.ext (Int.ofNat.inj h1) (Int.ofNat.inj h2)
theorem mem_zE {p : E2} {es : List E2} : zE p ∈ es.map zE ↔ p ∈ es := by
  rw [List.mem_map]
  exact ⟨fun ⟨q, h, e⟩ => by rw [← zE_inj e]; exact h, fun h => ⟨p, h, rfl⟩⟩
def ordP (p : E2) : E2 := (min p.1 p.2, max p.1 p.2)
theorem ord_mem {n : Nat} {es : List E2} (g : Good n es) (p : E2) : ordP p ∈ es ↔ (p ∈ es ∨ (p.2, p.1) ∈ es) := by
  obtain ⟨a, b⟩ := p
  unfold ordP
  dsimp only
  by_cases h : a ≤ b
  · rw [Nat.min_eq_left h, Nat.max_eq_right h]
    constructor
    · exact .inl
    · rintro (z | z)
      · exact z
      · have := (g.lt _ z).1
        dsimp only at this
        omega
  · rw [Nat.min_eq_right (by omega), Nat.max_eq_left (by omega)]
    constructor
    · exact .inr
    · rintro (z | z)
      · have := (g.lt _ z).1
        dsimp only at this
        omega
      · exact z
theorem ord_is {n : Nat} {es : List E2} (g : Good n es) {p e : E2} (he : e ∈ es) : ordP p = e ↔ (p = e ∨ p = (e.2, e.1)) := by
  have l := (g.lt _ he).1
  obtain ⟨a, b⟩ := p
  obtain ⟨c, d⟩ := e
  dsimp only at l
  unfold ordP
  simp only [Prod.mk.injEq]
  omega
/-- the sides that lie in ps, in order, are all of es -/
theorem ori_pairs {n : Nat} {es : List E2} (g : Good n es) {ps ws : List E2} (up : ws.Pairwise ahead) (mw : ∀ q, q ∈ ws ↔ q ∈ ps.map ordP) : Ori es (.tup (ps.map pairS)) ↔ ascB (ps.map pairS) = true ∧ ws = es := by
  have e : ps.map pairS = (ps.map zE).map zS := by rw [List.map_map]; rfl
  rw [e, ori_iff]
  refine and_congr Iff.rfl ?_
  constructor
  · rintro ⟨h1, h2⟩
    refine eq_of_up up g.up fun q => ?_
    rw [mw, List.mem_map]
    constructor
    · rintro ⟨p, hp, rfl⟩
      rw [ord_mem g]
      rcases h1 (zE p) (mem_zE.mpr hp) with z | z
      · exact .inl (mem_zE.mp z)
      · exact .inr ((mem_zE (p := (p.2, p.1))).mp z)
    · intro hq
      rcases h2 (zE q) (mem_zE.mpr hq) with z | z
      · exact ⟨q, mem_zE.mp z, (ord_is g hq).mpr (.inl rfl)⟩
      · exact ⟨(q.2, q.1), (mem_zE (p := (q.2, q.1))).mp z, (ord_is g hq).mpr (.inr rfl)⟩
  · rintro rfl
    refine ⟨fun z hz => ?_, fun z hz => ?_⟩
    · obtain ⟨p, hp, rfl⟩ := List.mem_map.mp hz
      have := (mw (ordP p)).mpr (List.mem_map.mpr ⟨p, hp, rfl⟩)
      rw [ord_mem g] at this
      rcases this with h | h
      · exact .inl (mem_zE.mpr h)
      · exact .inr ((mem_zE (p := (p.2, p.1))).mpr h)
    · obtain ⟨q, hq, rfl⟩ := List.mem_map.mp hz
      obtain ⟨p, hp, e⟩ := List.mem_map.mp ((mw q).mp hq)
      rcases (ord_is g hq).mp e with rfl | rfl
      · exact .inl (mem_zE.mpr hp)
      · exact .inr (mem_zE.mpr hp)
def spLOr (K : PySem.W.Frag) : Sp := fun vs H Q _ => ∃ (x v : V) (n : Nat) (es : List E2) (s : Sh), vs = [x, v] ∧ GraphAt K H x n es ∧ Good n es ∧ ShAt K H v s ∧ Lb s ∧ ∀ H', Same H H' → Q (.bl (oriB es s)) H'
end My

set_option maxHeartbeats 6400000
/-! set(xs), xs a list of tuples of ints of any length, at most 62 unlike ones. -/
namespace My
open PySem PySem.Spec PyProof.Rows L2
section
variable {P : Program} {w : World} {A : Around} {E : Value → Shared → Prop} {s : Shared}
theorem st_loop {I : Addr} {fp wr : List Addr} {G : Array GenState → Array GenState → Prop} {n : Nat} {Pv : Nat → Value → Prop} {St : Nat → Shared → Prop} {R : Result → Shared → Prop}
    (W : WalksS P w A.in1 I fp wr G n Pv St) (S : Addr) (offS : S ∉ fp) (ks : List (Addr × List Int)) (hn : n = ks.length) (hfew : ∀ M : List (Addr × List Int), (∀ p ∈ M, p ∈ ks) → (M.map (·.2)).Nodup → M.length ≤ 62) (hval : ∀ i v, Pv i v → ∃ p, ks[i]? = some p ∧ v = .ref p.1)
    (h0 : Heap) (hk : ∀ p ∈ ks, IsT P w h0 p.2 p.1) (hS0 : h0.get? S = none) (hw0 : ∀ b ∈ wr, h0.get? b = none) (hu : A.in1.units < cLine) :
    ∀ (k i : Nat) (s : Shared), n - i = k → i ≤ n → St i s → (∀ b o, h0.get? b = some o → s.heap.get? b = some o) → (∃ L es ep t, SetTR P w s.heap S L es ep t ∧ Got ks i L) →
      (∀ s' L es ep t, Moved (S :: wr) G s s' → SetTR P w s'.heap S L es ep t → Got ks n L → (∀ b o, h0.get? b = some o → s'.heap.get? b = some o) → R (.ok (.ret .none)) s') →
      codeAny (model P w) A (.builtin "set.update.loop" ⟨[.ref S, .ref I], []⟩) R s := by
  have offw : S ∉ wr := fun h => offS (W.sub _ h)
  have into : ∀ b ∈ wr, b ∈ S :: wr := fun b hb => List.mem_cons_of_mem _ hb
  have stays : ∀ {s s' : Shared}, Moved wr G s s' → (∀ b o, h0.get? b = some o → s.heap.get? b = some o) → ∀ b o, h0.get? b = some o → s'.heap.get? b = some o := fun hm kp b o e =>
    hm.heap b o (fun hb => by rw [hw0 b hb] at e; cases e) (kp b o e)
  intro k
  induction k with
  | zero =>
    intro i s hk' hi st0 kp ⟨L, es, ep, t, hS, g⟩ hR
    have hin : i = n := by omega
    subst hin
    refine codeAny_builtin PyProof.Rows.F.entry_set_update_loop ?_
    rw [Around.under_plainId PyProof.Rows.F.plain_set_update_loop _]
    show wpAny _ A.in1 (pyNext (.ref I) >>= _) _ _ s
    refine wpAny_bind (W.done s _ _ st0 fun s' hm => ?_)
    show wpAny _ A.in1 (ret Value.none) _ _ s'
    have kp' := stays hm kp
    have sub : ∀ p ∈ L, p ∈ ks := fun p hp => List.mem_of_mem_take (g.sub p hp)
    exact wpAny_pure (hR s' L es ep t (hm.mono into) (hS.keep (fun o e => hm.heap S o offw e) fun p hp => isT_keep (hk p (sub p hp)) kp') g kp')
  | succ k ih =>
    intro i s hk' hi st0 kp ⟨L, es, ep, t, hS, g⟩ hR
    have hlt : i < n := by omega
    refine codeAny_builtin PyProof.Rows.F.entry_set_update_loop ?_
    rw [Around.under_plainId PyProof.Rows.F.plain_set_update_loop _]
    show wpAny _ A.in1 (pyNext (.ref I) >>= _) _ _ s
    refine wpAny_bind (W.item i s _ _ hlt st0 fun v s' hP st' hm => ?_)
    obtain ⟨p, hp, rfl⟩ := hval i v hP
    have kp' := stays hm kp
    have sub : ∀ p ∈ L, p ∈ ks := fun p hp => List.mem_of_mem_take (g.sub p hp)
    have hS' : SetTR P w s'.heap S L es ep t := hS.keep (fun o e => hm.heap S o offw e) fun q hq => isT_keep (hk q (sub q hq)) kp'
    have hx : IsT P w s'.heap p.2 p.1 := isT_keep (hk p (List.mem_of_getElem? hp)) kp'
    show wpAny _ A.in1 (holding [Value.ref p.1] (setAdd S (.ref p.1)) >>= _) _ _ s'
    refine wpAny_bind (wpAny_holding ?_)
    unfold setAdd
    refine wpAny_holding ?_
    refine wpAny_bind (wpAny_pyHash_tuple hu hx ?_)
    refine add_at (s := { s' with toks := s'.toks + (p.2.length + 1) }) hS' hx hu (by have := hfew L sub hS.nd; omega) fun b h' L' es' ep' t' hsb hS2 c1 c2 => ?_
    have g' : Got ks (i + 1) L' := by
      rcases Classical.em (p.2 ∈ L.map (·.2)) with c | c
      · rw [c1 c]; exact g.same hp c
      · exact g.more hp (c2 c)
    have kp2 : ∀ b o, h0.get? b = some o → h'.get? b = some o := fun b o e => (hsb.2 b (fun z => by rw [z, hS0] at e; cases e)).trans (kp' b o e)
    refine wpAny_pure ⟨plainId_quiet PyProof.Rows.F.plain_set_update_loop _, ih (i + 1) _ (by omega) hlt (W.frame _ s' _ _ st' (Nat.le_add_right _ _) fun b hb o e => ?_) kp2 ⟨L', es', ep', t', hS2, g'⟩ fun s'' L2 es2 ep2 t2 hm'' hS'' g'' kp'' => ?_⟩
    · rw [hsb.2 b (fun h : b = S => offS (by rw [← h]; exact hb))]; exact e
    · refine hR s'' L2 es2 ep2 t2 (Moved.trans W.gtrans ((hm.mono into).then_heap (Nat.le_add_right _ _) fun b o hb e => ?_) hm'') hS'' g'' kp''
      rw [hsb.2 b (fun h : b = S => hb (by rw [h]; exact List.mem_cons_self))]; exact e

theorem st_call {l : Addr} {items : Array Value} (ks : List (Addr × List Int)) {Q : Value → Shared → Prop} (hh : A.handled = none) (hl : s.heap.IsList l items) (hit : items.toList = ks.map fun p => Value.ref p.1)
    (hk : ∀ p ∈ ks, IsT P w s.heap p.2 p.1) (hfew : ∀ M : List (Addr × List Int), (∀ p ∈ M, p ∈ ks) → (M.map (·.2)).Nodup → M.length ≤ 62) (hu : A.units + 3 < cLine)
    (h : ∀ (h' : Heap) (tk : Nat) L es ep t, SetTR P w h' s.heap.objs.size L es ep t → Got ks ks.length L → (∀ b o, s.heap.get? b = some o → h'.get? b = some o) → Q (.ref s.heap.objs.size) { s with heap := h', toks := tk }) :
    wpAny (model P w) A (call (.type "set") [.ref l]) Q E s := by
  have lenI : items.size = ks.length := by
    have q := congrArg List.length hit
    rw [Array.length_toList, List.length_map] at q
    exact q
  obtain ⟨c, tl, mr⟩ := F.called_set.mro
  have md := F.called_set.made
  have into := F.called_set.sub
  refine wpAny_call (codeAny_of_tree ?_)
  show wpAny _ _ (callAny (.type "set") _) _ _ _
  refine wpAny_pure ⟨Code.quiet_builtin _ (by decide +kernel), codeAny_builtin F.entry_type_call ?_⟩
  rw [Around.under_plain (weight_type_call_type "set" [.ref l] []) rfl]
  have h1 := F.called_set.notType
  have h2 := F.called_set.canCreate
  have ct := F.typeCall_set_1 (.ref l)
  repeat (any_goals (first | assumption | wp_step))

  refine codeAny_mono (code_set_led1 (.ref l) (E := E) (Q₁ := fun obj s₁ => obj = .ref s.heap.objs.size ∧ s₁ = { s with heap := s.heap.push { cls := .type "set", dict := none, data := .set #[] 0 (.fresh 0 0 (!w.params.followText "set-order")) } }) ⟨rfl, rfl⟩) fun r s₁ hr => ?_
  cases r with
  | error e => exact hr
  | ok fl =>
    cases fl with
    | ret obj =>
      obtain ⟨rfl, rfl⟩ := hr
      have hS : (s.heap.push { cls := .type "set", dict := none, data := .set #[] 0 (.fresh 0 0 (!w.params.followText "set-order")) }).get? s.heap.objs.size = some { cls := .type "set", dict := none, data := .set #[] 0 (.fresh 0 0 (!w.params.followText "set-order")) } := Heap.get?_push_size _ rfl
      have hT : Shared.TypeIs { s with heap := s.heap.push { cls := .type "set", dict := none, data := .set #[] 0 (.fresh 0 0 (!w.params.followText "set-order")) } } (.ref s.heap.objs.size) "set" := ⟨_, hS, rfl⟩
      have hli := F.called_set.init.lookup
      have hbi := F.called_set.init.bind (.ref s.heap.objs.size)
      repeat (any_goals (first | assumption | wp_step))

      refine codeAny_mono (codeAny_call_builtin (R := wants (fun r s₂ => r = .none ∧ ∃ h' tk L es ep t, s₂ = { s with heap := h', toks := tk } ∧ SetTR P w h' s.heap.objs.size L es ep t ∧ Got ks ks.length L ∧
          (∀ b o, s.heap.get? b = some o → h'.get? b = some o)) E) F.called_set.init.plain F.entry_set_init (check_set_init_1 hT ?_)) fun r₂ s₂ hr₂ => ?_
      · obtain ⟨ol, hol, hcl, nl, hdl⟩ := hl
        obtain ⟨ocls, odict, odata, oslots⟩ := ol
        simp only at hcl hdl
        subst hcl; subst hdl
        have hol' : (s.heap.push { cls := .type "set", dict := none, data := .set #[] 0 (.fresh 0 0 (!w.params.followText "set-order")) }).get? l = some { cls := .type "list", dict := odict, data := .seq items nl, slots := oslots } := Heap.get?_push_of_some _ hol
        have y1 := F.sub_list_set
        have y2 := F.sub_list_frozenset
        have hne : (Value.type "list" == Value.type "dict") = false := by decide
        have hl1 : (s.heap.push { cls := .type "set", dict := none, data := .set #[] 0 (.fresh 0 0 (!w.params.followText "set-order")) }).IsList l items := ⟨_, hol', rfl, nl, rfl⟩
        unfold Builtin.«set.__init__» noKeywords Builtin.Frozenset.updateFrom
        generalize hPI : pyIter = PI
        wp_walk
        subst hPI

        refine wpAny_pyIter_list hl1 ?_
        refine wpAny_bind (wpAny_runValue ?_)
        have lS : l < s.heap.objs.size := Heap.lt_size hol
        have hh3 : A.in1.in1.in1.handled = none := by simp [hh]
        have hz1 : (s.heap.push { cls := .type "set", dict := none, data := .set #[] 0 (.fresh 0 0 (!w.params.followText "set-order")) }).objs.size = s.heap.objs.size + 1 := Heap.size_push ..
        have nI : l ≠ (s.heap.push { cls := .type "set", dict := none, data := .set #[] 0 (.fresh 0 0 (!w.params.followText "set-order")) }).objs.size := by
          rw [Heap.size_push]; exact Nat.ne_of_lt (Nat.lt_succ_of_lt lS)
        have offS : s.heap.objs.size ∉ [(s.heap.push { cls := .type "set", dict := none, data := .set #[] 0 (.fresh 0 0 (!w.params.followText "set-order")) }).objs.size, l] := by
          rw [Heap.size_push]; simp only [List.mem_cons, List.mem_singleton, List.not_mem_nil, or_false, not_or]
          exact ⟨Nat.ne_of_lt (Nat.lt_succ_self _), Nat.ne_of_gt lS⟩
        have hval : ∀ (i : Nat) (v : Value), items[i]? = some v → ∃ p, ks[i]? = some p ∧ v = .ref p.1 := fun i v hv => by
          have q : items.toList[i]? = some v := by rw [Array.getElem?_toList]; exact hv
          rw [hit, List.getElem?_map] at q
          cases hq : ks[i]? with
          | none => rw [hq] at q; cases q
          | some p =>
            rw [hq] at q
            exact ⟨p, rfl, (Option.some.inj q).symm⟩
        have fresh : ∀ b, s.heap.objs.size ≤ b → s.heap.get? b = none := fun b hb => by
          cases q : s.heap.get? b with
          | none => rfl
          | some o => exact absurd (Nat.lt_of_lt_of_le (Heap.lt_size q) hb) (Nat.lt_irrefl _)
        refine st_loop ((Walks.list hh3 _ l nI items).toS) s.heap.objs.size
          offS ks lenI hfew hval s.heap hk (fresh _ (Nat.le_refl _)) (fun b hb => fresh b (by
            rw [List.mem_singleton.mp hb, Heap.size_push]
            exact Nat.le_succ _)) hu (items.size - 0) 0 _ (by omega) (Nat.zero_le _)
          ⟨⟨_, Heap.get?_push_size _ rfl, rfl, rfl⟩, (hl1.push _)⟩ (fun b o e => Heap.get?_push_of_some _ (Heap.get?_push_of_some _ e)) ?hS0 ?hR
        case hS0 =>
          have hget : ((s.heap.push { cls := .type "set", dict := none, data := .set #[] 0 (.fresh 0 0 (!w.params.followText "set-order")) }).push { cls := .type "list_iterator", data := .fields #[.ref l, .int 0 0] }).get? s.heap.objs.size
              = some { cls := .type "set", dict := none, data := .set #[] 0 (.fresh 0 0 (!w.params.followText "set-order")) } := Heap.get?_push_of_some _ hS
          exact ⟨[], #[], 0, _, setTR_fresh hget, Got.zero ks⟩
        case hR =>
          intro s' L es ep t hm hS' g' kp
          obtain ⟨h', g2, d', tk', os'⟩ := s'
          have eg : g2 = s.gens := hm.gens
          have ed : d' = s.drawn := hm.drawn
          have eo : os' = s.os := hm.os
          subst eg; subst ed; subst eo
          show wpAny _ _ _ _ _ _
          refine wpAny_pure ?_
          show wpAny _ _ (ret Value.none) _ _ _
          rw [lenI] at g'
          exact wpAny_pure ⟨rfl, h', tk', L, es, ep, t, rfl, hS', g', kp⟩

      · cases r₂ with
        | error e => exact hr₂
        | ok fl₂ =>
          cases fl₂ with
          | ret r =>
            obtain ⟨rfl, h', tk, L, es, ep, t, rfl, hS', g', hk'⟩ := hr₂
            repeat (any_goals (first | assumption | wp_step))
            exact h _ _ _ _ _ _ hS' g' hk'
          | _ => exact hr₂.elim
    | _ => exact hr.elim

end
section
variable {X : Cx}
def rSetM (K : PySem.W.Frag) (P : Program) (w : World) : List V → Hp → VK → Prop := fun xs H Q => ∃ (l : Addr) (ks : List (Addr × List Int)), xs = [V.ref l] ∧ SqL K H l (ks.map fun p => V.ref p.1) ∧ (∀ p ∈ ks, SqT K H p.1 (p.2.map V.int)) ∧ (∀ M : List (Addr × List Int), (∀ p ∈ M, p ∈ ks) → (M.map (·.2)).Nodup → M.length ≤ 62) ∧
  ∀ a L, H a = none → (∀ p ∈ L, p ∈ ks) → (∀ p ∈ ks, p.2 ∈ L.map (·.2)) → Q (.ref a) (upd H a (SetTO P w a L))
theorem cr_setM (hc : X.calm = true) (hu : X.A.units + 64 < cLine) : CallR X (.type "set") (rSetM X.K X.prog X.w) := by
  intro pins s σ H xs us Q I r h
  obtain ⟨l, ks, rfl, hl, hk, hf, q⟩ := h
  rw [Vals.ref1 r]
  obtain ⟨its, rv, pl, hz⟩ := I.list hl
  have hn : H s.heap.objs.size = none := I.hok.fresh (Nat.le_refl _)
  refine st_call (P := X.prog) (w := X.w) ks (I.ok.hd hc) pl.isList (by simpa using refs_of_vals rv) (fun p hp => L2.Inv.isT I (hk p hp)) hf (by omega) fun h' tk L es ep t R g k => ?_
  refine ⟨.ref s.heap.objs.size, upd H s.heap.objs.size (SetTO X.prog X.w s.heap.objs.size L), I.laid (t' := tk) k (Nat.le_refl _) (setTO_new R.t0), rfl, q _ L hn (fun p hp => ?_) fun p hp => ?_⟩
  · exact List.mem_of_mem_take (g.sub p hp)
  · exact g.all p (by rw [List.take_length]; exact hp)
end
end My

set_option maxHeartbeats 4000000
/-! Sets of sides; what the program's is_orientation answers. -/
namespace My
open PySem PySem.Spec PyProof.Rows L2
theorem pairs_ksO {K : PySem.W.Frag} {H : Hp} : ∀ {ys : List V} {qs : List E2}, PairsAt K H ys qs → ∃ ks : List (Addr × List Int), ys = ks.map (fun p => V.ref p.1) ∧ ks.map (·.2) = qs.map (fun q => [(q.1 : Int), (q.2 : Int)]) ∧ ∀ p ∈ ks, SqT K H p.1 (p.2.map V.int)
  | _, _, .nil => ⟨[], rfl, rfl, fun _ z => nomatch z⟩
  | _, _, .cons a b => by
    obtain ⟨t, rfl, h⟩ := a
    obtain ⟨ks, h1, h2, h3⟩ := pairs_ksO b
    refine ⟨(t, _) :: ks, by rw [h1]; rfl, by rw [List.map_cons, h2]; rfl, ?_⟩
    intro p hp
    rcases List.mem_cons.mp hp with rfl | hp
    · exact h
    · exact h3 p hp
def toEO (ns : List Int) : E2 := ((ns.getD 0 0).toNat, (ns.getD 1 0).toNat)
theorem toEO_of (q : E2) : toEO [(q.1 : Int), (q.2 : Int)] = q := by
  unfold toEO
  simp
theorem ks_pairsO {K : PySem.W.Frag} {H : Hp} : ∀ {L : List (Addr × List Int)}, (∀ p ∈ L, SqT K H p.1 (p.2.map V.int)) → (∀ p ∈ L, p.2 = [((toEO p.2).1 : Int), ((toEO p.2).2 : Int)]) → PairsAt K H (L.map fun q => V.ref q.1) (L.map fun p => toEO p.2)
  | [], _, _ => .nil
  | p :: L, h, b => by
    refine .cons ⟨p.1, rfl, ?_⟩ (ks_pairsO (fun r hr => h r (List.mem_cons_of_mem _ hr)) fun r hr => b r (List.mem_cons_of_mem _ hr))
    have z := h p (List.mem_cons_self ..)
    rw [b p (List.mem_cons_self ..)] at z
    exact z
def leP : List E2 := (List.range 9).flatMap fun a => ((List.range 9).filter fun b => decide (a ≤ b)).map fun b => (a, b)
theorem leP_len : leP.length = 45 := by decide +kernel
theorem mem_leP {q : E2} (h : q.1 ≤ q.2) (h9 : q.2 < 9) : q ∈ leP := by
  unfold leP
  rw [List.mem_flatMap]
  refine ⟨q.1, List.mem_range.mpr (by omega), List.mem_map.mpr ⟨q.2, List.mem_filter.mpr ⟨List.mem_range.mpr h9, by simpa using h⟩, rfl⟩⟩
theorem ks_few {M : List (Addr × List Int)} (nd : (M.map (·.2)).Nodup) (h : ∀ p ∈ M, ∃ q : E2, p.2 = [(q.1 : Int), (q.2 : Int)] ∧ q.1 ≤ q.2 ∧ q.2 < 9) : M.length ≤ 62 := by
  have e : M.map (·.2) = (M.map fun p => toEO p.2).map fun q => [(q.1 : Int), (q.2 : Int)] := by
    rw [List.map_map]
    refine List.map_congr_left fun p hp => ?_
    obtain ⟨q, e, _⟩ := h p hp
    show p.2 = [((toEO p.2).1 : Int), ((toEO p.2).2 : Int)]
    rw [e, toEO_of]
  rw [e] at nd
  have nd2 : (M.map fun p => toEO p.2).Nodup := by
    have z := List.pairwise_map.mp nd
    exact z.imp fun h e => h (by rw [e])
  have z := sub_few nd2 (m := leP) fun q hq => by
    obtain ⟨p, hp, rfl⟩ := List.mem_map.mp hq
    obtain ⟨q, e, h1, h2⟩ := h p hp
    rw [e, toEO_of]
    exact mem_leP h1 h2
  rw [List.length_map, leP_len] at z
  omega
theorem pairsD_eqv : ∀ ws es : List E2, PyData.eqvAll (ws.map pairD) (es.map pairD) = decide (ws = es)
  | [], [] => by simp [PyData.eqvAll]
  | [], _ :: _ => by simp [PyData.eqvAll]
  | _ :: _, [] => by simp [PyData.eqvAll]
  | w :: ws, e :: es => by
    rw [List.map_cons, List.map_cons]
    simp only [PyData.eqvAll]
    rw [pairD_eqv, pairsD_eqv ws es]
    by_cases h : w = e
    · subst h
      simp
    · simp [h]
theorem pairs_shapedO (es : List E2) : SeqAt.shaped (.list (es.map pairD)) = true := by
  have pd := pairsD_depth es
  unfold SeqAt.shaped
  rw [Bool.and_eq_true, decide_eq_true_eq]
  refine ⟨?_, ?_⟩
  · simp only [PyData.canLay0, pairsD_lay es]
  · simp only [PyData.depth]
    omega
theorem vp_edge (n : Int) (s : Sh) : vpB n s = edgeM n n s := by
  cases s with
  | tup ss => rcases ss with _ | ⟨a, _ | ⟨b, _ | ⟨c, t⟩⟩⟩ <;> rfl
  | _ => rfl
theorem vp_pairs {n : Nat} {ss : List Sh} (h : ss.all (vpB (n : Int)) = true) : ∃ ps : List E2, ss = ps.map pairS ∧ ∀ p ∈ ps, p.1 < n ∧ p.2 < n := by
  rw [show vpB (n : Int) = edgeM n n from funext (vp_edge n)] at h
  obtain ⟨ps, e, lt⟩ := edgesM_pairs h
  exact ⟨ps, e, fun p hp => by have := lt p hp; omega⟩
theorem ori_vp {n : Nat} {es : List E2} (g : Good n es) {ss : List Sh} (h : Ori es (.tup ss)) : ss.all (vpB (n : Int)) = true := by
  obtain ⟨ps, e, _, h1, _⟩ := h
  injection e with e
  subst e
  rw [List.all_eq_true]
  intro s hs
  obtain ⟨p, hp, rfl⟩ := List.mem_map.mp hs
  have small : ∀ q : Z2, q ∈ es.map zE → 0 ≤ q.1 ∧ q.1 < n ∧ 0 ≤ q.2 ∧ q.2 < n := fun q hq => by
    obtain ⟨r, hr, rfl⟩ := List.mem_map.mp hq
    have := g.lt r hr
    show (0 : Int) ≤ (r.1 : Int) ∧ (r.1 : Int) < n ∧ (0 : Int) ≤ (r.2 : Int) ∧ (r.2 : Int) < n
    omega
  have b : 0 ≤ p.1 ∧ p.1 < n ∧ 0 ≤ p.2 ∧ p.2 < n := by
    rcases h1 p hp with z | z
    · exact small p z
    · have := small _ z
      exact ⟨this.2.2.1, this.2.2.2, this.1, this.2.1⟩
  show ((decide (p.1 ≥ 0) && decide (p.1 ≤ (n : Int) - 1)) && (decide (p.2 ≥ 0) && decide (p.2 ≤ (n : Int) - 1))) = true
  simp
  omega
end My

set_option maxHeartbeats 8000000
namespace My
open PySem PySem.Spec PyProof.Rows L2
abbrev sOrd : Stmt := top 18
theorem scOrd : FnScope ["one", "other"] ["one", "other"] (defScope sOrd) := ⟨rfl, rfl, rfl, by decide +kernel, rfl, by decide +kernel, by decide +kernel⟩
def spOrd : Sp := fun vs H Q _ => ∃ p : E2, vs = [.int (p.1 : Int), .int (p.2 : Int)] ∧ ∀ t, H t = none → Q (.ref t) (upd H t (.tup [.int ((ordP p).1 : Int), .int ((ordP p).2 : Int)]))
section
variable {P : Program} {w : World} {K : PySem.W.Frag} {mg : Str → Option Value} {base : Heap} {f fC fV fA fO : Addr} {fd dC dV dA dO : FuncData}
theorem ok_ord (F : L2.Fun K "ordered" "ordered" sOrd f fd) (mn : mg "min" = none) (mx : mg "max" = none) : FnOk P w K mg base CX0 1 f fd ["one", "other"] spOrd := by
  refine F.ok scOrd (fun vs H Q E h => ?_) (fun cdv A outer s0 H vs Q E hr h => ?_)
  · obtain ⟨p, rfl, _⟩ := h
    rfl
  obtain ⟨p, rfl, q⟩ := h
  refine ⟨_, pss_one (ps_ret (pe_tup (pa_cons (pe_callB (call_min2 rfl) (by rfl) mn (by decide +kernel) (pa_cons (pv 0) (pa_cons (pv 1) pa_nil))) (pa_cons (pe_callB (call_max2 rfl) (by rfl) mx (by decide +kernel) (pa_cons (pv 0) (pa_cons (pv 1) pa_nil))) pa_nil)))), ?_⟩
  refine ⟨_, rfl, _, rfl, _, _, rfl, _, rfl, _, rfl, _, _, rfl, small (by show 2 ≤ 1000; decide), fun t nt => ?_⟩
  have e1 : (if ((p.2 : Nat) : Int) < ((p.1 : Nat) : Int) then ((p.2 : Nat) : Int) else ((p.1 : Nat) : Int)) = ((min p.1 p.2 : Nat) : Int) := by split <;> omega
  have e2 : (if ((p.2 : Nat) : Int) > ((p.1 : Nat) : Int) then ((p.2 : Nat) : Int) else ((p.1 : Nat) : Int)) = ((max p.1 p.2 : Nat) : Int) := by split <;> omega
  have z := q t nt
  unfold ordP at z
  rw [← e1, ← e2] at z
  exact z
end
end My

set_option maxHeartbeats 4000000
/-! The law's graphs, drawn: each is a GRAPH. -/
namespace My
open PySem PySem.Spec PyProof.Rows L2
abbrev sOfPairs : Stmt := top 26
theorem scOfPairs : FnScope ["n", "pairs", "each"] ["n", "pairs"] (defScope sOfPairs) := ⟨rfl, rfl, rfl, by decide +kernel, rfl, by decide +kernel, by decide +kernel⟩
def norm (p : E2) : E2 := (min p.1 p.2, max p.1 p.2)
/-- from the pairs as tuples to what the sets' rules ask -/
theorem pairs_ks {K : PySem.W.Frag} {H : Hp} : ∀ {ys : List V} {qs : List E2}, PairsAt K H ys qs → ∃ ks : List (Addr × List Int), ys = ks.map (fun p => V.ref p.1) ∧ ks.map (·.2) = qs.map (fun q => [(q.1 : Int), (q.2 : Int)]) ∧ ∀ p ∈ ks, SqT K H p.1 (p.2.map V.int)
  | _, _, .nil => ⟨[], rfl, rfl, fun _ z => nomatch z⟩
  | _, _, .cons a b => by
    obtain ⟨t, rfl, h⟩ := a
    obtain ⟨ks, h1, h2, h3⟩ := pairs_ks b
    refine ⟨(t, _) :: ks, by rw [h1]; rfl, by rw [List.map_cons, h2]; rfl, ?_⟩
    intro p hp
    rcases List.mem_cons.mp hp with rfl | hp
    · exact h
    · exact h3 p hp
def toE (ns : List Int) : E2 := ((ns.getD 0 0).toNat, (ns.getD 1 0).toNat)
theorem toE_of (q : E2) : toE [(q.1 : Int), (q.2 : Int)] = q := by
  unfold toE
  simp
theorem ks_pairs {K : PySem.W.Frag} {H : Hp} : ∀ {L : List (Addr × List Int)}, (∀ p ∈ L, SqT K H p.1 (p.2.map V.int)) → (∀ p ∈ L, p.2 = [((toE p.2).1 : Int), ((toE p.2).2 : Int)]) → PairsAt K H (L.map fun q => V.ref q.1) (L.map fun p => toE p.2)
  | [], _, _ => .nil
  | p :: L, h, b => by
    refine .cons ⟨p.1, rfl, ?_⟩ (ks_pairs (fun r hr => h r (List.mem_cons_of_mem _ hr)) fun r hr => b r (List.mem_cons_of_mem _ hr))
    have z := h p (List.mem_cons_self ..)
    rw [b p (List.mem_cons_self ..)] at z
    exact z
theorem pairs_ksOW {H : Hp} : ∀ {ys : List V} {qs : List E2}, PairsT H ys qs → ∃ ks : List (Addr × List Int), ys = ks.map (fun p => V.ref p.1) ∧ ks.map (·.2) = qs.map (fun q => [(q.1 : Int), (q.2 : Int)]) ∧ ∀ p ∈ ks, H p.1 = some (.tup (p.2.map V.int))
  | _, _, .nil => ⟨[], rfl, rfl, fun _ z => nomatch z⟩
  | _, _, .cons a b => by
    obtain ⟨t, rfl, h⟩ := a
    obtain ⟨ks, h1, h2, h3⟩ := pairs_ksOW b
    refine ⟨(t, _) :: ks, by rw [h1]; rfl, by rw [List.map_cons, h2]; rfl, ?_⟩
    intro p hp
    rcases List.mem_cons.mp hp with rfl | hp
    · exact h
    · exact h3 p hp
theorem ks_pairsOW {H : Hp} : ∀ {L : List (Addr × List Int)}, (∀ p ∈ L, H p.1 = some (.tup (p.2.map V.int))) → (∀ p ∈ L, p.2 = [((toE p.2).1 : Int), ((toE p.2).2 : Int)]) → PairsT H (L.map fun q => V.ref q.1) (L.map fun p => toE p.2)
  | [], _, _ => .nil
  | p :: L, h, b => by
    refine .cons ⟨p.1, rfl, ?_⟩ (ks_pairsOW (fun r hr => h r (List.mem_cons_of_mem _ hr)) fun r hr => b r (List.mem_cons_of_mem _ hr))
    have z := h p (List.mem_cons_self ..)
    rw [b p (List.mem_cons_self ..)] at z
    exact z
def spOfPairs (K : PySem.W.Frag) : Sp := fun vs H Q _ => ∃ (n : Nat) (l : Addr) (xs : List V) (ps : List E2), vs = [.int (n : Int), .ref l] ∧ n ≤ 9 ∧ SqL K H l xs ∧ PairsAt K H xs ps ∧ xs.length < 64 ∧ (∀ p ∈ ps, p.1 ≠ p.2 ∧ p.1 < n ∧ p.2 < n) ∧
  ∀ (x : V) (es : List E2) (H' : Hp), Same H H' → GraphT H' x n es → Good n es → (∀ q, q ∈ es ↔ q ∈ ps.map norm) → Q x H'
section
variable {P : Program} {w : World} {K : PySem.W.Frag} {mg : Str → Option Value} {base : Heap} {f : Addr} {fd : FuncData}
theorem ok_of_pairs (F : L2.Fun K "_law_of_pairs" "_law_of_pairs" sOfPairs f fd) (mt : mg "tuple" = none) (msd : mg "sorted" = none) (mst : mg "set" = none) (mn : mg "min" = none) (mx : mg "max" = none) : FnOk P w K mg base CX0 1 f fd ["n", "pairs"] (spOfPairs K) := by
  refine F.ok scOfPairs (fun vs H Q E h => ?_) (fun cdv A outer s H vs Q E hr h => ?_)
  · obtain ⟨n, l, xs, ps, rfl, _⟩ := h
    rfl
  obtain ⟨n, l, xs, ps, rfl, n9, hS, hP, l64, hps, q⟩ := h
  refine ⟨_, pss_one (ps_ret (pe_tup (pa_cons (pv 0) (pa_cons (pe_callTy call_tuple_of (by rfl) mt (by decide +kernel) (pa_cons (pe_callB (cr_sortedT rfl) (by rfl) msd (by decide +kernel) (pa_cons (pe_callTy (cr_setOfT rfl hr.units) (by rfl) mst (by decide +kernel) (pa_cons
      (pe_lc (own := [("each", 2)]) (g := gName 2) (tt := tYes) rfl scOfPairs.nd (pi_list (pv 1)) (blkOk_by (N := ["n", "pairs", "each"]) (sc := defScope sOfPairs) (by decide +kernel)) (fun _ _ _ _ _ => pg_name (i := 2) scOfPairs.nd rfl (Or.inl rfl)) (fun _ _ _ _ _ => pts_nil)
        (fun _ _ _ _ _ => pe_tup (pa_cons (pe_callB (id := "min") (r := rOfPair min K) (call_minPair rfl hr.units) (by rfl) mn (by decide +kernel) (pa_cons (pv 2) pa_nil)) (pa_cons (pe_callB (id := "max") (r := rOfPair max K) (call_maxPair rfl hr.units) (by rfl) mx (by decide +kernel) (pa_cons (pv 2) pa_nil)) pa_nil)))) pa_nil)) pa_nil)) pa_nil)) pa_nil)))), ?_⟩
  refine ⟨_, rfl, _, rfl, l, rfl, ⟨_, hS⟩, fun D nD => lc_list (K := K) (a := l) (xs := xs) (fun i H' => Same H H' ∧ ∃ ys, H' D = some (.lst ys) ∧ ys.length = i ∧ PairsT (hide D H') ys ((ps.take i).map norm)) ⟨same_new nD _, [], upd_same, rfl, .nil⟩ ?_ ?_ ?_⟩
  · rintro i H1 _ ⟨s1, _⟩
    exact L2.Same.seq s1 hS
  · rintro i x H1 hi ⟨s1, ys, hD, ly, py⟩
    obtain ⟨p, hp, t, rfl, ht⟩ := PairsAt.get (hP.same s1) hi
    refine ⟨rfl, ?_⟩
    refine ⟨_, rfl, t, _, _, rfl, ht, _, rfl, t, _, _, rfl, ht, (by show 2 ≤ sizeLine; decide), fun r nr => ?_⟩
    have e1 : min ((p.1 : Nat) : Int) ((p.2 : Nat) : Int) = (((norm p).1 : Nat) : Int) := by show _ = ((min p.1 p.2 : Nat) : Int); omega
    have e2 : max ((p.1 : Nat) : Int) ((p.2 : Nat) : Int) = (((norm p).2 : Nat) : Int) := by show _ = ((max p.1 p.2 : Nat) : Int); omega
    rw [e1, e2]
    have s2 := same_new nr (.tup [.int ((norm p).1 : Int), .int ((norm p).2 : Int)])
    have rD : r ≠ D := fun z => by rw [← z, nr] at hD; cases hD
    have bt : But D H1 (upd (upd H1 r (.tup [.int ((norm p).1 : Int), .int ((norm p).2 : Int)])) D (.lst (ys ++ [.ref r]))) := (But.new nr).trans .put
    refine ⟨ys, s2 _ _ hD, small1000 (by have := (List.getElem?_eq_some_iff.mp hi).1; omega), same_put (s1.trans s2) nD, _, upd_same, by rw [List.length_append, ly]; rfl, ?_⟩
    rw [take_succ hp, List.map_append]
    refine (py.same bt.hide).append (.cons ⟨r, rfl, ?_⟩ .nil)
    rw [hide_ne rD, upd_ne rD]
    exact upd_same
  · rintro H1 ⟨s1, ys, hD, ly, py⟩
    have lps : xs.length = ps.length := PairsAt.len hP
    rw [lps, List.take_length] at py
    obtain ⟨ks, e1, e2, e3⟩ := pairs_ksOW (py.same (hide_sub D H1))
    have lk : ks.length < 64 := by
      have z := congrArg List.length e1
      rw [List.length_map] at z
      omega
    refine ⟨D, ks, rfl, by rw [← e1]; exact SqL.of hD, fun p hp => SqT.of (e3 p hp), lk, fun a L na sub sup => ?_⟩
    have form : ∀ p ∈ ks, ∃ r ∈ ps.map norm, p.2 = [(r.1 : Int), (r.2 : Int)] := fun p hp => by
      have z : p.2 ∈ ks.map (·.2) := List.mem_map.mpr ⟨p, hp, rfl⟩
      rw [e2] at z
      obtain ⟨r, h1, h2⟩ := List.mem_map.mp z
      exact ⟨r, h1, h2.symm⟩
    have small : ∀ r ∈ ps.map norm, r.1 < r.2 ∧ r.2 < n := fun r hr => by
      obtain ⟨p, hp, rfl⟩ := List.mem_map.mp hr
      obtain ⟨h1, h2, h3⟩ := hps p hp
      show min p.1 p.2 < max p.1 p.2 ∧ max p.1 p.2 < n
      omega
    refine ⟨a, L, 2, 9, rfl, upd_same, fun p hp => Same.tup (same_new na _) (SqT.of (e3 p (sub p hp))), by decide, fun p hp => ?_, fun L' p perm nd few up np => ?_⟩
    · obtain ⟨r, hr, e⟩ := form p (sub p hp)
      have z := small r hr
      rw [e]
      refine ⟨rfl, fun m hm => ?_⟩
      rcases List.mem_cons.mp hm with rfl | hm
      · omega
      · have := List.mem_singleton.mp hm
        omega
    refine ⟨p, _, rfl, .inl ⟨SqL.of upd_same, fun e ne => ?_⟩⟩
    refine ⟨(by show 2 ≤ sizeLine; decide), fun t nt => ?_⟩
    have m' : ∀ p ∈ L', p ∈ ks := fun p hp => sub p (perm.mem_iff.mp hp)
    have s3 := s1.trans ((same_new na (SetTO P w a L)).trans ((same_new np (.lst (L'.map fun q => V.ref q.1))).trans ((same_new ne (.tup (L'.map fun q => V.ref q.1))).trans (same_new nt (.tup [.int (n : Int), .ref e])))))
    have s4 : Same H1 _ := (same_new na (SetTO P w a L)).trans ((same_new np (.lst (L'.map fun q => V.ref q.1))).trans ((same_new ne (.tup (L'.map fun q => V.ref q.1))).trans (same_new nt (.tup [.int (n : Int), .ref e]))))
    have back : ∀ p ∈ L', p.2 = [((toE p.2).1 : Int), ((toE p.2).2 : Int)] ∧ toE p.2 ∈ ps.map norm := fun p hp => by
      obtain ⟨r, hr, e⟩ := form p (m' p hp)
      rw [e, toE_of]
      exact ⟨rfl, hr⟩
    refine q (.ref t) (L'.map fun p => toE p.2) _ s3 ⟨t, e, _, rfl, upd_same, (same_new nt _) _ _ upd_same, ?_⟩ ⟨n9, ?_, ?_⟩ ?_
    · exact ks_pairsOW (fun p hp => s4 _ _ (e3 p (m' p hp))) fun p hp => (back p hp).1
    · intro r hr
      obtain ⟨p, hp, rfl⟩ := List.mem_map.mp hr
      exact small _ (back p hp).2
    · rw [List.pairwise_map]
      have nd2 := List.pairwise_map.mp nd
      have both := up.and nd2
      refine both.imp_of_mem ?_
      intro p r hp hr ⟨le, neq⟩
      have b1 := (back p hp).1
      have b2 := (back r hr).1
      have z1 := small _ (back p hp).2
      have z2 := small _ (back r hr).2
      rw [b1, b2] at le neq
      have c1 : TS.code 9 [((toE p.2).1 : Int), ((toE p.2).2 : Int)] = ((toE p.2).1 : Int) * 9 + ((toE p.2).2 : Int) := by simp [TS.code]
      have c2 : TS.code 9 [((toE r.2).1 : Int), ((toE r.2).2 : Int)] = ((toE r.2).1 : Int) * 9 + ((toE r.2).2 : Int) := by simp [TS.code]
      rw [c1, c2] at le
      have ne2 : ¬ ((toE p.2).1 = (toE r.2).1 ∧ (toE p.2).2 = (toE r.2).2) := fun ⟨x, y⟩ => neq (by rw [x, y])
      show (toE p.2).1 < (toE r.2).1 ∨ ((toE p.2).1 = (toE r.2).1 ∧ (toE p.2).2 < (toE r.2).2)
      omega
    · intro r
      constructor
      · intro hr
        obtain ⟨p, hp, rfl⟩ := List.mem_map.mp hr
        exact (back p hp).2
      · intro hr
        have z : [(r.1 : Int), (r.2 : Int)] ∈ ks.map (·.2) := by
          rw [e2]
          exact List.mem_map.mpr ⟨r, hr, rfl⟩
        obtain ⟨p, hp, ep⟩ := List.mem_map.mp z
        have z2 := sup p hp
        obtain ⟨p2, hp2, ep2⟩ := List.mem_map.mp z2
        refine List.mem_map.mpr ⟨p2, perm.mem_iff.mpr hp2, ?_⟩
        show toE p2.2 = r
        rw [show p2.2 = [(r.1 : Int), (r.2 : Int)] from ep2.trans ep, toE_of]
end
end My

set_option maxHeartbeats 4000000
namespace My
open PySem PySem.Spec PyProof.Rows L2
abbrev sTurned : Stmt := top 27
theorem scTurned : FnScope ["graph", "n", "edges", "found", "u", "v"] ["graph"] (defScope sTurned) := ⟨rfl, rfl, rfl, by decide +kernel, rfl, by decide +kernel, by decide +kernel⟩
def spTurned (K : PySem.W.Frag) : Sp := fun vs H Q _ => ∃ (x : V) (n : Nat) (es : List E2), vs = [x] ∧ GraphAt K H x n es ∧ n ≤ 9 ∧ ∀ (y : V) (H' : Hp), Same H H' → GraphT H' y n (leftP n es) → Q y H'
section
variable {P : Program} {w : World} {K : PySem.W.Frag} {mg : Str → Option Value} {base : Heap} {f : Addr} {fd : FuncData}
theorem ok_turned (F : L2.Fun K "_law_turned" "_law_turned" sTurned f fd) (mr : mg "range" = none) (mt : mg "tuple" = none) : FnOk P w K mg base CX0 1 f fd ["graph"] (spTurned K) := by
  refine F.ok scTurned (fun vs H Q E h => ?_) (fun cdv A outer s H vs Q E hr h => ?_)
  · obtain ⟨x, n, es, rfl, _⟩ := h
    rfl
  obtain ⟨x, n, es, rfl, ⟨t, e, xs, rfl, ht, he, hes⟩, n9, q⟩ := h
  refine ⟨_, pss_cons (ps_asg (pv 0) (pg_tup (by rfl) (pgs_cons (pg_name (i := 1) scTurned.nd rfl (.inl rfl)) (pgs_cons (pg_name (i := 2) scTurned.nd rfl (.inr rfl)) pgs_nil))))
    (pss_cons (ps_set (i := 3) scTurned.nd rfl (.inl rfl) (pe_lst pa_nil))
    (pss_cons (ps_for PassesOwn.never rfl (pi_range1 rfl mr (pa_cons (pv 1) pa_nil)) (pg_name (i := 4) scTurned.nd rfl (.inr rfl))
      (pss_one (ps_set (i := 3) scTurned.nd rfl (.inl rfl) (pe_op op_cat (pv 3) (pe_lc (own := [("v", 5)]) (g := gName 5) rfl scTurned.nd (pi_range2 (by rfl) mr (pa_cons (pe_op op_add (pv 4) pe_int) (pa_cons (pv 1) pa_nil)))
        (blkOk_by (N := ["graph", "n", "edges", "found", "u", "v"]) (sc := defScope sTurned) (by decide +kernel)) (fun _ _ _ _ _ => pg_name (i := 5) scTurned.nd rfl (Or.inl rfl))
        (fun _ _ _ _ _ => pts_one (pt_cmpR (r := rInP not K) (op_notInP hr.units) (pe_tup (pa_cons (pv 4) (pa_cons (pv 5) pa_nil))) (pv 2) (by rfl)))
        (fun _ _ _ _ _ => pe_tup (pa_cons (pv 4) (pa_cons (pv 5) pa_nil))))))))
    (pss_one (ps_ret (pe_tup (pa_cons (pv 1) (pa_cons (pe_callTy call_tuple_of (by rfl) mt (by decide +kernel) (pa_cons (pv 3) pa_nil)) pa_nil))))))), ?_⟩
  refine ⟨_, rfl, t, _, rfl, ht, rfl, _, _, rfl, _, _, rfl, rfl, (by show 0 ≤ sizeLine; decide), fun a na => ?_⟩
  refine ⟨_, rfl, (n : Int), rfl, by omega, by omega, for_range (lo := 0) (n := ((n : Nat) : Int).toNat) (fun i σ H' => ∃ (b : Addr) (ys : List V) (s4 : Option V), σ = [some (.ref t), some (.int (n : Int)), some (.ref e), some (.ref b), s4, none] ∧ Same H H' ∧ H' b = some (.lst ys) ∧
      PairsT H' ys ((List.range i).flatMap fun u => (rowP n u).filter fun p => decide (p ∉ es))) ⟨a, [], none, rfl, same_new na _, upd_same, .nil⟩ ?_ ?_⟩
  · rintro u σ H1 lu ⟨b, ys, s4, rfl, s1, hb, py⟩
    rw [Int.zero_add]
    have un : u < n := by omega
    refine ⟨_, rfl, _, rfl, _, _, rfl, rfl, _, rfl, _, _, rfl, ⟨by omega, by omega, by omega, by omega⟩, fun D nD => lc_range (lo := (u : Int) + 1) (n := ((n : Int) - ((u : Int) + 1)).toNat)
      (fun k H2 => Same H1 H2 ∧ ∃ zs, H2 D = some (.lst zs) ∧ zs.length ≤ k ∧ PairsT (hide D H2) zs (((List.range k).map fun j => (u, u + 1 + j)).filter fun p => decide (p ∉ es))) ⟨same_new nD _, [], upd_same, Nat.le_refl _, .nil⟩ ?_ ?_⟩
    · rintro k H2 lk ⟨s2, zs, hD, lz, pz⟩
      rw [show ((u : Int) + 1 + (k : Int)) = ((u + 1 + k : Nat) : Int) by omega]
      refine ⟨rfl, ?_⟩
      refine ⟨_, rfl, _, rfl, (by show 2 ≤ sizeLine; decide), fun r nr => ?_⟩
      have s3 := same_new nr (.tup [.int ((u : Nat) : Int), .int ((u + 1 + k : Nat) : Int)])
      have sH := (s1.trans s2).trans s3
      refine ⟨_, rfl, (u, u + 1 + k), e, xs, es, ⟨r, rfl, SqT.of upd_same⟩, rfl, Same.tup sH he, hes.same sH, _, rfl, iteB (fun c => ?_) (fun c => ?_)⟩
      · have c' : (u, u + 1 + k) ∉ es := by simpa using c
        refine ⟨_, rfl, _, rfl, (by show 2 ≤ sizeLine; decide), fun r2 nr2 => ?_⟩
        have s4 := same_new nr2 (.tup [.int ((u : Nat) : Int), .int ((u + 1 + k : Nat) : Int)])
        have hD4 := s4 _ _ (s3 _ _ hD)
        have ne2 : r2 ≠ D := fun z => by
          rw [z] at nr2
          rw [s3 _ _ hD] at nr2
          cases nr2
        refine ⟨zs, hD4, small1000 (by omega), same_put ((s2.trans s3).trans s4) nD, _, upd_same, by rw [List.length_append]; show zs.length + 1 ≤ k + 1; omega, ?_⟩
        rw [List.range_succ, List.map_append, List.filter_append]
        have bt : But D H2 _ := (But.new nr).trans ((But.new (o := .tup [.int ((u : Nat) : Int), .int ((u + 1 + k : Nat) : Int)]) nr2).trans (.put (o := .lst (zs ++ [.ref r2]))))
        refine (pz.same bt.hide).append ?_
        show PairsT _ [V.ref r2] ([(u, u + 1 + k)].filter fun p => decide (p ∉ es))
        rw [List.filter_cons_of_pos (by simpa using c'), List.filter_nil]
        refine .cons ⟨r2, rfl, ?_⟩ .nil
        rw [hide_ne ne2, upd_ne ne2]
        exact upd_same
      · have c' : (u, u + 1 + k) ∈ es := by simpa using c
        refine ⟨s2.trans s3, zs, s3 _ _ hD, by omega, ?_⟩
        rw [List.range_succ, List.map_append, List.filter_append]
        show PairsT _ zs (_ ++ [(u, u + 1 + k)].filter fun p => decide (p ∉ es))
        rw [List.filter_cons_of_neg (by simpa using c'), List.filter_nil, List.append_nil]
        exact pz.same (But.new nr).hide
    · rintro H2 ⟨s2, zs, hD, lz, pz⟩
      have le1 : ys.length ≤ 81 := by
        rw [PairsT.len py]
        have z := List.length_filter_le (fun p => decide (p ∉ es)) ((List.range u).flatMap (rowP n))
        rw [List.filter_flatMap] at z
        exact Nat.le_trans z (rows_few u (by omega) n n9)
      refine ⟨b, D, ys, zs, rfl, rfl, s2 _ _ hb, hD, small (by omega), fun c nc => ?_⟩
      have s3 := same_new nc (.lst (ys ++ zs))
      refine ⟨c, _, _, rfl, (s1.trans s2).trans s3, upd_same, ?_⟩
      rw [List.range_succ, List.flatMap_append]
      refine (py.same (s2.trans s3)).append ?_
      have ek : ((n : Int) - ((u : Int) + 1)).toNat = n - (u + 1) := by omega
      rw [ek] at pz
      show PairsT _ zs ([u].flatMap fun u => (rowP n u).filter fun p => decide (p ∉ es))
      rw [List.flatMap_cons, List.flatMap_nil, List.append_nil]
      exact (pz.same (hide_sub D H2)).same s3
  · rintro σ H1 ⟨b, ys, s4, rfl, s1, hb, py⟩
    rw [show ((n : Nat) : Int).toNat = n by omega, ← leftP_eq] at py
    refine ⟨_, rfl, _, rfl, b, _, rfl, .inl ⟨SqL.of hb, fun l nl => ⟨(by show 2 ≤ sizeLine; decide), fun r nr => ?_⟩⟩⟩
    have s2 := same_new nl (.tup ys)
    have s3 := same_new nr (.tup [.int (n : Int), .ref l])
    exact q (.ref r) _ ((s1.trans s2).trans s3) ⟨r, l, ys, rfl, upd_same, s3 _ _ upd_same, (py.same s2).same s3⟩
end
end My

set_option maxHeartbeats 4000000
namespace My
open PySem PySem.Spec PyProof.Rows L2
/-- one more pair in a list -/
theorem push_pair {K : PySem.W.Frag} {H : Hp} {D r : Addr} {zs : List V} {ps : List E2} (p : E2) (hD : H D = some (.lst zs)) (nr : H r = none) (h : PairsAt K H zs ps) :
    TS H (upd (upd H r (.tup [.int (p.1 : Int), .int (p.2 : Int)])) D (.lst (zs ++ [.ref r]))) ∧ PairsAt K (upd (upd H r (.tup [.int (p.1 : Int), .int (p.2 : Int)])) D (.lst (zs ++ [.ref r]))) (zs ++ [.ref r]) (ps ++ [p]) := by
  have s1 := same_new nr (.tup [.int (p.1 : Int), .int (p.2 : Int)])
  have s2 : TS (upd H r (.tup [.int (p.1 : Int), .int (p.2 : Int)])) (upd (upd H r (.tup [.int (p.1 : Int), .int (p.2 : Int)])) D (.lst (zs ++ [.ref r]))) := TS.put (s1 _ _ hD)
  exact ⟨(TS.of s1).trans s2, (h.ts ((TS.of s1).trans s2)).append (.cons ⟨r, rfl, s2.tup (SqT.of upd_same)⟩ .nil)⟩
abbrev sRound : Stmt := top 28
abbrev sCalled : Stmt := top 29
abbrev sOrder : Stmt := top 30
theorem scRound : FnScope ["many", "k"] ["many"] (defScope sRound) := ⟨rfl, rfl, rfl, by decide +kernel, rfl, by decide +kernel, by decide +kernel⟩
theorem scCalled : FnScope ["graph", "names", "u", "v"] ["graph", "names"] (defScope sCalled) := ⟨rfl, rfl, rfl, by decide +kernel, rfl, by decide +kernel, by decide +kernel⟩
theorem scOrder : FnScope ["well", "many", "left", "found", "turn"] ["well", "many"] (defScope sOrder) := ⟨rfl, rfl, rfl, by decide +kernel, rfl, by decide +kernel, by decide +kernel⟩
def spRound (K : PySem.W.Frag) : Sp := fun vs H Q _ => ∃ m : Nat, vs = [.int (m : Int)] ∧ 2 ≤ m ∧ m ≤ 9 ∧ ∀ (x : V) (es : List E2) (H' : Hp), Same H H' → GraphT H' x m es → Good m es → Q x H'
def nums (ns : List Nat) : List V := ns.map fun (k : Nat) => V.int ((k : Nat) : Int)
structure Perm (n : Nat) (ns : List Nat) : Prop where
  len : ns.length = n
  nd : ns.Nodup
  lt : ∀ k ∈ ns, k < n
def spCalled (K : PySem.W.Frag) : Sp := fun vs H Q _ => ∃ (x : V) (t : Addr) (n : Nat) (es : List E2) (ns : List Nat), vs = [x, .ref t] ∧ GraphAt K H x n es ∧ Good n es ∧ SqT K H t (nums ns) ∧ Perm n ns ∧ ∀ (y : V) (es' : List E2) (H' : Hp), Same H H' → GraphAt K H' y n es' → Good n es' → Q y H'
def spOrder (K : PySem.W.Frag) : Sp := fun vs H Q _ => ∃ (p : Addr) (n : Nat), vs = [.ref p, .int (n : Int)] ∧ Wl H p ∧ n ≤ 9 ∧ ∀ (t : Addr) (ns : List Nat) (H' : Hp), But p H H' → Wl H' p → SqT K H' t (nums ns) → Perm n ns → Q (.ref t) H'
section
variable {P : Program} {w : World} {K : PySem.W.Frag} {mg : Str → Option Value} {base : Heap} {f fD fP : Addr} {fd dD dP : FuncData}
theorem ok_round (F : L2.Fun K "_law_round" "_law_round" sRound f fd) (GP : FnOk P w K mg base CX0 1 fP dP ["n", "pairs"] (spOfPairs K)) (bP : L2.Binds K dP ["n", "pairs"] []) (kP : PySem.W.keepIn K (.ref fP) = true) (mP : mg "_law_of_pairs" = some (.ref fP)) (mr : mg "range" = none) (mi : mg "int" = none) :
    FnOk P w K mg base CX0 2 f fd ["many"] (spRound K) := by
  refine F.ok scRound (fun vs H Q E h => ?_) (fun cdv A outer s H vs Q E hr h => ?_)
  · obtain ⟨m, rfl, _⟩ := h
    rfl
  obtain ⟨m, rfl, m2, m9, q⟩ := h
  refine ⟨_, pss_one (ps_ret (pe_call GP hr (by rfl) mP kP bP .nil pass0 (pa_cons (pv 0) (pa_cons (pe_lc (own := [("k", 1)]) (g := gName 1) (tt := tYes) rfl scRound.nd (pi_range1 rfl mr (pa_cons (pv 0) pa_nil))
    (blkOk_by (N := ["many", "k"]) (sc := defScope sRound) (by decide +kernel)) (fun _ _ _ _ _ => pg_name (i := 1) scRound.nd rfl (Or.inl rfl)) (fun _ _ _ _ _ => pts_nil)
    (fun _ _ _ _ _ => pe_tup (pa_cons (pv 1) (pa_cons (pe_op op_mod (pe_callTy call_int1 (by rfl) mi (by decide +kernel) (pa_cons (pe_op op_add (pv 1) pe_int) pa_nil)) (pv 0)) pa_nil)))) pa_nil)))), ?_⟩
  refine ⟨_, rfl, _, rfl, (m : Int), rfl, by omega, by omega, fun D nD => lc_range (lo := 0) (n := ((m : Nat) : Int).toNat)
      (fun k H2 => Same H H2 ∧ ∃ zs, H2 D = some (.lst zs) ∧ zs.length = k ∧ PairsAt K H2 zs ((List.range k).map fun j => (j, (j + 1) % m))) ⟨same_new nD _, [], upd_same, rfl, .nil⟩ ?_ ?_⟩
  · rintro k H2 lk ⟨s2, zs, hD, lz, pz⟩
    rw [Int.zero_add]
    have km : k < m := by omega
    refine ⟨rfl, ?_⟩
    refine ⟨_, rfl, _, rfl, _, _, rfl, rfl, .inl ⟨_, rfl, _, rfl, _, _, rfl, rfl, (show (0 : Int) < (m : Int) by omega), (by show 2 ≤ sizeLine; decide), fun r nr => ?_⟩⟩
    have e : ((k : Int) + 1) % (m : Int) = (((k + 1) % m : Nat) : Int) := by
      rw [Int.natCast_emod]
      rfl
    dsimp only
    rw [e]
    obtain ⟨t1, p1⟩ := push_pair (k, (k + 1) % m) hD nr pz
    refine ⟨zs, (same_new nr _) _ _ hD, small1000 (by omega), same_put (s2.trans (same_new nr _)) nD, _, upd_same, by rw [List.length_append]; show zs.length + 1 = k + 1; omega, ?_⟩
    rw [List.range_succ, List.map_append]
    exact p1
  · rintro H2 ⟨s2, zs, hD, lz, pz⟩
    rw [show ((m : Nat) : Int).toNat = m by omega] at lz pz
    refine ⟨m, D, zs, _, rfl, m9, SqL.of hD, pz, by omega, fun p hp => ?_, fun x es H' s g good _ => q x es H' (s2.trans s) g good⟩
    obtain ⟨j, hj, rfl⟩ := List.mem_map.mp hp
    have hj := List.mem_range.mp hj
    show j ≠ (j + 1) % m ∧ j < m ∧ (j + 1) % m < m
    refine ⟨?_, hj, Nat.mod_lt _ (by omega)⟩
    by_cases e : j + 1 = m
    · rw [e, Nat.mod_self]
      omega
    · rw [Nat.mod_eq_of_lt (by omega)]
      omega
theorem perm_at {n : Nat} {ns : List Nat} (h : Perm n ns) {i : Nat} (hi : i < n) : ∃ k, ns[i]? = some k ∧ k < n := by
  have l : i < ns.length := by rw [h.len]; exact hi
  exact ⟨ns[i], List.getElem?_eq_getElem l, h.lt _ (List.getElem_mem l)⟩
theorem perm_ne {n : Nat} {ns : List Nat} (h : Perm n ns) {i j a b : Nat} (hi : ns[i]? = some a) (hj : ns[j]? = some b) (ne : i ≠ j) : a ≠ b := by
  obtain ⟨l1, e1⟩ := List.getElem?_eq_some_iff.mp hi
  obtain ⟨l2, e2⟩ := List.getElem?_eq_some_iff.mp hj
  rcases Nat.lt_or_gt_of_ne ne with l | l
  · have z := List.pairwise_iff_getElem.mp h.nd i j l1 l2 l
    rw [e1, e2] at z
    exact z
  · have z := List.pairwise_iff_getElem.mp h.nd j i l2 l1 l
    rw [e1, e2] at z
    exact Ne.symm z
theorem ok_called (F : L2.Fun K "_law_called" "_law_called" sCalled f fd) (GP : FnOk P w K mg base CX0 1 fP dP ["n", "pairs"] (spOfPairs K)) (bP : L2.Binds K dP ["n", "pairs"] []) (kP : PySem.W.keepIn K (.ref fP) = true) (mP : mg "_law_of_pairs" = some (.ref fP)) :
    FnOk P w K mg base CX0 2 f fd ["graph", "names"] (spCalled K) := by
  refine F.ok scCalled (fun vs H Q E h => ?_) (fun cdv A outer s H vs Q E hr h => ?_)
  · obtain ⟨x, t, n, es, ns, rfl, _⟩ := h
    rfl
  obtain ⟨x, t, n, es, ns, rfl, ⟨g, e, xs, rfl, hg, he, hes⟩, good, ht, hn, q⟩ := h
  refine ⟨_, pss_one (ps_ret (pe_call GP hr (by rfl) mP kP bP .nil pass0 (pa_cons (pe_ix ix_tup (pv 0) pe_int (fun _ _ => rfl)) (pa_cons (pe_lc (own := [("u", 2), ("v", 3)]) (g := gTup K 2 (gCons (gName 2) (gCons (gName 3) gNil))) (tt := tYes) rfl scCalled.nd (pi_tup (pe_ix ix_tup (pv 0) pe_int (fun _ _ => rfl)))
    (blkOk_by (N := ["graph", "names", "u", "v"]) (sc := defScope sCalled) (by decide +kernel)) (fun _ _ _ _ _ => pg_tup (by rfl) (pgs_cons (pg_name (i := 2) scCalled.nd rfl (Or.inl rfl)) (pgs_cons (pg_name (i := 3) scCalled.nd rfl (Or.inl rfl)) pgs_nil))) (fun _ _ _ _ _ => pts_nil)
    (fun _ _ _ _ _ => pe_tup (pa_cons (pe_ix (r := rIxT K) ix_tup (pv 1) (pv 2) (fun _ _ => rfl)) (pa_cons (pe_ix (r := rIxT K) ix_tup (pv 1) (pv 3) (fun _ _ => rfl)) pa_nil)))) pa_nil)))), ?_⟩
  refine ⟨_, rfl, g, _, _, _, rfl, rfl, hg, rfl, ?_⟩
  refine ⟨_, rfl, g, _, _, _, rfl, rfl, hg, rfl, e, rfl, ⟨_, he⟩, fun D nD => lc_tup (K := K) (a := e) (xs := xs)
      (fun i H2 => Same H H2 ∧ ∃ zs ps, H2 D = some (.lst zs) ∧ zs.length = i ∧ PairsAt K H2 zs ps ∧ ∀ p ∈ ps, p.1 ≠ p.2 ∧ p.1 < n ∧ p.2 < n) ⟨same_new nD _, [], [], upd_same, rfl, .nil, fun _ z => nomatch z⟩ ?_ ?_ ?_⟩
  · rintro i H1 _ ⟨s1, _⟩
    exact Same.tup s1 he
  · rintro i x H2 hi ⟨s2, zs, ps, hD, lz, pz, pp⟩
    obtain ⟨p, hp, t1, rfl, ht1⟩ := PairsAt.get (hes.same s2) hi
    obtain ⟨l1, l2⟩ := good.lt p (List.mem_of_getElem? hp)
    obtain ⟨a, ha, an⟩ := perm_at hn (show p.1 < n by omega)
    obtain ⟨b, hb, bn⟩ := perm_at hn l2
    have ab : a ≠ b := perm_ne hn ha hb (by omega)
    refine ⟨t1, _, rfl, ht1, rfl, _, _, rfl, _, _, rfl, rfl, ?_⟩
    refine ⟨rfl, ?_⟩
    have ht2 := Same.tup s2 ht
    refine ⟨_, rfl, _, rfl, t, _, _, .int (a : Int), rfl, rfl, ht2, atI_nat (by unfold nums; rw [List.getElem?_map, ha]; rfl), _, rfl, _, rfl, t, _, _, .int (b : Int), rfl, rfl, ht2, atI_nat (by unfold nums; rw [List.getElem?_map, hb]; rfl), (by show 2 ≤ sizeLine; decide), fun r nr => ?_⟩
    obtain ⟨t1, p1⟩ := push_pair (a, b) hD nr pz
    have li : i < xs.length := (List.getElem?_eq_some_iff.mp hi).1
    have l3 : xs.length ≤ 36 := by rw [PairsAt.len hes]; exact good.few
    refine ⟨zs, (same_new nr _) _ _ hD, small1000 (by omega), same_put (s2.trans (same_new nr _)) nD, _, _, upd_same, by rw [List.length_append]; show zs.length + 1 = i + 1; omega, p1, fun r hr => ?_⟩
    rcases List.mem_append.mp hr with hr | hr
    · exact pp r hr
    · rw [List.mem_singleton.mp hr]
      exact ⟨ab, an, bn⟩
  · rintro H2 ⟨s2, zs, ps, hD, lz, pz, pp⟩
    have l3 : xs.length ≤ 36 := by rw [PairsAt.len hes]; exact good.few
    exact ⟨n, D, zs, ps, rfl, good.n9, SqL.of hD, pz, by omega, pp, fun x es H' s g good _ => q x es H' (s2.trans s) g.at good⟩
theorem nums_len (ns : List Nat) : (nums ns).length = ns.length := List.length_map _
theorem nums_get {ns : List Nat} {k : Nat} (h : k < ns.length) : (nums ns)[k]? = some (.int ((ns[k] : Nat) : Int)) := by
  unfold nums
  rw [List.getElem?_map, List.getElem?_eq_getElem h]
  rfl
theorem nums_erase : ∀ (ns : List Nat) (k : Nat), (nums ns).eraseIdx k = nums (ns.eraseIdx k)
  | [], _ => rfl
  | _ :: _, 0 => rfl
  | a :: ns, k + 1 => congrArg (V.int ((a : Nat) : Int) :: ·) (nums_erase ns k)
theorem rgV_nums (n : Nat) : rgV 0 (n : Int) = nums (List.range n) := by
  unfold rgV nums
  rw [show ((n : Int) - 0).toNat = n by omega]
  refine List.map_congr_left fun i _ => ?_
  rw [Int.zero_add]
theorem moved {fs ls : List Nat} {k : Nat} (h : k < ls.length) : (fs ++ [ls[k]] ++ ls.eraseIdx k).Perm (fs ++ ls) := by
  rw [List.append_assoc]
  refine List.Perm.append_left fs ?_
  have e : ls = ls.take k ++ ls[k] :: ls.drop (k + 1) := by
    rw [List.getElem_cons_drop, List.take_append_drop]
  have e2 : ls.eraseIdx k = ls.take k ++ ls.drop (k + 1) := List.eraseIdx_eq_take_drop_succ ..
  rw [e2]
  refine (List.perm_middle (a := ls[k]) (l₁ := ls.take k) (l₂ := ls.drop (k + 1))).symm.trans ?_
  rw [← e]
theorem ok_order (F : L2.Fun K "_law_order" "_law_order" sOrder f fd) (GD : FnOk P w K mg base CX0 1 fD dD ["well", "many"] spDraw) (bD : L2.Binds K dD ["well", "many"] []) (kD : PySem.W.keepIn K (.ref fD) = true) (mD : mg "_law_draw" = some (.ref fD)) (ml : mg "len" = none) (mr : mg "range" = none) (mli : mg "list" = none) (mt : mg "tuple" = none) :
    FnOk P w K mg base CX0 2 f fd ["well", "many"] (spOrder K) := by
  refine F.ok scOrder (fun vs H Q E h => ?_) (fun cdv A outer s H vs Q E hr h => ?_)
  · obtain ⟨p, n, rfl, _⟩ := h
    rfl
  obtain ⟨p, n, rfl, hW, n9, q⟩ := h
  refine ⟨_, pss_cons (ps_par (by rfl) scOrder.nd (i := 2) (j := 3) rfl rfl (by decide) rfl rfl (pa_cons (pe_listRg rfl rfl mli (prg_1 rfl mr (pv 1))) (pa_cons (pe_lst pa_nil) pa_nil)) (by rfl))
    (pss_cons (ps_for PassesOwn.never rfl (pi_range1 rfl mr (pa_cons (pv 1) pa_nil)) (pg_name (i := 4) scOrder.nd rfl (.inl rfl))
      (pss_one (ps_expr (pe_bm PySem.F.plainAttrs_list PySem.F.slot_list_append PySem.F.type_list_append mt_append (pv 3) (pa_cons
        (pe_bm PySem.F.plainAttrs_list PySem.F.slot_list_pop PySem.F.type_list_pop mt_popAt (pv 2) (pa_cons (pe_call GD hr (by rfl) mD kD bD .nil pass0 (pa_cons (pv 0) (pa_cons (pe_callB call_len_seq (by rfl) ml PySem.boot_len (pa_cons (pv 2) pa_nil)) pa_nil))) pa_nil)) pa_nil)))))
    (pss_one (ps_ret (pe_callTy call_tuple_of (by rfl) mt (by decide +kernel) (pa_cons (pv 3) pa_nil))))), ?_⟩
  refine ⟨_, rfl, _, rfl, RgOk.of_le (by omega) (by omega) (by omega) (by omega), fun l nl => ?_⟩
  rw [rgV_nums]
  refine ⟨(by show 0 ≤ sizeLine; decide), fun b nb => ?_⟩
  have s1 := (same_new nl (.lst (nums (List.range n)))).trans (same_new nb (.lst []))
  have lp : l ≠ p := hW.ne nl
  have nb0 : H b = none := (same_new nl _).free nb
  have bp : b ≠ p := hW.ne nb0
  have bl : b ≠ l := fun e => by
    rw [e, upd_same] at nb
    cases nb
  refine ⟨_, _, rfl, ?_⟩
  refine ⟨_, rfl, (n : Int), rfl, by omega, by omega, for_range (lo := 0) (n := ((n : Nat) : Int).toNat) (fun i σ H' => ∃ (ls fs : List Nat) (s4 : Option V), σ = [some (.ref p), some (.int (n : Int)), some (.ref l), some (.ref b), s4] ∧ But p H H' ∧ Wl H' p ∧ H' l = some (.lst (nums ls)) ∧ H' b = some (.lst (nums fs)) ∧
      fs.length = i ∧ List.Perm (fs ++ ls) (List.range n)) ⟨List.range n, [], none, rfl, But.of s1, hW.same s1, (same_new nb _) _ _ upd_same, upd_same, rfl, .refl _⟩ ?_ ?_⟩
  · rintro i σ H1 li ⟨ls, fs, s4, rfl, b1, w1, hl, hb, lf, pm⟩
    have ll : fs.length + ls.length = n := by
      have := pm.length_eq
      rw [List.length_append, List.length_range] at this
      exact this
    refine ⟨_, rfl, .inl ⟨rfl, _, SqL.of hb⟩, ?_⟩
    refine ⟨_, rfl, .inl ⟨rfl, _, SqL.of hl⟩, ?_⟩
    have e1 : (nums ls).length = ls.length := nums_len ls
    refine ⟨_, rfl, _, rfl, l, _, rfl, .inl (SqL.of hl), p, _, rfl, w1, by omega, by omega, fun r H2 r0 r1 b2 w2 => ?_⟩
    obtain ⟨k, rfl⟩ : ∃ k : Nat, r = (k : Int) := ⟨r.toNat, by omega⟩
    have hk : k < ls.length := by omega
    have hl2 := b2 _ _ lp hl
    have hb2 := b2 _ _ bp hb
    refine ⟨l, nums ls, _, k, _, rfl, rfl, hl2, by omega, by omega, ?_, nums_get hk, ?_⟩
    · rw [show seqIndex? (k : Int) (nums ls).length = some ((k : Int)).toNat by unfold seqIndex?; rw [if_neg (show ¬ (k : Int) < 0 by omega)]; rw [if_pos (by simp; omega)]]
      rfl
    rw [nums_erase]
    refine ⟨b, nums fs, _, rfl, rfl, by rw [upd_ne bl]; exact hb2, small1000 (by rw [nums_len]; omega), ?_⟩
    have e2 : nums fs ++ [V.int ((ls[k] : Nat) : Int)] = nums (fs ++ [ls[k]]) := by
      unfold nums
      rw [List.map_append]
      rfl
    rw [e2]
    refine ⟨ls.eraseIdx k, fs ++ [ls[k]], _, rfl, but_put (but_put (b1.trans b2) nl) nb0, (w2.put lp).put bp, by rw [upd_ne (Ne.symm bl)]; exact upd_same, upd_same, by rw [List.length_append]; show fs.length + 1 = i + 1; omega, (moved hk).trans pm⟩
  · rintro σ H1 ⟨ls, fs, s4, rfl, b1, w1, hl, hb, lf, pm⟩
    rw [show ((n : Nat) : Int).toNat = n by omega] at lf
    have ll : fs.length + ls.length = n := by
      have := pm.length_eq
      rw [List.length_append, List.length_range] at this
      exact this
    have l0 : ls = [] := List.eq_nil_of_length_eq_zero (by omega)
    rw [l0, List.append_nil] at pm
    refine ⟨_, rfl, b, _, rfl, .inl ⟨SqL.of hb, fun t nt => ?_⟩⟩
    exact q t fs _ (b1.trans (But.new nt)) (w1.same (same_new nt _)) (SqT.of upd_same) ⟨lf, pm.nodup_iff.mpr List.nodup_range, fun k hk => List.mem_range.mp (pm.mem_iff.mp hk)⟩
end
end My

set_option maxHeartbeats 4000000
namespace My
open PySem PySem.Spec PyProof.Rows L2
abbrev sRandom : Stmt := top 31
abbrev sSides : Stmt := top 32
abbrev sBeside : Stmt := top 33
abbrev sFolded : Stmt := top 34
theorem scRandom : FnScope ["well", "n", "rare", "is_dense", "found", "u", "v"] ["well", "n"] (defScope sRandom) := ⟨rfl, rfl, rfl, by decide +kernel, rfl, by decide +kernel, by decide +kernel⟩
theorem scSides : FnScope ["well", "n", "found", "half", "u", "v"] ["well", "n"] (defScope sSides) := ⟨rfl, rfl, rfl, by decide +kernel, rfl, by decide +kernel, by decide +kernel⟩
theorem scBeside : FnScope ["one", "two", "is_joined", "u", "n", "far", "v"] ["one", "two", "is_joined"] (defScope sBeside) := ⟨rfl, rfl, rfl, by decide +kernel, rfl, by decide +kernel, by decide +kernel⟩
theorem scFolded : FnScope ["well", "n", "found", "turn"] ["well", "n"] (defScope sFolded) := ⟨rfl, rfl, rfl, by decide +kernel, rfl, by decide +kernel, by decide +kernel⟩
/-- what a drawn graph of n vertices is -/
def spGr (K : PySem.W.Frag) (n : Nat) (p : Addr) (H : Hp) (Q : VK) : Prop := ∀ (x : V) (es : List E2) (H' : Hp), But p H H' → Wl H' p → GraphAt K H' x n es → Good n es → Q x H'
def spRandom (K : PySem.W.Frag) : Sp := fun vs H Q _ => ∃ (p : Addr) (n : Nat), vs = [.ref p, .int (n : Int)] ∧ Wl H p ∧ n ≤ 9 ∧ spGr K n p H Q
def spBeside (K : PySem.W.Frag) : Sp := fun vs H Q _ => ∃ (x y : V) (n m : Nat) (es fs : List E2) (j : Bool), vs = [x, y, .bl j] ∧ GraphAt K H x n es ∧ Good n es ∧ GraphAt K H y m fs ∧ Good m fs ∧ n + m ≤ 9 ∧ fs.length + n * m ≤ 27 ∧
  ∀ (z : V) (gs : List E2) (H' : Hp), Same H H' → GraphAt K H' z (n + m) gs → Good (n + m) gs → Q z H'
def spFolded (K : PySem.W.Frag) : Sp := fun vs H Q _ => ∃ (p : Addr) (n : Nat), vs = [.ref p, .int (n : Int)] ∧ Wl H p ∧ 1 ≤ n ∧ n ≤ 9 ∧ spGr K n p H Q
theorem upto_pairs {n : Nat} {ps : List E2} {u k : Nat} (hu : u < n) (hk : k ≤ n - (u + 1)) (h : ps.Sublist ((List.range u).flatMap (rowP n) ++ (List.range k).map fun j => (u, u + 1 + j))) : ps.Sublist (allP n) := by
  refine h.trans ?_
  have e1 : allP n = (List.range u).flatMap (rowP n) ++ ((List.range (n - u)).map (u + ·)).flatMap (rowP n) := by
    unfold allP
    rw [← List.flatMap_append]
    congr 1
    have := List.range_add (n := u) (m := n - u)
    rw [show u + (n - u) = n by omega] at this
    exact this
  rw [e1]
  refine List.Sublist.append_left ?_ _
  rw [show n - u = (n - (u + 1)) + 1 by omega, List.range_succ_eq_map, List.map_cons, List.flatMap_cons]
  refine List.Sublist.trans ?_ (List.sublist_append_left ..)
  show ((List.range k).map fun j => (u, u + 1 + j)).Sublist ((List.range (n - (u + 0 + 1))).map fun j => (u + 0, u + 0 + 1 + j))
  rw [Nat.add_zero]
  exact (List.range_sublist.mpr hk).map _
theorem sub_all {n : Nat} {ps : List E2} (n9 : n ≤ 9) (h : ps.Sublist (allP n)) : ps.length ≤ 36 ∧ ∀ q ∈ ps, q.1 ≠ q.2 ∧ q.1 < n ∧ q.2 < n := by
  refine ⟨Nat.le_trans h.length_le (allP_few n n9), fun q hq => ?_⟩
  have z := mem_allP.mp (h.subset hq)
  omega
section
variable {P : Program} {w : World} {K : PySem.W.Frag} {mg : Str → Option Value} {base : Heap} {f fD fP fK fB fU : Addr} {fd dD dP dK dB dU : FuncData}
theorem ok_random (F : L2.Fun K "_law_random" "_law_random" sRandom f fd) (GD : FnOk P w K mg base CX0 1 fD dD ["well", "many"] spDraw) (bD : L2.Binds K dD ["well", "many"] []) (kD : PySem.W.keepIn K (.ref fD) = true) (mD : mg "_law_draw" = some (.ref fD))
    (GP : FnOk P w K mg base CX0 1 fP dP ["n", "pairs"] (spOfPairs K)) (bP : L2.Binds K dP ["n", "pairs"] []) (kP : PySem.W.keepIn K (.ref fP) = true) (mP : mg "_law_of_pairs" = some (.ref fP))
    (GK : FnOk P w K mg base CX0 2 fK dK ["well", "some"] (spPick K)) (bK : L2.Binds K dK ["well", "some"] []) (kK : PySem.W.keepIn K (.ref fK) = true) (mK : mg "_law_pick" = some (.ref fK)) (mr : mg "range" = none) :
    FnOk P w K mg base CX0 3 f fd ["well", "n"] (spRandom K) := by
  refine F.ok scRandom (fun vs H Q E h => ?_) (fun cdv A outer s H vs Q E hr h => ?_)
  · obtain ⟨p, n, rfl, _⟩ := h
    rfl
  obtain ⟨p, n, rfl, hW, n9, q⟩ := h
  refine ⟨_, pss_cons (ps_par3 (by rfl) scRandom.nd (i := 2) (j := 3) (l := 4) rfl rfl rfl (by decide) (by decide) (by decide) rfl rfl rfl (pa_cons (pe_call GK hr (by rfl) mK kK bK .nil pass0 (pa_cons (pv 0) (pa_cons (pe_tup (pa_cons pe_int (pa_cons pe_int (pa_cons pe_int (pa_cons pe_int pa_nil))))) pa_nil)))
        (pa_cons (pe_cmpR op_eq (pe_call GD (hr.mono (by decide)) (by rfl) mD kD bD .nil pass0 (pa_cons (pv 0) (pa_cons pe_int pa_nil))) pe_int (nomark _)) (pa_cons (pe_lst pa_nil) pa_nil))) (by rfl))
    (pss_cons (ps_for PassesOwn.never rfl (pi_range1 rfl mr (pa_cons (pv 1) pa_nil)) (pg_name (i := 5) scRandom.nd rfl (.inl rfl))
      (pss_one (ps_for PassesOwn.never rfl (pi_range2 (by rfl) mr (pa_cons (pe_op op_add (pv 5) pe_int) (pa_cons (pv 1) pa_nil))) (pg_name (i := 6) scRandom.nd rfl (.inl rfl))
        (pss_one (ps_if (pt_cmpR op_ne (pe_cmpR op_eq (pe_call GD (hr.mono (by decide)) (by rfl) mD kD bD .nil pass0 (pa_cons (pv 0) (pa_cons (pv 2) pa_nil))) pe_int (nomark _)) (pv 3) (nomark _))
          (pss_one (ps_expr (pe_bm PySem.F.plainAttrs_list PySem.F.slot_list_append PySem.F.type_list_append mt_append (pv 4) (pa_cons (pe_tup (pa_cons (pv 5) (pa_cons (pv 6) pa_nil))) pa_nil)))) pss_nil)))))
    (pss_one (ps_ret (pe_call GP (hr.mono (by decide)) (by rfl) mP kP bP .nil pass0 (pa_cons (pv 1) (pa_cons (pv 4) pa_nil)))))), ?_⟩
  refine ⟨_, rfl, (by show 4 ≤ sizeLine; decide), fun t nt => ?_⟩
  have s1 := same_new nt (.tup [.int 2, .int 2, .int 3, .int 4])
  have w1 := hW.same s1
  refine ⟨p, t, _, rfl, w1, w1.off (SqT.of upd_same), by decide, by decide, fun i v H2 hi b2 w2 => ?_⟩
  obtain ⟨rare, rfl, r1, r2⟩ : ∃ rare : Int, v = .int rare ∧ 0 < rare ∧ rare < 5 := by
    have m := List.mem_of_getElem? hi
    simp only [List.mem_cons, List.mem_nil_iff, or_false] at m
    rcases m with rfl | rfl | rfl | rfl <;> exact ⟨_, rfl, by decide, by decide⟩
  refine ⟨_, rfl, p, _, rfl, w2, by decide, by decide, fun d H3 _ _ b3 w3 => ?_⟩
  refine ⟨rfl, (by show 0 ≤ sizeLine; decide), fun D nD => ?_⟩
  have b4 : But p H _ := ((But.of s1).trans b2).trans (b3.trans (But.new (o := .lst []) nD))
  have w4 := w3.same (same_new nD (.lst []))
  have Dp : D ≠ p := w3.ne nD
  have nD0 : H D = none := by
    have z : (upd H t (.tup [.int 2, .int 2, .int 3, .int 4])) D = none := by
      cases e : (upd H t (.tup [.int 2, .int 2, .int 3, .int 4])) D with
      | none => rfl
      | some o => rw [b3 _ _ Dp (b2 _ _ Dp e)] at nD; cases nD
    exact s1.free z
  generalize hd : (decide (V.int d = V.int 0)) = dense
  refine ⟨_, _, _, rfl, ?_⟩
  refine ⟨_, rfl, (n : Int), rfl, by omega, by omega, for_range (lo := 0) (n := ((n : Nat) : Int).toNat) (fun u σ H' => ∃ (zs : List V) (ps : List E2) (s5 s6 : Option V), σ = [some (.ref p), some (.int (n : Int)), some (.int rare), some (.bl dense), some (.ref D), s5, s6] ∧ But p H H' ∧ Wl H' p ∧ H' D = some (.lst zs) ∧
      PairsAt K H' zs ps ∧ ps.Sublist ((List.range u).flatMap (rowP n))) ⟨[], [], none, none, rfl, b4, w4, upd_same, .nil, .slnil⟩ ?_ ?_⟩
  · rintro u σ H1 lu ⟨zs, ps, s5, s6, rfl, b1, w1, hD, hP, hS⟩
    rw [Int.zero_add]
    have un : u < n := by omega
    refine ⟨_, rfl, _, _, rfl, rfl, _, rfl, _, _, rfl, ⟨by omega, by omega, by omega, by omega⟩, for_range (lo := (u : Int) + 1) (n := ((n : Int) - ((u : Int) + 1)).toNat)
      (fun k σ H' => ∃ (zs : List V) (ps : List E2) (s6 : Option V), σ = [some (.ref p), some (.int (n : Int)), some (.int rare), some (.bl dense), some (.ref D), some (.int (u : Int)), s6] ∧ But p H H' ∧ Wl H' p ∧ H' D = some (.lst zs) ∧
      PairsAt K H' zs ps ∧ ps.Sublist ((List.range u).flatMap (rowP n) ++ (List.range k).map fun j => (u, u + 1 + j))) ⟨zs, ps, s6, rfl, b1, w1, hD, hP, by rw [List.range_zero, List.map_nil, List.append_nil]; exact hS⟩ ?_ ?_⟩
    · rintro k σ H2 lk ⟨zs, ps, s6, rfl, b2, w2, hD, hP, hS⟩
      rw [show ((u : Int) + 1 + (k : Int)) = ((u + 1 + k : Nat) : Int) by omega]
      refine ⟨_, rfl, _, rfl, p, _, rfl, w2, r1, by omega, fun d2 H3 _ _ b3 w3 => ?_⟩
      have hP3 := hP.ts (TS.but b3 w2)
      have hD3 := b3 _ _ Dp hD
      refine ⟨rfl, _, rfl, rfl, _, rfl, iteB (fun _ => ?_) (fun _ => ?_)⟩
      · refine ⟨_, rfl, .inl ⟨rfl, _, SqL.of hD3⟩, _, rfl, _, rfl, (by show 2 ≤ sizeLine; decide), fun r nr => ?_⟩
        obtain ⟨t1, p1⟩ := push_pair (u, u + 1 + k) hD3 nr hP3
        have l1 : zs.length ≤ 36 := by rw [PairsAt.len hP]; exact (sub_all n9 (upto_pairs un (by omega) hS)).1
        refine ⟨D, zs, _, rfl, rfl, (same_new nr _) _ _ hD3, small1000 (by omega), zs ++ [.ref r], ps ++ [(u, u + 1 + k)], _, rfl, but_put ((b2.trans b3).trans (But.new nr)) nD0, (w3.same (same_new nr _)).put Dp, upd_same, p1, ?_⟩
        rw [List.range_succ, List.map_append, ← List.append_assoc]
        exact hS.append (List.Sublist.refl _)
      · refine ⟨zs, ps, _, rfl, b2.trans b3, w3, hD3, hP3, ?_⟩
        rw [List.range_succ, List.map_append, ← List.append_assoc]
        exact hS.trans (List.sublist_append_left ..)
    · rintro σ H2 ⟨zs, ps, s6, rfl, b2, w2, hD, hP, hS⟩
      refine ⟨zs, ps, _, _, rfl, b2, w2, hD, hP, ?_⟩
      rw [show ((n : Int) - ((u : Int) + 1)).toNat = n - (u + 1) by omega] at hS
      rw [List.range_succ, List.flatMap_append, List.flatMap_cons, List.flatMap_nil, List.append_nil]
      exact hS
  · rintro σ H1 ⟨zs, ps, s5, s6, rfl, b1, w1, hD, hP, hS⟩
    rw [show ((n : Nat) : Int).toNat = n by omega] at hS
    obtain ⟨l1, l2⟩ := sub_all n9 hS
    refine ⟨_, rfl, _, rfl, n, D, zs, ps, rfl, n9, SqL.of hD, hP, by rw [PairsAt.len hP]; omega, l2, fun x es H' s' g good _ => ?_⟩
    exact q x es H' (b1.trans (But.of s')) (w1.same s') g.at good
theorem ok_sides (F : L2.Fun K "_law_sides" "_law_sides" sSides f fd) (GD : FnOk P w K mg base CX0 1 fD dD ["well", "many"] spDraw) (bD : L2.Binds K dD ["well", "many"] []) (kD : PySem.W.keepIn K (.ref fD) = true) (mD : mg "_law_draw" = some (.ref fD))
    (GP : FnOk P w K mg base CX0 1 fP dP ["n", "pairs"] (spOfPairs K)) (bP : L2.Binds K dP ["n", "pairs"] []) (kP : PySem.W.keepIn K (.ref fP) = true) (mP : mg "_law_of_pairs" = some (.ref fP)) (mr : mg "range" = none) :
    FnOk P w K mg base CX0 2 f fd ["well", "n"] (spRandom K) := by
  refine F.ok scSides (fun vs H Q E h => ?_) (fun cdv A outer s H vs Q E hr h => ?_)
  · obtain ⟨p, n, rfl, _⟩ := h
    rfl
  obtain ⟨p, n, rfl, hW, n9, q⟩ := h
  refine ⟨_, pss_cons (ps_par (by rfl) scSides.nd (i := 2) (j := 3) rfl rfl (by decide) rfl rfl (pa_cons (pe_lst pa_nil) (pa_cons (pe_op op_fdiv (pv 1) pe_int) pa_nil)) (by rfl))
    (pss_cons (ps_for PassesOwn.never rfl (pi_range1 rfl mr (pa_cons (pv 3) pa_nil)) (pg_name (i := 4) scSides.nd rfl (.inl rfl))
      (pss_one (ps_for PassesOwn.never rfl (pi_range2 (by rfl) mr (pa_cons (pv 3) (pa_cons (pv 1) pa_nil))) (pg_name (i := 5) scSides.nd rfl (.inl rfl))
        (pss_one (ps_if (pt_cmpR op_gt (pe_call GD hr (by rfl) mD kD bD .nil pass0 (pa_cons (pv 0) (pa_cons pe_int pa_nil))) pe_int (nomark _))
          (pss_one (ps_expr (pe_bm PySem.F.plainAttrs_list PySem.F.slot_list_append PySem.F.type_list_append mt_append (pv 2) (pa_cons (pe_tup (pa_cons (pv 4) (pa_cons (pv 5) pa_nil))) pa_nil)))) pss_nil)))))
    (pss_one (ps_ret (pe_call GP hr (by rfl) mP kP bP .nil pass0 (pa_cons (pv 1) (pa_cons (pv 2) pa_nil)))))), ?_⟩
  refine ⟨(by show 0 ≤ sizeLine; decide), fun D nD => ?_⟩
  have w1 := hW.same (same_new nD (.lst []))
  have Dp : D ≠ p := hW.ne nD
  refine ⟨_, rfl, _, _, rfl, rfl, ⟨by decide, by decide⟩, _, _, rfl, ?_⟩
  obtain ⟨m, hm⟩ : ∃ m : Nat, m = n / 2 := ⟨_, rfl⟩
  refine ⟨_, rfl, (n : Int) / 2, rfl, by omega, by omega, for_range (lo := 0) (n := ((n : Int) / 2).toNat) (fun u σ H' => ∃ (zs : List V) (ps : List E2) (s5 s6 : Option V), σ = [some (.ref p), some (.int (n : Int)), some (.ref D), some (.int ((n : Int) / 2)), s5, s6] ∧ But p H H' ∧ Wl H' p ∧ H' D = some (.lst zs) ∧
      PairsAt K H' zs ps ∧ (∀ q ∈ ps, q.1 ≠ q.2 ∧ q.1 < n ∧ q.2 < n) ∧ ps.length ≤ 5 * u) ⟨[], [], none, none, rfl, But.new nD, w1, upd_same, .nil, (fun _ z => nomatch z), (by show 0 ≤ 5 * 0; omega)⟩ ?_ ?_⟩
  · rintro u σ H1 lu ⟨zs, ps, s5, s6, rfl, b1, w1, hD, hP, hS, hL⟩
    rw [Int.zero_add]
    have un : u < m := by omega
    refine ⟨_, rfl, _, rfl, _, _, rfl, ⟨by omega, by omega, by omega, by omega⟩, for_range (lo := (n : Int) / 2) (n := ((n : Int) - (n : Int) / 2).toNat)
      (fun k σ H' => ∃ (zs : List V) (ps : List E2) (s6 : Option V), σ = [some (.ref p), some (.int (n : Int)), some (.ref D), some (.int ((n : Int) / 2)), some (.int (u : Int)), s6] ∧ But p H H' ∧ Wl H' p ∧ H' D = some (.lst zs) ∧
      PairsAt K H' zs ps ∧ (∀ q ∈ ps, q.1 ≠ q.2 ∧ q.1 < n ∧ q.2 < n) ∧ ps.length ≤ 5 * u + k) ⟨zs, ps, s6, rfl, b1, w1, hD, hP, hS, hL⟩ ?_ ?_⟩
    · rintro k σ H2 lk ⟨zs, ps, s6, rfl, b2, w2, hD, hP, hS, hL⟩
      rw [show ((n : Int) / 2 + (k : Int)) = ((m + k : Nat) : Int) by omega]
      refine ⟨_, rfl, p, _, rfl, w2, by decide, by decide, fun d2 H3 _ _ b3 w3 => ?_⟩
      have hP3 := hP.ts (TS.but b3 w2)
      have hD3 := b3 _ _ Dp hD
      refine ⟨_, _, rfl, rfl, _, rfl, iteB (fun _ => ?_) (fun _ => ?_)⟩
      · refine ⟨_, rfl, .inl ⟨rfl, _, SqL.of hD3⟩, _, rfl, _, rfl, (by show 2 ≤ sizeLine; decide), fun r nr => ?_⟩
        obtain ⟨t1, p1⟩ := push_pair (u, m + k) hD3 nr hP3
        have l0 := PairsAt.len hP
        refine ⟨D, zs, _, rfl, rfl, (same_new nr _) _ _ hD3, small1000 (by omega), zs ++ [.ref r], ps ++ [(u, m + k)], _, rfl, but_put ((b2.trans b3).trans (But.new nr)) nD, (w3.same (same_new nr _)).put Dp, upd_same, p1, fun q hq => ?_, by rw [List.length_append]; show ps.length + 1 ≤ 5 * u + (k + 1); omega⟩
        rcases List.mem_append.mp hq with hq | hq
        · exact hS q hq
        · rw [List.mem_singleton.mp hq]
          show u ≠ m + k ∧ u < n ∧ m + k < n
          omega
      · exact ⟨zs, ps, _, rfl, b2.trans b3, w3, hD3, hP3, hS, by omega⟩
    · rintro σ H2 ⟨zs, ps, s6, rfl, b2, w2, hD, hP, hS, hL⟩
      exact ⟨zs, ps, _, _, rfl, b2, w2, hD, hP, hS, by omega⟩
  · rintro σ H1 ⟨zs, ps, s5, s6, rfl, b1, w1, hD, hP, hS, hL⟩
    refine ⟨_, rfl, _, rfl, n, D, zs, ps, rfl, n9, SqL.of hD, hP, by rw [PairsAt.len hP]; omega, hS, fun x es H' s' g good _ => ?_⟩
    exact q x es H' (b1.trans (But.of s')) (w1.same s') g.at good
theorem off_pairs {K : PySem.W.Frag} {H : Hp} : ∀ {xs : List V} {ps : List E2}, PairsAt K H xs ps → ∀ x ∈ xs, ∃ p ∈ ps, PairAt K H x p
  | _, _, .nil => fun _ z => nomatch z
  | _, _, .cons a b => fun x hx => by
    rcases List.mem_cons.mp hx with rfl | hx
    · exact ⟨_, List.mem_cons_self .., a⟩
    · obtain ⟨p, h1, h2⟩ := off_pairs b x hx
      exact ⟨p, List.mem_cons_of_mem _ h1, h2⟩
theorem ok_beside (F : L2.Fun K "_law_beside" "_law_beside" sBeside f fd) (GP : FnOk P w K mg base CX0 1 fP dP ["n", "pairs"] (spOfPairs K)) (bP : L2.Binds K dP ["n", "pairs"] []) (kP : PySem.W.keepIn K (.ref fP) = true) (mP : mg "_law_of_pairs" = some (.ref fP)) (mr : mg "range" = none) (mli : mg "list" = none) :
    FnOk P w K mg base CX0 2 f fd ["one", "two", "is_joined"] (spBeside K) := by
  refine F.ok scBeside (fun vs H Q E h => ?_) (fun cdv A outer s H vs Q E hr h => ?_)
  · obtain ⟨x, y, n, m, es, fs, j, rfl, _⟩ := h
    rfl
  obtain ⟨x, y, n, m, es, fs, j, rfl, ⟨g1, e1, xs1, rfl, hg1, he1, hes⟩, good1, ⟨g2, e2, xs2, rfl, hg2, he2, hfs⟩, good2, nm, few, q⟩ := h
  refine ⟨_, pss_cons (ps_asg (pe_tup (pa_cons (pe_ix ix_tup (pv 0) pe_int (fun _ _ => rfl)) (pa_cons (pe_lc (own := [("u", 3), ("v", 6)]) (g := gTup K 2 (gCons (gName 3) (gCons (gName 6) gNil))) (tt := tYes) rfl scBeside.nd (pi_tup (pe_ix ix_tup (pv 1) pe_int (fun _ _ => rfl)))
      (blkOk_by (N := ["one", "two", "is_joined", "u", "n", "far", "v"]) (sc := defScope sBeside) (by decide +kernel)) (fun _ _ _ _ _ => pg_tup (by rfl) (pgs_cons (pg_name (i := 3) scBeside.nd rfl (Or.inl rfl)) (pgs_cons (pg_name (i := 6) scBeside.nd rfl (Or.inl rfl)) pgs_nil))) (fun _ _ _ _ _ => pts_nil)
      (fun _ _ _ _ _ => pe_tup (pa_cons (pe_op op_add (pe_ix (r := rIxT K) ix_tup (pv 0) pe_int (fun _ _ => rfl)) (pv 3)) (pa_cons (pe_op op_add (pe_ix (r := rIxT K) ix_tup (pv 0) pe_int (fun _ _ => rfl)) (pv 6)) pa_nil)))) pa_nil)))
      (pg_tup (by rfl) (pgs_cons (pg_name (i := 4) scBeside.nd rfl (.inr rfl)) (pgs_cons (pg_name (i := 5) scBeside.nd rfl (.inl rfl)) pgs_nil))))
    (pss_cons (ps_if (pt_val (pv 2)) (pss_one (ps_for PassesOwn.never rfl (pi_range1 rfl mr (pa_cons (pv 4) pa_nil)) (pg_name (i := 3) scBeside.nd rfl (.inr rfl))
        (pss_one (ps_set (i := 5) scBeside.nd rfl (.inl rfl) (pe_op op_cat (pv 5) (pe_lc (own := [("v", 6)]) (g := gName 6) (tt := tYes) rfl scBeside.nd (pi_range1 rfl mr (pa_cons (pe_ix ix_tup (pv 1) pe_int (fun _ _ => rfl)) pa_nil))
          (blkOk_by (N := ["one", "two", "is_joined", "u", "n", "far", "v"]) (sc := defScope sBeside) (by decide +kernel)) (fun _ _ _ _ _ => pg_name (i := 6) scBeside.nd rfl (Or.inl rfl)) (fun _ _ _ _ _ => pts_nil)
          (fun _ _ _ _ _ => pe_tup (pa_cons (pv 3) (pa_cons (pe_op op_add (pv 4) (pv 6)) pa_nil))))))))) pss_nil)
    (pss_one (ps_ret (pe_call GP hr (by rfl) mP kP bP .nil pass0 (pa_cons (pe_op op_add (pv 4) (pe_ix ix_tup (pv 1) pe_int (fun _ _ => rfl))) (pa_cons (pe_op op_cat (pe_callTy call_list_of (by rfl) mli (by decide +kernel) (pa_cons (pe_ix ix_tup (pv 0) pe_int (fun _ _ => rfl)) pa_nil)) (pv 5)) pa_nil)))))), ?_⟩
  refine ⟨_, rfl, g1, _, _, _, rfl, rfl, hg1, rfl, ?_⟩
  refine ⟨_, rfl, g2, _, _, _, rfl, rfl, hg2, rfl, e2, rfl, ⟨_, he2⟩, fun D nD => lc_tup (K := K) (a := e2) (xs := xs2)
      (fun i H2 => Same H H2 ∧ ∃ zs ps, H2 D = some (.lst zs) ∧ zs.length = i ∧ PairsAt K H2 zs ps ∧ ∀ p ∈ ps, p.1 ≠ p.2 ∧ p.1 < n + m ∧ p.2 < n + m) ⟨same_new nD _, [], [], upd_same, rfl, .nil, fun _ z => nomatch z⟩ ?_ ?_ ?_⟩
  · rintro i H1 _ ⟨s1, _⟩
    exact Same.tup s1 he2
  · rintro i x H2 hi ⟨s2, zs, ps, hD, lz, pz, pp⟩
    obtain ⟨p, hp, t1, rfl, ht1⟩ := PairsAt.get (hfs.same s2) hi
    obtain ⟨l1, l2⟩ := good2.lt p (List.mem_of_getElem? hp)
    have hg3 := Same.tup s2 hg1
    refine ⟨t1, _, rfl, ht1, rfl, _, _, rfl, _, _, rfl, rfl, ?_⟩
    refine ⟨rfl, ?_⟩
    refine ⟨_, rfl, g1, _, _, _, rfl, rfl, hg3, rfl, _, rfl, _, _, rfl, rfl, _, rfl, g1, _, _, _, rfl, rfl, hg3, rfl, _, rfl, _, _, rfl, rfl, (by show 2 ≤ sizeLine; decide), fun r nr => ?_⟩
    obtain ⟨t1, p1⟩ := push_pair (n + p.1, n + p.2) hD nr pz
    have li : i < xs2.length := (List.getElem?_eq_some_iff.mp hi).1
    have l3 : xs2.length ≤ 36 := by rw [PairsAt.len hfs]; exact good2.few
    refine ⟨zs, (same_new nr _) _ _ hD, small1000 (by omega), same_put (s2.trans (same_new nr _)) nD, _, _, upd_same, by rw [List.length_append]; show zs.length + 1 = i + 1; omega, p1, fun r hr => ?_⟩
    rcases List.mem_append.mp hr with hr | hr
    · exact pp r hr
    · rw [List.mem_singleton.mp hr]
      show n + p.1 ≠ n + p.2 ∧ n + p.1 < n + m ∧ n + p.2 < n + m
      omega
  rintro H2 ⟨s2, zs, ps, hD, lz, pz, pp⟩
  refine ⟨(by show 2 ≤ sizeLine; decide), fun r nr => ?_⟩
  have s3 := s2.trans (same_new nr (.tup [.int (n : Int), .ref D]))
  refine ⟨r, _, rfl, SqT.of upd_same, rfl, _, _, rfl, _, _, rfl, rfl, ?_⟩
  have lf : xs2.length = fs.length := PairsAt.len hfs
  have le : xs1.length ≤ 36 := by rw [PairsAt.len hes]; exact good1.few
  have n9 : n ≤ 9 := by omega
  have fin : ∀ (B : Addr) (ys : List V) (ps : List E2) (H3 : Hp) (xs1' : List V), Same H H3 → H3 B = some (.lst ys) → PairsAt K H3 ys ps → (∀ p ∈ ps, p.1 ≠ p.2 ∧ p.1 < n + m ∧ p.2 < n + m) → ps.length ≤ 27 →
      ∀ l, H3 l = none → (upd H3 l (.lst xs1)) B = some (.lst ys) ∧ xs1.length + ys.length ≤ sizeLine ∧ ∀ c, (upd H3 l (.lst xs1)) c = none → spOfPairs K [.int ((n + m : Nat) : Int), .ref c] (upd (upd H3 l (.lst xs1)) c (.lst (xs1 ++ ys))) Q E0 := by
    intro B ys ps H3 _ s4 hB hP pp few l nl
    have l2 := PairsAt.len hP
    have l1 := PairsAt.len hes
    have s5 := same_new nl (.lst xs1)
    refine ⟨s5 _ _ hB, small (by omega), fun c nc => ?_⟩
    have s6 := same_new nc (.lst (xs1 ++ ys))
    refine ⟨n + m, c, xs1 ++ ys, es ++ ps, rfl, nm, SqL.of upd_same, (hes.same (s4.trans (s5.trans s6))).append (hP.same (s5.trans s6)), by rw [List.length_append]; omega, fun p hp => ?_, fun x gs H' s7 g good _ => q x gs H' (s4.trans ((s5.trans s6).trans s7)) g.at good⟩
    rcases List.mem_append.mp hp with hp | hp
    · have z := good1.lt p hp
      omega
    · exact pp p hp
  refine ⟨_, rfl, _, rfl, iteB (fun _ => ?_) (fun _ => ?_)⟩
  · refine ⟨_, rfl, (n : Int), rfl, by omega, by omega, for_range (lo := 0) (n := ((n : Nat) : Int).toNat) (fun u σ H' => ∃ (B : Addr) (ys : List V) (ps : List E2) (s3 s6 : Option V), σ = [some (.ref g1), some (.ref g2), some (.bl j), s3, some (.int (n : Int)), some (.ref B), s6] ∧ Same H H' ∧ H' B = some (.lst ys) ∧
      PairsAt K H' ys ps ∧ (∀ p ∈ ps, p.1 ≠ p.2 ∧ p.1 < n + m ∧ p.2 < n + m) ∧ ps.length = fs.length + u * m) ⟨D, zs, ps, none, none, rfl, s3, (same_new nr _) _ _ hD, pz.same (same_new nr _), pp, by rw [← PairsAt.len pz, lz, lf, Nat.zero_mul, Nat.add_zero]⟩ ?_ ?_⟩
    · rintro u σ H3 lu ⟨B, ys, ps, s3, s6, rfl, s4, hB, hP, pp, lp⟩
      rw [Int.zero_add]
      have un : u < n := by omega
      have hg3 := Same.tup s4 hg2
      have um : u * m + m ≤ n * m := by
        rw [← Nat.succ_mul]
        exact Nat.mul_le_mul_right m (by omega)
      refine ⟨_, rfl, _, rfl, g2, _, _, _, rfl, rfl, hg3, rfl, (m : Int), rfl, by omega, by omega, fun D nD => lc_range (lo := 0) (n := ((m : Nat) : Int).toNat)
        (fun k H2 => Same H3 H2 ∧ ∃ zs ps, H2 D = some (.lst zs) ∧ ps.length = k ∧ PairsAt K H2 zs ps ∧ ∀ p ∈ ps, p.1 ≠ p.2 ∧ p.1 < n + m ∧ p.2 < n + m) ⟨same_new nD _, [], [], upd_same, rfl, .nil, fun _ z => nomatch z⟩ ?_ ?_⟩
      · rintro k H4 lk ⟨s5, zs, ps, hD, lz, pz, pp⟩
        rw [Int.zero_add]
        refine ⟨rfl, ?_⟩
        refine ⟨_, rfl, _, rfl, _, rfl, _, _, rfl, rfl, (by show 2 ≤ sizeLine; decide), fun r nr => ?_⟩
        obtain ⟨t1, p1⟩ := push_pair (u, n + k) hD nr pz
        have l0 := PairsAt.len pz
        refine ⟨zs, (same_new nr _) _ _ hD, small1000 (by omega), same_put (s5.trans (same_new nr _)) nD, _, _, upd_same, by rw [List.length_append]; show ps.length + 1 = k + 1; omega, p1, fun r hr => ?_⟩
        rcases List.mem_append.mp hr with hr | hr
        · exact pp r hr
        · rw [List.mem_singleton.mp hr]
          show u ≠ n + k ∧ u < n + m ∧ n + k < n + m
          omega
      · rintro H4 ⟨s5, zs, ps2, hD, lz, pz, pp2⟩
        have l0 := PairsAt.len pz
        have l1 := PairsAt.len hP
        refine ⟨B, D, ys, zs, rfl, rfl, s5 _ _ hB, hD, small (by omega), fun c nc => ?_⟩
        have s7 := same_new nc (.lst (ys ++ zs))
        refine ⟨c, _, ps ++ ps2, _, _, rfl, s4.trans (s5.trans s7), upd_same, (hP.same (s5.trans s7)).append (pz.same s7), fun p hp => ?_, ?_⟩
        · rcases List.mem_append.mp hp with hp | hp
          · exact pp p hp
          · exact pp2 p hp
        · rw [List.length_append, lp, lz, Nat.succ_mul]
          omega
    · rintro σ H3 ⟨B, ys, ps, s3, s6, rfl, s4, hB, hP, pp, lp⟩
      rw [show ((n : Nat) : Int).toNat = n by omega] at lp
      refine ⟨_, rfl, _, rfl, g2, _, _, _, rfl, rfl, Same.tup s4 hg2, rfl, _, _, rfl, rfl, _, rfl, g1, _, _, _, rfl, rfl, Same.tup s4 hg1, rfl, e1, _, rfl, .inr (Same.tup s4 he1), fun l nl => ?_⟩
      obtain ⟨x1, x2, x3⟩ := fin B ys ps H3 ys s4 hB hP pp (by omega) l nl
      exact ⟨_, rfl, l, B, _, _, rfl, rfl, upd_same, x1, x2, x3⟩
  · refine ⟨_, rfl, _, rfl, g2, _, _, _, rfl, rfl, Same.tup s3 hg2, rfl, _, _, rfl, rfl, _, rfl, g1, _, _, _, rfl, rfl, Same.tup s3 hg1, rfl, e1, _, rfl, .inr (Same.tup s3 he1), fun l nl => ?_⟩
    obtain ⟨x1, x2, x3⟩ := fin D zs ps _ zs s3 ((same_new nr _) _ _ hD) (pz.same (same_new nr _)) pp (by rw [← PairsAt.len pz]; omega) l nl
    exact ⟨_, rfl, l, D, _, _, rfl, rfl, upd_same, x1, x2, x3⟩
end
end My

set_option maxHeartbeats 4000000
namespace My
open PySem PySem.Spec PyProof.Rows L2
abbrev sGrown : Stmt := top 35
abbrev sGraph : Stmt := top 36
theorem scGrown : FnScope ["well", "graph", "n", "v", "twin", "is_twin", "u", "pairs"] ["well", "graph", "n"] (defScope sGrown) := ⟨rfl, rfl, rfl, by decide +kernel, rfl, by decide +kernel, by decide +kernel⟩
theorem scGraph : FnScope ["well", "most", "n", "way", "found"] ["well", "most"] (defScope sGraph) := ⟨rfl, rfl, rfl, by decide +kernel, rfl, by decide +kernel, by decide +kernel⟩
def spGrown (K : PySem.W.Frag) : Sp := fun vs H Q _ => ∃ (p : Addr) (x : V) (m n : Nat) (es : List E2), vs = [.ref p, x, .int (n : Int)] ∧ Wl H p ∧ GraphAt K H x m es ∧ Good m es ∧ 1 ≤ m ∧ m ≤ n ∧ n ≤ 9 ∧ spGr K n p H Q
def spGraph (K : PySem.W.Frag) : Sp := fun vs H Q _ => ∃ (p : Addr) (most : Nat), vs = [.ref p, .int (most : Int)] ∧ Wl H p ∧ most ≤ 9 ∧ ∀ (x : V) (n : Nat) (es : List E2) (H' : Hp), n ≤ most → But p H H' → Wl H' p → GraphAt K H' x n es → Good n es → Q x H'
theorem good_left {n : Nat} (n9 : n ≤ 9) (es : List E2) : Good n (leftP n es) := Good.filter n9 _
theorem But.none {p D : Addr} {H H1 : Hp} (b : But p H H1) (w : Wl H1 p) (n : H1 D = none) : H D = none := by
  cases e : H D with
  | none => rfl
  | some o =>
    rw [b _ _ (w.ne n) e] at n
    cases n
section
variable {P : Program} {w : World} {K : PySem.W.Frag} {mg : Str → Option Value} {base : Heap} {f fD fP fK fB fU fR fS fF fG fO fA fC : Addr} {fd dD dP dK dB dU dR dS dF dG dO dA dC : FuncData}
theorem ok_folded (F : L2.Fun K "_law_folded" "_law_folded" sFolded f fd) (GD : FnOk P w K mg base CX0 1 fD dD ["well", "many"] spDraw) (bD : L2.Binds K dD ["well", "many"] []) (kD : PySem.W.keepIn K (.ref fD) = true) (mD : mg "_law_draw" = some (.ref fD))
    (GB : FnOk P w K mg base CX0 2 fB dB ["one", "two", "is_joined"] (spBeside K)) (bB : L2.Binds K dB ["one", "two", "is_joined"] []) (kB : PySem.W.keepIn K (.ref fB) = true) (mB : mg "_law_beside" = some (.ref fB))
    (GU : FnOk P w K mg base CX0 1 fU dU ["graph"] (spTurned K)) (bU : L2.Binds K dU ["graph"] []) (kU : PySem.W.keepIn K (.ref fU) = true) (mU : mg "_law_turned" = some (.ref fU)) (mr : mg "range" = none) :
    FnOk P w K mg base CX0 3 f fd ["well", "n"] (spFolded K) := by
  refine F.ok scFolded (fun vs H Q E h => ?_) (fun cdv A outer s H vs Q E hr h => ?_)
  · obtain ⟨p, n, rfl, _⟩ := h
    rfl
  obtain ⟨p, n, rfl, hW, n1, n9, q⟩ := h
  refine ⟨_, pss_cons (ps_set (i := 2) scFolded.nd rfl (.inl rfl) (pe_tup (pa_cons pe_int (pa_cons (pe_tup pa_nil) pa_nil))))
    (pss_cons (ps_for PassesOwn.never rfl (pi_range1 rfl mr (pa_cons (pe_op op_sub (pv 1) pe_int) pa_nil)) (pg_name (i := 3) scFolded.nd rfl (.inl rfl))
      (pss_cons (ps_set (i := 2) scFolded.nd rfl (.inl rfl) (pe_call GB hr (by rfl) mB kB bB .nil pass0 (pa_cons (pv 2) (pa_cons (pe_tup (pa_cons pe_int (pa_cons (pe_tup pa_nil) pa_nil))) (pa_cons (pe_cmpR op_eq (pe_call GD (hr.mono (by decide)) (by rfl) mD kD bD .nil pass0 (pa_cons (pv 0) (pa_cons pe_int pa_nil))) pe_int (nomark _)) pa_nil)))))
      (pss_one (ps_if (PW.pt (pw_and (pt_cmpR op_gt (pe_ix ix_tup (pv 2) pe_int (fun _ _ => rfl)) pe_int (nomark _)) (pw_and1 (pt_cmpR op_eq (pe_call GD (hr.mono (by decide)) (by rfl) mD kD bD .nil pass0 (pa_cons (pv 0) (pa_cons pe_int pa_nil))) pe_int (nomark _)))))
        (pss_one (ps_set (i := 2) scFolded.nd rfl (.inl rfl) (pe_call GU (hr.mono (by decide)) (by rfl) mU kU bU .nil pass0 (pa_cons (pv 2) pa_nil)))) pss_nil))))
    (pss_one (ps_ret (pv 2)))), ?_⟩
  have one : ∀ (H1 : Hp) (e : Addr) (t : Addr), H1 e = none → (upd H1 e (.tup [])) t = none → GraphAt K (upd (upd H1 e (.tup [])) t (.tup [.int 1, .ref e])) (.ref t) 1 [] := fun H1 e t ne nt =>
    ⟨t, e, [], rfl, SqT.of upd_same, SqT.of ((same_new nt _) _ _ upd_same), .nil⟩
  have g1 : Good 1 [] := Good.nil (by decide)
  refine ⟨(by show 0 ≤ sizeLine; decide), fun e ne => ?_⟩
  refine ⟨(by show 2 ≤ sizeLine; decide), fun t nt => ?_⟩
  have s1 := (same_new ne (.tup [])).trans (same_new nt (.tup [.int 1, .ref e]))
  refine ⟨_, rfl, _, _, rfl, rfl, ((n : Int) - 1), rfl, by omega, by omega, for_range (lo := 0) (n := ((n : Int) - 1).toNat) (fun i σ H' => ∃ (x : V) (es : List E2) (s3 : Option V), σ = [some (.ref p), some (.int (n : Int)), some x, s3] ∧ But p H H' ∧ Wl H' p ∧ GraphAt K H' x (i + 1) es ∧ Good (i + 1) es)
    ⟨_, [], none, rfl, But.of s1, hW.same s1, one H e t ne nt, g1⟩ ?_ ?_⟩
  · rintro i σ H1 li ⟨x, es, s3, rfl, b1, w1, hx, gx⟩
    refine ⟨_, rfl, (by show 0 ≤ sizeLine; decide), fun e ne => ?_⟩
    refine ⟨(by show 2 ≤ sizeLine; decide), fun t nt => ?_⟩
    have s2 := (same_new ne (.tup [])).trans (same_new nt (.tup [.int 1, .ref e]))
    have w2 := w1.same s2
    refine ⟨_, rfl, p, _, rfl, w2, by decide, by decide, fun d H2 _ _ b2 w3 => ?_⟩
    have t2 := TS.but b2 w2
    refine ⟨rfl, x, .ref t, i + 1, 1, es, [], _, rfl, (hx.same s2).ts t2, gx, (one H1 e t ne nt).ts t2, g1, by omega, by show 0 + (i + 1) * 1 ≤ 27; omega, fun z gs H3 s3 hz gz => ?_⟩
    have b3 := b1.trans ((But.of s2).trans (b2.trans (But.of s3)))
    have w4 := w3.same s3
    have hz0 := hz
    obtain ⟨tz, ez, xz, rfl, hz1, hz2, hz3⟩ := hz
    refine ⟨_, rfl, tz, _, _, _, rfl, rfl, hz1, rfl, _, _, rfl, rfl, _, rfl, iteB (fun _ => ?_) (fun _ => iteF ?_)⟩
    · refine ⟨_, rfl, p, _, rfl, w4, by decide, by decide, fun d2 H4 _ _ b4 w5 => ?_⟩
      have t4 := TS.but b4 w4
      refine ⟨rfl, _, rfl, iteB (fun _ => ?_) (fun _ => ?_)⟩
      · refine ⟨_, rfl, .ref tz, i + 1 + 1, gs, rfl, hz0.ts t4, gz.n9, fun y H5 s5 hy => ?_⟩
        exact ⟨y, _, _, rfl, b3.trans (b4.trans (But.of s5)), w5.same s5, hy.at, good_left gz.n9 gs⟩
      · exact ⟨_, _, _, rfl, b3.trans b4, w5, hz0.ts t4, gz⟩
    · exact ⟨_, _, _, rfl, b3, w4, hz0, gz⟩
  · rintro σ H1 ⟨x, es, s3, rfl, b1, w1, hx, gx⟩
    rw [show ((n : Int) - 1).toNat + 1 = n by omega] at hx gx
    exact ⟨_, rfl, q x es H1 b1 w1 hx gx⟩
theorem ok_grown (F : L2.Fun K "_law_grown" "_law_grown" sGrown f fd) (GD : FnOk P w K mg base CX0 1 fD dD ["well", "many"] spDraw) (bD : L2.Binds K dD ["well", "many"] []) (kD : PySem.W.keepIn K (.ref fD) = true) (mD : mg "_law_draw" = some (.ref fD))
    (GP : FnOk P w K mg base CX0 1 fP dP ["n", "pairs"] (spOfPairs K)) (bP : L2.Binds K dP ["n", "pairs"] []) (kP : PySem.W.keepIn K (.ref fP) = true) (mP : mg "_law_of_pairs" = some (.ref fP)) (mr : mg "range" = none) (mli : mg "list" = none) (mn : mg "min" = none) (mx : mg "max" = none) :
    FnOk P w K mg base CX0 2 f fd ["well", "graph", "n"] (spGrown K) := by
  refine F.ok scGrown (fun vs H Q E h => ?_) (fun cdv A outer s H vs Q E hr h => ?_)
  · obtain ⟨p, x, m, n, es, rfl, _⟩ := h
    rfl
  obtain ⟨p, x, m, n, es, rfl, hW, hx, gx, m1, mn', n9, q⟩ := h
  refine ⟨_, pss_cons (ps_for PassesOwn.never rfl (pi_range2 (by rfl) mr (pa_cons (pe_ix ix_tup (pv 1) pe_int (fun _ _ => rfl)) (pa_cons (pv 2) pa_nil))) (pg_name (i := 3) scGrown.nd rfl (.inr rfl))
      (pss_cons (ps_asg (pe_tup (pa_cons (pe_call GD hr (by rfl) mD kD bD .nil pass0 (pa_cons (pv 0) (pa_cons (pv 3) pa_nil))) (pa_cons (pe_cmpR op_eq (pe_call GD hr (by rfl) mD kD bD .nil pass0 (pa_cons (pv 0) (pa_cons pe_int pa_nil))) pe_int (nomark _)) pa_nil)))
          (pg_tup (by rfl) (pgs_cons (pg_name (i := 4) scGrown.nd rfl (.inr rfl)) (pgs_cons (pg_name (i := 5) scGrown.nd rfl (.inl rfl)) pgs_nil))))
      (pss_cons (ps_set (i := 7) scGrown.nd rfl (.inl rfl) (pe_ifExp (pt_val (pv 5)) (pe_lc (own := [("u", 6)]) (g := gName 6) rfl scGrown.nd (pi_range1 rfl mr (pa_cons (pv 3) pa_nil))
          (blkOk_by (N := ["well", "graph", "n", "v", "twin", "is_twin", "u", "pairs"]) (sc := defScope sGrown) (by decide +kernel)) (fun _ _ _ _ _ => pg_name (i := 6) scGrown.nd rfl (Or.inl rfl))
          (fun _ _ _ _ _ => pts_one (pt_cmpR (r := rInP id K) (op_inP hr.units) (pe_tup (pa_cons (pe_callB (id := "min") (r := fun xs H Q => ∃ i j, xs = [.int i, .int j] ∧ Q (.int (if j < i then j else i)) H) (call_min2 rfl) (by rfl) mn (by decide +kernel) (pa_cons (pv 6) (pa_cons (pv 4) pa_nil)))
              (pa_cons (pe_callB (id := "max") (r := fun xs H Q => ∃ i j, xs = [.int i, .int j] ∧ Q (.int (if j > i then j else i)) H) (call_max2 rfl) (by rfl) mx (by decide +kernel) (pa_cons (pv 6) (pa_cons (pv 4) pa_nil))) pa_nil))) (pe_ix (r := rIxT K) ix_tup (pv 1) pe_int (fun _ _ => rfl)) (by rfl)))
          (fun _ _ _ _ _ => pe_tup (pa_cons (pv 6) (pa_cons (pv 3) pa_nil)))) (pe_lst pa_nil)))
      (pss_cons (ps_for PassesOwn.never rfl (pi_range1 rfl mr (pa_cons (pv 3) pa_nil)) (pg_name (i := 6) scGrown.nd rfl (.inl rfl))
        (pss_one (ps_if (PW.pt (pw_and (pt_not (pt_val (pv 5))) (pw_and1 (pt_cmpR op_eq (pe_call GD hr (by rfl) mD kD bD .nil pass0 (pa_cons (pv 0) (pa_cons pe_int pa_nil))) pe_int (nomark _)))))
          (pss_one (ps_expr (pe_bm PySem.F.plainAttrs_list PySem.F.slot_list_append PySem.F.type_list_append mt_append (pv 7) (pa_cons (pe_tup (pa_cons (pv 6) (pa_cons (pv 3) pa_nil))) pa_nil)))) pss_nil)))
      (pss_one (ps_set (i := 1) scGrown.nd rfl (.inr rfl) (pe_call GP hr (by rfl) mP kP bP .nil pass0 (pa_cons (pe_op op_add (pv 3) pe_int) (pa_cons (pe_op op_cat (pe_callTy call_list_of (by rfl) mli (by decide +kernel) (pa_cons (pe_ix ix_tup (pv 1) pe_int (fun _ _ => rfl)) pa_nil)) (pv 7)) pa_nil)))))))))
    (pss_one (ps_ret (pv 1))), ?_⟩
  have hx0 := hx
  obtain ⟨g0, e0, xs0, rfl, hg0, he0, hes0⟩ := hx
  refine ⟨_, rfl, g0, _, _, _, rfl, rfl, hg0, rfl, _, rfl, (m : Int), (n : Int), rfl, ⟨by omega, by omega, by omega, by omega⟩, for_range (lo := (m : Int)) (n := ((n : Int) - (m : Int)).toNat)
    (fun i σ H' => ∃ (x : V) (es : List E2) (s3 s4 s5 s6 s7 : Option V), σ = [some (.ref p), some x, some (.int (n : Int)), s3, s4, s5, s6, s7] ∧ But p H H' ∧ Wl H' p ∧ GraphAt K H' x (m + i) es ∧ Good (m + i) es)
    ⟨_, es, none, none, none, none, none, rfl, But.refl _ _, hW, hx0, gx⟩ ?_ ?_⟩
  · rintro i σ H1 li ⟨x, es, s3, s4, s5, s6, s7, rfl, b1, w1, hx, gx⟩
    rw [show ((m : Int) + (i : Int)) = ((m + i : Nat) : Int) by omega]
    obtain ⟨v, hv⟩ : ∃ v, v = m + i := ⟨_, rfl⟩
    rw [← hv] at hx gx ⊢
    have v0 : 0 < v := by omega
    have vn : v < n := by omega
    refine ⟨_, rfl, _, rfl, p, _, rfl, w1, by omega, by omega, fun tw H2 tw0 tw1 b2 w2 => ?_⟩
    have t2 := TS.but b2 w1
    refine ⟨_, rfl, p, _, rfl, w2, by decide, by decide, fun d H3 _ _ b3 w3 => ?_⟩
    have t3 := TS.but b3 w2
    obtain ⟨tn, rfl⟩ : ∃ tn : Nat, tw = (tn : Int) := ⟨tw.toNat, by omega⟩
    refine ⟨rfl, (by show 2 ≤ sizeLine; decide), fun r nr => ?_⟩
    refine ⟨r, _, rfl, SqT.of upd_same, rfl, _, _, rfl, _, _, rfl, rfl, ?_⟩
    generalize hd : (decide (V.int d = V.int 0)) = istw
    have s4 := same_new nr (.tup [.int (tn : Int), .bl istw])
    generalize he4 : upd H3 r (.tup [.int (tn : Int), .bl istw]) = H4 at s4 ⊢
    have b4 : But p H H4 := (b1.trans b2).trans (b3.trans (But.of s4))
    have w4 : Wl H4 p := w3.same s4
    have hx4 : GraphAt K H4 x v es := ((hx.ts t2).ts t3).same s4
    refine' joinS (i := 7) (R := fun y H5 => ∃ (D : Addr) (zs : List V) (ps : List E2), y = .ref D ∧ H5 D = some (.lst zs) ∧ zs.length ≤ v ∧ PairsAt K H5 zs ps ∧ (∀ q ∈ ps, q.1 ≠ q.2 ∧ q.1 < v + 1 ∧ q.2 < v + 1) ∧ Same H4 H5 ∧ H4 D = none) (fun go => ?_) ?_
    rotate_left 2
    · refine ⟨_, rfl, _, rfl, iteB (fun _ => ?_) (fun _ => ?_)⟩
      · refine ⟨_, rfl, (v : Int), rfl, by omega, by omega, fun D nD => lc_range (lo := 0) (n := ((v : Nat) : Int).toNat)
          (fun k H2 => Same H4 H2 ∧ ∃ zs ps, H2 D = some (.lst zs) ∧ zs.length ≤ k ∧ PairsAt K H2 zs ps ∧ ∀ p ∈ ps, p.1 ≠ p.2 ∧ p.1 < v + 1 ∧ p.2 < v + 1) ⟨same_new nD _, [], [], upd_same, Nat.le_refl _, .nil, fun _ z => nomatch z⟩ ?_ ?_⟩
        · rintro k H5 lk ⟨s5, zs, ps, hD, lz, pz, pp⟩
          rw [Int.zero_add]
          refine ⟨rfl, ?_⟩
          refine ⟨_, rfl, _, rfl, _, _, rfl, _, rfl, _, rfl, _, _, rfl, (by show 2 ≤ sizeLine; decide), fun r2 nr2 => ?_⟩
          have e1 : (if ((tn : Nat) : Int) < ((k : Nat) : Int) then ((tn : Nat) : Int) else ((k : Nat) : Int)) = ((min k tn : Nat) : Int) := by split <;> omega
          have e2 : (if ((tn : Nat) : Int) > ((k : Nat) : Int) then ((tn : Nat) : Int) else ((k : Nat) : Int)) = ((max k tn : Nat) : Int) := by split <;> omega
          rw [e1, e2] at *
          have s6 := same_new nr2 (.tup [.int ((min k tn : Nat) : Int), .int ((max k tn : Nat) : Int)])
          obtain ⟨g, e, xs, rfl, hg, he, hes⟩ := hx4.same (s5.trans s6)
          refine ⟨_, rfl, g, _, _, _, rfl, rfl, hg, rfl, (min k tn, max k tn), e, xs, es, ⟨r2, rfl, SqT.of upd_same⟩, rfl, he, hes, _, rfl, iteB (fun _ => ?_) (fun _ => ?_)⟩
          · refine ⟨_, rfl, _, rfl, (by show 2 ≤ sizeLine; decide), fun r3 nr3 => ?_⟩
            have hD6 := s6 _ _ hD
            obtain ⟨t1, p1⟩ := push_pair (k, v) hD6 nr3 (pz.same s6)
            refine ⟨zs, (same_new nr3 _) _ _ hD6, small1000 (by omega), same_put (s5.trans (s6.trans (same_new nr3 _))) nD, _, _, upd_same, by rw [List.length_append]; show zs.length + 1 ≤ k + 1; omega, p1, fun q hq => ?_⟩
            rcases List.mem_append.mp hq with hq | hq
            · exact pp q hq
            · rw [List.mem_singleton.mp hq]
              show k ≠ v ∧ k < v + 1 ∧ v < v + 1
              omega
          · exact ⟨s5.trans s6, zs, ps, s6 _ _ hD, by omega, pz.same s6, pp⟩
        · rintro H5 ⟨s5, zs, ps, hD, lz, pz, pp⟩
          exact go _ _ ⟨D, zs, ps, rfl, hD, by omega, pz, pp, s5, nD⟩
      · refine ⟨(by show 0 ≤ sizeLine; decide), fun D nD => ?_⟩
        exact go _ _ ⟨D, [], [], rfl, upd_same, by show 0 ≤ v; omega, .nil, (fun _ z => nomatch z), same_new nD _, nD⟩
    rintro _ H5 ⟨D, zs, ps, rfl, hD, lz, pz, pp, s5, nD⟩
    have nD0 : H D = none := b4.none w4 nD
    have Dp : D ≠ p := w4.ne nD
    refine ⟨_, rfl, (v : Int), rfl, by omega, by omega, for_range (lo := 0) (n := ((v : Nat) : Int).toNat)
      (fun k σ H' => ∃ (zs : List V) (ps : List E2) (s6 : Option V), σ = [some (.ref p), some x, some (.int (n : Int)), some (.int (v : Int)), some (.int (tn : Int)), some (.bl istw), s6, some (.ref D)] ∧ But p H H' ∧ Wl H' p ∧ H' D = some (.lst zs) ∧ zs.length ≤ v + k ∧ GraphAt K H' x v es ∧
        PairsAt K H' zs ps ∧ (∀ q ∈ ps, q.1 ≠ q.2 ∧ q.1 < v + 1 ∧ q.2 < v + 1)) ⟨zs, ps, s6, rfl, b4.trans (But.of s5), w4.same s5, hD, by omega, hx4.same s5, pz, pp⟩ ?_ ?_⟩
    · rintro k σ H6 lk ⟨zs, ps, s6, rfl, b6, w6, hD, lz, hx6, pz, pp⟩
      rw [Int.zero_add]
      refine ⟨_, rfl, _, rfl, iteB (fun _ => ?_) (fun _ => iteF ?_)⟩
      · refine ⟨_, rfl, p, _, rfl, w6, by decide, by decide, fun d2 H7 _ _ b7 w7 => ?_⟩
        have t7 := TS.but b7 w6
        have hD7 := b7 _ _ Dp hD
        refine ⟨rfl, _, rfl, iteB (fun _ => ?_) (fun _ => ?_)⟩
        · refine ⟨_, rfl, .inl ⟨rfl, _, SqL.of hD7⟩, _, rfl, _, rfl, (by show 2 ≤ sizeLine; decide), fun r nr => ?_⟩
          obtain ⟨t1, p1⟩ := push_pair (k, v) hD7 nr (pz.ts t7)
          refine ⟨D, zs, _, rfl, rfl, (same_new nr _) _ _ hD7, small1000 (by omega), zs ++ [.ref r], ps ++ [(k, v)], _, rfl, but_put ((b6.trans b7).trans (But.new nr)) nD0, (w7.same (same_new nr _)).put Dp, upd_same, by rw [List.length_append]; show zs.length + 1 ≤ v + (k + 1); omega, (hx6.ts t7).ts t1, p1, fun q hq => ?_⟩
          rcases List.mem_append.mp hq with hq | hq
          · exact pp q hq
          · rw [List.mem_singleton.mp hq]
            show k ≠ v ∧ k < v + 1 ∧ v < v + 1
            omega
        · exact ⟨zs, ps, _, rfl, b6.trans b7, w7, hD7, by omega, hx6.ts t7, pz.ts t7, pp⟩
      · exact ⟨zs, ps, _, rfl, b6, w6, hD, by omega, hx6, pz, pp⟩
    · rintro σ H6 ⟨zs, ps, s6, rfl, b6, w6, hD, lz, hx6, pz, pp⟩
      rw [show ((v : Nat) : Int).toNat = v by omega] at lz
      obtain ⟨g, e, xs, rfl, hg, he, hes⟩ := hx6
      have l1 := PairsAt.len hes
      have l2 := gx.few
      have l3 := PairsAt.len pz
      refine ⟨_, rfl, _, _, rfl, rfl, _, rfl, g, _, _, _, rfl, rfl, hg, rfl, e, _, rfl, .inr he, fun l nl => ?_⟩
      have s7 := same_new nl (.lst xs)
      refine ⟨_, rfl, l, D, _, _, rfl, rfl, upd_same, s7 _ _ hD, small (by omega), fun c nc => ?_⟩
      have s8 := same_new nc (.lst (xs ++ zs))
      refine ⟨v + 1, c, xs ++ zs, es ++ ps, rfl, by omega, SqL.of upd_same, (hes.same (s7.trans s8)).append (pz.same (s7.trans s8)), by rw [List.length_append]; omega, fun q hq => ?_, fun y gs H' s9 hy gy _ => ?_⟩
      · rcases List.mem_append.mp hq with hq | hq
        · have z := gx.lt q hq
          omega
        · exact pp q hq
      · have s10 := (s7.trans s8).trans s9
        exact ⟨y, gs, _, _, _, _, _, rfl, b6.trans (But.of s10), w6.same s10, by rw [show m + (i + 1) = v + 1 by omega]; exact hy.at, by rw [show m + (i + 1) = v + 1 by omega]; exact gy⟩
  · rintro σ H1 ⟨x, es, s3, s4, s5, s6, s7, rfl, b1, w1, hx, gx⟩
    rw [show m + ((n : Int) - (m : Int)).toNat = n by omega] at hx gx
    exact ⟨_, rfl, q x es H1 b1 w1 hx gx⟩
theorem ok_graph (F : L2.Fun K "_law_graph" "_law_graph" sGraph f fd) (GD : FnOk P w K mg base CX0 1 fD dD ["well", "many"] spDraw) (bD : L2.Binds K dD ["well", "many"] []) (kD : PySem.W.keepIn K (.ref fD) = true) (mD : mg "_law_draw" = some (.ref fD))
    (GA : FnOk P w K mg base CX0 3 fA dA ["well", "n"] (spRandom K)) (bA : L2.Binds K dA ["well", "n"] []) (kA : PySem.W.keepIn K (.ref fA) = true) (mA : mg "_law_random" = some (.ref fA))
    (GS : FnOk P w K mg base CX0 2 fS dS ["well", "n"] (spRandom K)) (bS : L2.Binds K dS ["well", "n"] []) (kS : PySem.W.keepIn K (.ref fS) = true) (mS : mg "_law_sides" = some (.ref fS))
    (GF : FnOk P w K mg base CX0 3 fF dF ["well", "n"] (spFolded K)) (bF : L2.Binds K dF ["well", "n"] []) (kF : PySem.W.keepIn K (.ref fF) = true) (mF : mg "_law_folded" = some (.ref fF))
    (GG : FnOk P w K mg base CX0 2 fG dG ["well", "graph", "n"] (spGrown K)) (bG : L2.Binds K dG ["well", "graph", "n"] []) (kG : PySem.W.keepIn K (.ref fG) = true) (mG : mg "_law_grown" = some (.ref fG))
    (GR : FnOk P w K mg base CX0 2 fR dR ["many"] (spRound K)) (bR : L2.Binds K dR ["many"] []) (kR : PySem.W.keepIn K (.ref fR) = true) (mR : mg "_law_round" = some (.ref fR))
    (GK : FnOk P w K mg base CX0 2 fK dK ["well", "some"] (spPick K)) (bK : L2.Binds K dK ["well", "some"] []) (kK : PySem.W.keepIn K (.ref fK) = true) (mK : mg "_law_pick" = some (.ref fK))
    (GU : FnOk P w K mg base CX0 1 fU dU ["graph"] (spTurned K)) (bU : L2.Binds K dU ["graph"] []) (kU : PySem.W.keepIn K (.ref fU) = true) (mU : mg "_law_turned" = some (.ref fU))
    (GC : FnOk P w K mg base CX0 2 fC dC ["graph", "names"] (spCalled K)) (bC : L2.Binds K dC ["graph", "names"] []) (kC : PySem.W.keepIn K (.ref fC) = true) (mC : mg "_law_called" = some (.ref fC))
    (GO : FnOk P w K mg base CX0 2 fO dO ["well", "many"] (spOrder K)) (bO : L2.Binds K dO ["well", "many"] []) (kO : PySem.W.keepIn K (.ref fO) = true) (mO : mg "_law_order" = some (.ref fO))
    (mx : mg "max" = none) : FnOk P w K mg base CX0 4 f fd ["well", "most"] (spGraph K) := by
  refine F.ok scGraph (fun vs H Q E h => ?_) (fun cdv A outer s H vs Q E hr h => ?_)
  · obtain ⟨p, n, rfl, _⟩ := h
    rfl
  obtain ⟨p, most, rfl, hW, m9, q⟩ := h
  refine ⟨_, (pss_cons (ps_par (by rfl) scGraph.nd (i := 2) (j := 3) rfl rfl (by decide) rfl rfl (pa_cons (pe_call GD (hr.mono (by decide)) (by rfl) mD kD bD .nil pass0 (pa_cons (pv 0) (pa_cons (pe_op op_add (pv 1) pe_int) pa_nil))) (pa_cons (pe_call GD (hr.mono (by decide)) (by rfl) mD kD bD .nil pass0 (pa_cons (pv 0) (pa_cons pe_int pa_nil))) pa_nil)) (by rfl))
    (pss_cons (ps_set (i := 2) scGraph.nd rfl (.inl rfl) (pe_ifExp (pt_cmpR op_eq (pe_call GD (hr.mono (by decide)) (by rfl) mD kD bD .nil pass0 (pa_cons (pv 0) (pa_cons pe_int pa_nil))) pe_int (nomark _)) (pv 2) (pe_callB (call_max2 rfl) (by rfl) mx (by decide +kernel) (pa_cons (pv 2) (pa_cons (pe_op op_sub (pv 1) (pe_call GD (hr.mono (by decide)) (by rfl) mD kD bD .nil pass0 (pa_cons (pv 0) (pa_cons pe_int pa_nil)))) pa_nil)))))
    (pss_cons (ps_set (i := 4) scGraph.nd rfl (.inl rfl) (pe_call GA (hr.mono (by decide)) (by rfl) mA kA bA .nil pass0 (pa_cons (pv 0) (pa_cons (pv 2) pa_nil))))
    (pss_cons (ps_if (pt_cmpR op_eq (pv 3) pe_int (nomark _)) (pss_one (ps_set (i := 4) scGraph.nd rfl (.inl rfl) (pe_call GS (hr.mono (by decide)) (by rfl) mS kS bS .nil pass0 (pa_cons (pv 0) (pa_cons (pv 2) pa_nil))))) pss_nil)
    (pss_cons (ps_if (PW.pt (pw_and (pt_cmpR op_eq (pv 3) pe_int (nomark _)) (pw_and1 (pt_cmpR op_gt (pv 2) pe_int (nomark _))))) (pss_one (ps_set (i := 4) scGraph.nd rfl (.inl rfl) (pe_call GF (hr.mono (by decide)) (by rfl) mF kF bF .nil pass0 (pa_cons (pv 0) (pa_cons (pv 2) pa_nil))))) pss_nil)
    (pss_cons (ps_if (PW.pt (pw_and (pt_cmpR op_in_seq (pv 3) (pe_tup (pa_cons pe_int (pa_cons pe_int (pa_cons pe_int pa_nil)))) (by rfl)) (pw_and1 (pt_cmpR op_gt (pv 1) pe_int (nomark _))))) (pss_one (ps_set (i := 4) scGraph.nd rfl (.inl rfl) (pe_call GG (hr.mono (by decide)) (by rfl) mG kG bG .nil pass0 (pa_cons (pv 0) (pa_cons (pe_call GR (hr.mono (by decide)) (by rfl) mR kR bR .nil pass0 (pa_cons pe_int pa_nil)) (pa_cons (pe_op op_add pe_int (pe_call GD (hr.mono (by decide)) (by rfl) mD kD bD .nil pass0 (pa_cons (pv 0) (pa_cons (pe_op op_sub (pv 1) pe_int) pa_nil)))) pa_nil)))))) pss_nil)
    (pss_cons (ps_if (PW.pt (pw_and (pt_cmpR op_eq (pv 3) pe_int (nomark _)) (pw_and1 (pt_cmpR op_gt (pv 1) pe_int (nomark _))))) (pss_one (ps_set (i := 4) scGraph.nd rfl (.inl rfl) (pe_call GG (hr.mono (by decide)) (by rfl) mG kG bG .nil pass0 (pa_cons (pv 0) (pa_cons (pe_call GR (hr.mono (by decide)) (by rfl) mR kR bR .nil pass0 (pa_cons (pe_call GK (hr.mono (by decide)) (by rfl) mK kK bK .nil pass0 (pa_cons (pv 0) (pa_cons (pe_tup (pa_cons pe_int (pa_cons pe_int (pa_cons pe_int pa_nil)))) pa_nil))) pa_nil)) (pa_cons (pv 1) pa_nil)))))) pss_nil)
    (pss_cons (ps_if (PW.pt (pw_and (pt_cmpR op_eq (pv 3) pe_int (nomark _)) (pw_and1 (pt_cmpR op_gt (pv 1) pe_int (nomark _))))) (pss_one (ps_set (i := 4) scGraph.nd rfl (.inl rfl) (pe_call GG (hr.mono (by decide)) (by rfl) mG kG bG .nil pass0 (pa_cons (pv 0) (pa_cons (pe_call GR (hr.mono (by decide)) (by rfl) mR kR bR .nil pass0 (pa_cons pe_int pa_nil)) (pa_cons (pe_op op_add pe_int (pe_call GD (hr.mono (by decide)) (by rfl) mD kD bD .nil pass0 (pa_cons (pv 0) (pa_cons (pe_op op_sub (pv 1) pe_int) pa_nil)))) pa_nil)))))) pss_nil)
    (pss_cons (ps_if (pt_cmpR op_eq (pe_call GD (hr.mono (by decide)) (by rfl) mD kD bD .nil pass0 (pa_cons (pv 0) (pa_cons pe_int pa_nil))) pe_int (nomark _)) (pss_one (ps_set (i := 4) scGraph.nd rfl (.inl rfl) (pe_call GU (hr.mono (by decide)) (by rfl) mU kU bU .nil pass0 (pa_cons (pv 4) pa_nil)))) pss_nil)
    (pss_one (ps_ret (pe_call GC (hr.mono (by decide)) (by rfl) mC kC bC .nil pass0 (pa_cons (pv 4) (pa_cons (pe_call GO (hr.mono (by decide)) (by rfl) mO kO bO .nil pass0 (pa_cons (pv 0) (pa_cons (pe_ix ix_tup (pv 4) pe_int (fun _ _ => rfl)) pa_nil))) pa_nil)))))))))))))), ?_⟩
  refine ⟨_, rfl, _, rfl, _, _, rfl, rfl, p, _, rfl, hW, by omega, by omega, fun n0 H1 l0 u0 b1 w1 => ?_⟩
  refine ⟨_, rfl, p, _, rfl, w1, by decide, by decide, fun way H2 l1 u1 b2 w2 => ?_⟩
  refine ⟨_, _, rfl, ?_⟩
  refine ⟨_, rfl, p, _, rfl, w2, by decide, by decide, fun d H3 _ _ b3 w3 => ?_⟩
  have b03 : But p H H3 := b1.trans (b2.trans b3)
  refine ⟨rfl, _, rfl, ?_⟩
  obtain ⟨n1, rfl⟩ : ∃ n1 : Nat, n0 = (n1 : Int) := ⟨n0.toNat, by omega⟩
  refine' joinS (i := 2) (R := fun y H' => ∃ n : Nat, y = .int (n : Int) ∧ n ≤ most ∧ But p H H' ∧ Wl H' p) (fun go => ?_) ?_
  rotate_left 2
  · refine iteB (fun _ => ?_) (fun _ => ?_)
    · exact ⟨_, rfl, go _ _ ⟨n1, rfl, by omega, b03, w3⟩⟩
    · refine ⟨_, rfl, _, rfl, _, rfl, p, _, rfl, w3, by decide, by decide, fun d2 H4 l4 u4 b4 w4 => ?_⟩
      refine ⟨_, _, rfl, rfl, _, _, rfl, go _ _ ⟨(max n1 (((most : Int) - d2).toNat)), ?_, by omega, b03.trans b4, w4⟩⟩
      congr 1
      split <;> omega
  rintro _ H4 ⟨n, rfl, nm, b4, w4⟩
  have n9 : n ≤ 9 := by omega
  refine ⟨_, rfl, _, rfl, p, n, rfl, w4, n9, fun x5 es5 H5 b45 w5 h5 g5 => ?_⟩
  have b5 := b4.trans b45
  have m5 := nm
  refine' joinT (R := fun σ H' => ∃ (y : V) (m : Nat) (es : List E2), σ = [some (.ref p), some (.int (most : Int)), some (.int (n : Int)), some (.int way), some y] ∧ m ≤ most ∧ But p H H' ∧ Wl H' p ∧ GraphAt K H' y m es ∧ Good m es) (fun go => ?_) ?_
  rotate_left 1
  · refine ⟨_, rfl, rfl, _, rfl, iteB (fun _ => ?tt1) (fun _ => ?ff1)⟩
    case ff1 => exact go _ _ ⟨x5, n, es5, rfl, m5, b5, w5, h5, g5⟩
    case tt1 => exact ⟨_, rfl, _, rfl, p, n, rfl, w5, n9, fun x es H' b w' hx gx => go _ _ ⟨x, n, es, rfl, nm, b5.trans b, w', hx, gx⟩⟩
  rintro _ H6 ⟨x6, m6, es6, rfl, n6, b6, w6, h6, g6⟩
  refine' joinT (R := fun σ H' => ∃ (y : V) (m : Nat) (es : List E2), σ = [some (.ref p), some (.int (most : Int)), some (.int (n : Int)), some (.int way), some y] ∧ m ≤ most ∧ But p H H' ∧ Wl H' p ∧ GraphAt K H' y m es ∧ Good m es) (fun go => ?_) ?_
  rotate_left 1
  · refine ⟨_, rfl, rfl, _, rfl, iteB (fun _ => ?tt2) (fun _ => iteF ?ff2)⟩
    case ff2 => exact go _ _ ⟨x6, m6, es6, rfl, n6, b6, w6, h6, g6⟩
    refine ⟨_, rfl, _, _, rfl, rfl, _, rfl, iteB (fun c => ?_) (fun _ => go _ _ ⟨x6, m6, es6, rfl, n6, b6, w6, h6, g6⟩)⟩
    have c1 : (0 : Int) < (n : Int) := of_decide_eq_true c
    exact ⟨_, rfl, _, rfl, p, n, rfl, w6, by omega, n9, fun x es H' b w' hx gx => go _ _ ⟨x, n, es, rfl, nm, b6.trans b, w', hx, gx⟩⟩
  rintro _ H7 ⟨x7, m7, es7, rfl, n7, b7, w7, h7, g7⟩
  refine' joinT (R := fun σ H' => ∃ (y : V) (m : Nat) (es : List E2), σ = [some (.ref p), some (.int (most : Int)), some (.int (n : Int)), some (.int way), some y] ∧ m ≤ most ∧ But p H H' ∧ Wl H' p ∧ GraphAt K H' y m es ∧ Good m es) (fun go => ?_) ?_
  rotate_left 1
  · refine ⟨_, rfl, (by show 3 ≤ sizeLine; decide), fun t nt => ?_⟩
    have s1 := same_new nt (.tup [.int 2, .int 3, .int 4])
    have w8 := w7.same s1
    have b8 := b7.trans (But.of s1)
    have h8 := h7.same s1
    refine ⟨t, _, rfl, .inr (SqT.of upd_same), rfl, rfl, _, rfl, iteB (fun _ => ?tt3) (fun _ => iteF ?ff3)⟩
    case ff3 => exact go _ _ ⟨x7, m7, es7, rfl, n7, b8, w8, h8, g7⟩
    refine ⟨_, rfl, _, _, rfl, rfl, _, rfl, iteB (fun c => ?_) (fun _ => go _ _ ⟨x7, m7, es7, rfl, n7, b8, w8, h8, g7⟩)⟩
    have c1 : (4 : Int) < (most : Int) := of_decide_eq_true c
    refine ⟨_, rfl, 5, rfl, by decide, by decide, fun x es H' s' hxT gx => ?_⟩
    have hx := hxT.at (K := K)
    refine ⟨_, rfl, _, rfl, _, _, rfl, rfl, p, _, rfl, w8.same s', by omega, by omega, fun d H2 d0 d1 b2 w2 => ?_⟩
    obtain ⟨dn, rfl⟩ : ∃ dn : Nat, d = (dn : Int) := ⟨d.toNat, by omega⟩
    exact ⟨_, _, rfl, rfl, p, x, 5, 5 + dn, es, rfl, w2, hx.ts (TS.but b2 (w8.same s')), gx, by decide, by omega, by omega, fun y fs H3 b3 w3 hy gy => go _ _ ⟨y, 5 + dn, fs, rfl, by omega, b8.trans ((But.of s').trans (b2.trans b3)), w3, hy, gy⟩⟩
  rintro _ H9 ⟨x9, m9, es9, rfl, n9, b9, w9, h9, g9⟩
  refine' joinT (R := fun σ H' => ∃ (y : V) (m : Nat) (es : List E2), σ = [some (.ref p), some (.int (most : Int)), some (.int (n : Int)), some (.int way), some y] ∧ m ≤ most ∧ But p H H' ∧ Wl H' p ∧ GraphAt K H' y m es ∧ Good m es) (fun go => ?_) ?_
  rotate_left 1
  · refine ⟨_, rfl, rfl, _, rfl, iteB (fun _ => ?tt4) (fun _ => iteF ?ff4)⟩
    case ff4 => exact go _ _ ⟨x9, m9, es9, rfl, n9, b9, w9, h9, g9⟩
    refine ⟨_, rfl, _, _, rfl, rfl, _, rfl, iteB (fun c => ?_) (fun _ => go _ _ ⟨x9, m9, es9, rfl, n9, b9, w9, h9, g9⟩)⟩
    have c1 : (6 : Int) < (most : Int) := of_decide_eq_true c
    refine ⟨_, rfl, _, rfl, (by show 3 ≤ sizeLine; decide), fun t nt => ?_⟩
    have s1 := same_new nt (.tup [.int 6, .int 7, .int 7])
    have w8 := w9.same s1
    refine ⟨p, t, _, rfl, w8, w8.off (SqT.of upd_same), by decide, by decide, fun i v H2 hi b2 w2 => ?_⟩
    obtain ⟨c, rfl, c2, c3⟩ : ∃ c : Nat, v = .int (c : Int) ∧ 6 ≤ c ∧ c ≤ 7 := by
      have m := List.mem_of_getElem? hi
      simp only [List.mem_cons, List.mem_nil_iff, or_false] at m
      rcases m with rfl | rfl | rfl
      · exact ⟨6, rfl, by decide, by decide⟩
      · exact ⟨7, rfl, by decide, by decide⟩
      · exact ⟨7, rfl, by decide, by decide⟩
    refine ⟨c, rfl, by omega, by omega, fun x es H' s' hxT gx => ?_⟩
    have hx := hxT.at (K := K)
    exact ⟨_, rfl, p, x, c, most, es, rfl, w2.same s', hx, gx, by omega, by omega, by omega, fun y fs H3 b3 w3 hy gy => go _ _ ⟨y, most, fs, rfl, Nat.le_refl _, b9.trans ((But.of s1).trans (b2.trans ((But.of s').trans b3))), w3, hy, gy⟩⟩
  rintro _ H10 ⟨x10, m10, es10, rfl, n10, b10, w10, h10, g10⟩
  refine' joinT (R := fun σ H' => ∃ (y : V) (m : Nat) (es : List E2), σ = [some (.ref p), some (.int (most : Int)), some (.int (n : Int)), some (.int way), some y] ∧ m ≤ most ∧ But p H H' ∧ Wl H' p ∧ GraphAt K H' y m es ∧ Good m es) (fun go => ?_) ?_
  rotate_left 1
  · refine ⟨_, rfl, rfl, _, rfl, iteB (fun _ => ?tt5) (fun _ => iteF ?ff5)⟩
    case ff5 => exact go _ _ ⟨x10, m10, es10, rfl, n10, b10, w10, h10, g10⟩
    refine ⟨_, rfl, _, _, rfl, rfl, _, rfl, iteB (fun c => ?_) (fun _ => go _ _ ⟨x10, m10, es10, rfl, n10, b10, w10, h10, g10⟩)⟩
    have c1 : (3 : Int) < (most : Int) := of_decide_eq_true c
    refine ⟨_, rfl, 4, rfl, by decide, by decide, fun x es H' s' hxT gx => ?_⟩
    have hx := hxT.at (K := K)
    refine ⟨_, rfl, _, rfl, _, _, rfl, rfl, p, _, rfl, w10.same s', by omega, by omega, fun d H2 d0 d1 b2 w2 => ?_⟩
    obtain ⟨dn, rfl⟩ : ∃ dn : Nat, d = (dn : Int) := ⟨d.toNat, by omega⟩
    exact ⟨_, _, rfl, rfl, p, x, 4, 4 + dn, es, rfl, w2, hx.ts (TS.but b2 (w10.same s')), gx, by decide, by omega, by omega, fun y fs H3 b3 w3 hy gy => go _ _ ⟨y, 4 + dn, fs, rfl, by omega, b10.trans ((But.of s').trans (b2.trans b3)), w3, hy, gy⟩⟩
  rintro _ H11 ⟨x11, m11, es11, rfl, n11, b11, w11, h11, g11⟩
  refine' joinT (R := fun σ H' => ∃ (y : V) (m : Nat) (es : List E2), σ = [some (.ref p), some (.int (most : Int)), some (.int (n : Int)), some (.int way), some y] ∧ m ≤ most ∧ But p H H' ∧ Wl H' p ∧ GraphAt K H' y m es ∧ Good m es) (fun go => ?_) ?_
  rotate_left 1
  · refine ⟨_, rfl, p, _, rfl, w11, by decide, by decide, fun d H' _ _ b12 w12 => ?_⟩
    have h12 := h11.ts (TS.but b12 w11)
    refine ⟨rfl, _, rfl, iteB (fun _ => ?tt6) (fun _ => ?ff6)⟩
    case ff6 => exact go _ _ ⟨x11, m11, es11, rfl, n11, b11.trans b12, w12, h12, g11⟩
    exact ⟨_, rfl, x11, m11, es11, rfl, h12, g11.n9, fun y H2 s2 hy => go _ _ ⟨y, m11, _, rfl, n11, b11.trans (b12.trans (But.of s2)), w12.same s2, hy.at, good_left g11.n9 es11⟩⟩
  rintro _ H13 ⟨x13, m13, es13, rfl, n13, b13, w13, h13, g13⟩
  have h14 := h13
  obtain ⟨t, e, xs, rfl, ht, he, hes⟩ := h13
  refine ⟨_, rfl, _, rfl, _, rfl, t, _, _, _, rfl, rfl, ht, rfl, p, m13, rfl, w13, g13.n9, fun a ns H' b w' ha pm => ?_⟩
  exact ⟨.ref t, a, m13, es13, ns, rfl, h14.ts (TS.but b w13), g13, ha, pm, fun z fs H2 s2 hz gz => q z m13 fs H2 n13 (b13.trans (b.trans (But.of s2))) (w'.same s2) hz gz⟩
end
end My

set_option maxHeartbeats 4000000
/-! sorted of a list of tuples of ints of any lengths: all of them other than (), or the first one (). -/
namespace My
open PySem PySem.W PySem.Calls PyProof.Rows Builtin
section
variable {prog : Program} {w : World} {A : Around} {E : Value → Shared → Prop} {s : Shared}
theorem kat_ints {b fin : Bool} {Q : Bool → Shared → Prop} : ∀ {ps qs : List Value} {ns ms : List Int} (i : Nat), IntsAre ps ns → IntsAre qs ms → fin = decide (ps.length < qs.length) → Q (HT.lexLt ns ms) s → KatLex prog w A b fin Q (ps.zip qs) i s
  | _, _, _, _, i, .nil, .nil, hf, h => by
    have e : fin = false := by rw [hf]; rfl
    subst e
    exact kat_nil h
  | _, _, _, _, i, .nil, .cons c u t, hf, h => by
    have e : fin = true := by rw [hf]; exact decide_eq_true (by simp)
    subst e
    exact kat_nil h
  | _, _, _, _, i, .cons c u t, .nil, hf, h => by
    have e : fin = false := by rw [hf]; exact decide_eq_false (by simp)
    subst e
    exact kat_nil h
  | _, _, _, _, i, .cons a t r, .cons c u r', hf, h => by
    rw [HT.lexLt_cons] at h
    refine kat_cons (SeqAt.EqAt.int_int a t c u prog w _ _ ?_)
    refine kat_go (fun e1 => ?_) (fun e1 => ?_)
    · have ex : a = c := by simpa using e1
      rw [if_pos ex] at h
      refine kat_yes (kat_ints (i + 1) r r' ?_ h)
      rw [hf]
      simp
    · have ex : ¬ a = c := by simpa using e1
      rw [if_neg ex] at h
      refine kat_no ?_
      cases hb : (b && i == 0) with
      | true => exact oneLt_int h
      | false => exact kat_one _ _ (PyProof.Rows.lt_int h)
theorem tups_cmp {vs : List Value} {k : Value → List Int} (hp : ∀ v ∈ vs, TS.TupInts s.heap v (k v)) : SrtO.Cmp prog w A s (tuples' true) (fun p => p.1 ∈ vs) (SrtO.lt2 fun v u => HT.lexLt (k v) (k u)) := by
  intro p q hm hm'
  obtain ⟨a, xs, e, ⟨o, ho, hc, n, hd⟩, hi⟩ := hp _ hm
  obtain ⟨a', xs', e', ⟨o', ho', hc', n', hd'⟩, hi'⟩ := hp _ hm'
  show wpAny (model prog w) A (keyLt' (tuples' true) p.1 q.1) (fun r s' => s' = s ∧ r = HT.lexLt (k p.1) (k q.1)) (fun _ _ => False) s
  generalize k p.1 = kp at hi ⊢
  generalize k q.1 = kq at hi' ⊢
  rw [e, e']
  refine kat_lt ho hd ho' hd' ?_
  exact kat_ints 0 hi hi' (by rw [Array.length_toList, Array.length_toList]) ⟨rfl, rfl⟩
theorem tup_lt_call {a b : Addr} {dd dd2 : Option Addr} {items items2 : Array Value} {n n2 : Nat} {sl sl2 : Array (Option Value)} {ns ms : List Int} {Q : Value → Shared → Prop} (ga : s.heap.get? a = some { cls := .type "tuple", dict := dd, data := .seq items n, slots := sl })
    (gb : s.heap.get? b = some { cls := .type "tuple", dict := dd2, data := .seq items2 n2, slots := sl2 }) (ia : IntsAre items.toList ns) (ib : IntsAre items2.toList ms) (h : Q (.bool (HT.lexLt ns ms)) s) : wpAny (model prog w) A (call (.builtin "tuple.__lt__") [.ref a, .ref b]) Q E s := by
  have tp : s.TypeIs (.ref a) "tuple" := ⟨_, ga, rfl⟩
  refine wpAny_call (codeAny_call_builtin PySem.F.slot_tuple_lt.plain PySem.F.entry_tuple_lt (PySem.F.slot_tuple_lt.check _ _ _ _ _ _ _ _ tp (PySem.F.args_tuple_lt_2 _ _) ?_))
  refine wpAny_mono (HT.tuple_lt_ints a b items items2 n n2 dd dd2 sl sl2 ns ms ia ib prog w _ (wants Q E) s ⟨ga, gb, h⟩) (fun fin s' q => ?_) fun _ _ z => z
  cases fin with
  | done f => exact q
  | again c => exact q
theorem tups_lt {v u : Value} {ns ms : List Int} {Q : Bool → Shared → Prop} (hu : A.units < cLine) (hv : TS.TupInts s.heap v ns) (hw : TS.TupInts s.heap u ms) (h : Q (HT.lexLt ns ms) s) : wpAny (model prog w) A (keyLt' oneType' v u) Q E s := by
  obtain ⟨a, xs, rfl, hl, hi⟩ := hv
  obtain ⟨b, ys, rfl, hb, hj⟩ := hw
  obtain ⟨⟨cls, dd, data, sl⟩, ho, hc, n, hd⟩ := id hl
  obtain ⟨⟨cls2, dd2, data2, sl2⟩, ho2, hc2, n2, hd2⟩ := id hb
  simp only at hc hd hc2 hd2
  subst hc hd hc2 hd2
  rw [keyLt'_oneType, oneLt'_eq]
  simp only [if_true]
  refine wpAny_bind (wpAny_cRoomFor hu ?_)
  have tp : s.TypeIs (.ref a) "tuple" := ⟨_, ho, rfl⟩
  refine wpAny_bind (wpAny_callSpecialIfBound?_slot tp PySem.F.slot_tuple_lt (tup_lt_call ho ho2 hi hj ?_))
  exact wpAny_truthy_bool h
theorem tups_cmp1 {vs : List Value} {k : Value → List Int} (hu : A.units < cLine) (hp : ∀ v ∈ vs, TS.TupInts s.heap v (k v)) : SrtO.Cmp prog w A s oneType' (fun p => p.1 ∈ vs) (SrtO.lt2 fun v u => HT.lexLt (k v) (k u)) := by
  intro p q hm hm'
  exact tups_lt (Q := fun r s' => s' = s ∧ r = HT.lexLt (k p.1) (k q.1)) (E := fun _ _ => False) hu (hp _ hm) (hp _ hm') ⟨rfl, rfl⟩
end
section
variable {M : Model} {A : Around} {E : Value → Shared → Prop} {s : Shared}
theorem tup_type {v : Value} {ns : List Int} (h : TS.TupInts s.heap v ns) : Looks M s.heap (typeOf v) (.type "tuple") := by
  obtain ⟨a, xs, rfl, ⟨o, ho, hc, n, hd⟩, hi⟩ := h
  have z : Looks M s.heap (typeOf (.ref a)) o.cls := (Looks.ld ho).andThen .now
  rw [hc] at z
  exact z
theorem tup_firsts : ∀ (vs : List Value) (k : Value → List Int) {Q : List (Option Value) → Shared → Prop}, (∀ v ∈ vs, TS.TupInts s.heap v (k v)) → (∀ fs : List (Option Value), (∀ v r, vs = v :: r → k v = [] → ∃ t, fs = none :: t) → Q fs s) → wpAny M A (vs.mapM firstOfTuple') Q E s
  | [], k, Q, _, h => by
    rw [List.mapM_nil]
    exact wpAny_pure (h [] fun v r e => by cases e)
  | v :: vs, k, Q, hp, h => by
    have tv := tup_type (M := M) (hp v (List.mem_cons_self ..))
    obtain ⟨a, xs, rfl, ⟨o, ho, hc, n, hd⟩, hi⟩ := hp v (List.mem_cons_self ..)
    rw [List.mapM_cons]
    refine wpAny_bind ?_
    rw [kas_first_eq]
    refine wpAny_bind (tv.here ?_)
    rw [if_neg (by first | decide | simp)]
    refine wpAny_bind (listItems_at ho hd (wpAny_pure ?_))
    refine wpAny_bind (tup_firsts vs k (fun u hu => hp u (List.mem_cons_of_mem _ hu)) fun fs _ => wpAny_pure (h _ fun v r e en => ?_))
    cases e
    rw [en] at hi
    refine ⟨fs, ?_⟩
    have e0 : xs.toList = [] := by
      cases xs with
      | mk l => cases hi; rfl
    have e1 : xs = #[] := by
      cases xs with
      | mk l => exact congrArg Array.mk e0
    rw [e1]
    rfl
theorem tups_kind1 {vs : List Value} {k : Value → List Int} {v0 : Value} {r : List Value} {Q : SortKind → Shared → Prop} (e0 : vs = v0 :: r) (k0 : k v0 = []) (hp : ∀ v ∈ vs, TS.TupInts s.heap v (k v)) (h : Q oneType' s) : wpAny M A (keyKind' vs.toArray) Q E s := by
  subst e0
  rw [keyKind'_eq, List.mapM_toArray, map_eq_pure_bind]
  refine wpAny_bind (wpAny_bind (tup_firsts _ k hp fun fs hf => wpAny_pure ?_))
  obtain ⟨t, rfl⟩ := hf v0 r rfl k0
  rw [if_neg (by simp), if_neg (by simp)]
  rw [oneTypeOnly'_eq, List.mapM_toArray, map_eq_pure_bind]
  refine wpAny_bind (wpAny_bind (wpAny_bind (kas_mapM (r := Value.type "tuple") _ (fun v hv Q' hq => (tup_type (hp v hv)).here hq) (wpAny_pure ?_))))
  have hall : ((List.map (fun _ => Value.type "tuple") (v0 :: r)).toArray.all fun x => x == Value.type "tuple") = true := by
    simp only [List.all_toArray, List.all_map, List.all_eq_true]
    intro _ _
    rfl
  have h0 : (List.map (fun _ => Value.type "tuple") (v0 :: r)).toArray[0]? = some (Value.type "tuple") := by simp
  rw [h0]
  simp only [hall, if_true]
  exact wpAny_pure (wpAny_pure h)
theorem tups_heads {h : Heap} : ∀ {vs : List Value} {k : Value → List Int}, (∀ v ∈ vs, TS.TupInts h v (k v)) → (∀ v ∈ vs, k v ≠ []) → ∃ fs : List Value, KatTups h vs fs ∧ fs.length = vs.length ∧ ∀ f ∈ fs, ∃ x t, f = Value.int x t
  | [], _, _, _ => ⟨[], KatTups.nil, rfl, fun _ hm => by simp at hm⟩
  | v :: vs, k, hp, ne => by
    obtain ⟨fs, h1, h2, h3⟩ := tups_heads (vs := vs) (k := k) (fun v' hm => hp v' (List.mem_cons_of_mem _ hm)) fun v' hm => ne v' (List.mem_cons_of_mem _ hm)
    obtain ⟨a, xs, rfl, ⟨o, ho, hc, n, hd⟩, hi⟩ := hp v (List.mem_cons_self ..)
    have nv := ne _ (List.mem_cons_self ..)
    generalize k (Value.ref a) = kv at hi nv
    cases xs with
    | mk l =>
      cases hi with
      | nil => exact absurd rfl nv
      | cons x t ht =>
        rename_i vs' ns'
        refine ⟨.int x t :: fs, KatTups.cons ho hc hd rfl h1, by rw [List.length_cons, List.length_cons, h2], fun f hm => ?_⟩
        rcases List.mem_cons.mp hm with rfl | hm
        · exact ⟨x, t, rfl⟩
        · exact h3 f hm
end
section
variable {prog : Program} {w : World} {A : Around} {E : Value → Shared → Prop} {s : Shared}
/-- none of them (), or the first one () -/
def Sortish (ks : List (List Int)) : Prop := (∀ k ∈ ks, k ≠ []) ∨ ∃ r, ks = [] :: r
theorem tups_sortable {a : Addr} {vs : List Value} {k : Value → List Int} (hu : A.units < cLine) (h2 : 2 ≤ vs.length) (hp : ∀ v ∈ vs, TS.TupInts s.heap v (k v)) (si : Sortish (vs.map k)) (ha : ∀ v ∈ vs, v ≠ .ref a) :
    SrtO.SortableO prog w A s a vs fun v u => HT.lexLt (k v) (k u) := by
  intro h' keep
  have hp' : ∀ v ∈ vs, TS.TupInts h' v (k v) := fun v hm => by
    obtain ⟨b, xs, e, ⟨o, ho, hc⟩, hi⟩ := hp v hm
    exact ⟨b, xs, e, ⟨o, keep b o (fun z => ha v hm (by rw [e, z])) ho, hc⟩, hi⟩
  rcases si with ne | ⟨r, e⟩
  · obtain ⟨fs, h1, h3, h4⟩ := tups_heads hp' fun v hm => ne _ (List.mem_map.mpr ⟨v, hm, rfl⟩)
    refine ⟨tuples' true, fun Q E hq => ?_, tups_cmp (s := { s with heap := h' }) hp'⟩
    refine kat_kind (s := { s with heap := h' }) (T := .type "int") h1 (by omega) (fun f hm => ?_) (by rfl) ?_
    · obtain ⟨x, t, rfl⟩ := h4 f hm
      exact Looks.now
    · have e : (Value.type "int" != Value.type "tuple") = true := by first | decide +kernel | rfl | decide
      rw [e]
      exact hq
  · refine ⟨oneType', fun Q E hq => ?_, tups_cmp1 (s := { s with heap := h' }) hu hp'⟩
    cases vs with
    | nil => cases e
    | cons v0 vr =>
      rw [List.map_cons] at e
      exact tups_kind1 (s := { s with heap := h' }) rfl (List.cons.inj e).1 hp' hq
end
end My
namespace L2
open PySem PySem.Spec PyProof.Rows
/-- sorted(xs), xs a list of tuples of ints (k says which): a new list, sorted, equal ones in their order -/
def rSortTI (K : PySem.W.Frag) : List V → Hp → VK → Prop := fun vs H Q => ∃ (a : Addr) (xs : List V) (k : V → List Int), vs = [V.ref a] ∧ SqL K H a xs ∧ (∀ x ∈ xs, ∃ t, x = V.ref t ∧ SqT K H t ((k x).map V.int)) ∧ (xs.length < 2 ∨ My.Sortish (xs.map k)) ∧
  ∀ ys p, SrtO.Srtd (fun x y => HT.lexLt (k x) (k y)) ys → SrtO.Stb (fun x y => HT.lexLt (k x) (k y)) ys xs → H p = none → Q (.ref p) (upd H p (.lst ys))
section
variable {X : Cx}
theorem cr_sortTI (hu : X.A.units + 64 < cLine) : CallR X (.builtin "sorted") (rSortTI X.K) := by
  intro pins s σ H vs us Q I r h
  obtain ⟨a, xs, k, rfl, hs, hx, si, q⟩ := h
  obtain ⟨its, rv, hl, hz⟩ := I.list hs
  rw [Vals.ref1 r]
  obtain ⟨e1, e2⟩ := bkV_refs rv fun x m => by
    obtain ⟨t, e, _⟩ := hx x m
    exact ⟨t, e⟩
  have hp : ∀ v ∈ its, TS.TupInts s.heap v (k (bkV v)) := fun v hv => by
    obtain ⟨t, rfl⟩ := e2 v hv
    have hm : V.ref t ∈ xs := by rw [e1]; exact List.mem_map.mpr ⟨_, hv, rfl⟩
    obtain ⟨t', e, ht⟩ := hx _ hm
    cases e
    exact tupI_raw I ht
  refine SrtO.sorted_ord (NtL.swo_lexL fun u => k (bkV u)) hl.isList (by rw [← rv.length]; exact hz) (fun h2 h₁ b hb kp => ?_) fun out h1 h2 => ?_
  · refine My.tups_sortable (s := { s with heap := h₁ }) (k := fun u => k (bkV u)) ?_ h2 (fun v hv => ?_) ?_ fun v hv e => ?_
    · show X.A.units + _ + _ < cLine
      omega
    · obtain ⟨c, ys, e, ⟨o, ho, hc⟩, hi⟩ := hp v hv
      exact ⟨c, ys, e, ⟨o, (kp c o ho).2, hc⟩, hi⟩
    · rcases si with l2 | si
      · rw [rv.length] at l2
        omega
      · rw [e1, List.map_map] at si
        exact si
    · obtain ⟨c, ys, e', ⟨o, ho, hc⟩, hi⟩ := hp v hv
      rw [e'] at e
      cases e
      exact (kp _ o ho).1 rfl
  · obtain ⟨ep, he'⟩ := PyProof.Rows.sortedAll_at s.heap its out.toArray
    have h3 : ∀ u ∈ out, ∃ a, u = Value.ref a := fun u hu => e2 u (h2.perm.mem_iff.mp hu)
    have hb : SrtO.Stb (fun x y => HT.lexLt (k x) (k y)) (out.map bkV) xs := by
      rw [e1]
      exact SrtO.Stb.map (NtL.swo_lexL k) bkV h2
    have hlen : (out.map bkV).length ≤ sizeLine := by
      rw [hb.perm.length_eq]
      exact hz
    exact ⟨.ref _, upd H (s.heap.objs.size + 1) (.lst (out.map bkV)), I.laid (t' := s.toks) (fun _ _ => PyProof.Rows.sortedAll_old) (Nat.le_succ _) ⟨hlen, out, ep, bkV_vals h3, he'⟩, rfl, q _ _ (SrtO.srtd_map h1) hb (I.hok.fresh (Nat.le_succ _))⟩
end
end L2

set_option maxHeartbeats 4000000
/-! Lists of lots in the heap, sorted ones. -/
namespace My
open PySem PySem.Spec PyProof.Rows L2
def natV (l : List Nat) : List V := l.map fun k => V.int ((k : Nat) : Int)
def natI (l : List Nat) : List Int := l.map fun k => ((k : Nat) : Int)
theorem natV_eq (l : List Nat) : (natI l).map V.int = natV l := by unfold natI natV; rw [List.map_map]; rfl
theorem natI_inj : ∀ {l m : List Nat}, natI l = natI m → l = m
  | [], [], _ => rfl
  | [], _ :: _, h => by cases h
  | _ :: _, [], h => by cases h
  | a :: l, b :: m, h => by
    obtain ⟨h1, h2⟩ := List.cons.inj (show ((a : Nat) : Int) :: natI l = ((b : Nat) : Int) :: natI m from h)
    rw [Int.ofNat.inj h1, natI_inj h2]
theorem natV_inj : ∀ {l m : List Nat}, natV l = natV m → l = m
  | [], [], _ => rfl
  | [], _ :: _, h => by cases h
  | _ :: _, [], h => by cases h
  | a :: l, b :: m, h => by
    obtain ⟨h1, h2⟩ := List.cons.inj (show V.int ((a : Nat) : Int) :: natV l = V.int ((b : Nat) : Int) :: natV m from h)
    injection h1 with h1
    rw [Int.ofNat.inj h1, natV_inj h2]
/-- a tuple of this lot -/
def LotT (H : Hp) (x : V) (l : List Nat) : Prop := ∃ t, x = .ref t ∧ H t = some (.tup (natV l))
theorem LotT.same {H H' : Hp} (s : Same H H') {x : V} {l : List Nat} (h : LotT H x l) : LotT H' x l := by
  obtain ⟨t, e, h⟩ := h
  exact ⟨t, e, s _ _ h⟩
theorem LotT.uniq {H : Hp} {x : V} {l m : List Nat} (h : LotT H x l) (h' : LotT H x m) : l = m := by
  obtain ⟨t, rfl, h⟩ := h
  obtain ⟨t', e, h'⟩ := h'
  cases e
  rw [h] at h'
  injection h' with h'
  injection h' with h'
  exact natV_inj h'
inductive LotsT (H : Hp) : List V → List (List Nat) → Prop
  | nil : LotsT H [] []
  | cons {x : V} {l : List Nat} {xs : List V} {ls : List (List Nat)} : LotT H x l → LotsT H xs ls → LotsT H (x :: xs) (l :: ls)
theorem LotsT.same {H H' : Hp} (s : Same H H') {xs : List V} {ls : List (List Nat)} (h : LotsT H xs ls) : LotsT H' xs ls := by
  induction h with
  | nil => exact .nil
  | cons a _ ih => exact .cons (a.same s) ih
theorem LotsT.len {H : Hp} {xs : List V} {ls : List (List Nat)} (h : LotsT H xs ls) : xs.length = ls.length := by
  induction h with
  | nil => rfl
  | cons _ _ ih => rw [List.length_cons, List.length_cons, ih]
theorem LotsT.snoc {H : Hp} {xs : List V} {ls : List (List Nat)} {x : V} {l : List Nat} (h : LotsT H xs ls) (hx : LotT H x l) : LotsT H (xs ++ [x]) (ls ++ [l]) := by
  induction h with
  | nil => exact .cons hx .nil
  | cons a _ ih => exact .cons a ih
theorem LotsT.app {H : Hp} {xs ys : List V} {ls ms : List (List Nat)} (h : LotsT H xs ls) (h' : LotsT H ys ms) : LotsT H (xs ++ ys) (ls ++ ms) := by
  induction h with
  | nil => exact h'
  | cons a _ ih => exact .cons a ih
theorem LotsT.get {H : Hp} {xs : List V} {ls : List (List Nat)} (h : LotsT H xs ls) {i : Nat} {x : V} (hi : xs[i]? = some x) : ∃ l, ls[i]? = some l ∧ LotT H x l := by
  induction h generalizing i with
  | nil => simp at hi
  | cons a _ ih =>
    cases i with
    | zero =>
      cases hi
      exact ⟨_, rfl, a⟩
    | succ i => exact ih hi
theorem LotT.put {H : Hp} {B : Addr} {ys : List V} {o : HO} (hB : H B = some (.lst ys)) {x : V} {l : List Nat} (h : LotT H x l) : LotT (upd H B o) x l := by
  obtain ⟨t, e, h⟩ := h
  have ne : t ≠ B := fun z => by
    rw [z, hB] at h
    cases h
  exact ⟨t, e, by rw [upd_ne ne]; exact h⟩
theorem LotsT.put {H : Hp} {B : Addr} {ys : List V} {o : HO} (hB : H B = some (.lst ys)) {xs : List V} {ls : List (List Nat)} (h : LotsT H xs ls) : LotsT (upd H B o) xs ls := by
  induction h with
  | nil => exact .nil
  | cons a _ ih => exact .cons (a.put hB) ih
open Classical in
noncomputable def kN (H : Hp) (x : V) : List Nat := if h : ∃ l, LotT H x l then h.choose else []
theorem kN_at {H : Hp} {x : V} {l : List Nat} (h : LotT H x l) : kN H x = l := by
  unfold kN
  rw [dif_pos ⟨l, h⟩]
  exact (Classical.choose_spec (⟨l, h⟩ : ∃ l, LotT H x l)).uniq h
theorem LotsT.mem {H : Hp} {xs : List V} {ls : List (List Nat)} (h : LotsT H xs ls) : ∀ x ∈ xs, LotT H x (kN H x) := by
  induction h with
  | nil => intro x hx; cases hx
  | cons a _ ih =>
    intro x hx
    rcases List.mem_cons.mp hx with rfl | hx
    · rw [kN_at a]; exact a
    · exact ih x hx
theorem LotsT.map {H : Hp} {xs : List V} {ls : List (List Nat)} (h : LotsT H xs ls) : xs.map (kN H) = ls := by
  induction h with
  | nil => rfl
  | cons a _ ih => rw [List.map_cons, kN_at a, ih]
theorem LotsT.of_mem {H : Hp} : ∀ {ys : List V}, (∀ y ∈ ys, LotT H y (kN H y)) → LotsT H ys (ys.map (kN H))
  | [], _ => .nil
  | y :: ys, h => .cons (h y (List.mem_cons_self ..)) (LotsT.of_mem fun z hz => h z (List.mem_cons_of_mem _ hz))
/-- ahead of, as tuples are compared -/
def ltL (a b : List Nat) : Prop := HT.lexLt (natI a) (natI b) = true
theorem ltL_asym {a b : List Nat} (h : ltL a b) : ¬ ltL b a := fun h' => by
  have z := NtL.lex_asym _ _ h
  unfold ltL at h'
  rw [z] at h'
  cases h'
theorem lex_same : ∀ {a b : List Int}, HT.lexLt a b = false → HT.lexLt b a = false → a = b
  | [], [], _, _ => rfl
  | [], b :: bs, h, _ => by rw [HT.lexLt_nil_cons] at h; cases h
  | a :: as, [], _, h => by rw [HT.lexLt_nil_cons] at h; cases h
  | a :: as, b :: bs, h, h' => by
    rw [HT.lexLt_cons] at h h'
    by_cases e : a = b
    · rw [if_pos e] at h
      rw [if_pos e.symm] at h'
      rw [e, lex_same h h']
    · rw [if_neg e] at h
      rw [if_neg (Ne.symm e)] at h'
      have := of_decide_eq_false h
      have := of_decide_eq_false h'
      omega
/-- two lists that ascend, with the same members -/
theorem eq_of_ltL : ∀ {l m : List (List Nat)}, l.Pairwise ltL → m.Pairwise ltL → (∀ k, k ∈ l ↔ k ∈ m) → l = m
  | [], [], _, _, _ => rfl
  | [], b :: m, _, _, h => absurd ((h b).mpr (List.mem_cons_self ..)) (by simp)
  | a :: l, [], _, _, h => absurd ((h a).mp (List.mem_cons_self ..)) (by simp)
  | a :: l, b :: m, hl, hm, h => by
    have l1 := (List.pairwise_cons.mp hl).1
    have m1 := (List.pairwise_cons.mp hm).1
    have irr : ∀ k : List Nat, ¬ ltL k k := fun k z => ltL_asym z z
    have e : a = b := by
      rcases List.mem_cons.mp ((h a).mp (List.mem_cons_self ..)) with e | e
      · exact e
      · rcases List.mem_cons.mp ((h b).mpr (List.mem_cons_self ..)) with e2 | e2
        · exact e2.symm
        · exact absurd (m1 a e) (ltL_asym (l1 b e2))
    subst e
    rw [eq_of_ltL (List.pairwise_cons.mp hl).2 (List.pairwise_cons.mp hm).2 fun k => ?_]
    constructor
    · intro hk
      rcases List.mem_cons.mp ((h k).mp (List.mem_cons_of_mem _ hk)) with e | e
      · rw [e] at hk
        exact absurd (l1 a hk) (irr a)
      · exact e
    · intro hk
      rcases List.mem_cons.mp ((h k).mpr (List.mem_cons_of_mem _ hk)) with e | e
      · rw [e] at hk
        exact absurd (m1 a hk) (irr a)
      · exact e
/-- sorted lots, none twice, ascend -/
theorem sorted_lots {H : Hp} {xs ys : List V} {ls : List (List Nat)} (h : LotsT H xs ls) (nd : ls.Nodup) (so : SrtO.Srtd (fun x y => HT.lexLt (natI (kN H x)) (natI (kN H y))) ys) (st : SrtO.Stb (fun x y => HT.lexLt (natI (kN H x)) (natI (kN H y))) ys xs) :
    LotsT H ys (ys.map (kN H)) ∧ (ys.map (kN H)).Pairwise ltL ∧ (ys.map (kN H)).Perm ls := by
  have pm : (ys.map (kN H)).Perm ls := by
    have z := st.perm.map (kN H)
    rw [h.map] at z
    exact z
  refine ⟨LotsT.of_mem fun y hy => h.mem y (st.perm.mem_iff.mp hy), ?_, pm⟩
  have nd2 : (ys.map (kN H)).Nodup := pm.nodup_iff.mpr nd
  rw [List.pairwise_map]
  refine (so.and (List.pairwise_map.mp nd2)).imp ?_
  intro a b ⟨le, ne⟩
  have le2 : HT.lexLt (natI (kN H b)) (natI (kN H a)) = false := le
  unfold ltL
  cases e : HT.lexLt (natI (kN H a)) (natI (kN H b)) with
  | true => rfl
  | false => exact absurd (natI_inj (lex_same e le2)) ne
theorem sortish_ne {ls : List (List Nat)} (h : ∀ l ∈ ls, l ≠ []) : Sortish (ls.map natI) := .inl fun k hk => by
  obtain ⟨l, hl, rfl⟩ := List.mem_map.mp hk
  intro z
  exact h l hl (natI_inj (m := []) z)
theorem sortish_nil (r : List (List Nat)) : Sortish (([] :: r).map natI) := .inr ⟨r.map natI, rfl⟩
/-- what sorted asks of lots -/
theorem lots_sort {K : PySem.W.Frag} {H : Hp} {xs : List V} {ls : List (List Nat)} (h : LotsT H xs ls) (si : Sortish (ls.map natI) ∨ ls.length < 2) :
    (∀ x ∈ xs, ∃ t, x = V.ref t ∧ SqT K H t ((natI (kN H x)).map V.int)) ∧ (xs.length < 2 ∨ Sortish (xs.map fun x => natI (kN H x))) := by
  refine ⟨fun x hx => ?_, ?_⟩
  · obtain ⟨t, e, ht⟩ := h.mem x hx
    refine ⟨t, e, SqT.of ?_⟩
    rw [natV_eq]
    exact ht
  · rcases si with ne | l2
    · right
      have e : xs.map (fun x => natI (kN H x)) = ls.map natI := by
        rw [← h.map, List.map_map]
        rfl
      rw [e]
      exact ne
    · left
      rw [h.len]
      exact l2
end My

set_option maxHeartbeats 4000000
namespace My
open PySem PySem.Spec PyProof.Rows L2
abbrev sTied : Stmt := top 38
theorem scTied : FnScope ["graph", "u", "v"] ["graph", "u", "v"] (defScope sTied) := ⟨rfl, rfl, rfl, by decide +kernel, rfl, by decide +kernel, by decide +kernel⟩
def spTied (K : PySem.W.Frag) : Sp := fun vs H Q _ => ∃ (x : V) (n : Nat) (es : List E2) (u v : Nat), vs = [x, .int (u : Int), .int (v : Int)] ∧ GraphAt K H x n es ∧ ∀ H', Same H H' → Q (.bl (adjB es u v)) H'
section
variable {P : Program} {w : World} {K : PySem.W.Frag} {mg : Str → Option Value} {base : Heap} {f : Addr} {fd : FuncData}
theorem ok_tied (F : L2.Fun K "_law_is_tied" "_law_is_tied" sTied f fd) (mn : mg "min" = none) (mx : mg "max" = none) : FnOk P w K mg base CX0 1 f fd ["graph", "u", "v"] (spTied K) := by
  refine F.ok scTied (fun vs H Q E h => ?_) (fun cdv A outer s H vs Q E hr h => ?_)
  · obtain ⟨x, n, es, u, v, rfl, _⟩ := h
    rfl
  obtain ⟨x, n, es, a, b, rfl, hx, q⟩ := h
  refine ⟨_, pss_one (ps_ret (pe_cmpR (r := rInP id K) (op_inP hr.units) (pe_tup (pa_cons (pe_callB (call_min2 rfl) (by rfl) mn (by decide +kernel) (pa_cons (pv 1) (pa_cons (pv 2) pa_nil))) (pa_cons (pe_callB (call_max2 rfl) (by rfl) mx (by decide +kernel) (pa_cons (pv 1) (pa_cons (pv 2) pa_nil))) pa_nil))) (pe_ix (r := rIxT K) ix_tup (pv 0) pe_int (fun _ _ => rfl)) (by rfl))), ?_⟩
  refine ⟨_, rfl, _, rfl, _, _, rfl, _, rfl, _, rfl, _, _, rfl, (by show 2 ≤ sizeLine; decide), fun t nt => ?_⟩
  have e1 : (if (b : Int) < (a : Int) then (b : Int) else (a : Int)) = ((min a b : Nat) : Int) := by split <;> omega
  have e2 : (if (b : Int) > (a : Int) then (b : Int) else (a : Int)) = ((max a b : Nat) : Int) := by split <;> omega
  rw [e1, e2]
  have s1 := same_new nt (.tup [.int ((min a b : Nat) : Int), .int ((max a b : Nat) : Int)])
  obtain ⟨t', e, ys, rfl, ht, he, hes⟩ := hx.same s1
  have a1 : atI [V.int (n : Int), V.ref e] 1 = some (.ref e) := atI_nat (j := 1) rfl
  exact ⟨_, rfl, t', _, 1, _, rfl, rfl, ht, a1, (min a b, max a b), e, ys, es, ⟨t, rfl, SqT.of upd_same⟩, rfl, he, hes, q _ s1⟩
end
end My

set_option maxHeartbeats 4000000
namespace My
open PySem PySem.Spec PyProof.Rows L2
abbrev sLots : Stmt := top 37
theorem scLots : FnScope ["n", "found", "v", "lot"] ["n"] (defScope sLots) := ⟨rfl, rfl, rfl, by decide +kernel, rfl, by decide +kernel, by decide +kernel⟩
def lotsN : Nat → List (List Nat)
  | 0 => [[]]
  | i + 1 => lotsN i ++ (lotsN i).map (· ++ [i])
theorem lotsN_len : ∀ i, (lotsN i).length = 2 ^ i
  | 0 => rfl
  | i + 1 => by
    show (lotsN i ++ (lotsN i).map (· ++ [i])).length = _
    rw [List.length_append, List.length_map, lotsN_len i, Nat.pow_succ]
    omega
theorem lotsN_head : ∀ i, ∃ r, lotsN i = [] :: r
  | 0 => ⟨[], rfl⟩
  | i + 1 => by
    obtain ⟨r, e⟩ := lotsN_head i
    exact ⟨r ++ (lotsN i).map (· ++ [i]), by show lotsN i ++ _ = _; rw [e]; rfl⟩
theorem mem_lotsN : ∀ {i : Nat} {l : List Nat}, l ∈ lotsN i ↔ LotOk i l
  | 0, l => by
    show l ∈ [[]] ↔ _
    rw [List.mem_singleton]
    constructor
    · rintro rfl
      exact ⟨fun k (hk : k ∈ []) => absurd hk (by simp), List.Pairwise.nil⟩
    · intro h
      cases l with
      | nil => rfl
      | cons a r => exact absurd (h.lt a (List.mem_cons_self ..)) (by omega)
  | i + 1, l => by
    show l ∈ lotsN i ++ (lotsN i).map (· ++ [i]) ↔ _
    rw [List.mem_append, List.mem_map]
    constructor
    · rintro (h | ⟨m, hm, rfl⟩)
      · have z := mem_lotsN.mp h
        exact ⟨fun k hk => Nat.lt_succ_of_lt (z.lt k hk), z.up⟩
      · have z := mem_lotsN.mp hm
        refine ⟨fun k hk => ?_, ?_⟩
        · rcases List.mem_append.mp hk with hk | hk
          · exact Nat.lt_succ_of_lt (z.lt k hk)
          · rw [List.mem_singleton.mp hk]
            exact Nat.lt_succ_self i
        · rw [List.pairwise_append]
          refine ⟨z.up, List.pairwise_singleton _ _, fun a ha b hb => ?_⟩
          rw [List.mem_singleton.mp hb]
          exact z.lt a ha
    · intro h
      by_cases c : i ∈ l
      · right
        have hl : l ≠ [] := fun e => by rw [e] at c; cases c
        have e := List.dropLast_concat_getLast hl
        have up := h.up
        rw [← e, List.pairwise_append] at up
        have last : l.getLast hl = i := by
          rw [← e] at c
          rcases List.mem_append.mp c with c | c
          · have y := up.2.2 i c _ (List.mem_singleton.mpr rfl)
            have := h.lt _ (List.getLast_mem hl)
            omega
          · exact (List.mem_singleton.mp c).symm
        rw [last] at e up
        refine ⟨l.dropLast, mem_lotsN.mpr ⟨fun k hk => up.2.2 k hk i (by simp), up.1⟩, e⟩
      · left
        exact mem_lotsN.mpr ⟨fun k hk => by
          have := h.lt k hk
          have : k ≠ i := fun z => c (z ▸ hk)
          omega, h.up⟩
theorem lotsN_nodup : ∀ i, (lotsN i).Nodup
  | 0 => by show ([[]] : List (List Nat)).Nodup; simp
  | i + 1 => by
    show (lotsN i ++ (lotsN i).map (· ++ [i])).Nodup
    rw [List.nodup_append]
    refine ⟨lotsN_nodup i, ?_, ?_⟩
    · show List.Pairwise _ _
      rw [List.pairwise_map]
      exact (lotsN_nodup i).imp fun ne e => ne (List.append_cancel_right e)
    · intro a ha b hb e
      obtain ⟨m, _, rfl⟩ := List.mem_map.mp hb
      have z := (mem_lotsN.mp ha).lt i (by rw [e]; simp)
      omega
/-- all lots, ascending -/
def AllLots (n : Nat) (L : List (List Nat)) : Prop := L.Pairwise ltL ∧ ∀ l, l ∈ L ↔ LotOk n l
def spLots (K : PySem.W.Frag) : Sp := fun vs H Q _ => ∃ (n : Nat), vs = [.int (n : Int)] ∧ n ≤ 9 ∧ ∀ (F : Addr) (xs : List V) (L : List (List Nat)) H', Same H H' → H' F = some (.lst xs) → LotsT H' xs L → AllLots n L → L.length = 2 ^ n → Q (.ref F) H'
section
variable {P : Program} {w : World} {K : PySem.W.Frag} {mg : Str → Option Value} {base : Heap} {f : Addr} {fd : FuncData}
theorem ok_lots (F : L2.Fun K "_law_lots" "_law_lots" sLots f fd) (mr : mg "range" = none) (mso : mg "sorted" = none) : FnOk P w K mg base CX0 1 f fd ["n"] (spLots K) := by
  refine F.ok scLots (fun vs H Q E h => ?_) (fun cdv A outer s H vs Q E hr h => ?_)
  · obtain ⟨n, rfl, _⟩ := h
    rfl
  obtain ⟨n, rfl, n9, q⟩ := h
  refine ⟨_, pss_cons (ps_set (i := 1) scLots.nd rfl (.inl rfl) (pe_lst (pa_cons (pe_tup pa_nil) pa_nil)))
    (pss_cons (ps_for PassesOwn.never rfl (pi_range1 rfl mr (pa_cons (pv 0) pa_nil)) (pg_name (i := 2) scLots.nd rfl (.inr rfl))
      (pss_one (ps_set (i := 1) scLots.nd rfl (.inl rfl) (pe_op op_cat (pv 1) (pe_lc (own := [("lot", 3)]) (g := gName 3) (tt := tYes) rfl scLots.nd (pi_list (pv 1))
        (blkOk_by (N := ["n", "found", "v", "lot"]) (sc := defScope sLots) (by decide +kernel)) (fun _ _ _ _ _ => pg_name (i := 3) scLots.nd rfl (Or.inl rfl)) (fun _ _ _ _ _ => pts_nil)
        (fun _ _ _ _ _ => pe_op (r := rCatA K) op_catA (pv 3) (pe_tup (pa_cons (pv 2) pa_nil))))))))
    (pss_one (ps_ret (pe_callB (cr_sortTI hr.units) (by rfl) mso (by decide +kernel) (pa_cons (pv 1) pa_nil))))), ?_⟩
  refine ⟨(by show 0 ≤ sizeLine; decide), fun t0 nt0 => ⟨(by show 1 ≤ sizeLine; rw [sizeLine_eq]; decide), fun F0 nF0 => ?_⟩⟩
  have s1 := same_new nt0 (.tup [])
  have s2 := same_new nF0 (.lst [V.ref t0])
  have h0 := upd_same (H := upd H t0 (.tup [])) (a := F0) (o := .lst [V.ref t0])
  have x0 : LotT (upd (upd H t0 (.tup [])) F0 (.lst [V.ref t0])) (.ref t0) [] := ⟨t0, rfl, s2 _ _ upd_same⟩
  have s0 := s1.trans s2
  generalize upd (upd H t0 (.tup [])) F0 (.lst [V.ref t0]) = H0 at s0 h0 x0 ⊢
  refine ⟨_, rfl, (n : Int), rfl, by omega, by omega, for_range (lo := 0) (n := ((n : Nat) : Int).toNat) (fun i σ H' => ∃ (F : Addr) (xs : List V) (s2 : Option V), σ = [some (.int (n : Int)), some (.ref F), s2, none] ∧ Same H H' ∧ H' F = some (.lst xs) ∧ LotsT H' xs (lotsN i))
    ⟨F0, [.ref t0], none, rfl, s0, h0, .cons x0 .nil⟩ ?_ ?_⟩
  · rintro i σ H2 li ⟨F, xs, s2', rfl, s2, hF, hl⟩
    have ll := lotsN_len i
    have p8 : 2 ^ i ≤ 2 ^ 8 := Nat.pow_le_pow_right (by decide) (by omega)
    have lx := hl.len
    rw [show (0 : Int) + (i : Int) = (i : Int) by omega]
    refine ⟨_, rfl, _, rfl, F, rfl, ⟨_, SqL.of hF⟩, fun B nB => lo_it (walk_list (xs := xs)) (fun j H4 => Same H2 H4 ∧ ∃ ys, H4 B = some (.lst ys) ∧ LotsT H4 ys (((lotsN i).take j).map (· ++ [i]))) ⟨same_new nB _, [], upd_same, .nil⟩ (fun j H4 _ ⟨s4, _⟩ => SqL.of (s4 _ _ hF)) ?_ ?_⟩
    · rintro j x _ H4 lj ⟨s4, ys, hB, hy⟩ ⟨rfl, hj⟩
      obtain ⟨l, e, hx⟩ := hl.get hj
      have hx4 := hx.same s4
      obtain ⟨t, rfl, ht⟩ := hx4
      refine ⟨rfl, ?_⟩
      refine ⟨_, rfl, _, rfl, (by show 1 ≤ sizeLine; rw [sizeLine_eq]; decide), fun u nu => ?_⟩
      have su := same_new nu (.tup [.int (i : Int)])
      have lm : l.length ≤ 9 := by
        have := (mem_lotsN.mp (List.mem_of_getElem? e)).few
        omega
      have lt : ys.length < 1000 := by rw [hy.len, List.length_map, List.length_take]; omega
      refine ⟨t, u, natV l, _, rfl, rfl, SqT.of (su _ _ ht), SqT.of upd_same, Nat.le_trans (by rw [List.length_cons, List.length_nil]; unfold natV; rw [List.length_map]; omega : _ ≤ 10) (by rw [sizeLine_eq]; decide), fun en => ?_, fun _ en => absurd en (by simp), fun en _ p np => ?_⟩
      · have el : l = [] := by
          cases l with
          | nil => rfl
          | cons a r => cases en
        subst el
        have hB2 := su _ _ hB
        refine ⟨ys, hB2, small1000 (by omega), same_put (s4.trans su) nB, _, upd_same, ?_⟩
        rw [take_succ e, List.map_append]
        have xu : LotT (upd H4 u (.tup [.int (i : Int)])) (.ref u) ([] ++ [i]) := ⟨u, rfl, upd_same⟩
        exact ((hy.same su).put hB2).snoc (xu.put hB2)
      · have sp := same_new np (.tup (natV l ++ [.int (i : Int)]))
        have hB2 := (su.trans sp) _ _ hB
        refine ⟨ys, hB2, small1000 (by omega), same_put (s4.trans (su.trans sp)) nB, _, upd_same, ?_⟩
        rw [take_succ e, List.map_append]
        have xu : LotT (upd (upd H4 u (.tup [.int (i : Int)])) p (.tup (natV l ++ [.int (i : Int)]))) (.ref p) (l ++ [i]) := ⟨p, rfl, by rw [upd_same]; unfold natV; rw [List.map_append]; rfl⟩
        exact ((hy.same (su.trans sp)).put hB2).snoc (xu.put hB2)
    · rintro H4 ⟨s4, ys, hB, hy⟩
      rw [lx, List.take_length] at hy
      refine ⟨F, B, _, _, rfl, rfl, s4 _ _ hF, hB, Nat.le_trans (by rw [hy.len, hl.len, List.length_map]; omega : _ ≤ 1024) (by rw [sizeLine_eq]; decide), fun c nc => ?_⟩
      have sc := same_new nc (.lst (xs ++ ys))
      exact ⟨c, _, _, rfl, s2.trans (s4.trans sc), upd_same, ((hl.same s4).app hy).same sc⟩
  · rintro σ H2 ⟨F, xs, s2', rfl, s2, hF, hl⟩
    rw [Int.toNat_natCast] at hl
    obtain ⟨r, er⟩ := lotsN_head n
    obtain ⟨p1, p2⟩ := lots_sort (K := K) hl (.inl (by rw [er]; exact sortish_nil r))
    refine ⟨_, rfl, F, xs, fun x => natI (kN H2 x), rfl, SqL.of hF, p1, p2, fun ys p so st np => ?_⟩
    obtain ⟨h1, h2, h3⟩ := sorted_lots hl (lotsN_nodup n) so st
    have sp := same_new np (.lst ys)
    exact q p ys _ _ (s2.trans sp) upd_same (h1.same sp) ⟨h2, fun l => h3.mem_iff.trans mem_lotsN⟩ (by rw [h3.length_eq, lotsN_len])
end
end My

set_option maxHeartbeats 4000000
/-! t.index(k), t a tuple that was made from a list and is known whole. -/
namespace My
open PySem PySem.Spec PyProof.Rows L2
theorem flat_ints (ns : List Int) : (ns.map V.int).all flatV = true := by
  rw [List.all_map]
  exact List.all_eq_true.mpr fun _ _ => rfl
/-- a tuple without attributes of its own -/
def TupF (H : Hp) (p : Addr) (xs : List V) : Prop := ∃ ob : Obj, H p = some (.frz ob (.tup xs)) ∧ ob.dict = none ∧ ob.cls = .type "tuple"
theorem TupF.sq {K : PySem.W.Frag} {H : Hp} {p : Addr} {xs : List V} (h : TupF H p xs) : SqT K H p xs := by
  obtain ⟨ob, h, _⟩ := h
  exact .inl (.inr ⟨ob, h⟩)
theorem TupF.same {H H' : Hp} (s : Same H H') {p : Addr} {xs : List V} (h : TupF H p xs) : TupF H' p xs := by
  obtain ⟨ob, h, d⟩ := h
  exact ⟨ob, s _ _ h, d⟩
section
variable {X : Cx}
def rTupF (K : PySem.W.Frag) : List V → Hp → VK → Prop := fun xs H Q => ∃ p ys, xs = [V.ref p] ∧ SqL K H p ys ∧ ∀ l H', Same H H' → TupF H' l ys → Q (.ref l) H'
theorem call_tupF : CallR X (.type "tuple") (rTupF X.K) := by
  intro pins s σ H xs us Q I r h
  obtain ⟨p, ys, rfl, hq, q⟩ := h
  obtain ⟨u, rfl, rx⟩ := vals1 r
  cases rx
  obtain ⟨its, r', pl, hz⟩ := I.list hq
  have len := r'.length
  refine call_tuple_list pl.isList (fun h' kp => ?_) (by simp only [List.size_toArray] <;> omega)
  have I1 : L2.Inv X pins σ H { s with heap := h' } := I.kept (t' := s.toks) kp
  have nn : H h'.objs.size = none := I1.hok.fresh (Nat.le_refl _)
  let ob : Obj := { cls := .type "tuple", data := .seq its.toArray }
  have I2 : L2.Inv X pins σ (upd H h'.objs.size (.frz ob (.tup ys))) { s with heap := h'.push ob } :=
    I1.laid (t' := s.toks) (fun b o e => Heap.get?_push_of_some _ e) (Nat.le_refl _) (show ObjOk X.prog X.w _ _ _ (.frz ob (.tup ys)) from ⟨Heap.get?_push_size _ rfl, hz, its, r', IsTup.new _ _⟩)
  exact ⟨.ref h'.objs.size, _, I2, rfl, q _ _ (same_new nn _) ⟨ob, upd_same, rfl, rfl⟩⟩
def rTixF : V → List V → Hp → VK → Prop := fun x xs H Q => ∃ (p : Addr) (ns : List Int) (z : Int) (j : Nat), x = .ref p ∧ xs = [.int z] ∧ TupF H p (ns.map V.int) ∧ ns[j]? = some z ∧ (∀ m, m < j → ns[m]? ≠ some z) ∧ Q (.int (j : Nat)) H
theorem mt_tixF : MtR X "tuple.index" rTixF := by
  intro pins s σ H x xs v us Q I rx rs h
  obtain ⟨p, ns, z, j, rfl, rfl, hf, hy, hno, q⟩ := h
  cases rx
  obtain ⟨u, rfl, t, rfl⟩ := vals1 rs
  obtain ⟨its, r, pl, hz⟩ := I.tuple (hf.sq (K := X.K))
  obtain ⟨⟨cls, dd, dt, sl⟩, ho, hc, n, hd⟩ := pl
  simp only at hc hd
  subst hc
  subst hd
  have hl : its.toArray.size = ns.length := by rw [List.size_toArray, ← r.length, List.length_map]
  have hj : j < its.toArray.size := by rw [hl]; exact (List.getElem?_eq_some_iff.mp hy).1
  have each : ∀ (m : Nat) (hm : m < its.toArray.size), ∃ y t', ns[m]? = some y ∧ its.toArray[m] = Value.int y t' := fun m hm => by
    have hm' : m < ns.length := by rw [← hl]; exact hm
    obtain ⟨w, hw, t', hw'⟩ := r.get (i := m) (x := .int ns[m]) (by simp [hm'])
    refine ⟨ns[m], t', List.getElem?_eq_getElem hm', ?_⟩
    have e := (List.getElem?_eq_some_iff.mp hw).2
    rw [← hw', ← e]
    simp
  refine call_meets PySem.F.slot_tuple_index ⟨_, ho, rfl⟩ PySem.F.entry_tuple_index (PySem.F.args_tuple_index_2 _ _) (TI.tuple_indexAt p its.toArray n dd sl (.int z t) (eqU (.int z)) j hj ?_ ?_)
    ⟨ho, fun w hw => mem_eqAt (x := .int z) ⟨t, rfl⟩ rfl r (flat_ints ns) w (by simpa using hw), ⟨.int (j : Nat), H, I.tok _, ⟨_, rfl⟩, q⟩⟩
  · obtain ⟨y, t', h1, h2⟩ := each j hj
    rw [hy] at h1
    cases h1
    rw [h2]
    show (z == z) = true
    exact beq_self_eq_true z
  · intro m hm hmj
    obtain ⟨y, t', h1, h2⟩ := each m hm
    rw [h2]
    show (y == z) = false
    exact beq_eq_false_iff_ne.mpr fun e => hno m hmj (e ▸ h1)
def tBF (r : V → List V → Hp → VK → Prop) (to : TE) (t : TA) : TE := fun σ H Q => to σ H fun x H1 => (∃ p xs, x = .ref p ∧ TupF H1 p xs) ∧ t σ H1 fun xs H2 => r x xs H2 Q
variable {o e : Expr} {es : List Expr} {to : TE} {t : TA} {name : Str} {apos cpos : Pos} {id : String} {r : V → List V → Hp → VK → Prop}
/-- t.m(..), t such a tuple -/
theorem pe_bmF (pa : PlainAttrs "tuple") (slot : Slot "tuple" name id) (hty : typeOf (.builtin id) = pure (.type "method_descriptor")) (hm : MtR X id r) (ho : PE X o to) (ha : PA X (e :: es) t)
    (k1 : attributeBase o name X.env (eval o X.env) = eval o X.env := by rfl)
    (k2 : ((backTo cpos (starEach (e :: es) X.env)).all (fun x => !x.1) && (backToKw cpos (keywordEach [] X.env)).all (fun x => x.1.isSome) && decide ((e :: es).length + ([] : List Keyword).length + (if ([] : List Keyword).isEmpty then 0 else 1) < 30)) = true := by rfl)
    (k3 : (apos.endLine == cpos.line) = true := by rfl) (hs : starEach (e :: es) X.env = (false, eval e X.env) :: starEach es X.env := by rfl) (k4 : (backTo cpos (starEach es X.env)).any (·.1) = false := by rfl) :
    PE X (.Call (.Attribute o name apos) (e :: es) [] cpos) (tBF r to t) := by
  refine ⟨fun pins s σ H Q I h => ?_⟩
  refine wpAny_Call_method_late k1 k2 k3 rfl (thn (ho.run pins s σ H _ I h) fun v s1 ⟨x, H1, I1, r1, ⟨p, xs, ex, ob, hp, hd, hc⟩, q1⟩ => ?_)
  subst ex
  cases r1
  have hob := (I1.hok p _ hp).1
  refine ⟨"tuple", id, pa, slot, hty, ⟨ob, hob, hc⟩, fun a ea => ?_, ?_⟩
  · cases ea
    exact ⟨ob, hob, hd⟩
  have hA := ha.run cpos pins s1 σ H1 _ I1 q1
  rw [hs] at hA ⊢
  refine Calls.callWith_builtin (by show (false || (backTo cpos (starEach es X.env)).any (·.1)) = false; rw [k4] <;> rfl) (Calls.evalArgs_plain ?_)
  exact thn hA fun us s2 ⟨vs, H2, I2, r2, q2⟩ => hm pins s2 σ H2 (.ref p) vs (.ref p) us Q I2 rfl r2 q2
end
end My

set_option maxHeartbeats 4000000
/-! Lots as tuples that are known whole: made by writing them and by +. -/
namespace My
open PySem PySem.Spec PyProof.Rows L2
section
variable {X : Cx} {pos : Pos} {es : List Expr} {t : TA}
def tTupF (t : TA) : TE := fun σ H Q => t σ H fun xs H1 => xs.length ≤ sizeLine ∧ ∀ p H', Same H1 H' → H1 p = none → TupF H' p xs → Q (.ref p) H'
theorem pe_tupF {x1} (h : PA X es t) : PE X (.Tuple es x1 pos) (tTupF t) := by
  refine ⟨fun pins s σ H Q I hq => ?_⟩
  refine wpAny_Tuple_spliced (thn (h.run pos pins s σ H _ I hq) fun us s1 ⟨xs, H1, I1, r, z, q⟩ => ⟨by rw [← r.length]; exact z, ?_⟩)
  have hf : H1 s1.heap.objs.size = none := I1.hok.fresh (Nat.le_refl _)
  let ob : Obj := { cls := .type "tuple", data := .seq us.toArray }
  refine ⟨.ref s1.heap.objs.size, upd H1 s1.heap.objs.size (.frz ob (.tup xs)), I1.laid (t' := s1.toks) (fun b u e => Heap.get?_push_of_some _ e) (Nat.le_refl _) ?_, rfl, q _ _ (same_new hf _) hf ⟨ob, upd_same, rfl, rfl⟩⟩
  exact ⟨Heap.get?_push_size _ rfl, z, us, r, ⟨_, Heap.get?_push_size _ rfl, rfl, _, rfl⟩⟩
/-- t + u, both known whole -/
def rCatF : R2 := fun x y H Q => ∃ a b xs ys, x = .ref a ∧ y = .ref b ∧ TupF H a xs ∧ TupF H b ys ∧ xs.length + ys.length ≤ sizeLine ∧ ∀ p H', Same H H' → TupF H' p (xs ++ ys) → Q (.ref p) H'
theorem op_catF : OpR X (binaryOp .Add) rCatF := by
  intro pins s σ H x y v u Q I rx ry h
  obtain ⟨a, b, xs, ys, rfl, rfl, ha, hb, hz, q⟩ := h
  cases rx
  cases ry
  obtain ⟨its, r1, p1, _⟩ := I.tuple (ha.sq (K := X.K))
  obtain ⟨its2, r2, p2, _⟩ := I.tuple (hb.sq (K := X.K))
  by_cases hx : xs = []
  · subst hx
    cases r1
    exact cat_tup0 p1 p2 ⟨.ref b, H, I, rfl, q b H (Same.refl H) hb⟩
  · refine HT.cat_tup p1 p2 (fun z => hx (r1.nil_iff.mp z)) (fun z => ⟨.ref a, H, I, rfl, q a H (Same.refl H) (by rw [r2.nil_iff.mp z, List.append_nil]; exact ha)⟩) (fun z => ?_) (by rw [← r1.length, ← r2.length]; exact hz)
    have nn : H s.heap.objs.size = none := I.hok.fresh (Nat.le_refl _)
    let ob : Obj := { cls := .type "tuple", data := .seq (its ++ its2).toArray }
    refine ⟨.ref s.heap.objs.size, _, I.laid (t' := s.toks) (o := .frz ob (.tup (xs ++ ys))) (fun b ob q => Heap.get?_push_of_some _ q) (Nat.le_refl _) ?_, rfl, q _ _ (same_new nn _) ⟨ob, upd_same, rfl, rfl⟩⟩
    exact ⟨Heap.get?_push_size _ rfl, by rw [List.length_append]; exact hz, _, r1.append r2, IsTup.new _ _⟩
end
/-- a tuple of this lot -/
def LotF (H : Hp) (x : V) (l : List Nat) : Prop := ∃ t, x = .ref t ∧ TupF H t (natV l)
theorem LotF.same {H H' : Hp} (s : Same H H') {x : V} {l : List Nat} (h : LotF H x l) : LotF H' x l := by
  obtain ⟨t, e, h⟩ := h
  exact ⟨t, e, h.same s⟩
theorem LotF.uniq {H : Hp} {x : V} {l m : List Nat} (h : LotF H x l) (h' : LotF H x m) : l = m := by
  obtain ⟨t, rfl, h⟩ := h
  obtain ⟨t', e, h'⟩ := h'
  cases e
  obtain ⟨o, h, _⟩ := h
  obtain ⟨o', h', _⟩ := h'
  rw [h] at h'
  injection h' with h'
  injection h' with h0 h'
  injection h' with h'
  exact natV_inj h'
inductive LotsF (H : Hp) : List V → List (List Nat) → Prop
  | nil : LotsF H [] []
  | cons {x : V} {l : List Nat} {xs : List V} {ls : List (List Nat)} : LotF H x l → LotsF H xs ls → LotsF H (x :: xs) (l :: ls)
theorem LotsF.same {H H' : Hp} (s : Same H H') {xs : List V} {ls : List (List Nat)} (h : LotsF H xs ls) : LotsF H' xs ls := by
  induction h with
  | nil => exact .nil
  | cons a _ ih => exact .cons (a.same s) ih
theorem LotsF.len {H : Hp} {xs : List V} {ls : List (List Nat)} (h : LotsF H xs ls) : xs.length = ls.length := by
  induction h with
  | nil => rfl
  | cons _ _ ih => rw [List.length_cons, List.length_cons, ih]
theorem LotsF.snoc {H : Hp} {xs : List V} {ls : List (List Nat)} {x : V} {l : List Nat} (h : LotsF H xs ls) (hx : LotF H x l) : LotsF H (xs ++ [x]) (ls ++ [l]) := by
  induction h with
  | nil => exact .cons hx .nil
  | cons a _ ih => exact .cons a ih
theorem LotsF.app {H : Hp} {xs ys : List V} {ls ms : List (List Nat)} (h : LotsF H xs ls) (h' : LotsF H ys ms) : LotsF H (xs ++ ys) (ls ++ ms) := by
  induction h with
  | nil => exact h'
  | cons a _ ih => exact .cons a ih
theorem LotsF.get {H : Hp} {xs : List V} {ls : List (List Nat)} (h : LotsF H xs ls) {i : Nat} {x : V} (hi : xs[i]? = some x) : ∃ l, ls[i]? = some l ∧ LotF H x l := by
  induction h generalizing i with
  | nil => simp at hi
  | cons a _ ih =>
    cases i with
    | zero =>
      cases hi
      exact ⟨_, rfl, a⟩
    | succ i => exact ih hi
theorem LotF.put {H : Hp} {B : Addr} {ys : List V} {o : HO} (hB : H B = some (.lst ys)) {x : V} {l : List Nat} (h : LotF H x l) : LotF (upd H B o) x l := by
  obtain ⟨t, e, ob, h, d⟩ := h
  have ne : t ≠ B := fun z => by
    rw [z, hB] at h
    cases h
  exact ⟨t, e, ob, by rw [upd_ne ne]; exact h, d⟩
theorem LotsF.put {H : Hp} {B : Addr} {ys : List V} {o : HO} (hB : H B = some (.lst ys)) {xs : List V} {ls : List (List Nat)} (h : LotsF H xs ls) : LotsF (upd H B o) xs ls := by
  induction h with
  | nil => exact .nil
  | cons a _ ih => exact .cons (a.put hB) ih
open Classical in
noncomputable def kF (H : Hp) (x : V) : List Nat := if h : ∃ l, LotF H x l then h.choose else []
theorem kF_at {H : Hp} {x : V} {l : List Nat} (h : LotF H x l) : kF H x = l := by
  unfold kF
  rw [dif_pos ⟨l, h⟩]
  exact (Classical.choose_spec (⟨l, h⟩ : ∃ l, LotF H x l)).uniq h
theorem LotsF.mem {H : Hp} {xs : List V} {ls : List (List Nat)} (h : LotsF H xs ls) : ∀ x ∈ xs, LotF H x (kF H x) := by
  induction h with
  | nil => intro x hx; cases hx
  | cons a _ ih =>
    intro x hx
    rcases List.mem_cons.mp hx with rfl | hx
    · rw [kF_at a]; exact a
    · exact ih x hx
theorem LotsF.map {H : Hp} {xs : List V} {ls : List (List Nat)} (h : LotsF H xs ls) : xs.map (kF H) = ls := by
  induction h with
  | nil => rfl
  | cons a _ ih => rw [List.map_cons, kF_at a, ih]
theorem LotsF.of_mem {H : Hp} : ∀ {ys : List V}, (∀ y ∈ ys, LotF H y (kF H y)) → LotsF H ys (ys.map (kF H))
  | [], _ => .nil
  | y :: ys, h => .cons (h y (List.mem_cons_self ..)) (LotsF.of_mem fun z hz => h z (List.mem_cons_of_mem _ hz))
/-- sorted lots, none twice, ascend -/
theorem sorted_lotsF {H : Hp} {xs ys : List V} {ls : List (List Nat)} (h : LotsF H xs ls) (nd : ls.Nodup) (so : SrtO.Srtd (fun x y => HT.lexLt (natI (kF H x)) (natI (kF H y))) ys) (st : SrtO.Stb (fun x y => HT.lexLt (natI (kF H x)) (natI (kF H y))) ys xs) :
    LotsF H ys (ys.map (kF H)) ∧ (ys.map (kF H)).Pairwise ltL ∧ (ys.map (kF H)).Perm ls := by
  have pm : (ys.map (kF H)).Perm ls := by
    have z := st.perm.map (kF H)
    rw [h.map] at z
    exact z
  refine ⟨LotsF.of_mem fun y hy => h.mem y (st.perm.mem_iff.mp hy), ?_, pm⟩
  have nd2 : (ys.map (kF H)).Nodup := pm.nodup_iff.mpr nd
  rw [List.pairwise_map]
  refine (so.and (List.pairwise_map.mp nd2)).imp ?_
  intro a b ⟨le, ne⟩
  have le2 : HT.lexLt (natI (kF H b)) (natI (kF H a)) = false := le
  unfold ltL
  cases e : HT.lexLt (natI (kF H a)) (natI (kF H b)) with
  | true => rfl
  | false => exact absurd (natI_inj (lex_same e le2)) ne
/-- what sorted asks of lots -/
theorem lots_sortF {K : PySem.W.Frag} {H : Hp} {xs : List V} {ls : List (List Nat)} (h : LotsF H xs ls) (si : Sortish (ls.map natI) ∨ ls.length < 2) :
    (∀ x ∈ xs, ∃ t, x = V.ref t ∧ SqT K H t ((natI (kF H x)).map V.int)) ∧ (xs.length < 2 ∨ Sortish (xs.map fun x => natI (kF H x))) := by
  refine ⟨fun x hx => ?_, ?_⟩
  · obtain ⟨t, e, ht⟩ := h.mem x hx
    refine ⟨t, e, ?_⟩
    rw [natV_eq]
    exact ht.sq
  · rcases si with ne | l2
    · right
      have e : xs.map (fun x => natI (kF H x)) = ls.map natI := by
        rw [← h.map, List.map_map]
        rfl
      rw [e]
      exact ne
    · left
      rw [h.len]
      exact l2
end My

set_option maxHeartbeats 4000000
/-! The law's lots, as tuples that are known whole. -/
namespace My
open PySem PySem.Spec PyProof.Rows L2
def spLotsF (K : PySem.W.Frag) : Sp := fun vs H Q _ => ∃ (n : Nat), vs = [.int (n : Int)] ∧ n ≤ 9 ∧ ∀ (F : Addr) (xs : List V) (L : List (List Nat)) H', Same H H' → H' F = some (.lst xs) → LotsF H' xs L → AllLots n L → L.length = 2 ^ n → Q (.ref F) H'
section
variable {P : Program} {w : World} {K : PySem.W.Frag} {mg : Str → Option Value} {base : Heap} {f : Addr} {fd : FuncData}
theorem ok_lotsF (F : L2.Fun K "_law_lots" "_law_lots" sLots f fd) (mr : mg "range" = none) (mso : mg "sorted" = none) : FnOk P w K mg base CX0 1 f fd ["n"] (spLotsF K) := by
  refine F.ok scLots (fun vs H Q E h => ?_) (fun cdv A outer s H vs Q E hr h => ?_)
  · obtain ⟨n, rfl, _⟩ := h
    rfl
  obtain ⟨n, rfl, n9, q⟩ := h
  refine ⟨_, pss_cons (ps_set (i := 1) scLots.nd rfl (.inl rfl) (pe_lst (pa_cons (pe_tupF pa_nil) pa_nil)))
    (pss_cons (ps_for PassesOwn.never rfl (pi_range1 rfl mr (pa_cons (pv 0) pa_nil)) (pg_name (i := 2) scLots.nd rfl (.inr rfl))
      (pss_one (ps_set (i := 1) scLots.nd rfl (.inl rfl) (pe_op op_cat (pv 1) (pe_lc (own := [("lot", 3)]) (g := gName 3) (tt := tYes) rfl scLots.nd (pi_list (pv 1))
        (blkOk_by (N := ["n", "found", "v", "lot"]) (sc := defScope sLots) (by decide +kernel)) (fun _ _ _ _ _ => pg_name (i := 3) scLots.nd rfl (Or.inl rfl)) (fun _ _ _ _ _ => pts_nil)
        (fun _ _ _ _ _ => pe_op (r := rCatF) op_catF (pv 3) (pe_tupF (pa_cons (pv 2) pa_nil))))))))
    (pss_one (ps_ret (pe_callB (cr_sortTI hr.units) (by rfl) mso (by decide +kernel) (pa_cons (pv 1) pa_nil))))), ?_⟩
  refine ⟨(by show 0 ≤ sizeLine; decide), fun t0 H0' s1 _ ht0 => ⟨(by show 1 ≤ sizeLine; rw [sizeLine_eq]; decide), fun F0 nF0 => ?_⟩⟩
  have s2 := same_new nF0 (.lst [V.ref t0])
  have h0 := upd_same (H := H0') (a := F0) (o := .lst [V.ref t0])
  have x0 : LotF (upd H0' F0 (.lst [V.ref t0])) (.ref t0) [] := ⟨t0, rfl, ht0.same s2⟩
  have s0 := s1.trans s2
  generalize upd H0' F0 (.lst [V.ref t0]) = H0 at s0 h0 x0 ⊢
  refine ⟨_, rfl, (n : Int), rfl, by omega, by omega, for_range (lo := 0) (n := ((n : Nat) : Int).toNat) (fun i σ H' => ∃ (F : Addr) (xs : List V) (s2 : Option V), σ = [some (.int (n : Int)), some (.ref F), s2, none] ∧ Same H H' ∧ H' F = some (.lst xs) ∧ LotsF H' xs (lotsN i))
    ⟨F0, [.ref t0], none, rfl, s0, h0, .cons x0 .nil⟩ ?_ ?_⟩
  · rintro i σ H2 li ⟨F, xs, s2', rfl, s2, hF, hl⟩
    have ll := lotsN_len i
    have p8 : 2 ^ i ≤ 2 ^ 8 := Nat.pow_le_pow_right (by decide) (by omega)
    have lx := hl.len
    rw [show (0 : Int) + (i : Int) = (i : Int) by omega]
    refine ⟨_, rfl, _, rfl, F, rfl, ⟨_, SqL.of hF⟩, fun B nB => lo_it (walk_list (xs := xs)) (fun j H4 => Same H2 H4 ∧ ∃ ys, H4 B = some (.lst ys) ∧ LotsF H4 ys (((lotsN i).take j).map (· ++ [i]))) ⟨same_new nB _, [], upd_same, .nil⟩ (fun j H4 _ ⟨s4, _⟩ => SqL.of (s4 _ _ hF)) ?_ ?_⟩
    · rintro j x _ H4 lj ⟨s4, ys, hB, hy⟩ ⟨rfl, hj⟩
      obtain ⟨l, e, hx⟩ := hl.get hj
      have hx4 := hx.same s4
      obtain ⟨t, rfl, ht⟩ := hx4
      refine ⟨rfl, ?_⟩
      refine ⟨_, rfl, _, rfl, (by show 1 ≤ sizeLine; rw [sizeLine_eq]; decide), fun u H5 su _ hu => ?_⟩
      have lm : l.length ≤ 9 := by
        have := (mem_lotsN.mp (List.mem_of_getElem? e)).few
        omega
      have lt : ys.length < 1000 := by rw [hy.len, List.length_map, List.length_take]; omega
      refine ⟨t, u, natV l, _, rfl, rfl, ht.same su, hu, Nat.le_trans (by rw [List.length_cons, List.length_nil]; unfold natV; rw [List.length_map]; omega : _ ≤ 10) (by rw [sizeLine_eq]; decide), fun p H6 sp hp => ?_⟩
      have hB2 := (su.trans sp) _ _ hB
      refine ⟨ys, hB2, small1000 (by omega), same_put (s4.trans (su.trans sp)) nB, _, upd_same, ?_⟩
      rw [take_succ e, List.map_append]
      have xu : LotF H6 (.ref p) (l ++ [i]) := ⟨p, rfl, by unfold natV at hp ⊢; rw [List.map_append]; exact hp⟩
      exact ((hy.same (su.trans sp)).put hB2).snoc (xu.put hB2)
    · rintro H4 ⟨s4, ys, hB, hy⟩
      rw [lx, List.take_length] at hy
      refine ⟨F, B, _, _, rfl, rfl, s4 _ _ hF, hB, Nat.le_trans (by rw [hy.len, hl.len, List.length_map]; omega : _ ≤ 1024) (by rw [sizeLine_eq]; decide), fun c nc => ?_⟩
      have sc := same_new nc (.lst (xs ++ ys))
      exact ⟨c, _, _, rfl, s2.trans (s4.trans sc), upd_same, ((hl.same s4).app hy).same sc⟩
  · rintro σ H2 ⟨F, xs, s2', rfl, s2, hF, hl⟩
    rw [Int.toNat_natCast] at hl
    obtain ⟨r, er⟩ := lotsN_head n
    obtain ⟨p1, p2⟩ := lots_sortF (K := K) hl (.inl (by rw [er]; exact sortish_nil r))
    refine ⟨_, rfl, F, xs, fun x => natI (kF H2 x), rfl, SqL.of hF, p1, p2, fun ys p so st np => ?_⟩
    obtain ⟨h1, h2, h3⟩ := sorted_lotsF hl (lotsN_nodup n) so st
    have sp := same_new np (.lst ys)
    exact q p ys _ _ (s2.trans sp) upd_same (h1.same sp) ⟨h2, fun l => h3.mem_iff.trans mem_lotsN⟩ (by rw [h3.length_eq, lotsN_len])
end
end My

set_option maxHeartbeats 2000000
/-! list(text); a, *b = list. -/
namespace My
open PySem PySem.Spec PyProof.Rows L2
def sgnsOf (z : Str) : List V := z.cps.toList.map fun c => V.str ⟨#[c]⟩
section
variable {X : Cx}
def rListT : List V → Hp → VK → Prop := fun xs H Q => ∃ z : Str, xs = [.str z] ∧ z.cps.size ≤ sizeLine ∧ ∀ l, H l = none → Q (.ref l) (upd H l (.lst (sgnsOf z)))
theorem call_listT (hc : X.calm = true) : CallR X (.type "list") rListT := by
  rintro pins s σ H xs us Q I r ⟨z, rfl, hz, q⟩
  obtain ⟨u, rfl, t, rfl⟩ := vals1 r
  refine call_list_str (I.ok.hd hc) z t (hn := hz) fun h' tk acc c' hk e' hi => ?_
  refine ⟨.ref s.heap.objs.size, upd H s.heap.objs.size (.lst (sgnsOf z)), I.laid hk (Nat.le_refl _) (show ObjOk X.prog X.w _ _ _ (.lst (sgnsOf z)) from ⟨?_, acc.toList, c', ?_, ?_⟩), rfl, q _ (I.hok.fresh (Nat.le_refl _))⟩
  · unfold sgnsOf
    rw [List.length_map, Array.length_toList]
    exact hz
  · have la : acc.toList.length = z.cps.size := by rw [Array.length_toList]; exact hi.1
    have es : sgnsOf z = (List.range acc.toList.length).map fun i => V.str ⟨#[z.cps.getD i 0]⟩ := by
      rw [la]
      unfold sgnsOf
      refine List.ext_getElem? fun i => ?_
      rw [List.getElem?_map, List.getElem?_map, Array.getElem?_toList]
      by_cases hi : i < z.cps.size
      · rw [List.getElem?_range hi]
        simp [Array.getD, hi]
      · rw [Array.getElem?_eq_none (by omega), List.getElem?_eq_none (by rw [List.length_range]; omega)]
        rfl
    rw [es]
    refine vals_of_get acc.toList _ fun j u hj => ?_
    obtain ⟨c, t2, h1, rfl⟩ := hi.2 j u (by rw [← hj, Array.getElem?_toList])
    refine ⟨t2, ?_⟩
    have : z.cps.getD j 0 = c := by
      obtain ⟨hlt, e⟩ := Array.getElem?_eq_some_iff.mp h1
      simp [Array.getD, hlt, e]
    rw [this]
  · rw [Array.toArray_toList]
    exact e'
theorem walks_shift {prog : Program} {w : World} {A : Around} {I : Addr} {fp wr : List Addr} {n : Nat} {P : Nat → Value → Prop} {St : Nat → Heap → Prop} (W : Walks prog w A I fp wr (n + 1) P St) : Walks prog w A I fp wr n (fun i => P (i + 1)) (fun i => St (i + 1)) :=
  ⟨W.sub, fun i => W.frame (i + 1), fun i s Q E hi => W.item (i + 1) s Q E (Nat.succ_lt_succ hi), fun s Q E => W.done s Q E, fun i => W.self (i + 1)⟩
/-- a, *b = a list -/
def gStar (K : PySem.W.Frag) (g0 g1 : TG) : TG := fun v σ H Q => ∃ (a : Addr) (x : V) (xs : List V), v = .ref a ∧ SqL K H a (x :: xs) ∧ ∀ l, H l = none → gCons g0 (gCons g1 gNil) [x, .ref l] σ (upd H l (.lst xs)) Q
theorem pg_star {t0 t1 : Expr} {p1 pos : Pos} {k : Nat} {g0 g1 : TG} (hc : X.calm = true) (h0 : PG X t0 g0) (h1 : PG X t1 g1)
    (hs : assignEach [t0, .Starred t1 p1] X.env = [(false, assign t0 X.env), (true, assign t1 X.env)] := by rfl) (hs2 : assignEach [t0, t1] X.env = [(false, assign t0 X.env), (false, assign t1 X.env)] := by rfl) (hs3 : assignEach [t1] X.env = [(false, assign t1 X.env)] := by rfl) : PG X (.Tuple [t0, .Starred t1 p1] k pos) (gStar X.K g0 g1) := by
  have hg : PGs X [t0, t1] (gCons g0 (gCons g1 gNil)) := pgs_cons h0 (pgs_cons h1 pgs_nil (by rw [hs3]; rfl)) (by rw [hs2, hs3]; rfl)
  refine ⟨fun pins s σ H v u Q I r hw => ?_⟩
  obtain ⟨a, x, xs, rfl, hq, hw⟩ := hw
  cases r
  obtain ⟨its, rv, pl, hz⟩ := I.list hq
  cases rv with
  | @cons _ y _ ys r0 rs =>
  rw [assign_Tuple]
  refine wpAny_bind (wpAny_standAt ?_)
  rw [hs]
  unfold unpack
  refine wpAny_bind (wpAny_holding ?_)
  show wpAny _ _ (unpackItems (.ref a) 2 (some 1)) _ _ _
  unfold unpackItems
  refine wpAny_bind ?_
  unfold notIterableAtAll
  refine wpAny_bind (wpAny_specialOf pl.isList.typeIs slot_list_iter.lookup ?_)
  refine wpAny_pure ?_
  simp only [Option.isSome_some, if_true, Bool.false_eq_true, if_false]
  refine wpAny_bind (wpAny_holding (wpAny_pyIter_list pl.isList ?_))
  have ha : a < s.heap.objs.size := by
    obtain ⟨o, ho, _⟩ := pl.isList
    exact Heap.lt_size ho
  have ne : a ≠ s.heap.objs.size := Nat.ne_of_lt ha
  refine wpAny_bind (wpAny_holding ?_)
  unfold draw
  generalize hs0 : s.heap.push { cls := .type "list_iterator", data := .fields #[.ref a, .int 0 0] } = h0'
  have k0 : ∀ b o, s.heap.get? b = some o → h0'.get? b = some o := fun b o e => by rw [← hs0]; exact Heap.get?_push_of_some _ e
  have it0 : h0'.IsListIter s.heap.objs.size a 0 := by rw [← hs0]; exact ⟨_, Heap.get?_push_size _ rfl, rfl, rfl⟩
  have li0 : h0'.IsList a (y :: ys).toArray := pl.isList.at fun o e => k0 a o e
  refine wpAny_bind (wpAny_pyNext_list_item it0 li0 (x := y) rfl fun h1 it1 sb1 => ?_)
  have li1 : h1.IsList a (y :: ys).toArray := li0.extBut sb1.extBut ne
  refine wpAny_bind (wpAny_holding ?_)
  unfold draw
  refine wpAny_pure (wpAny_pure ?_)
  simp only [List.length_singleton, Nat.lt_irrefl, if_false]
  refine wpAny_bind (wpAny_holding ?_)
  have W := walks_shift (n := ys.length) (Walks.list (prog := X.prog) (w := X.w) (A := X.A.in1) (I.ok.hd hc) s.heap.objs.size a ne (y :: ys).toArray)
  have hI : ∀ b ∈ [s.heap.objs.size, a], b < h1.objs.size := fun b hb => by
    rcases List.mem_cons.mp hb with rfl | hb
    · obtain ⟨o, ho, _⟩ := it1
      exact Heap.lt_size ho
    · rw [List.mem_singleton.mp hb]
      obtain ⟨o, ho, _⟩ := li1
      exact Heap.lt_size ho
  have lxy : xs.length = ys.length := Vals.length rs
  have zx : xs.length + 1 ≤ sizeLine := by simpa using hz
  refine wpAny_collect_iter (s := { s with heap := h1 }) (.inr (.inr (.inl rfl))) W.toS (fun _ _ st => st.1.typeIs) ⟨it1, li1⟩ hI (by simp) (fun s' acc mv io => ?_) (by omega)
  have accE : acc.toList = ys := by
    refine List.ext_getElem? fun j => ?_
    by_cases hj : j < acc.size
    · have e1 : acc[j]? = some acc[j] := Array.getElem?_eq_getElem hj
      have e2 := io.2 j _ e1
      rw [Array.getElem?_toList, e1, ← e2]
      simp
    · have l1 := io.1
      rw [List.getElem?_eq_none (by rw [Array.length_toList]; omega), List.getElem?_eq_none (by omega)]
  rw [accE, if_neg (by omega)]
  refine wpAny_bind (wpAny_newObj_type ?_ (by show (List.take _ ys).length ≤ sizeLine; rw [List.length_take]; omega))
  refine wpAny_pure ?_
  have kp : ∀ b o, s.heap.get? b = some o → s'.heap.get? b = some o := fun b o e => by
    have nb : b ≠ s.heap.objs.size := Nat.ne_of_lt (Heap.lt_size e)
    exact mv.heap b o (fun m => nb (List.mem_singleton.mp m)) ((sb1.2 b nb).trans (k0 b o e))
  have es : s' = { s with heap := s'.heap, toks := s'.toks } := by
    have g1 : s'.gens = s.gens := mv.gens
    have g2 : s'.drawn = s.drawn := mv.drawn
    have g3 : s'.os = s.os := mv.os
    cases s'
    cases s
    simp only at g1 g2 g3
    subst g1 g2 g3
    rfl
  have I1 : L2.Inv X pins σ H s' := by
    rw [es]
    exact I.kept (t' := s'.toks) kp
  have tk : List.take (ys.length - (2 - 1 - 1)) ys = ys := List.take_of_length_le (by omega)
  have dr : List.drop (ys.length - (2 - 1 - 1)) ys = [] := List.drop_eq_nil_of_le (by omega)
  rw [tk, dr]
  have I2 := I1.laid (h' := s'.heap.push { cls := .type "list", data := .seq ys.toArray }) (a := s'.heap.objs.size) (o := .lst xs) (t' := s'.toks) (fun b o e => Heap.get?_push_of_some _ e) (Nat.le_refl _) (show ObjOk X.prog X.w _ _ _ (.lst xs) from ⟨by omega, ys, _, rs, Heap.get?_push_size _ rfl⟩)
  have z := hg.run pins _ σ _ [x, .ref s'.heap.objs.size] _ Q I2 (.cons r0 (.cons rfl .nil)) (hw _ (I1.hok.fresh (Nat.le_refl _)))
  rw [hs2] at z
  exact z
end
end My

set_option maxHeartbeats 2000000
/-! a, *b = tuple. -/
namespace My
open PySem PySem.Spec PyProof.Rows L2
section
variable {X : Cx}
/-- a, *b = a tuple -/
def gStarT (K : PySem.W.Frag) (g0 g1 : TG) : TG := fun v σ H Q => ∃ (a : Addr) (x : V) (xs : List V), v = .ref a ∧ SqT K H a (x :: xs) ∧ ∀ l, H l = none → gCons g0 (gCons g1 gNil) [x, .ref l] σ (upd H l (.lst xs)) Q
theorem pg_starT {t0 t1 : Expr} {p1 pos : Pos} {k : Nat} {g0 g1 : TG} (hc : X.calm = true) (h0 : PG X t0 g0) (h1 : PG X t1 g1)
    (hs : assignEach [t0, .Starred t1 p1] X.env = [(false, assign t0 X.env), (true, assign t1 X.env)] := by rfl) (hs2 : assignEach [t0, t1] X.env = [(false, assign t0 X.env), (false, assign t1 X.env)] := by rfl) (hs3 : assignEach [t1] X.env = [(false, assign t1 X.env)] := by rfl) : PG X (.Tuple [t0, .Starred t1 p1] k pos) (gStarT X.K g0 g1) := by
  have hg : PGs X [t0, t1] (gCons g0 (gCons g1 gNil)) := pgs_cons h0 (pgs_cons h1 pgs_nil (by rw [hs3]; rfl)) (by rw [hs2, hs3]; rfl)
  refine ⟨fun pins s σ H v u Q I r hw => ?_⟩
  obtain ⟨a, x, xs, rfl, hq, hw⟩ := hw
  cases r
  obtain ⟨its, rv, pl, hz⟩ := I.tuple hq
  have pl : s.heap.IsTuple a its.toArray := pl
  cases rv with
  | @cons _ y _ ys r0 rs =>
  rw [assign_Tuple]
  refine wpAny_bind (wpAny_standAt ?_)
  rw [hs]
  unfold unpack
  refine wpAny_bind (wpAny_holding ?_)
  show wpAny _ _ (unpackItems (.ref a) 2 (some 1)) _ _ _
  unfold unpackItems
  refine wpAny_bind ?_
  unfold notIterableAtAll
  refine wpAny_bind (wpAny_specialOf pl.typeIs PySem.F.slot_tuple_iter.lookup ?_)
  refine wpAny_pure ?_
  simp only [Option.isSome_some, if_true, Bool.false_eq_true, if_false]
  refine wpAny_bind (wpAny_holding (wpAny_pyIter_tuple pl ?_))
  have ha : a < s.heap.objs.size := by
    obtain ⟨o, ho, _⟩ := pl
    exact Heap.lt_size ho
  have ne : a ≠ s.heap.objs.size := Nat.ne_of_lt ha
  refine wpAny_bind (wpAny_holding ?_)
  unfold draw
  generalize hs0 : s.heap.push { cls := .type "tuple_iterator", data := .fields #[.ref a, .int 0 0] } = h0'
  have k0 : ∀ b o, s.heap.get? b = some o → h0'.get? b = some o := fun b o e => by rw [← hs0]; exact Heap.get?_push_of_some _ e
  have it0 : h0'.IsTupleIter s.heap.objs.size a 0 := by rw [← hs0]; exact ⟨_, Heap.get?_push_size _ rfl, rfl, rfl⟩
  have li0 : h0'.IsTuple a (y :: ys).toArray := ⟨_, k0 _ _ pl.choose_spec.1, pl.choose_spec.2⟩
  refine wpAny_bind (wpAny_pyNext_tuple_item it0 li0 (x := y) rfl fun h1 it1 sb1 => ?_)
  have li1 : h1.IsTuple a (y :: ys).toArray := li0.extBut sb1.extBut ne
  refine wpAny_bind (wpAny_holding ?_)
  unfold draw
  refine wpAny_pure (wpAny_pure ?_)
  simp only [List.length_singleton, Nat.lt_irrefl, if_false]
  refine wpAny_bind (wpAny_holding ?_)
  have W := walks_shift (n := ys.length) (Walks.tuple (prog := X.prog) (w := X.w) (A := X.A.in1) (I.ok.hd hc) s.heap.objs.size a ne (y :: ys).toArray)
  have hI : ∀ b ∈ [s.heap.objs.size, a], b < h1.objs.size := fun b hb => by
    rcases List.mem_cons.mp hb with rfl | hb
    · obtain ⟨o, ho, _⟩ := it1
      exact Heap.lt_size ho
    · rw [List.mem_singleton.mp hb]
      obtain ⟨o, ho, _⟩ := li1
      exact Heap.lt_size ho
  have lxy : xs.length = ys.length := Vals.length rs
  have zx : xs.length + 1 ≤ sizeLine := by simpa using hz
  refine wpAny_collect_iter (s := { s with heap := h1 }) (.inr (.inr (.inr rfl))) W.toS (fun _ _ st => st.1.typeIs) ⟨it1, li1⟩ hI (by simp) (fun s' acc mv io => ?_) (by omega)
  have accE : acc.toList = ys := by
    refine List.ext_getElem? fun j => ?_
    by_cases hj : j < acc.size
    · have e1 : acc[j]? = some acc[j] := Array.getElem?_eq_getElem hj
      have e2 := io.2 j _ e1
      rw [Array.getElem?_toList, e1, ← e2]
      simp
    · have l1 := io.1
      rw [List.getElem?_eq_none (by rw [Array.length_toList]; omega), List.getElem?_eq_none (by omega)]
  rw [accE, if_neg (by omega)]
  refine wpAny_bind (wpAny_newObj_type ?_ (by show (List.take _ ys).length ≤ sizeLine; rw [List.length_take]; omega))
  refine wpAny_pure ?_
  have kp : ∀ b o, s.heap.get? b = some o → s'.heap.get? b = some o := fun b o e => by
    have nb : b ≠ s.heap.objs.size := Nat.ne_of_lt (Heap.lt_size e)
    exact mv.heap b o (fun m => nb (List.mem_singleton.mp m)) ((sb1.2 b nb).trans (k0 b o e))
  have es : s' = { s with heap := s'.heap, toks := s'.toks } := by
    have g1 : s'.gens = s.gens := mv.gens
    have g2 : s'.drawn = s.drawn := mv.drawn
    have g3 : s'.os = s.os := mv.os
    cases s'
    cases s
    simp only at g1 g2 g3
    subst g1 g2 g3
    rfl
  have I1 : L2.Inv X pins σ H s' := by
    rw [es]
    exact I.kept (t' := s'.toks) kp
  have tk : List.take (ys.length - (2 - 1 - 1)) ys = ys := List.take_of_length_le (by omega)
  have dr : List.drop (ys.length - (2 - 1 - 1)) ys = [] := List.drop_eq_nil_of_le (by omega)
  rw [tk, dr]
  have I2 := I1.laid (h' := s'.heap.push { cls := .type "list", data := .seq ys.toArray }) (a := s'.heap.objs.size) (o := .lst xs) (t' := s'.toks) (fun b o e => Heap.get?_push_of_some _ e) (Nat.le_refl _) (show ObjOk X.prog X.w _ _ _ (.lst xs) from ⟨by omega, ys, _, rs, Heap.get?_push_size _ rfl⟩)
  have z := hg.run pins _ σ _ [x, .ref s'.heap.objs.size] _ Q I2 (.cons r0 (.cons rfl .nil)) (hw _ (I1.hok.fresh (Nat.le_refl _)))
  rw [hs2] at z
  exact z
end
end My

set_option maxHeartbeats 2000000
/-! D.get(text), D a dict of the module. -/
namespace My
open PySem PySem.Spec PyProof.Rows L2
section
variable {X : Cx} {d : Addr} {es : Array DictEntry} {n : Nat} {e : Expr} {x : Str} {p apos cpos : Pos} {ty : TE}
def tKGet (K : PySem.W.Frag) (d : Addr) (ty : TE) : TE := fun σ H Q => ty σ H fun y H1 => ∃ (z : Str) (r : Option Value) (v : V), y = .str z ∧ PySem.W.nsIn K d z = some r ∧ RelV v (r.getD .none) ∧ Q v H1
theorem pe_kget (D : KDict X.K X.w d es n) (hg : Gl X x) (hm : X.mg x = some (.ref d)) (he : PE X e ty) (m : M1 X (.Name x p) "get" apos e cpos) (hdb : (x == ("__debug__" : Str)) = false := by decide) :
    PE X (.Call (.Attribute (.Name x p) "get" apos) [e] [] cpos) (tKGet X.K d ty) := by
  refine ⟨fun pins s σ H Q I h => ?_⟩
  refine wpAny_Call_method m.base m.few m.line PySem.F.plainAttrs_dict PySem.F.slot_dict_get PySem.F.type_dict_get (ld_glob I hg hm ?_ hdb)
  have mo := PySem.W.mapOf_K (prog := X.prog) (w := X.w) I.kIn D.at_ D.lit
  refine ⟨kd_type D I, fun b q => ?_, ?_⟩
  · cases q
    exact ⟨_, I.kIn _ _ D.at_, rfl⟩
  rw [m.trees]
  refine Calls.callWith_builtin rfl (Calls.evalArgs_plain (Calls.spliced_cons (thn (he.run pins s σ H _ I h) fun iv s2 ⟨y, H2, I2, ry, z, r, v, ey, e2, rv, q2⟩ => Calls.spliced_nil ?_)))
  subst ey
  obtain ⟨t, rfl⟩ := ry
  have mo2 := PySem.W.mapOf_K (prog := X.prog) (w := X.w) I2.kIn D.at_ D.lit
  refine call_meetsIn PySem.F.slot_dict_get (kd_type D I2) PySem.F.entry_dict_get (PySem.F.args_dict_get_2 _ _) (meets_dict_get (strKind X.prog X.w) d (PySem.strKind_is X.prog X.w z t) D.low) ⟨_, mo2, ?_⟩
  rw [PySem.W.find_K D.at_ e2]
  exact ⟨v, H2, I2.tok _, rv, q2⟩
end
end My

set_option maxHeartbeats 4000000
/-! A pair in a list or a tuple of pairs; lots compared to the empty one. -/
namespace My
open PySem PySem.Spec PyProof.Rows L2
def numsD (l : List Nat) : List PyData := l.map fun k => PyData.int ((k : Nat) : Int)
theorem numsD_dp {K : PySem.W.Frag} {H : Hp} : ∀ l : List Nat, DpAll K H (numsN l) (numsD l)
  | [] => .nil
  | a :: r => .cons (.int _) (numsD_dp r)
theorem numsD_lay : ∀ l : List Nat, PyData.canLayAll0 (numsD l) = true ∧ PyData.depthAll (numsD l) ≤ 1
  | [] => by constructor <;> simp [numsD, PyData.canLayAll0, PyData.depthAll]
  | a :: r => by
    obtain ⟨h1, h2⟩ := numsD_lay r
    unfold numsD at h1 h2 ⊢
    rw [List.map_cons]
    constructor
    · simp only [PyData.canLayAll0, PyData.canLay0, h1, Bool.and_true]
    · simp only [PyData.depthAll, PyData.depth]
      omega
theorem numsD_shL (l : List Nat) : SeqAt.shaped (.list (numsD l)) = true := by
  obtain ⟨h1, h2⟩ := numsD_lay l
  unfold SeqAt.shaped
  rw [Bool.and_eq_true, decide_eq_true_eq]
  refine ⟨?_, ?_⟩
  · simp only [PyData.canLay0, h1]
  · simp only [PyData.depth]
    omega
theorem numsD_shT (l : List Nat) : SeqAt.shaped (.tuple (numsD l)) = true := by
  obtain ⟨h1, h2⟩ := numsD_lay l
  unfold SeqAt.shaped
  rw [Bool.and_eq_true, decide_eq_true_eq]
  refine ⟨?_, ?_⟩
  · simp only [PyData.canLay0, h1]
  · simp only [PyData.depth]
    omega
theorem numsD_nilL (l : List Nat) : PyData.eqv (.list (numsD l)) (.list (numsD [])) = l.isEmpty := by
  cases l with
  | nil => simp [numsD, PyData.eqv, PyData.eqvAll]
  | cons a r => simp [numsD, PyData.eqv, PyData.eqvAll]
theorem numsD_nilT (l : List Nat) : PyData.eqv (.tuple (numsD l)) (.tuple (numsD [])) = l.isEmpty := by
  cases l with
  | nil => simp [numsD, PyData.eqv, PyData.eqvAll]
  | cons a r => simp [numsD, PyData.eqv, PyData.eqvAll]
section
variable {X : Cx}
def rInPL (K : PySem.W.Frag) : R2 := fun x y H Q => ∃ (p : E2) (t : Addr) (xs : List V) (es : List E2), PairAt K H x p ∧ y = .ref t ∧ (SqL K H t xs ∨ SqT K H t xs) ∧ PairsAt K H xs es ∧ Q (.bl (decide (p ∈ es))) H
theorem op_inPL (hu : X.A.units + 64 < cLine) : OpR X (compareOp .In) (rInPL X.K) := by
  rintro pins s σ H x y v u Q I rx ry ⟨p, t, xs, es, hp, rfl, ht, hes, q⟩
  rcases ht with ht | ht
  · obtain ⟨as, r1⟩ := Dp.reads I _ x v hp.dp rx
    obtain ⟨bs, r2⟩ := Dp.reads I (.list (es.map pairD)) (.ref t) u (.lst ht hes.dp) ry
    refine SeqAt.in_list_reads r2 r1 (pairsD_lay es) (pairD_lay p) ?_ ?_
    · have := pairD_depth p
      have := Nat.min_le_right (PyData.depthAll (es.map pairD)) (pairD p).depth
      omega
    · rw [any_pairs]
      exact ⟨.bl _, H, I, rfl, q⟩
  · exact op_inP hu pins s σ H x _ v u Q I rx ry ⟨p, t, xs, es, hp, rfl, ht, hes, q⟩
end
end My
namespace My
open PySem PySem.Spec PyProof.Rows L2
theorem pairs_ksT {H : Hp} : ∀ {ys : List V} {qs : List E2}, PairsT H ys qs → ∃ ks : List (Addr × List Int), ys = ks.map (fun p => V.ref p.1) ∧ ks.map (·.2) = qs.map (fun q => [(q.1 : Int), (q.2 : Int)]) ∧ ∀ p ∈ ks, H p.1 = some (.tup (p.2.map V.int))
  | _, _, .nil => ⟨[], rfl, rfl, fun _ z => nomatch z⟩
  | _, _, .cons a b => by
    obtain ⟨t, rfl, h⟩ := a
    obtain ⟨ks, h1, h2, h3⟩ := pairs_ksT b
    refine ⟨(t, _) :: ks, by rw [h1]; rfl, by rw [List.map_cons, h2]; rfl, ?_⟩
    intro p hp
    rcases List.mem_cons.mp hp with rfl | hp
    · exact h
    · exact h3 p hp
theorem ks_pairsT {H : Hp} : ∀ {L : List (Addr × List Int)}, (∀ p ∈ L, H p.1 = some (.tup (p.2.map V.int))) → (∀ p ∈ L, p.2 = [((toEO p.2).1 : Int), ((toEO p.2).2 : Int)]) → PairsT H (L.map fun q => V.ref q.1) (L.map fun p => toEO p.2)
  | [], _, _ => .nil
  | p :: L, h, b => by
    refine .cons ⟨p.1, rfl, ?_⟩ (ks_pairsT (fun r hr => h r (List.mem_cons_of_mem _ hr)) fun r hr => b r (List.mem_cons_of_mem _ hr))
    have z := h p (List.mem_cons_self ..)
    rw [b p (List.mem_cons_self ..)] at z
    exact z
def lotsD (L : List (List Nat)) : List PyData := L.map fun l => .tuple (numsD l)
theorem lotsD_lay : ∀ L : List (List Nat), PyData.canLayAll0 (lotsD L) = true ∧ PyData.depthAll (lotsD L) ≤ 3
  | [] => by constructor <;> simp [lotsD, PyData.canLayAll0, PyData.depthAll]
  | l :: r => by
    obtain ⟨h1, h2⟩ := lotsD_lay r
    obtain ⟨g1, g2⟩ := numsD_lay l
    unfold lotsD at h1 h2 ⊢
    rw [List.map_cons]
    constructor
    · simp only [PyData.canLayAll0, PyData.canLay0, h1, g1, Bool.and_true]
    · simp only [PyData.depthAll, PyData.depth]
      omega
theorem lotsD_sh (L : List (List Nat)) : SeqAt.shaped (.list (lotsD L)) = true := by
  obtain ⟨h1, h2⟩ := lotsD_lay L
  unfold SeqAt.shaped
  rw [Bool.and_eq_true, decide_eq_true_eq]
  refine ⟨?_, ?_⟩
  · simp only [PyData.canLay0, h1]
  · simp only [PyData.depth]
    omega
theorem lotsD_nil (L : List (List Nat)) : PyData.eqv (.list (lotsD L)) (.list (lotsD [])) = L.isEmpty := by
  cases L with
  | nil => simp [lotsD, PyData.eqv, PyData.eqvAll]
  | cons a r => simp [lotsD, PyData.eqv, PyData.eqvAll]
end My
namespace My
open PySem PySem.Spec PyProof.Rows L2
section
variable {X : Cx}
def rListRng2 : List V → Hp → VK → Prop := fun vs H Q => ∃ (a : Addr) (lo n : Nat), vs = [V.ref a] ∧ H a = some (.rng (lo : Int) ((lo + n : Nat) : Int)) ∧ n ≤ 1000 ∧ lo ≤ 1000 ∧ ∀ p, H p = none → Q (.ref p) (upd H p (.lst (numsN ((List.range n).map (lo + ·)))))
theorem call_listRng2 (hc : X.calm = true) : CallR X (.type "list") rListRng2 := by
  intro pins s σ H vs us Q I r h
  obtain ⟨a, lo, n, rfl, ha, hn, hlo, q⟩ := h
  obtain ⟨u1, rfl, ru⟩ := vals1 r
  obtain rfl : u1 = Value.ref a := ru
  obtain ⟨t1, t2, t3, ho⟩ := I.hok a _ ha
  refine call_list_range (I.ok.hd hc) (n := n) ho (small_one (by omega) (by omega) (by omega) (by omega)) (by rw [rangeSize_one]; split <;> omega) (by omega) fun h' tk acc c' hk e' hi => ?_
  refine ⟨.ref s.heap.objs.size, upd H s.heap.objs.size (.lst (numsN ((List.range n).map (lo + ·)))), I.laid hk (Nat.le_refl _) (show ObjOk X.prog X.w _ _ _ (.lst (numsN ((List.range n).map (lo + ·)))) from ⟨?_, acc.toList, c', ?_, ?_⟩), rfl, q _ (I.hok.fresh (Nat.le_refl _))⟩
  · rw [numsN_len, List.length_map, List.length_range]; exact small hn
  · have la : acc.toList.length = n := by rw [Array.length_toList]; exact hi.1
    have es : numsN ((List.range n).map (lo + ·)) = (List.range acc.toList.length).map fun i => V.int (((lo + i : Nat)) : Int) := by
      rw [la]
      unfold numsN
      rw [List.map_map]
      rfl
    rw [es]
    refine vals_of_get acc.toList _ fun j u hj => ?_
    obtain ⟨t, rfl⟩ := hi.2 j u (by rw [← hj, Array.getElem?_toList])
    refine ⟨t, ?_⟩
    rw [Int.mul_one]
    congr 1
  · rw [Array.toArray_toList]
    exact e'
end
end My

set_option maxHeartbeats 4000000
/-! Changes of graphs, in plain Lean. -/
namespace My
open PySem PySem.Spec PyProof.Rows L2
theorem ahead_irr {a : E2} : ¬ ahead a a := fun h => ahead_ne h rfl
theorem ahead_anti {a b : E2} (h : ahead a b) (k : ahead b a) : False := by
  unfold ahead at h k
  omega
theorem up_ext : ∀ {xs ys : List E2}, xs.Pairwise ahead → ys.Pairwise ahead → (∀ p, p ∈ xs ↔ p ∈ ys) → xs = ys
  | [], [], _, _, _ => rfl
  | [], y :: ys, _, _, h => absurd ((h y).mpr List.mem_cons_self) (by simp)
  | x :: xs, [], _, _, h => absurd ((h x).mp List.mem_cons_self) (by simp)
  | x :: xs, y :: ys, hx, hy, h => by
    obtain ⟨x1, x2⟩ := List.pairwise_cons.mp hx
    obtain ⟨y1, y2⟩ := List.pairwise_cons.mp hy
    have e : x = y := by
      rcases List.mem_cons.mp ((h x).mp List.mem_cons_self) with e | m
      · exact e
      · rcases List.mem_cons.mp ((h y).mpr List.mem_cons_self) with e | m'
        · exact e.symm
        · exact (ahead_anti (x1 y m') (y1 x m)).elim
    subst e
    rw [up_ext x2 y2 fun p => ⟨fun m => ?_, fun m => ?_⟩]
    · rcases List.mem_cons.mp ((h p).mp (List.mem_cons_of_mem _ m)) with e | m'
      · exact absurd (x1 p m) (by rw [e]; exact ahead_irr)
      · exact m'
    · rcases List.mem_cons.mp ((h p).mpr (List.mem_cons_of_mem _ m)) with e | m'
      · exact absurd (y1 p m) (by rw [e]; exact ahead_irr)
      · exact m'
theorem getD_at {l : List Nat} {i : Nat} (h : i < l.length) : l.getD i 0 = l[i] := by
  simp [h]
/-- the place in a lot -/
def place (l : List Nat) (k : Nat) : Nat := l.findIdx (· == k)
theorem place_lt {l : List Nat} {k : Nat} (h : k ∈ l) : place l k < l.length := List.findIdx_lt_length_of_exists ⟨k, h, beq_self_eq_true k⟩
theorem place_get {l : List Nat} {k : Nat} (h : k ∈ l) : l.getD (place l k) 0 = k := by
  have lt := place_lt h
  rw [getD_at lt]
  exact beq_iff_eq.mp (show (l[place l k] == k) = true from List.findIdx_getElem (w := lt))
theorem place_at {l : List Nat} {k : Nat} (h : k ∈ l) : (l.map fun k => ((k : Nat) : Int))[place l k]? = some (k : Int) ∧ ∀ m, m < place l k → (l.map fun k => ((k : Nat) : Int))[m]? ≠ some (k : Int) := by
  have lt := place_lt h
  constructor
  · rw [List.getElem?_map, List.getElem?_eq_getElem lt]
    have e2 : l[place l k] = k := by have := place_get h; rwa [getD_at lt] at this
    show some (((l[place l k] : Nat)) : Int) = _
    rw [e2]
  · intro m hm z
    rw [List.getElem?_map] at z
    cases e : l[m]? with
    | none => rw [e] at z; cases z
    | some a =>
      rw [e] at z
      have z2 : ((a : Nat) : Int) = (k : Int) := Option.some.inj z
      obtain ⟨l1, e1⟩ := List.getElem?_eq_some_iff.mp e
      have no := List.not_of_lt_findIdx hm
      rw [e1] at no
      exact absurd (show (a == k) = true by simp; omega) (by simpa using no)
theorem asc_get {l : List Nat} (up : l.Pairwise (· < ·)) {i j : Nat} (ij : i < j) (jl : j < l.length) : l.getD i 0 < l.getD j 0 := by
  rw [getD_at jl, getD_at (Nat.lt_trans ij jl)]
  exact List.pairwise_iff_getElem.mp up i j (Nat.lt_trans ij jl) jl ij
theorem asc_place {l : List Nat} (up : l.Pairwise (· < ·)) {a b : Nat} (ha : a ∈ l) (hb : b ∈ l) (h : a < b) : place l a < place l b := by
  rcases Nat.lt_trichotomy (place l a) (place l b) with z | z | z
  · exact z
  · have h1 := place_get ha
    have h2 := place_get hb
    rw [z, h2] at h1
    omega
  · have := asc_get up z (place_lt ha)
    rw [place_get ha, place_get hb] at this
    omega
theorem place_nth {l : List Nat} (up : l.Pairwise (· < ·)) {i : Nat} (il : i < l.length) : place l (l.getD i 0) = i := by
  have m : l.getD i 0 ∈ l := by rw [getD_at il]; exact List.getElem_mem il
  rcases Nat.lt_trichotomy (place l (l.getD i 0)) i with z | z | z
  · have := asc_get up z il
    rw [place_get m] at this
    omega
  · exact z
  · have := asc_get up z (place_lt m)
    rw [place_get m] at this
    omega
/-- the pairs within a lot, renumbered -/
def withinL (es : List E2) (l : List Nat) : List E2 := (es.filter fun p => decide (p.1 ∈ l) && decide (p.2 ∈ l)).map fun p => (place l p.1, place l p.2)
def withinP (es : List E2) (l : List Nat) : List E2 := tabP l.length fun i j => adjB es (l.getD i 0) (l.getD j 0)
theorem withinL_eq {n : Nat} {es : List E2} (g : Good n es) {l : List Nat} (up : l.Pairwise (· < ·)) (l9 : l.length ≤ 9) : withinL es l = withinP es l := by
  refine up_ext ?_ (tab_good l9 _).up fun p => ?_
  · unfold withinL
    rw [List.pairwise_map]
    refine (g.up.filter _).imp_of_mem fun {a b} ha hb h => ?_
    obtain ⟨_, ha⟩ := List.mem_filter.mp ha
    obtain ⟨_, hb⟩ := List.mem_filter.mp hb
    rw [Bool.and_eq_true, decide_eq_true_eq, decide_eq_true_eq] at ha hb
    rcases h with h | ⟨h, k⟩
    · exact .inl (asc_place up ha.1 hb.1 h)
    · exact .inr ⟨by show place l a.1 = place l b.1; rw [h], asc_place up ha.2 hb.2 k⟩
  · unfold withinL withinP tabP
    rw [List.mem_map, List.mem_filter]
    constructor
    · rintro ⟨q, hq, rfl⟩
      obtain ⟨h1, h2⟩ := List.mem_filter.mp hq
      rw [Bool.and_eq_true, decide_eq_true_eq, decide_eq_true_eq] at h2
      have := g.lt q h1
      refine ⟨mem_allP.mpr ⟨asc_place up h2.1 h2.2 this.1, place_lt h2.2⟩, ?_⟩
      show adjB es (l.getD (place l q.1) 0) (l.getD (place l q.2) 0) = true
      rw [place_get h2.1, place_get h2.2]
      unfold adjB
      rw [Nat.min_eq_left (by omega), Nat.max_eq_right (by omega)]
      exact decide_eq_true h1
    · rintro ⟨h1, h2⟩
      obtain ⟨h3, h4⟩ := mem_allP.mp h1
      have lt := asc_get up h3 h4
      have m1 : l.getD p.1 0 ∈ l := by rw [getD_at (Nat.lt_trans h3 h4)]; exact List.getElem_mem _
      have m2 : l.getD p.2 0 ∈ l := by rw [getD_at h4]; exact List.getElem_mem _
      unfold adjB at h2
      dsimp only at h2
      rw [Nat.min_eq_left (by omega), Nat.max_eq_right (by omega)] at h2
      refine ⟨(l.getD p.1 0, l.getD p.2 0), List.mem_filter.mpr ⟨of_decide_eq_true h2, by rw [decide_eq_true m1, decide_eq_true m2]; rfl⟩, ?_⟩
      show (place l (l.getD p.1 0), place l (l.getD p.2 0)) = p
      rw [place_nth up (Nat.lt_trans h3 h4), place_nth up h4]
/-! ### what a change is -/
def eqs (z : Str) (x : String) : Bool := decide (V.str z = V.str (x : Str))
def lenV (z : Str) : V := if eqs z "vertex" || eqs z "out" then .int 2 else if eqs z "edge" || eqs z "cut" then .int 3 else .non
def numsOf (z : Str) (rest : List Sh) : Option (List Sh) := if eqs z "vertex" then (match rest with | [.tup ss] => some ss | _ => none) else some rest
def isChg : Sh → Bool
  | .tup (.str z :: rest) => decide (lenV z = .int ((rest.length : Int) + 1)) && (match numsOf z rest with | some ss => ss.all (wholeR 0 8) && ascB ss | none => false)
  | _ => false
def isStrS : Sh → Bool
  | .str _ => true
  | _ => false
theorem isS_of {K : PySem.W.Frag} {H : Hp} {v : V} {s : Sh} (h : ShAt K H v s) : ∃ t, TyX K H v t ∧ PySem.W.kitOne K t (.type "str") = some (isStrS s) := by
  cases h with
  | int i => exact ⟨_, .base (.int i), rfl⟩
  | bool b => exact ⟨_, .base (.bl b), rfl⟩
  | tup h r => exact ⟨_, tyx_tup h, rfl⟩
  | non => exact ⟨_, .base .non, rfl⟩
  | str x => exact ⟨_, .base (.str x), rfl⟩
  | lst h => exact ⟨_, tyx_lst h, rfl⟩
  | dct h => exact ⟨_, .base (.dK h), rfl⟩
/-! ### the table of lengths -/
def LensOk (K : PySem.W.Frag) (w : World) (d : Addr) : Prop := (∃ es n, KDict K w d es n) ∧ ∀ z : Str, ∃ r, PySem.W.nsIn K d z = some r ∧ RelV (lenV z) (r.getD .none)
theorem lens_mk {w : World} {K : PySem.W.Frag} {d : Addr} {es : Array DictEntry} {n : Nat} {t1 t2 t3 t4 : Tok} (b : K.lookup d = some ⟨.type "dict", none, .dict es n, #[]⟩) (c : PySem.W.KeysLit w.params es.toList) (lo : (d == sysModules) = false)
    (v1 : PySem.W.nsIn K d "vertex" = some (some (.int 2 t1))) (v2 : PySem.W.nsIn K d "out" = some (some (.int 2 t2))) (v3 : PySem.W.nsIn K d "edge" = some (some (.int 3 t3))) (v4 : PySem.W.nsIn K d "cut" = some (some (.int 3 t4)))
    (ks : es.toList.map (fun e => e.key.isStr "vertex" || e.key.isStr "out" || e.key.isStr "edge" || e.key.isStr "cut") = [true, true, true, true]) : LensOk K w d := by
  refine ⟨⟨es, n, b, c, lo⟩, fun z => ?_⟩
  by_cases z1 : z = "vertex"
  · subst z1
    exact ⟨_, v1, t1, rfl⟩
  by_cases z2 : z = "out"
  · subst z2
    exact ⟨_, v2, t2, rfl⟩
  by_cases z3 : z = "edge"
  · subst z3
    exact ⟨_, v3, t3, rfl⟩
  by_cases z4 : z = "cut"
  · subst z4
    exact ⟨_, v4, t4, rfl⟩
  refine ⟨none, ?_, ?_⟩
  · unfold PySem.W.nsIn
    rw [b]
    show (match es.toList.find? (·.key.isStr z) with | some e => some (some e.val) | none => if es.toList.any (·.refKey) then none else some none) = some none
    have all : ∀ e ∈ es.toList, (e.key.isStr "vertex" || e.key.isStr "out" || e.key.isStr "edge" || e.key.isStr "cut") = true := fun e he => by
      have m := List.mem_map_of_mem (f := fun e : DictEntry => e.key.isStr "vertex" || e.key.isStr "out" || e.key.isStr "edge" || e.key.isStr "cut") he
      rw [ks] at m
      simpa using m
    have no : es.toList.find? (·.key.isStr z) = none := List.find?_eq_none.mpr fun e he => by
      obtain ⟨x, t, hk, _⟩ := c.all e he
      have a := all e he
      rw [hk] at a ⊢
      intro q
      have isx : ∀ y : Str, (Value.str x t).isStr y = true → x = y := fun y h => by
        have := beq_iff_eq.mp (show (x == y) = true from h)
        exact this
      have e1 := isx z q
      subst e1
      simp only [Bool.or_eq_true] at a
      rcases a with ((a | a) | a) | a
      · exact z1 (isx _ a)
      · exact z2 (isx _ a)
      · exact z3 (isx _ a)
      · exact z4 (isx _ a)
    have nr : es.toList.any (·.refKey) = false := List.any_eq_false.mpr fun e he => by
      obtain ⟨x, t, hk, _⟩ := c.all e he
      unfold DictEntry.refKey
      rw [hk]
      simp
    rw [no, nr]
    rfl
  · have ne : ∀ (y : String), z ≠ (y : Str) → eqs z y = false := fun y h => decide_eq_false fun e => by injection e with e; exact h e
    unfold lenV
    rw [ne _ z1, ne _ z2, ne _ z3, ne _ z4]
    rfl
end My

set_option maxHeartbeats 4000000
namespace My
open PySem PySem.Spec PyProof.Rows L2
abbrev sInduced : Stmt := top 20
theorem scInduced : FnScope ["graph", "lot", "within", "one", "other"] ["graph", "lot"] (defScope sInduced) := ⟨rfl, rfl, rfl, by decide +kernel, rfl, by decide +kernel, by decide +kernel⟩
def tBoth (K : PySem.W.Frag) : TT := tAnd (tTest (tOp (rIn K false) (tVar 3) (tVar 1))) (tTest (tOp (rIn K false) (tVar 4) (tVar 1)))
def spInduced (K : PySem.W.Frag) : Sp := fun vs H Q _ => ∃ (x : V) (n : Nat) (es : List E2) (u : Addr) (l : List Nat), vs = [x, .ref u] ∧ GraphAt K H x n es ∧ Good n es ∧ TupF H u ((l.map fun k => ((k : Nat) : Int)).map V.int) ∧ LotOk n l ∧ ∀ (y : V) H', Same H H' → GraphT H' y l.length (withinP es l) → Q y H'
theorem inV_ints (k : Nat) : ∀ l : List Nat, inV (V.int (k : Int)) (l.map fun k => V.int ((k : Nat) : Int)) = decide (k ∈ l)
  | [] => rfl
  | a :: l => by
    have ih := inV_ints k l
    unfold inV at ih ⊢
    rw [List.map_cons, List.any_cons, ih]
    have e : eqV (V.int (k : Int)) (V.int (a : Int)) = decide (k = a) := by
      show ((k : Int) == (a : Int)) = _
      by_cases h : k = a
      · subst h; simp
      · have : ((k : Int) == (a : Int)) = false := beq_eq_false_iff_ne.mpr (by omega)
        rw [this, decide_eq_false h]
    first
      | rw [e]
      | rw [show eqV (V.int (a : Int)) (V.int (k : Int)) = decide (k = a) by rw [← e]; show ((a : Int) == (k : Int)) = ((k : Int) == (a : Int)); exact BEq.comm]
    simp [List.mem_cons]
section
variable {P : Program} {w : World} {K : PySem.W.Frag} {mg : Str → Option Value} {base : Heap} {f fC : Addr} {fd dC : FuncData}
theorem ok_induced (F : L2.Fun K "induced" "induced" sInduced f fd) (GC : FnOk P w K mg base CX0 7 fC dC ["graph", "lot"] (spCheckLot K)) (bC : L2.Binds K dC ["graph", "lot"] []) (kC : PySem.W.keepIn K (.ref fC) = true) (mC : mg "check_lot" = some (.ref fC)) (ml : mg "len" = none) (mt : mg "tuple" = none) : FnOk P w K mg base CX0 8 f fd ["graph", "lot"] (spInduced K) := by
  refine F.ok scInduced (fun vs H Q E h => ?_) (fun cdv A outer s H vs Q E hr h => ?_)
  · obtain ⟨x, n, es, u, l, rfl, _⟩ := h
    rfl
  obtain ⟨x, n, es, u, l, rfl, hx, g, hv, lo, q⟩ := h
  have hq : ∀ {H'}, TupF H' u ((l.map fun k => ((k : Nat) : Int)).map V.int) → SqT K H' u (l.map fun k => V.int ((k : Nat) : Int)) := fun h => by
    have := h.sq (K := K)
    rw [List.map_map] at this
    exact this
  refine ⟨_, pss_cons (ps_expr (pe_call GC hr (by rfl) mC kC bC .nil pass0 (pa_cons (pv 0) (pa_cons (pv 1) pa_nil))))
    (pss_cons (ps_setLc (i := 2) (own := [("one", 3), ("other", 4)]) (g := gTup K 2 (gCons (gName 3) (gCons (gName 4) gNil))) (tt := tBoth K) (te := tTup (tCons (tBF rTixF (tVar 1) (tCons (tVar 3) tNil)) (tCons (tBF rTixF (tVar 1) (tCons (tVar 4) tNil)) tNil))) rfl scInduced.nd rfl rfl (sw_true rfl rfl rfl (by decide +kernel)) (pi_tup (pe_ix (r := rIxT K) ix_tup (pv 0) pe_int (fun _ _ => rfl)))
        (blkOk_by (N := ["graph", "lot", "within", "one", "other"]) (sc := defScope sInduced) (by decide +kernel)) (fun _ _ _ _ _ => pg_tup (by rfl) (pgs_cons (pg_name (i := 3) scInduced.nd rfl (Or.inl rfl)) (pgs_cons (pg_name (i := 4) scInduced.nd rfl (Or.inl rfl)) pgs_nil)))
        (fun _ _ _ _ _ => pts_one (PW.pt (pw_and (pt_cmpR (r := rIn K false) op_in_seq (pv 3) (pv 1) (by rfl)) (pw_and1 (pt_cmpR (r := rIn K false) op_in_seq (pv 4) (pv 1) (by rfl))))))
        (fun _ _ _ _ _ => pe_tup (pa_cons (pe_bmF PySem.F.plainAttrs_tuple PySem.F.slot_tuple_index PySem.F.type_tuple_index mt_tixF (pv 1) (pa_cons (pv 3) pa_nil)) (pa_cons (pe_bmF PySem.F.plainAttrs_tuple PySem.F.slot_tuple_index PySem.F.type_tuple_index mt_tixF (pv 1) (pa_cons (pv 4) pa_nil)) pa_nil))))
    (pss_one (ps_ret (pe_tup (pa_cons (pe_callB call_len_seq (by rfl) ml PySem.boot_len (pa_cons (pv 1) pa_nil)) (pa_cons (pe_callTy call_tuple_of (by rfl) mt (by decide +kernel) (pa_cons (pv 2) pa_nil)) pa_nil)))))), ?_⟩
  have n9 := g.n9
  have few := g.few
  refine ⟨_, rfl, _, rfl, x, n, es, .ref u, l, rfl, hx, g, ⟨u, rfl, hq hv⟩, lo, fun H1 s1 => ?_⟩
  obtain ⟨t, e, xs, rfl, ht, he, hes⟩ := hx.same s1
  have hv1 := hv.same s1
  have hu := hq hv1
  have le := PairsAt.len hes
  have a1 : atI [V.int (n : Int), V.ref e] 1 = some (.ref e) := atI_nat (j := 1) rfl
  have flat : (l.map fun k => V.int ((k : Nat) : Int)).all flatV = true := by
    rw [List.all_map]
    exact List.all_eq_true.mpr fun _ _ => rfl
  have hu2 : ∀ H2, Same H1 H2 → TupF H2 u ((l.map fun k => ((k : Nat) : Int)).map V.int) := fun H2 s2 => hv1.same s2
  refine ⟨_, rfl, t, _, 1, _, rfl, rfl, ht, a1, e, rfl, ⟨_, he⟩, fun D nD => lo_it (walk_tup (xs := xs)) (fun i H2 => Same H1 H2 ∧ ∃ ys, H2 D = some (.lst ys) ∧ ys.length ≤ i ∧ PairsT H2 ys (withinL (es.take i) l)) ⟨same_new nD _, [], upd_same, Nat.le_refl _, .nil⟩ (fun i H2 _ ⟨s2, _⟩ => Same.tup s2 he) ?_ ?_⟩
  · rintro i x _ H2 li ⟨s2, ys, hD, ly, py⟩ ⟨rfl, hi⟩
    obtain ⟨p, hp, w1, rfl, hw1⟩ := PairsAt.get (hes.same s2) hi
    have more : withinL (es.take (i + 1)) l = withinL (es.take i) l ++ withinL [p] l := by
      unfold withinL
      rw [take_succ hp, List.filter_append, List.map_append]
    have skip : ¬ (p.1 ∈ l ∧ p.2 ∈ l) → Same H1 H2 ∧ ∃ ys, H2 D = some (.lst ys) ∧ ys.length ≤ i + 1 ∧ PairsT H2 ys (withinL (es.take (i + 1)) l) := fun no => by
      refine ⟨s2, ys, hD, by omega, ?_⟩
      have e : withinL [p] l = [] := by
        unfold withinL
        rw [List.filter_cons_of_neg (by simpa using no)]
        rfl
      rw [more, e, List.append_nil]
      exact py
    refine ⟨w1, _, rfl, hw1, rfl, _, _, rfl, _, _, rfl, rfl, rfl, ?_⟩
    refine ⟨_, rfl, _, rfl, u, _, rfl, .inr (Same.tup s2 hu), rfl, flat, _, rfl, ?_⟩
    have c1 : (if false = true then !inV (V.int (p.1 : Int)) (l.map fun k => V.int ((k : Nat) : Int)) else inV (V.int (p.1 : Int)) (l.map fun k => V.int ((k : Nat) : Int))) = decide (p.1 ∈ l) := by rw [if_neg (by decide), inV_ints]
    have c2 : (if false = true then !inV (V.int (p.2 : Int)) (l.map fun k => V.int ((k : Nat) : Int)) else inV (V.int (p.2 : Int)) (l.map fun k => V.int ((k : Nat) : Int))) = decide (p.2 ∈ l) := by rw [if_neg (by decide), inV_ints]
    refine iteB (fun d1 => ⟨_, rfl, _, rfl, u, _, rfl, .inr (Same.tup s2 hu), rfl, flat, _, rfl, iteB (fun d2 => ?_) (fun d2 => ?_)⟩) (fun d1 => iteF ?_)
    · have m1 : p.1 ∈ l := of_decide_eq_true (c1.symm.trans d1)
      have m2 : p.2 ∈ l := of_decide_eq_true (c2.symm.trans d2)
      obtain ⟨p1, q1⟩ := place_at m1
      obtain ⟨p2, q2⟩ := place_at m2
      refine ⟨_, rfl, ⟨u, _, rfl, hu2 _ s2⟩, _, rfl, u, _, _, place l p.1, rfl, rfl, hu2 _ s2, p1, q1, _, rfl, ⟨u, _, rfl, hu2 _ s2⟩, _, rfl, u, _, _, place l p.2, rfl, rfl, hu2 _ s2, p2, q2, (by show 2 ≤ sizeLine; decide), fun r nr => ?_⟩
      have pp := push_pairT (place l p.1, place l p.2) hD nr py
      refine ⟨ys, (same_new nr _) _ _ hD, small1000 (by have := (List.getElem?_eq_some_iff.mp hi).1; omega), same_put (s2.trans (same_new nr _)) nD, _, upd_same, by rw [List.length_append]; exact Nat.succ_le_succ ly, ?_⟩
      have e : withinL [p] l = [(place l p.1, place l p.2)] := by
        unfold withinL
        rw [List.filter_cons_of_pos (by simp [m1, m2])]
        rfl
      rw [more, e]
      exact pp
    · exact skip fun h => by
        have z := c2.symm.trans d2
        exact absurd h.2 (of_decide_eq_false z)
    · exact skip fun h => by
        have z := c1.symm.trans d1
        exact absurd h.1 (of_decide_eq_false z)
  · rintro H2 ⟨s2, ys, hD, ly, py⟩
    rw [le, List.take_length] at py
    refine ⟨_, rfl, u, _, rfl, .inr (Same.tup s2 hu), _, rfl, D, ys, rfl, .inl ⟨SqL.of hD, fun c nc => ⟨(by show 2 ≤ sizeLine; decide), fun r nr => ?_⟩⟩⟩
    rw [List.length_map]
    have s4 := same_new nc (.tup ys)
    have s5 := same_new nr (.tup [.int ((l.length : Nat) : Int), .ref c])
    rw [withinL_eq g lo.up (Nat.le_trans lo.few g.n9)] at py
    exact q (.ref r) _ (s1.trans (s2.trans (s4.trans s5))) ⟨r, c, ys, rfl, upd_same, s5 _ _ upd_same, (py.same s4).same s5⟩
end
end My

set_option maxHeartbeats 4000000
/-! a op b op c op d, as a test. -/
namespace My
open PySem PySem.Spec PyProof.Rows L2
section
variable {X : Cx} {a b c d : Expr} {pos : Pos} {ta tb tc td : TE}
def tChain3 (r r' r'' : R2) (ta tb tc td : TE) : TE := fun σ H Q => ta σ H fun x H1 => tb σ H1 fun y H2 => r x y H2 fun z H3 => ∃ k, z = .bl k ∧
  (if k = true then tc σ H3 fun w' H4 => r' y w' H4 fun z' H5 => ∃ k', z' = .bl k' ∧ (if k' = true then td σ H5 fun v' H6 => r'' w' v' H6 Q else Q (.bl false) H5) else Q (.bl false) H3)
theorem pt_chain3 {op op' op'' : CmpOp} {r r' r'' : R2} (ho : OpR X (compareOp op) r) (ho' : OpR X (compareOp op') r') (ho'' : OpR X (compareOp op'') r'') (ha : PE X a ta) (hb : PE X b tb) (hc : PE X c tc) (hd : PE X d td)
    (hm : lastMarks [op, op', op''] [b, c, d] = false := by with_unfolding_all rfl) : PT X (.Compare a [op, op', op''] [b, c, d] pos) (tTest (tChain3 r r' r'' ta tb tc td)) := by
  refine ⟨fun pins s σ H Q I h => ?_⟩
  refine isTrue_chain (thn (ha.run pins s σ H _ I h) fun v s1 ⟨x, H1, I1, r1, q1⟩ => test_link (thn (hb.run pins s1 σ H1 _ I1 q1) fun u s2 ⟨y, H2, I2, r2, q2⟩ =>
    thn (ho pins s2 σ H2 x y v u _ I2 r1 r2 q2) fun d s3 ⟨z, H3, I3, r3, k, e, q3⟩ => ?_)) hm
  subst e
  cases r3
  refine wpAny_truthy_bool ?_
  cases k with
  | false =>
    obtain ⟨k', e', q'⟩ := q3
    cases e'
    exact ite_ff ⟨H3, I3, q'⟩
  | true =>
    refine ite_tt (test_link (thn (hc.run pins s3 σ H3 _ I3 q3) fun w' s4 ⟨z', H4, I4, r4, q4⟩ => thn (ho' pins s4 σ H4 y z' u w' _ I4 r2 r4 q4) fun d' s5 ⟨z2, H5, I5, r5, k2, e2, q5⟩ => ?_))
    subst e2
    cases r5
    refine wpAny_truthy_bool ?_
    cases k2 with
    | false =>
      obtain ⟨k', e', q'⟩ := q5
      cases e'
      exact ite_ff ⟨H5, I5, q'⟩
    | true =>
      refine ite_tt (test_last (thn (hd.run pins s5 σ H5 _ I5 q5) fun w6 s6 ⟨z6, H6, I6, r6, q6⟩ => thn (ho'' pins s6 σ H6 z' z6 w' w6 _ I6 r4 r6 q6) fun d7 s7 ⟨z7, H7, I7, r7, k7, e7, q7⟩ => ?_))
      subst e7
      cases r7
      exact wpAny_truthy_bool ⟨H7, I7, q7⟩
end
end My

set_option maxHeartbeats 8000000
/-! What the law says of graphs and of lots, whatever they are. -/
namespace My
open PySem PySem.Spec PyProof.Rows L2
abbrev sLWh : Stmt := top 40
abbrev sLTo : Stmt := top 41
abbrev sLSo : Stmt := top 42
theorem scLWh : FnScope ["thing"] ["thing"] (defScope sLWh) := ⟨rfl, rfl, rfl, by decide +kernel, rfl, by decide +kernel, by decide +kernel⟩
theorem scLTo : FnScope ["thing", "k", "pair"] ["thing"] (defScope sLTo) := ⟨rfl, rfl, rfl, by decide +kernel, rfl, by decide +kernel, by decide +kernel⟩
theorem scLSo : FnScope ["graph", "thing", "k"] ["graph", "thing"] (defScope sLSo) := ⟨rfl, rfl, rfl, by decide +kernel, rfl, by decide +kernel, by decide +kernel⟩
def isWh : Sh → Bool
  | .int _ => true
  | _ => false
def spLWh (K : PySem.W.Frag) : Sp := fun vs H Q _ => ∃ (v : V) (s : Sh), vs = [v] ∧ ShAt K H v s ∧ Q (.bl (isWh s)) H
def spLTo (K : PySem.W.Frag) : Sp := fun vs H Q _ => ∃ (v : V) (s : Sh), vs = [v] ∧ ShAt K H v s ∧ Lb s ∧ Q (.bl (isGr s)) H
def spLSo (K : PySem.W.Frag) : Sp := fun vs H Q _ => ∃ (x : V) (n : Nat) (es : List E2) (v : V) (s : Sh), vs = [x, v] ∧ GraphAt K H x n es ∧ n ≤ 9 ∧ ShAt K H v s ∧ Lb s ∧ Q (.bl (isLot n s)) H
theorem ascB_of : ∀ {ss : List Sh}, (∀ (j : Nat) (a b : Sh), ss[j]? = some a → ss[j + 1]? = some b → ltS a b = true) → ascB ss = true
  | [], _ => rfl
  | [_], _ => rfl
  | a :: b :: r, h => by
    show (ltS a b && ascB (b :: r)) = true
    rw [h 0 a b rfl rfl, Bool.true_and]
    exact ascB_of fun j x y hx hy => h (j + 1) x y (by simpa using hx) (by simpa using hy)
theorem ascB_no : ∀ {ss : List Sh} {j : Nat} {a b : Sh}, ss[j]? = some a → ss[j + 1]? = some b → ltS a b = false → ascB ss = false
  | [], _, _, _, h, _, _ => by simp at h
  | [_], 0, _, _, _, h, _ => by simp at h
  | [_], j + 1, _, _, h, _, _ => by simp at h
  | a :: b :: r, 0, _, _, h1, h2, h3 => by
    simp only [List.getElem?_cons_zero, List.getElem?_cons_succ, Option.some.injEq] at h1 h2
    subst h1 h2
    show (ltS a b && ascB (b :: r)) = false
    rw [h3, Bool.false_and]
  | a :: b :: r, j + 1, x, y, h1, h2, h3 => by
    show (ltS a b && ascB (b :: r)) = false
    rw [ascB_no (ss := b :: r) (j := j) (by simpa using h1) (by simpa using h2) h3, Bool.and_false]
theorem all_no {p : Sh → Bool} {ss : List Sh} {j : Nat} {a : Sh} (h : ss[j]? = some a) (hp : p a = false) : ss.all p = false := by
  rw [List.all_eq_false]
  exact ⟨a, List.mem_of_getElem? h, by rw [hp]; decide⟩
theorem all_yes {p : Sh → Bool} {ss : List Sh} (h : ∀ (j : Nat) (a : Sh), ss[j]? = some a → p a = true) : ss.all p = true := by
  rw [List.all_eq_true]
  intro a ha
  obtain ⟨j, hj, rfl⟩ := List.getElem_of_mem ha
  exact h j _ (List.getElem?_eq_getElem hj)
theorem le_pair (a b c d : Int) : Ob.lexAt (fun j => decide (([a, b] : List Int).getD j 0 = ([c, d] : List Int).getD j 0)) (fun j => decide (([a, b] : List Int).getD j 0 ≤ ([c, d] : List Int).getD j 0)) (decide (([a, b] : List Int).length ≤ ([c, d] : List Int).length)) 0 (min ([a, b] : List Int).length ([c, d] : List Int).length) = !ltS (.tup [.int c, .int d]) (.tup [.int a, .int b]) := by
  show (if decide (a = c) = true then (if decide (b = d) = true then true else decide (b ≤ d)) else decide (a ≤ c)) = !(HT.lexLt [c, d] [a, b])
  rw [HT.lexLt_cons, HT.lexLt_cons, HT.lexLt_nil_nil]
  by_cases h1 : a = c
  · subst h1
    rw [decide_eq_true rfl, if_pos rfl, if_pos rfl]
    by_cases h2 : b = d
    · subst h2
      rw [decide_eq_true rfl, if_pos rfl, if_pos rfl]
      rfl
    · rw [decide_eq_false h2, if_neg (by decide), if_neg (Ne.symm h2)]
      rw [Bool.eq_iff_iff]
      simp
  · rw [decide_eq_false h1, if_neg (by decide), if_neg (Ne.symm h1)]
    rw [Bool.eq_iff_iff]
    simp
theorem edge_ints {n : Int} {z : Sh} (h : edgeB n z = true) : ∃ a b : Int, z = .tup [.int a, .int b] := by
  unfold edgeB at h
  rw [Bool.and_eq_true] at h
  match z, h.2 with
  | .tup [.int a, .int b], _ => exact ⟨a, b, rfl⟩
theorem edge_eq (n a b : Int) : edgeB n (.tup [.int a, .int b]) = (decide (0 ≤ a) && (decide (a < b) && decide (b < n))) := by
  show (((decide (a ≥ 0) && decide (a ≤ n - 1)) && (decide (b ≥ 0) && decide (b ≤ n - 1))) && decide (a < b)) = _
  rw [Bool.eq_iff_iff]
  simp only [Bool.and_eq_true, decide_eq_true_eq]
  omega
section
variable {P : Program} {w : World} {K : PySem.W.Frag} {mg : Str → Option Value} {base : Heap} {f fW : Addr} {fd dW : FuncData}
theorem ok_lwh (F : L2.Fun K "_law_is_whole" "_law_is_whole" sLWh f fd) (mi : mg "isinstance" = none) (mn : mg "int" = none) (mb : mg "bool" = none) : FnOk P w K mg base CX0 1 f fd ["thing"] (spLWh K) := by
  refine F.ok scLWh (fun vs H Q E h => ?_) (fun cdv A outer s H vs Q E hr h => ?_)
  · obtain ⟨v, s, rfl, _⟩ := h
    rfl
  obtain ⟨v, s, rfl, hv, q⟩ := h
  refine ⟨_, pss_one (ps_ret (pe_and (pe_callB call_isi (by rfl) mi (by decide +kernel) (pa_cons (pv 0) (pa_cons (pe_bltn (v := .ty "int") (by rfl) mn (by decide +kernel) rfl) pa_nil))) (pe_one (pe_not (pe_callB call_isi (by rfl) mi (by decide +kernel) (pa_cons (pv 0) (pa_cons (pe_bltn (v := .ty "bool") (by rfl) mb (by decide +kernel) rfl) pa_nil))))))), ?_⟩
  obtain ⟨tt, tx, k1, k2, k3⟩ := isi_of hv
  refine ⟨_, rfl, v, .ty "int", tt, .type "int", isInt s, rfl, .ty _, tx, k2, _, rfl, ?_⟩
  refine iteB (fun c => ?_) (fun c => ?_)
  · refine ⟨_, rfl, v, .ty "bool", tt, .type "bool", isBool s, rfl, .ty _, tx, k3, _, rfl, ?_⟩
    cases s with
    | int i => exact q
    | bool b => exact q
    | _ => cases c
  · cases s with
    | int i => cases c
    | bool b => cases c
    | _ => exact q
theorem ok_lso (F : L2.Fun K "_law_is_some" "_law_is_some" sLSo f fd) (GW : FnOk P w K mg base CX0 1 fW dW ["thing"] (spLWh K)) (bW : L2.Binds K dW ["thing"] []) (kW : PySem.W.keepIn K (.ref fW) = true) (mW : mg "_law_is_whole" = some (.ref fW))
    (mi : mg "isinstance" = none) (mt : mg "tuple" = none) (ml : mg "len" = none) (mr : mg "range" = none) : FnOk P w K mg base CX0 2 f fd ["graph", "thing"] (spLSo K) := by
  refine F.ok scLSo (fun vs H Q E h => ?_) (fun cdv A outer s0 H vs Q E hr h => ?_)
  · obtain ⟨x, n, es, v, s, rfl, _⟩ := h
    rfl
  obtain ⟨x, n, es, v, s, rfl, hx, n9, hv, lb, q⟩ := h
  refine ⟨_, pss_cons (ps_if (pt_not (pt_val (pe_callB call_isi (by rfl) mi (by decide +kernel) (pa_cons (pv 1) (pa_cons (pe_bltn (v := .ty "tuple") (by rfl) mt (by decide +kernel) rfl) pa_nil))))) (pss_one (ps_ret pe_bl)) pss_nil)
    (pss_cons (ps_for PassesOwn.never rfl (pi_range1 rfl mr (pa_cons (pe_callB call_len_seq (by rfl) ml PySem.boot_len (pa_cons (pv 1) pa_nil)) pa_nil)) (pg_name (i := 2) scLSo.nd rfl (.inl rfl))
      (pss_one (ps_if (PW.pt (pw_or (pt_not (pt_val (pe_call GW hr (by rfl) mW kW bW .nil pass0 (pa_cons (pe_ix (r := rIxT K) ix_tup (pv 1) (pv 2) (fun _ _ => rfl)) pa_nil))))
        (pw_or (pt_not (pt_chain op_le op_lt pe_int (pe_ix (r := rIxT K) ix_tup (pv 1) (pv 2) (fun _ _ => rfl)) (pe_ix (r := rIxT K) ix_tup (pv 0) pe_int (fun _ _ => rfl))))
          (pw_or1 (PW.pt (pw_and (pt_cmpR op_gt (pv 2) pe_int (nomark _)) (pw_and1 (pt_cmpR op_le (pe_ix (r := rIxT K) ix_tup (pv 1) (pv 2) (fun _ _ => rfl)) (pe_ix (r := rIxT K) ix_tup (pv 1) (pe_op op_sub (pv 2) pe_int) (fun _ _ => rfl)) (nomark _)))))))))
        (pss_one (ps_ret pe_bl)) pss_nil)))
    (pss_one (ps_ret pe_bl))), ?_⟩
  obtain ⟨tt, tx, k1, _, _⟩ := isi_of hv
  refine ⟨_, rfl, v, .ty "tuple", tt, .type "tuple", isTup s, rfl, .ty _, tx, k1, _, rfl, ?_⟩
  refine iteB (fun c0 => ?_) (fun c0 => ?_)
  · cases s with
    | tup ss => cases c0
    | _ => exact q
  obtain ⟨ss, rfl⟩ : ∃ ss, s = .tup ss := by
    cases s with
    | tup ss => exact ⟨ss, rfl⟩
    | _ => cases c0
  clear c0 k1 tx
  have l9 : ss.length ≤ 900 := by cases lb; assumption
  cases hv with
  | @tup u xs _ hu r =>
  have lx := r.len
  have eq0 : isLot n (.tup ss) = (ss.all (wholeR 0 ((n : Int) - 1)) && ascB ss) := rfl
  have qn : isLot n (.tup ss) = false → Q (.bl false) H := fun c => by rw [c] at q; exact q
  obtain ⟨t, e, ps, rfl, ht, _, _⟩ := id hx
  have a0 : atI [V.int (n : Int), V.ref e] 0 = some (.int (n : Int)) := atI_nat (j := 0) rfl
  refine ⟨_, rfl, u, xs, rfl, .inr hu, _, rfl, by omega, by omega, for_it (walk_range (lo := 0) (n := ((xs.length : Nat) : Int).toNat)) (fun i σ H' => ∃ (s2 : Option V), σ = [some (.ref t), some (.ref u), s2] ∧ H' = H ∧ (∀ j z, j < i → ss[j]? = some z → wholeR 0 ((n : Int) - 1) z = true) ∧ (∀ j a b, j + 1 < i → ss[j]? = some a → ss[j + 1]? = some b → ltS a b = true)) ⟨none, rfl, rfl, fun j z h => absurd h (by omega), fun j a b h => absurd h (by omega)⟩ (fun _ _ _ _ _ => trivial) ?_ ?_⟩
  · rintro i y σ H1' H1 li ⟨s2', rfl, rfl, al, up⟩ ⟨rfl, ey⟩
    obtain rfl : y = V.int ((i : Nat) : Int) := ey.trans (congrArg V.int (Int.zero_add _))
    have li' : i < xs.length := by omega
    have hy : xs[i]? = some xs[i] := List.getElem?_eq_getElem li'
    obtain ⟨z, hz, sz⟩ := r.get hy
    generalize xs[i] = y at hy sz
    refine ⟨_, rfl, _, rfl, u, xs, _, _, rfl, rfl, hu, atI_nat hy, y, z, rfl, sz, _, rfl, iteB (fun c1 => iteT (qn ?_)) (fun c1 => ?_)⟩
    · rw [eq0, all_no hz, Bool.false_and]
      cases z with
      | int k => cases c1
      | _ => rfl
    obtain ⟨k, rfl⟩ : ∃ k, z = .int k := by
      cases z with
      | int k => exact ⟨k, rfl⟩
      | _ => cases c1
    cases sz
    have wl : wholeR 0 ((n : Int) - 1) (.int k) = (decide (0 ≤ k) && decide (k < (n : Int))) := by
      show (decide (k ≥ 0) && decide (k ≤ (n : Int) - 1)) = _
      congr 1
      exact decide_eq_decide.mpr (by omega)
    refine ⟨_, rfl, _, rfl, u, xs, _, _, rfl, rfl, hu, atI_nat hy, _, _, rfl, rfl, _, rfl, ?_⟩
    have bad : (decide (0 ≤ k) && decide (k < (n : Int))) = false → isLot n (.tup ss) = false := fun c => by rw [eq0, all_no hz (by rw [wl, c]), Bool.false_and]
    refine iteB (fun c2 => ?_) (fun c2 => ⟨_, rfl, iteT (qn (bad (by rw [c2]; rfl)))⟩)
    refine ⟨_, rfl, t, _, 0, _, rfl, rfl, ht, a0, _, _, rfl, rfl, _, rfl, iteB (fun c3 => iteT (qn (bad ?_))) (fun c3 => ?_)⟩
    · rw [show decide (k < (n : Int)) = false by simpa using c3, Bool.and_false]
    have c3 : decide (k < (n : Int)) = true := by simpa using c3
    have go : (∀ b, 0 < i → ss[i - 1]? = some b → ltS b (.int k) = true) → ∃ (s2 : Option V), [some (V.ref t), some (.ref u), some (V.int ((i : Nat) : Int))] = [some (V.ref t), some (.ref u), s2] ∧ H1 = H1 ∧ (∀ j z, j < i + 1 → ss[j]? = some z → wholeR 0 ((n : Int) - 1) z = true) ∧ (∀ j a b, j + 1 < i + 1 → ss[j]? = some a → ss[j + 1]? = some b → ltS a b = true) := fun h => by
      refine ⟨_, rfl, rfl, fun j z' hj hz' => ?_, fun j a b hj ha hb => ?_⟩
      · by_cases e : j = i
        · subst e
          rw [hz] at hz'
          cases hz'
          rw [wl, c2, c3]
          rfl
        · exact al j z' (by omega) hz'
      · by_cases e : j + 1 = i
        · subst e
          rw [hz] at hb
          cases hb
          exact h a (by omega) (by simpa using ha)
        · exact up j a b (by omega) ha hb
    refine ⟨_, rfl, _, _, rfl, rfl, _, rfl, iteB (fun c4 => ?_) (fun c4 => iteF (go fun b h => ?_))⟩
    rotate_left 1
    · have c4 := of_decide_eq_false c4
      omega
    have i0 : 0 < i := by
      have c4 := of_decide_eq_true c4
      omega
    have lp : i - 1 < xs.length := by omega
    obtain ⟨zp, hzp, szp⟩ := r.get (List.getElem?_eq_getElem lp)
    have wp := al (i - 1) zp (by omega) hzp
    obtain ⟨k', rfl⟩ : ∃ k', zp = .int k' := by
      cases zp with
      | int k' => exact ⟨k', rfl⟩
      | _ => cases wp
    have hp : xs[i - 1]? = some (.int k') := by
      rw [List.getElem?_eq_getElem lp]
      generalize xs[i - 1] = y1 at szp
      cases szp
      rfl
    have ei : ((i : Nat) : Int) - 1 = ((i - 1 : Nat) : Int) := by omega
    refine ⟨_, rfl, _, rfl, u, xs, _, _, rfl, rfl, hu, atI_nat hy, _, rfl, _, rfl, _, _, rfl, rfl, u, xs, _, _, rfl, rfl, hu, by rw [ei]; exact atI_nat hp, _, _, rfl, rfl, _, rfl, iteB (fun c5 => qn ?_) (fun c5 => go fun b _ hb => ?_)⟩
    · have c5 := of_decide_eq_true c5
      rw [eq0, ascB_no (j := i - 1) hzp (by rw [show i - 1 + 1 = i by omega]; exact hz) (show ltS (.int k') (.int k) = false from decide_eq_false (by omega)), Bool.and_false]
    · have c5 := of_decide_eq_false c5
      rw [hzp] at hb
      cases hb
      exact decide_eq_true (by omega)
  · rintro σ H1 ⟨s2', rfl, rfl, al, up⟩
    have e1 : ss.all (wholeR 0 ((n : Int) - 1)) = true := all_yes fun j a h => al j a (by have := (List.getElem?_eq_some_iff.mp h).1; omega) h
    have e2 : ascB ss = true := ascB_of fun j a b ha hb => up j a b (by have := (List.getElem?_eq_some_iff.mp hb).1; omega) ha hb
    rw [eq0, e1, e2] at q
    exact q
theorem ok_lto (F : L2.Fun K "_law_is_told" "_law_is_told" sLTo f fd) (GW : FnOk P w K mg base CX0 1 fW dW ["thing"] (spLWh K)) (bW : L2.Binds K dW ["thing"] []) (kW : PySem.W.keepIn K (.ref fW) = true) (mW : mg "_law_is_whole" = some (.ref fW))
    (mi : mg "isinstance" = none) (mt : mg "tuple" = none) (ml : mg "len" = none) (mr : mg "range" = none) : FnOk P w K mg base CX0 2 f fd ["thing"] (spLTo K) := by
  refine F.ok scLTo (fun vs H Q E h => ?_) (fun cdv A outer s0 H vs Q E hr h => ?_)
  · obtain ⟨v, s, rfl, _⟩ := h
    rfl
  obtain ⟨v, s, rfl, hv, lb, q⟩ := h
  have hu0 : (A.deeper (envOfC "_law_is_told" (defScope sLTo) s0.heap.objs.size f cdv)).units < cLine := hr.units0
  refine ⟨_, pss_cons (ps_if (PW.pt (pw_or (pt_not (pt_val (pe_callB call_isi (by rfl) mi (by decide +kernel) (pa_cons (pv 0) (pa_cons (pe_bltn (v := .ty "tuple") (by rfl) mt (by decide +kernel) rfl) pa_nil)))))
        (pw_or (pt_cmpR op_ne (pe_callB call_len_seq (by rfl) ml PySem.boot_len (pa_cons (pv 0) pa_nil)) pe_int (nomark _)) (pw_or (pt_not (pt_val (pe_call GW hr (by rfl) mW kW bW .nil pass0 (pa_cons (pe_ix (r := rIxT K) ix_tup (pv 0) pe_int (fun _ _ => rfl)) pa_nil))))
        (pw_or1 (pt_not (pt_chain op_le op_le pe_int (pe_ix (r := rIxT K) ix_tup (pv 0) pe_int (fun _ _ => rfl)) pe_int))))))) (pss_one (ps_ret pe_bl)) pss_nil)
    (pss_cons (ps_if (pt_not (pt_val (pe_callB call_isi (by rfl) mi (by decide +kernel) (pa_cons (pe_ix (r := rIxT K) ix_tup (pv 0) pe_int (fun _ _ => rfl)) (pa_cons (pe_bltn (v := .ty "tuple") (by rfl) mt (by decide +kernel) rfl) pa_nil))))) (pss_one (ps_ret pe_bl)) pss_nil)
    (pss_cons (ps_for PassesOwn.never rfl (pi_range1 rfl mr (pa_cons (pe_callB call_len_seq (by rfl) ml PySem.boot_len (pa_cons (pe_ix (r := rIxT K) ix_tup (pv 0) pe_int (fun _ _ => rfl)) pa_nil)) pa_nil)) (pg_name (i := 1) scLTo.nd rfl (.inl rfl))
      (pss_cons (ps_set (i := 2) scLTo.nd rfl (.inl rfl) (pe_ix (r := rIxT K) ix_tup (pe_ix (r := rIxT K) ix_tup (pv 0) pe_int (fun _ _ => rfl)) (pv 1) (fun _ _ => rfl)))
      (pss_cons (ps_if (PW.pt (pw_or (pt_not (pt_val (pe_callB call_isi (by rfl) mi (by decide +kernel) (pa_cons (pv 2) (pa_cons (pe_bltn (v := .ty "tuple") (by rfl) mt (by decide +kernel) rfl) pa_nil)))))
          (pw_or (pt_cmpR op_ne (pe_callB call_len_seq (by rfl) ml PySem.boot_len (pa_cons (pv 2) pa_nil)) pe_int (nomark _)) (pw_or (pt_not (pt_val (pe_call GW hr (by rfl) mW kW bW .nil pass0 (pa_cons (pe_ix (r := rIxT K) ix_tup (pv 2) pe_int (fun _ _ => rfl)) pa_nil))))
          (pw_or1 (pt_not (pt_val (pe_call GW hr (by rfl) mW kW bW .nil pass0 (pa_cons (pe_ix (r := rIxT K) ix_tup (pv 2) pe_int (fun _ _ => rfl)) pa_nil)))))))))
          (pss_one (ps_ret pe_bl)) pss_nil)
      (pss_one (ps_if (PW.pt (pw_or (pt_not (pt_chain3 op_le op_lt op_lt pe_int (pe_ix (r := rIxT K) ix_tup (pv 2) pe_int (fun _ _ => rfl)) (pe_ix (r := rIxT K) ix_tup (pv 2) pe_int (fun _ _ => rfl)) (pe_ix (r := rIxT K) ix_tup (pv 0) pe_int (fun _ _ => rfl))))
          (pw_or1 (PW.pt (pw_and (pt_cmpR op_gt (pv 1) pe_int (nomark _)) (pw_and1 (pt_cmpR (r := rLeT K) (op_leT hu0) (pv 2) (pe_ix (r := rIxT K) ix_tup (pe_ix (r := rIxT K) ix_tup (pv 0) pe_int (fun _ _ => rfl)) (pe_op op_sub (pv 1) pe_int) (fun _ _ => rfl)) (nomark _))))))))
          (pss_one (ps_ret pe_bl)) pss_nil)))))
    (pss_one (ps_ret pe_bl)))), ?_⟩
  have qn : isGr s = false → Q (.bl false) H := fun c => by rw [c] at q; exact q
  obtain ⟨tt, tx, k1, _, _⟩ := isi_of hv
  refine ⟨_, rfl, v, .ty "tuple", tt, .type "tuple", isTup s, rfl, .ty _, tx, k1, _, rfl, ?_⟩
  refine iteB (fun c0 => iteT (qn ?_)) (fun c0 => ?_)
  · cases s with
    | tup ss => cases c0
    | _ => rfl
  obtain ⟨ss, rfl⟩ : ∃ ss, s = .tup ss := by
    cases s with
    | tup ss => exact ⟨ss, rfl⟩
    | _ => cases c0
  clear c0 k1 tx
  cases hv with
  | @tup u xs _ hu r =>
  have lx := r.len
  refine ⟨_, rfl, u, xs, rfl, .inr hu, rfl, _, rfl, iteB (fun c1 => iteT (qn ?_)) (fun c1 => ?_)⟩
  · have n2 : ss.length ≠ 2 := fun e => by
      rw [lx, e] at c1
      exact absurd c1 (by decide)
    rcases ss with _ | ⟨a, _ | ⟨b, _ | ⟨c, t⟩⟩⟩
    · rfl
    · cases a <;> rfl
    · exact absurd rfl n2
    · simp [isGr]
  have e2 : ss.length = 2 := by
    rw [lx] at c1
    have z : decide (V.int ((ss.length : Nat) : Int) = V.int 2) = true := by simpa using c1
    have z := of_decide_eq_true z
    injection z with z
    omega
  clear c1
  rcases ss with _ | ⟨a, _ | ⟨b, _ | ⟨c, t⟩⟩⟩
  · cases e2
  · cases e2
  rotate_left 1
  · simp at e2
  clear e2
  cases r with
  | @cons x1 _ _ _ ha r =>
  cases r with
  | @cons x2 _ _ _ hb r =>
  cases r
  have lba : Lb b := by
    cases lb with
    | tup _ h => exact h b (by simp)
  refine ⟨_, rfl, u, _, 0, _, rfl, rfl, hu, rfl, x1, a, rfl, ha, _, rfl, iteB (fun c1 => iteT (qn ?_)) (fun c1 => ?_)⟩
  · cases a with
    | int i => cases c1
    | _ => rfl
  obtain ⟨m, rfl⟩ : ∃ m, a = .int m := by
    cases a with
    | int m => exact ⟨m, rfl⟩
    | _ => cases c1
  cases ha
  clear c1
  have no0 : isTup b = false → isGr (.tup [.int m, b]) = false := fun c => by
    cases b with
    | tup es => cases c
    | _ => rfl
  have no1 : (decide (0 ≤ m) && decide (m ≤ 9)) = false → isGr (.tup [.int m, b]) = false := fun z => by
    cases b with
    | tup es =>
      show ((decide (m ≥ 0) && decide (m ≤ 9)) && _) = false
      rw [show (decide (m ≥ 0) && decide (m ≤ 9)) = false from z, Bool.false_and]
    | _ => rfl
  refine ⟨_, rfl, u, _, 0, _, rfl, rfl, hu, rfl, _, _, rfl, rfl, _, rfl, iteB (fun c1 => ?_) (fun c1 => ⟨_, rfl, iteT (qn (no1 (by rw [c1]; rfl)))⟩)⟩
  refine ⟨_, _, rfl, rfl, _, rfl, iteB (fun c2 => qn (no1 ?_)) (fun c2 => ?_)⟩
  · rw [show decide (m ≤ 9) = false by simpa using c2, Bool.and_false]
  have m9 : decide (m ≤ 9) = true := by simpa using c2
  clear no1 c2
  obtain ⟨tt, tx, k1, _, _⟩ := isi_of hb
  refine ⟨_, rfl, u, _, 1, _, rfl, rfl, hu, rfl, x2, .ty "tuple", tt, .type "tuple", isTup b, rfl, .ty _, tx, k1, _, rfl, ?_⟩
  refine iteB (fun c0 => qn (no0 (by simpa using c0))) (fun c0 => ?_)
  obtain ⟨es, rfl⟩ : ∃ es, b = .tup es := by
    cases b with
    | tup ss => exact ⟨ss, rfl⟩
    | _ => cases c0
  clear c0 k1 tx no0
  have l9 : es.length ≤ 900 := by cases lba; assumption
  cases hb with
  | @tup e ys _ he rr =>
  have ly := rr.len
  have eq0 : isGr (.tup [.int m, .tup es]) = (es.all (edgeB m) && ascB es) := by
    show ((decide (m ≥ 0) && decide (m ≤ 9)) && _) = _
    rw [show decide (m ≥ 0) = true from c1, m9, Bool.true_and, Bool.true_and]
  have a1 : atI [V.int m, V.ref e] 1 = some (.ref e) := atI_nat (j := 1) rfl
  have a0 : atI [V.int m, V.ref e] 0 = some (.int m) := atI_nat (j := 0) rfl
  refine ⟨_, rfl, u, _, 1, _, rfl, rfl, hu, a1, e, ys, rfl, .inr he, _, rfl, by omega, by omega, for_it (walk_range (lo := 0) (n := ((ys.length : Nat) : Int).toNat)) (fun i σ H' => ∃ (s1 s2 : Option V), σ = [some (.ref u), s1, s2] ∧ H' = H ∧ (∀ j z, j < i → es[j]? = some z → edgeB m z = true) ∧ (∀ j a b, j + 1 < i → es[j]? = some a → es[j + 1]? = some b → ltS a b = true)) ⟨none, none, rfl, rfl, fun j z h => absurd h (by omega), fun j a b h => absurd h (by omega)⟩ (fun _ _ _ _ _ => trivial) ?_ ?_⟩
  rotate_left 1
  · rintro σ H1 ⟨s1', s2', rfl, rfl, al, up⟩
    have e1 : es.all (edgeB m) = true := all_yes fun j a h => al j a (by have := (List.getElem?_eq_some_iff.mp h).1; omega) h
    have e2 : ascB es = true := ascB_of fun j a b ha hb => up j a b (by have := (List.getElem?_eq_some_iff.mp hb).1; omega) ha hb
    rw [eq0, e1, e2] at q
    exact q
  rintro i y σ H1' H1 li ⟨s1', s2', rfl, rfl, al, up⟩ ⟨rfl, ey⟩
  obtain rfl : y = V.int ((i : Nat) : Int) := ey.trans (congrArg V.int (Int.zero_add _))
  have li' : i < ys.length := by omega
  have hy : ys[i]? = some ys[i] := List.getElem?_eq_getElem li'
  obtain ⟨z, hz, sz⟩ := rr.get hy
  generalize ys[i] = y at hy sz
  have bad : edgeB m z = false → isGr (.tup [.int m, .tup es]) = false := fun c => by rw [eq0, all_no hz c, Bool.false_and]
  refine ⟨_, rfl, u, _, 1, _, rfl, rfl, hu, a1, _, rfl, e, ys, _, _, rfl, rfl, he, atI_nat hy, ?_⟩
  obtain ⟨tt, tx, k1, _, _⟩ := isi_of sz
  refine ⟨_, rfl, y, .ty "tuple", tt, .type "tuple", isTup z, rfl, .ty _, tx, k1, _, rfl, ?_⟩
  refine iteB (fun c0 => iteT (qn (bad ?_))) (fun c0 => ?_)
  · cases z with
    | tup ss => cases c0
    | _ => rfl
  obtain ⟨ps, rfl⟩ : ∃ ps, z = .tup ps := by
    cases z with
    | tup ss => exact ⟨ss, rfl⟩
    | _ => cases c0
  clear c0 k1 tx
  cases sz with
  | @tup g gs _ hg rg =>
  have lg := rg.len
  refine ⟨_, rfl, g, gs, rfl, .inr hg, rfl, _, rfl, iteB (fun c2 => iteT (qn (bad ?_))) (fun c2 => ?_)⟩
  · have n2 : ps.length ≠ 2 := fun e => by
      rw [lg, e] at c2
      exact absurd c2 (by decide)
    rcases ps with _ | ⟨a, _ | ⟨b, _ | ⟨c, t⟩⟩⟩
    · rfl
    · rfl
    · exact absurd rfl n2
    · simp [edgeB, vpB]
  have e2 : ps.length = 2 := by
    rw [lg] at c2
    have z : decide (V.int ((ps.length : Nat) : Int) = V.int 2) = true := by simpa using c2
    have z := of_decide_eq_true z
    injection z with z
    omega
  clear c2
  rcases ps with _ | ⟨a, _ | ⟨b, _ | ⟨c, t⟩⟩⟩
  · cases e2
  · cases e2
  rotate_left 1
  · simp at e2
  clear e2
  cases rg with
  | @cons y1 _ _ _ ha r =>
  cases r with
  | @cons y2 _ _ _ hb r =>
  cases r
  refine ⟨_, rfl, g, _, 0, _, rfl, rfl, hg, rfl, y1, a, rfl, ha, _, rfl, iteB (fun c2 => iteT (qn (bad ?_))) (fun c2 => ?_)⟩
  · cases a with
    | int i => cases c2
    | _ => rfl
  obtain ⟨a, rfl⟩ : ∃ k, a = .int k := by
    cases a with
    | int m => exact ⟨m, rfl⟩
    | _ => cases c2
  cases ha
  refine ⟨_, rfl, g, _, 1, _, rfl, rfl, hg, rfl, y2, b, rfl, hb, _, rfl, iteB (fun c3 => qn (bad ?_)) (fun c3 => ?_)⟩
  · cases b with
    | int i => cases c3
    | _ => simp [edgeB, vpB, wholeR]
  obtain ⟨b, rfl⟩ : ∃ k, b = .int k := by
    cases b with
    | int m => exact ⟨m, rfl⟩
    | _ => cases c3
  cases hb
  clear c2 c3
  have ee := edge_eq m a b
  have g0 : atI [V.int a, V.int b] 0 = some (.int a) := atI_nat (j := 0) rfl
  have g1 : atI [V.int a, V.int b] 1 = some (.int b) := atI_nat (j := 1) rfl
  refine ⟨_, rfl, g, _, 0, _, rfl, rfl, hg, g0, _, _, rfl, rfl, _, rfl, iteB (fun c2 => ?_) (fun c2 => ⟨_, rfl, iteT (qn (bad (by rw [ee, c2, Bool.false_and])))⟩)⟩
  refine ⟨_, rfl, g, _, 1, _, rfl, rfl, hg, g1, _, _, rfl, rfl, _, rfl, iteB (fun c3 => ?_) (fun c3 => ⟨_, rfl, iteT (qn (bad (by rw [ee, c3, Bool.false_and, Bool.and_false])))⟩)⟩
  refine ⟨_, rfl, u, _, 0, _, rfl, rfl, hu, a0, _, _, rfl, rfl, _, rfl, iteB (fun c4 => iteT (qn (bad ?_))) (fun c4 => ?_)⟩
  · rw [ee, show decide (b < m) = false by simpa using c4, Bool.and_false, Bool.and_false]
  have c4 : decide (b < m) = true := by simpa using c4
  have edge : edgeB m (.tup [.int a, .int b]) = true := by rw [ee, c2, c3, c4]; rfl
  have go : (∀ t, 0 < i → es[i - 1]? = some t → ltS t (.tup [.int a, .int b]) = true) → ∃ (s1 s2 : Option V), [some (V.ref u), some (V.int ((i : Nat) : Int)), some (V.ref g)] = [some (V.ref u), s1, s2] ∧ H1 = H1 ∧ (∀ j z, j < i + 1 → es[j]? = some z → edgeB m z = true) ∧ (∀ j a b, j + 1 < i + 1 → es[j]? = some a → es[j + 1]? = some b → ltS a b = true) := fun h => by
    refine ⟨_, _, rfl, rfl, fun j z' hj hz' => ?_, fun j a' b' hj ha hb => ?_⟩
    · by_cases e : j = i
      · subst e
        rw [hz] at hz'
        cases hz'
        exact edge
      · exact al j z' (by omega) hz'
    · by_cases e : j + 1 = i
      · subst e
        rw [hz] at hb
        cases hb
        exact h a' (by omega) (by simpa using ha)
      · exact up j a' b' (by omega) ha hb
  refine ⟨_, rfl, _, _, rfl, rfl, _, rfl, iteB (fun c5 => ?_) (fun c5 => iteF (go fun b h => ?_))⟩
  rotate_left 1
  · have c5 := of_decide_eq_false c5
    omega
  have i0 : 0 < i := by
    have c5 := of_decide_eq_true c5
    omega
  have lp : i - 1 < ys.length := by omega
  obtain ⟨zp, hzp, szp⟩ := rr.get (List.getElem?_eq_getElem lp)
  obtain ⟨c, d, rfl⟩ := edge_ints (al (i - 1) zp (by omega) hzp)
  have hp : ys[i - 1]? = some ys[i - 1] := List.getElem?_eq_getElem lp
  generalize ys[i - 1] = yp at hp szp
  have ei : ((i : Nat) : Int) - 1 = ((i - 1 : Nat) : Int) := by omega
  cases szp with
  | @tup g' _ _ hg' rg' =>
  cases rg' with
  | @cons _ _ _ _ h1 rg' =>
  cases rg' with
  | @cons _ _ _ _ h2 rg' =>
  cases rg'
  cases h1
  cases h2
  refine ⟨_, rfl, _, rfl, u, _, 1, _, rfl, rfl, hu, a1, _, rfl, _, _, rfl, rfl, e, ys, _, _, rfl, rfl, he, by rw [ei]; exact atI_nat hp, ?_⟩
  refine ⟨g, g', [a, b], [c, d], rfl, rfl, hg, hg', ?_⟩
  rw [le_pair]
  refine ⟨_, rfl, iteB (fun c6 => qn ?_) (fun c6 => go fun t _ ht => ?_)⟩
  · rw [eq0, ascB_no (j := i - 1) hzp (by rw [show i - 1 + 1 = i by omega]; exact hz) (by simpa using c6), Bool.and_false]
  · rw [hzp] at ht
    cases ht
    simpa using c6
end
end My

set_option maxHeartbeats 8000000
/-! Vertices that are adjacent; a pick from a list. -/
namespace My
open PySem PySem.Spec PyProof.Rows L2
abbrev sCVx : Stmt := top 16
abbrev sAdj : Stmt := top 17
theorem scCVx : FnScope ["graph", "vertex"] ["graph", "vertex"] (defScope sCVx) := ⟨rfl, rfl, rfl, by decide +kernel, rfl, by decide +kernel, by decide +kernel⟩
theorem scAdj : FnScope ["graph", "one", "other"] ["graph", "one", "other"] (defScope sAdj) := ⟨rfl, rfl, rfl, by decide +kernel, rfl, by decide +kernel, by decide +kernel⟩
def spCVx (K : PySem.W.Frag) : Sp := fun vs H Q _ => ∃ (x : V) (n : Nat) (es : List E2) (u : Nat), vs = [x, .int (u : Int)] ∧ GraphAt K H x n es ∧ Good n es ∧ u < n ∧ ∀ H', Same H H' → Q .non H'
def spAdj (K : PySem.W.Frag) : Sp := fun vs H Q _ => ∃ (x : V) (n : Nat) (es : List E2) (u v : Nat), vs = [x, .int (u : Int), .int (v : Int)] ∧ GraphAt K H x n es ∧ Good n es ∧ u < n ∧ v < n ∧ ∀ H', Same H H' → Q (.bl (adjB es u v)) H'
def spPickL (K : PySem.W.Frag) : Sp := fun vs H Q _ => ∃ (p t : Addr) (xs : List V), vs = [.ref p, .ref t] ∧ Wl H p ∧ H t = some (.lst xs) ∧ t ≠ p ∧ 0 < xs.length ∧ xs.length < 5000 ∧
  ∀ (i : Nat) (v : V) (H' : Hp), xs[i]? = some v → But p H H' → Wl H' p → Q v H'
section
variable {P : Program} {w : World} {K : PySem.W.Frag} {mg : Str → Option Value} {base : Heap} {f fC fW fO fD : Addr} {fd dC dW dO dD : FuncData}
theorem ok_cvx (F : L2.Fun K "check_vertex" "check_vertex" sCVx f fd) (GC : FnOk P w K mg base CX0 5 fC dC ["graph"] (spCheckGraph K)) (bC : L2.Binds K dC ["graph"] []) (kC : PySem.W.keepIn K (.ref fC) = true) (mC : mg "check_graph" = some (.ref fC))
    (GW : FnOk P w K mg base CX0 2 fW dW ["value", "low", "high"] (spIsWholeA K)) (bW : L2.Binds K dW ["value", "low", "high"] []) (kW : PySem.W.keepIn K (.ref fW) = true) (mW : mg "is_whole" = some (.ref fW)) : FnOk P w K mg base CX0 6 f fd ["graph", "vertex"] (spCVx K) := by
  refine F.ok scCVx (fun vs H Q E h => ?_) (fun cdv A outer s H vs Q E hr h => ?_)
  · obtain ⟨x, n, es, u, rfl, _⟩ := h
    rfl
  obtain ⟨x, n, es, u, rfl, hx, g, un, q⟩ := h
  refine ⟨_, pss_cons (ps_expr (pe_call GC hr (by rfl) mC kC bC .nil pass0 (pa_cons (pv 0) pa_nil)))
    (pss_one (ps_if (pt_not (pt_val (pe_call GW (hr.mono (by decide)) (by rfl) mW kW bW .nil pass0 (pa_cons (pv 1) (pa_cons pe_int (pa_cons (pe_op op_sub (pe_ix (r := rIxT K) ix_tup (pv 0) pe_int (fun _ _ => rfl)) pe_int) pa_nil)))))) (pss_one ps_never) pss_nil)), ?_⟩
  refine ⟨_, rfl, x, n, es, rfl, hx, g, fun H1 s1 => ?_⟩
  obtain ⟨t, e, ys, rfl, ht, _, _⟩ := hx.same s1
  have a0 : atI [V.int (n : Int), V.ref e] 0 = some (.int (n : Int)) := atI_nat (j := 0) rfl
  refine ⟨_, rfl, _, rfl, t, _, 0, _, rfl, rfl, ht, a0, _, _, rfl, rfl, .int ((u : Nat) : Int), .int ((u : Nat) : Int), 0, (n : Int) - 1, rfl, .int _, _, rfl, ?_⟩
  have e1 : wholeR 0 ((n : Int) - 1) (.int ((u : Nat) : Int)) = true := by
    show (decide (((u : Nat) : Int) ≥ 0) && decide (((u : Nat) : Int) ≤ (n : Int) - 1)) = true
    rw [decide_eq_true (by omega), decide_eq_true (by omega)]
    rfl
  rw [e1]
  exact iteF (q H1 s1)
theorem ok_adj (F : L2.Fun K "are_adjacent" "are_adjacent" sAdj f fd) (GC : FnOk P w K mg base CX0 6 fC dC ["graph", "vertex"] (spCVx K)) (bC : L2.Binds K dC ["graph", "vertex"] []) (kC : PySem.W.keepIn K (.ref fC) = true) (mC : mg "check_vertex" = some (.ref fC))
    (GO : FnOk P w K mg base CX0 1 fO dO ["one", "other"] spOrd) (bO : L2.Binds K dO ["one", "other"] []) (kO : PySem.W.keepIn K (.ref fO) = true) (mO : mg "ordered" = some (.ref fO)) : FnOk P w K mg base CX0 7 f fd ["graph", "one", "other"] (spAdj K) := by
  refine F.ok scAdj (fun vs H Q E h => ?_) (fun cdv A outer s H vs Q E hr h => ?_)
  · obtain ⟨x, n, es, u, v, rfl, _⟩ := h
    rfl
  obtain ⟨x, n, es, u, v, rfl, hx, g, un, vn, q⟩ := h
  refine ⟨_, pss_cons (ps_expr (pe_call GC hr (by rfl) mC kC bC .nil pass0 (pa_cons (pv 0) (pa_cons (pv 1) pa_nil))))
    (pss_cons (ps_expr (pe_call GC hr (by rfl) mC kC bC .nil pass0 (pa_cons (pv 0) (pa_cons (pv 2) pa_nil))))
    (pss_one (ps_ret (pe_cmpR (r := rInP id K) (op_inP hr.units) (pe_call GO (hr.mono (by decide)) (by rfl) mO kO bO .nil pass0 (pa_cons (pv 1) (pa_cons (pv 2) pa_nil))) (pe_ix (r := rIxT K) ix_tup (pv 0) pe_int (fun _ _ => rfl)) (by rfl))))), ?_⟩
  refine ⟨_, rfl, _, rfl, x, n, es, u, rfl, hx, g, un, fun H1 s1 => ?_⟩
  refine ⟨_, rfl, _, rfl, x, n, es, v, rfl, hx.same s1, g, vn, fun H2 s2 => ?_⟩
  have s02 := s1.trans s2
  refine ⟨_, rfl, _, rfl, (u, v), rfl, fun t nt => ?_⟩
  have s3 := same_new nt (.tup [.int ((ordP (u, v)).1 : Int), .int ((ordP (u, v)).2 : Int)])
  obtain ⟨t', e, ys, rfl, ht, he, hes⟩ := hx.same (s02.trans s3)
  have a1 : atI [V.int (n : Int), V.ref e] 1 = some (.ref e) := atI_nat (j := 1) rfl
  exact ⟨_, rfl, t', _, 1, _, rfl, rfl, ht, a1, ordP (u, v), e, ys, es, ⟨t, rfl, SqT.of upd_same⟩, rfl, he, hes, q _ (s02.trans s3)⟩
theorem ok_pickL (F : L2.Fun K "_law_pick" "_law_pick" sPick f fd) (GD : FnOk P w K mg base CX0 1 fD dD ["well", "many"] spDraw) (bD : L2.Binds K dD ["well", "many"] []) (kD : PySem.W.keepIn K (.ref fD) = true) (mD : mg "_law_draw" = some (.ref fD)) (ml : mg "len" = none) :
    FnOk P w K mg base CX0 2 f fd ["well", "some"] (spPickL K) := by
  refine F.ok scPick (fun vs H Q E h => ?_) (fun cdv A outer s H vs Q E hr h => ?_)
  · obtain ⟨p, t, xs, rfl, _⟩ := h
    rfl
  obtain ⟨p, t, xs, rfl, hW, hT, tp, l0, l1, q⟩ := h
  refine ⟨_, pss_one (ps_ret (pe_ix (r := rIxL K) ix_list (pv 1) (pe_call GD hr (by rfl) mD kD bD .nil pass0 (pa_cons (pv 0) (pa_cons (pe_callB call_len_seq (by rfl) ml PySem.boot_len (pa_cons (pv 1) pa_nil)) pa_nil))) (fun _ _ => rfl))), ?_⟩
  refine ⟨_, rfl, _, rfl, _, rfl, t, xs, rfl, .inl (SqL.of hT), p, _, rfl, hW, by omega, by omega, fun r H' r0 r1 bt hW' => ?_⟩
  obtain ⟨i, rfl⟩ : ∃ i : Nat, r = (i : Int) := ⟨r.toNat, by omega⟩
  have hi : i < xs.length := by omega
  exact ⟨t, xs, _, xs[i], rfl, rfl, SqL.of (bt _ _ tp hT), atI_nat (List.getElem?_eq_getElem hi), q i _ H' (List.getElem?_eq_getElem hi) bt hW'⟩
end
end My

set_option maxHeartbeats 4000000
/-! What the law says is within a lot. -/
namespace My
open PySem PySem.Spec PyProof.Rows L2
abbrev sLWi : Stmt := top 39
theorem scLWi : FnScope ["graph", "lot", "u", "v"] ["graph", "lot"] (defScope sLWi) := ⟨rfl, rfl, rfl, by decide +kernel, rfl, by decide +kernel, by decide +kernel⟩
def tBothW (K : PySem.W.Frag) : TT := tAnd (tTest (tOp (rIn K false) (tVar 2) (tVar 1))) (tTest (tOp (rIn K false) (tVar 3) (tVar 1)))
section
variable {P : Program} {w : World} {K : PySem.W.Frag} {mg : Str → Option Value} {base : Heap} {f fC : Addr} {fd dC : FuncData}
theorem ok_lwi (F : L2.Fun K "_law_within" "_law_within" sLWi f fd) (ml : mg "len" = none) (mt : mg "tuple" = none) : FnOk P w K mg base CX0 1 f fd ["graph", "lot"] (spInduced K) := by
  refine F.ok scLWi (fun vs H Q E h => ?_) (fun cdv A outer s H vs Q E hr h => ?_)
  · obtain ⟨x, n, es, u, l, rfl, _⟩ := h
    rfl
  obtain ⟨x, n, es, u, l, rfl, hx, g, hv, lo, q⟩ := h
  have hq : ∀ {H'}, TupF H' u ((l.map fun k => ((k : Nat) : Int)).map V.int) → SqT K H' u (l.map fun k => V.int ((k : Nat) : Int)) := fun h => by
    have := h.sq (K := K)
    rw [List.map_map] at this
    exact this
  refine ⟨_, pss_one (ps_ret (pe_tup (pa_cons (pe_callB call_len_seq (by rfl) ml PySem.boot_len (pa_cons (pv 1) pa_nil)) (pa_cons (pe_callTy call_tuple_of (by rfl) mt (by decide +kernel) (pa_cons
      (pe_lc (own := [("u", 2), ("v", 3)]) (g := gTup K 2 (gCons (gName 2) (gCons (gName 3) gNil))) (tt := tBothW K) (te := tTup (tCons (tBF rTixF (tVar 1) (tCons (tVar 2) tNil)) (tCons (tBF rTixF (tVar 1) (tCons (tVar 3) tNil)) tNil))) rfl scLWi.nd (pi_tup (pe_ix (r := rIxT K) ix_tup (pv 0) pe_int (fun _ _ => rfl)))
        (blkOk_by (N := ["graph", "lot", "u", "v"]) (sc := defScope sLWi) (by decide +kernel)) (fun _ _ _ _ _ => pg_tup (by rfl) (pgs_cons (pg_name (i := 2) scLWi.nd rfl (Or.inl rfl)) (pgs_cons (pg_name (i := 3) scLWi.nd rfl (Or.inl rfl)) pgs_nil)))
        (fun _ _ _ _ _ => pts_one (PW.pt (pw_and (pt_cmpR (r := rIn K false) op_in_seq (pv 2) (pv 1) (by rfl)) (pw_and1 (pt_cmpR (r := rIn K false) op_in_seq (pv 3) (pv 1) (by rfl))))))
        (fun _ _ _ _ _ => pe_tup (pa_cons (pe_bmF PySem.F.plainAttrs_tuple PySem.F.slot_tuple_index PySem.F.type_tuple_index mt_tixF (pv 1) (pa_cons (pv 2) pa_nil)) (pa_cons (pe_bmF PySem.F.plainAttrs_tuple PySem.F.slot_tuple_index PySem.F.type_tuple_index mt_tixF (pv 1) (pa_cons (pv 3) pa_nil)) pa_nil)))) pa_nil)) pa_nil)))), ?_⟩
  have n9 := g.n9
  have few := g.few
  have s1 := Same.refl H
  refine ⟨_, rfl, u, _, rfl, .inr (hq hv), ?_⟩
  rw [List.length_map]
  obtain ⟨t, e, xs, rfl, ht, he, hes⟩ := id hx
  have hv1 := hv
  have hu := hq hv1
  have le := PairsAt.len hes
  have a1 : atI [V.int (n : Int), V.ref e] 1 = some (.ref e) := atI_nat (j := 1) rfl
  have flat : (l.map fun k => V.int ((k : Nat) : Int)).all flatV = true := by
    rw [List.all_map]
    exact List.all_eq_true.mpr fun _ _ => rfl
  have hu2 : ∀ H2, Same H H2 → TupF H2 u ((l.map fun k => ((k : Nat) : Int)).map V.int) := fun H2 s2 => hv1.same s2
  refine ⟨_, rfl, t, _, 1, _, rfl, rfl, ht, a1, e, rfl, ⟨_, he⟩, fun D nD => lo_it (walk_tup (xs := xs)) (fun i H2 => Same H H2 ∧ ∃ ys, H2 D = some (.lst ys) ∧ ys.length ≤ i ∧ PairsT H2 ys (withinL (es.take i) l)) ⟨same_new nD _, [], upd_same, Nat.le_refl _, .nil⟩ (fun i H2 _ ⟨s2, _⟩ => Same.tup s2 he) ?_ ?_⟩
  · rintro i x _ H2 li ⟨s2, ys, hD, ly, py⟩ ⟨rfl, hi⟩
    obtain ⟨p, hp, w1, rfl, hw1⟩ := PairsAt.get (hes.same s2) hi
    have more : withinL (es.take (i + 1)) l = withinL (es.take i) l ++ withinL [p] l := by
      unfold withinL
      rw [take_succ hp, List.filter_append, List.map_append]
    have skip : ¬ (p.1 ∈ l ∧ p.2 ∈ l) → Same H H2 ∧ ∃ ys, H2 D = some (.lst ys) ∧ ys.length ≤ i + 1 ∧ PairsT H2 ys (withinL (es.take (i + 1)) l) := fun no => by
      refine ⟨s2, ys, hD, by omega, ?_⟩
      have e : withinL [p] l = [] := by
        unfold withinL
        rw [List.filter_cons_of_neg (by simpa using no)]
        rfl
      rw [more, e, List.append_nil]
      exact py
    refine ⟨w1, _, rfl, hw1, rfl, _, _, rfl, _, _, rfl, rfl, rfl, ?_⟩
    refine ⟨_, rfl, _, rfl, u, _, rfl, .inr (Same.tup s2 hu), rfl, flat, _, rfl, ?_⟩
    have c1 : (if false = true then !inV (V.int (p.1 : Int)) (l.map fun k => V.int ((k : Nat) : Int)) else inV (V.int (p.1 : Int)) (l.map fun k => V.int ((k : Nat) : Int))) = decide (p.1 ∈ l) := by rw [if_neg (by decide), inV_ints]
    have c2 : (if false = true then !inV (V.int (p.2 : Int)) (l.map fun k => V.int ((k : Nat) : Int)) else inV (V.int (p.2 : Int)) (l.map fun k => V.int ((k : Nat) : Int))) = decide (p.2 ∈ l) := by rw [if_neg (by decide), inV_ints]
    refine iteB (fun d1 => ⟨_, rfl, _, rfl, u, _, rfl, .inr (Same.tup s2 hu), rfl, flat, _, rfl, iteB (fun d2 => ?_) (fun d2 => ?_)⟩) (fun d1 => iteF ?_)
    · have m1 : p.1 ∈ l := of_decide_eq_true (c1.symm.trans d1)
      have m2 : p.2 ∈ l := of_decide_eq_true (c2.symm.trans d2)
      obtain ⟨p1, q1⟩ := place_at m1
      obtain ⟨p2, q2⟩ := place_at m2
      refine ⟨_, rfl, ⟨u, _, rfl, hu2 _ s2⟩, _, rfl, u, _, _, place l p.1, rfl, rfl, hu2 _ s2, p1, q1, _, rfl, ⟨u, _, rfl, hu2 _ s2⟩, _, rfl, u, _, _, place l p.2, rfl, rfl, hu2 _ s2, p2, q2, (by show 2 ≤ sizeLine; decide), fun r nr => ?_⟩
      have pp := push_pairT (place l p.1, place l p.2) hD nr py
      refine ⟨ys, (same_new nr _) _ _ hD, small1000 (by have := (List.getElem?_eq_some_iff.mp hi).1; omega), same_put (s2.trans (same_new nr _)) nD, _, upd_same, by rw [List.length_append]; exact Nat.succ_le_succ ly, ?_⟩
      have e : withinL [p] l = [(place l p.1, place l p.2)] := by
        unfold withinL
        rw [List.filter_cons_of_pos (by simp [m1, m2])]
        rfl
      rw [more, e]
      exact pp
    · exact skip fun h => by
        have z := c2.symm.trans d2
        exact absurd h.2 (of_decide_eq_false z)
    · exact skip fun h => by
        have z := c1.symm.trans d1
        exact absurd h.1 (of_decide_eq_false z)
  · rintro H2 ⟨s2, ys, hD, ly, py⟩
    rw [le, List.take_length] at py
    refine ⟨D, ys, rfl, .inl ⟨SqL.of hD, fun c nc => ⟨(by show 2 ≤ sizeLine; decide), fun r nr => ?_⟩⟩⟩
    have s4 := same_new nc (.tup ys)
    have s5 := same_new nr (.tup [.int ((l.length : Nat) : Int), .ref c])
    rw [withinL_eq g lo.up (Nat.le_trans lo.few g.n9)] at py
    exact q (.ref r) _ (s1.trans (s2.trans (s4.trans s5))) ⟨r, c, ys, rfl, upd_same, s5 _ _ upd_same, (py.same s4).same s5⟩
end
end My

set_option maxHeartbeats 8000000
/-! Values of odd kinds, and tuples bent, from a well. -/
namespace My
open PySem PySem.Spec PyProof.Rows L2
abbrev sOddW : Stmt := top 43
theorem scOddW : FnScope ["well", "some"] ["well"] (defScope sOddW) := ⟨rfl, rfl, rfl, by decide +kernel, rfl, by decide +kernel, by decide +kernel⟩
def spOddW (K : PySem.W.Frag) : Sp := fun vs H Q _ => ∃ p : Addr, vs = [.ref p] ∧ Wl H p ∧ ∀ (v : V) (H' : Hp), But p H H' → Wl H' p → Va K H' v → Q v H'
theorem tup_mk {K : PySem.W.Frag} {n : Nat} {ts : TA} {σ : L2.St} {H : Hp} {Q : VK} (m : MkA K n ts) (hn : n ≤ 900) (go : ∀ vs F H1, Same H H1 → vs.length = n → (∀ v ∈ vs, Va K H1 v) → H F = none → H1 F = some (.tup vs) → Q (.ref F) H1) : tTup ts σ H Q :=
  m σ H _ fun vs H1 s1 l h1 => ⟨by rw [l]; exact small (by omega), fun F nF => go vs F _ (s1.trans (same_new nF _)) l (fun x hx => (h1 x hx).same (same_new nF _)) (s1.free nF) upd_same⟩
theorem set_mkT {K : PySem.W.Frag} {n i : Nat} {ts : TA} {rest : L2.TS} {D : Ends} {σ : L2.St} {H : Hp} (m : MkA K n ts) (hn : n ≤ 900) (go : ∀ vs F H1, Same H H1 → vs.length = n → (∀ v ∈ vs, Va K H1 v) → H F = none → H1 F = some (.tup vs) → rest D (σ.set i (some (.ref F))) H1) : tSeq (tAsg (tTup ts) (gName i)) rest D σ H :=
  m σ H _ fun vs H1 s1 l h1 => ⟨by rw [l]; exact small (by omega), fun F nF => go vs F _ (s1.trans (same_new nF _)) l (fun x hx => (h1 x hx).same (same_new nF _)) (s1.free nF) upd_same⟩
section
variable {P : Program} {w : World} {K : PySem.W.Frag} {mg : Str → Option Value} {base : Heap} {f fD fK fO : Addr} {fd dD dK dO : FuncData}
theorem ok_oddW (F : L2.Fun K "_law_odd" "_law_odd" sOddW f fd) (GK : FnOk P w K mg base CX0 2 fK dK ["well", "some"] (spPick K)) (bK : L2.Binds K dK ["well", "some"] []) (kK : PySem.W.keepIn K (.ref fK) = true) (mK : mg "_law_pick" = some (.ref fK)) : FnOk P w K mg base CX0 3 f fd ["well"] (spOddW K) := by
  refine F.ok scOddW (fun vs H Q E h => ?_) (fun cdv A outer s H vs Q E hr h => ?_)
  · obtain ⟨p, rfl, _⟩ := h
    rfl
  obtain ⟨p, rfl, hW, q⟩ := h
  refine ⟨_, pss_cons (ps_set (i := 1) scOddW.nd rfl (.inl rfl) (pe_tup (pa_cons pe_non (pa_cons pe_bl (pa_cons pe_bl (pa_cons pe_int (pa_cons pe_int (pa_cons (pe_un un_neg pe_int) (pa_cons (pe_op op_pow pe_int pe_int) (pa_cons pe_str (pa_cons pe_str (pa_cons (pe_tup pa_nil) (pa_cons (pe_lst pa_nil) (pa_cons pe_dnewK (pa_cons (pe_tup (pa_cons pe_int pa_nil)) (pa_cons (pe_tup (pa_cons pe_int (pa_cons pe_int pa_nil))) (pa_cons (pe_tup (pa_cons (pe_tup (pa_cons pe_int (pa_cons pe_int pa_nil))) pa_nil)) (pa_cons (pe_lst (pa_cons pe_int (pa_cons (pe_tup pa_nil) pa_nil))) (pa_cons (pe_tup (pa_cons pe_int (pa_cons (pe_lst pa_nil) pa_nil))) pa_nil)))))))))))))))))))
    (pss_one (ps_ret (pe_call GK hr (by rfl) mK kK bK .nil pass0 (pa_cons (pv 0) (pa_cons (pe_op op_catW (pv 1) (pe_tup (pa_cons (pe_tup (pa_cons pe_int (pa_cons (pe_tup (pa_cons (pe_tup (pa_cons pe_int (pa_cons pe_int pa_nil))) pa_nil)) pa_nil))) (pa_cons (pe_tup (pa_cons pe_bl (pa_cons (pe_tup pa_nil) pa_nil))) (pa_cons (pe_tup (pa_cons pe_int (pa_cons (pe_tup (pa_cons (pe_tup (pa_cons pe_bl (pa_cons pe_bl pa_nil))) pa_nil)) pa_nil))) (pa_cons (pe_tup (pa_cons pe_int (pa_cons (pe_tup pa_nil) pa_nil))) (pa_cons (pe_tup (pa_cons pe_int (pa_cons (pe_tup (pa_cons (pe_tup (pa_cons pe_int (pa_cons pe_int pa_nil))) (pa_cons (pe_tup (pa_cons pe_int (pa_cons pe_int pa_nil))) pa_nil))) pa_nil))) pa_nil))))))) pa_nil))))), ?_⟩
  have mk1 : MkA K 17 _ := mk_cons mk_non (mk_cons (mk_bl true) (mk_cons (mk_bl false) (mk_cons (mk_int 0) (mk_cons (mk_int 5) (mk_cons (mk_neg 1) (mk_cons (mk_pow 10 30 ⟨by decide, by decide, by decide⟩) (mk_cons (mk_str "") (mk_cons (mk_str "0") (mk_cons (mk_tup (by decide) mk_nil) (mk_cons (mk_lst (by decide) mk_nil) (mk_cons mk_dct (mk_cons (mk_tup (by decide) (mk_cons (mk_int 0) mk_nil)) (mk_cons (mk_tup (by decide) (mk_cons (mk_int 0) (mk_cons (mk_int 1) mk_nil))) (mk_cons (mk_tup (by decide) (mk_cons (mk_tup (by decide) (mk_cons (mk_int 0) (mk_cons (mk_int 1) mk_nil))) mk_nil)) (mk_cons (mk_lst (by decide) (mk_cons (mk_int 0) (mk_cons (mk_tup (by decide) mk_nil) mk_nil))) (mk_cons (mk_tup (by decide) (mk_cons (mk_int 0) (mk_cons (mk_lst (by decide) mk_nil) mk_nil))) mk_nil))))))))))))))))
  have mk2 : MkA K 5 _ := mk_cons (mk_tup (by decide) (mk_cons (mk_int 1) (mk_cons (mk_tup (by decide) (mk_cons (mk_tup (by decide) (mk_cons (mk_int 0) (mk_cons (mk_int 0) mk_nil))) mk_nil)) mk_nil))) (mk_cons (mk_tup (by decide) (mk_cons (mk_bl true) (mk_cons (mk_tup (by decide) mk_nil) mk_nil))) (mk_cons (mk_tup (by decide) (mk_cons (mk_int 2) (mk_cons (mk_tup (by decide) (mk_cons (mk_tup (by decide) (mk_cons (mk_bl false) (mk_cons (mk_bl true) mk_nil))) mk_nil)) mk_nil))) (mk_cons (mk_tup (by decide) (mk_cons (mk_int 10) (mk_cons (mk_tup (by decide) mk_nil) mk_nil))) (mk_cons (mk_tup (by decide) (mk_cons (mk_int 2) (mk_cons (mk_tup (by decide) (mk_cons (mk_tup (by decide) (mk_cons (mk_int 0) (mk_cons (mk_int 1) mk_nil))) (mk_cons (mk_tup (by decide) (mk_cons (mk_int 0) (mk_cons (mk_int 1) mk_nil))) mk_nil))) mk_nil))) mk_nil))))
  refine set_mkT mk1 (by decide) fun vs1 F1 H1 s1 l1 h1 n1 f1 => ?_
  refine ⟨_, rfl, _, rfl, ?_⟩
  refine mk2 _ _ _ fun vs2 H2 s2 l2 h2 => ⟨by rw [l2]; exact small (by decide), fun F2 nF2 => ?_⟩
  have sF := same_new nF2 (.tup vs2)
  have f2 := upd_same (H := H2) (a := F2) (o := .tup vs2)
  generalize upd H2 F2 (.tup vs2) = H3 at sF f2 ⊢
  have s13 := s2.trans sF
  refine ⟨F1, F2, _, _, rfl, rfl, SqT.of (s13 _ _ f1), SqT.of f2, by rw [l1, l2]; exact small (by decide), fun t H4 s4 ht => ?_⟩
  have s04 := s1.trans (s13.trans s4)
  have w4 := hW.same s04
  have all : ∀ x ∈ vs1 ++ vs2, Va K H4 x := fun x hx => (List.mem_append.mp hx).elim (fun hx => (h1 x hx).same (s13.trans s4)) (fun hx => (h2 x hx).same (sF.trans s4))
  have l22 : (vs1 ++ vs2).length = 22 := by rw [List.length_append, l1, l2]
  generalize vs1 ++ vs2 = ws at ht all l22
  refine ⟨p, t, ws, rfl, w4, w4.off ht, by omega, by omega, fun i v H5 hv b5 w5 => ?_⟩
  exact q v H5 ((But.of s04).trans b5) w5 ((all v (List.mem_of_getElem? hv)).but b5 w4 w5)
end
end My

set_option maxHeartbeats 8000000
/-! Tuples bent, from a well. -/
namespace My
open PySem PySem.Spec PyProof.Rows L2
abbrev sBentW : Stmt := top 44
theorem scBentW : FnScope ["well", "rows", "way", "at", "odd"] ["well", "rows"] (defScope sBentW) := ⟨rfl, rfl, rfl, by decide +kernel, rfl, by decide +kernel, by decide +kernel⟩
def spBentW (K : PySem.W.Frag) : Sp := fun vs H Q _ => ∃ (p t : Addr) (xs : List V), vs = [.ref p, .ref t] ∧ Wl H p ∧ SqT K H t xs ∧ xs.length ≤ 100 ∧ (∀ x ∈ xs, Va K H x) ∧ ∀ (v : V) (H' : Hp), But p H H' → Wl H' p → Va K H' v → Q v H'
section
variable {P : Program} {w : World} {K : PySem.W.Frag} {mg : Str → Option Value} {base : Heap} {f fD fK fO : Addr} {fd dD dK dO : FuncData}
theorem ok_bentW (F : L2.Fun K "_law_bent" "_law_bent" sBentW f fd)
    (GD : FnOk P w K mg base CX0 1 fD dD ["well", "many"] spDraw) (bD : L2.Binds K dD ["well", "many"] []) (kD : PySem.W.keepIn K (.ref fD) = true) (mD : mg "_law_draw" = some (.ref fD))
    (GK : FnOk P w K mg base CX0 2 fK dK ["well", "some"] (spPick K)) (bK : L2.Binds K dK ["well", "some"] []) (kK : PySem.W.keepIn K (.ref fK) = true) (mK : mg "_law_pick" = some (.ref fK))
    (GO : FnOk P w K mg base CX0 3 fO dO ["well"] (spOddW K)) (bO : L2.Binds K dO ["well"] []) (kO : PySem.W.keepIn K (.ref fO) = true) (mO : mg "_law_odd" = some (.ref fO))
    (ml : mg "len" = none) (mli : mg "list" = none) : FnOk P w K mg base CX0 4 f fd ["well", "rows"] (spBentW K) := by
  refine F.ok scBentW (fun vs H Q E h => ?_) (fun cdv A outer s H vs Q E hr h => ?_)
  · obtain ⟨p, t, xs, rfl, _⟩ := h
    rfl
  obtain ⟨p, t, xs, rfl, hW, ht, few, va, q⟩ := h
  have h1 := hr.mono (show 1 ≤ 3 by decide)
  have h2 := hr.mono (show 2 ≤ 3 by decide)
  refine ⟨_, pss_cons (ps_par3 (by rfl) scBentW.nd (i := 2) (j := 3) (l := 4) rfl rfl rfl (by decide) (by decide) (by decide) rfl rfl rfl (pa_cons (pe_call GD h1 (by rfl) mD kD bD .nil pass0 (pa_cons (pv 0) (pa_cons pe_int pa_nil)))
        (pa_cons (pe_call GD h1 (by rfl) mD kD bD .nil pass0 (pa_cons (pv 0) (pa_cons (pe_op op_add (pe_callB call_len_seq (by rfl) ml PySem.boot_len (pa_cons (pv 1) pa_nil)) pe_int) pa_nil))) (pa_cons (pe_call GO hr (by rfl) mO kO bO .nil pass0 (pa_cons (pv 0) pa_nil)) pa_nil))) (by rfl))
    (pss_cons (ps_set (i := 4) scBentW.nd rfl (.inl rfl) (pe_call GK h2 (by rfl) mK kK bK .nil pass0 (pa_cons (pv 0) (pa_cons (pe_tup (pa_cons (pv 4) (pa_cons (pe_call GD h1 (by rfl) mD kD bD .nil pass0 (pa_cons (pv 0) (pa_cons pe_int pa_nil))) (pa_cons (pe_tup (pa_cons (pe_call GD h1 (by rfl) mD kD bD .nil pass0 (pa_cons (pv 0) (pa_cons pe_int pa_nil))) (pa_cons (pe_call GD h1 (by rfl) mD kD bD .nil pass0 (pa_cons (pv 0) (pa_cons pe_int pa_nil))) pa_nil))) pa_nil)))) pa_nil))))
    (pss_cons (ps_if (pt_cmpR op_eq (pv 2) pe_int (nomark _)) (pss_one (ps_ret (pe_op op_catW (pe_op op_catW (pe_slice sl_tupW (pv 1) po_none (po_some (pv 3))) (pe_tup (pa_cons (pv 4) pa_nil))) (pe_slice sl_tupW (pv 1) (po_some (pv 3)) po_none)))) pss_nil)
    (pss_cons (ps_if (pt_cmpR op_eq (pv 2) pe_int (nomark _)) (pss_one (ps_ret (pe_op op_catW (pe_slice sl_tupW (pv 1) po_none (po_some (pv 3))) (pe_slice sl_tupW (pv 1) (po_some (pe_op op_add (pv 3) pe_int)) po_none)))) pss_nil)
    (pss_cons (ps_if (pt_cmpR op_eq (pv 2) pe_int (nomark _)) (pss_one (ps_ret (pe_op op_catW (pe_op op_catW (pe_slice sl_tupW (pv 1) po_none (po_some (pv 3))) (pe_slice sl_tupW (pv 1) (po_some (pv 3)) (po_some (pe_op op_add (pv 3) pe_int)))) (pe_slice sl_tupW (pv 1) (po_some (pv 3)) po_none)))) pss_nil)
    (pss_cons (ps_if (pt_cmpR op_eq (pv 2) pe_int (nomark _)) (pss_one (ps_ret (pe_revT (pv 1)))) pss_nil)
    (pss_one (ps_ret (pe_ifExp (pt_cmpR op_eq (pv 2) pe_int (nomark _)) (pe_callTy call_list_of (by rfl) mli (by decide +kernel) (pa_cons (pv 1) pa_nil)) (pe_op op_catW (pe_op op_catW (pe_slice sl_tupW (pv 1) po_none (po_some (pv 3))) (pe_tup (pa_cons (pv 4) pa_nil))) (pe_slice sl_tupW (pv 1) (po_some (pe_op op_add (pv 3) pe_int)) po_none)))))))))), ?_⟩
  have line : ∀ k, k ≤ 1000 → k ≤ sizeLine := fun k hk => small hk
  refine ⟨_, rfl, p, _, rfl, hW, by decide, by decide, fun way H1 _ _ b1 w1 => ?_⟩
  have ht1 := (TS.but b1 hW).tup ht
  refine ⟨_, rfl, _, rfl, t, _, rfl, .inr ht1, _, _, rfl, rfl, p, _, rfl, w1, by omega, by omega, fun at' H2 _ _ b2 w2 => ?_⟩
  refine ⟨_, rfl, p, rfl, w2, fun odd0 H3 b3 w3 ho3 => ?_⟩
  refine ⟨_, _, _, rfl, ?_⟩
  refine ⟨_, rfl, _, rfl, _, rfl, p, _, rfl, w3, by decide, by decide, fun d1 H4 _ _ b4 w4 => ?_⟩
  refine ⟨_, rfl, p, _, rfl, w4, by decide, by decide, fun d2 H5 _ _ b5 w5 => ?_⟩
  refine ⟨_, rfl, p, _, rfl, w5, by decide, by decide, fun d3 H6 _ _ b6 w6 => ?_⟩
  refine ⟨line 2 (by decide), fun y ny => ⟨line 3 (by decide), fun z nz => ?_⟩⟩
  have sy := same_new ny (.tup [.int d2, .int d3])
  have hy := upd_same (H := H6) (a := y) (o := .tup [.int d2, .int d3])
  generalize upd H6 y (.tup [.int d2, .int d3]) = H7 at sy hy nz ⊢
  have sz := same_new nz (.tup [odd0, .int d1, .ref y])
  have hz := upd_same (H := H7) (a := z) (o := .tup [odd0, .int d1, .ref y])
  have hy := sz _ _ hy
  generalize upd H7 z (.tup [odd0, .int d1, .ref y]) = H8 at sz hz hy ⊢
  have w8 := (w6.same sy).same sz
  have b46 := b4.trans (b5.trans b6)
  have ho8 := ((ho3.but b46 w3 w6).same (sy.trans sz))
  have all8 : ∀ x ∈ [odd0, .int d1, .ref y], Va K H8 x := fun x hx => by
    simp only [List.mem_cons, List.mem_nil_iff, or_false] at hx
    rcases hx with rfl | rfl | rfl
    · exact ho8
    · exact .int _
    · refine Va.tup (SqT.of hy) (by simp) fun x hx => ?_
      simp only [List.mem_cons, List.mem_nil_iff, or_false] at hx
      rcases hx with rfl | rfl <;> exact .int _
  refine ⟨p, z, _, rfl, w8, w8.off (SqT.of hz), by simp, by simp, fun j odd H9 hj b9 w9 => ?_⟩
  have od := (all8 odd (List.mem_of_getElem? hj)).but b9 w8 w9
  have b09 := b1.trans (b2.trans (b3.trans (b46.trans ((But.of (sy.trans sz)).trans b9))))
  have ht9 := (TS.but b09 hW).tup ht
  have va9 : ∀ x ∈ xs, Va K H9 x := fun x hx => (va x hx).but b09 hW w9
  clear all8 ho8 hj hy hz sz sy ho3 ht1 b46
  have lc := fun lo hi => cutV_length xs lo hi
  have fin : ∀ (T : Addr) (H' : Hp) (ys : List V), Same H9 H' → SqT K H' T ys → ys.length ≤ 900 → (∀ x ∈ ys, Va K H9 x) → Q (.ref T) H' := fun T H' ys s' hT l al =>
    q _ H' (b09.trans (But.of s')) (w9.same s') (Va.tup hT l fun x hx => (al x hx).same s')
  have sqt : ∀ {H'}, Same H9 H' → SqT K H' t xs := fun s' => Same.tup s' ht9
  have vo : ∀ x ∈ [odd], Va K H9 x := fun x hx => by
    rw [List.mem_singleton.mp hx]
    exact od
  refine ⟨_, rfl, rfl, _, rfl, iteB (fun _ => ?_) (fun _ => ?_)⟩
  · refine ⟨_, rfl, _, rfl, _, rfl, t, _, rfl, sqt (Same.refl _), fun p1 H6 s6 hp1 => ?_⟩
    refine ⟨_, rfl, line 1 (by decide), fun y ny => ?_⟩
    have sy := same_new ny (.tup [odd])
    refine ⟨p1, y, _, _, rfl, rfl, Same.tup sy hp1, SqT.of upd_same, line _ (by have := lc none (some at'); rw [List.length_singleton]; omega), fun p2 H7 s7 hp2 => ?_⟩
    have s67 := s6.trans (sy.trans s7)
    refine ⟨_, rfl, _, rfl, _, rfl, t, _, rfl, sqt s67, fun p3 H8 s8 hp3 => ?_⟩
    refine ⟨p2, p3, _, _, rfl, rfl, Same.tup s8 hp2, hp3, line _ (by have := lc none (some at'); have := lc (some at') none; rw [List.length_append, List.length_singleton]; omega), fun p4 H9 s9 hp4 => ?_⟩
    exact fin p4 H9 _ (s67.trans (s8.trans s9)) hp4 (by have := lc none (some at'); have := lc (some at') none; rw [List.length_append, List.length_append, List.length_singleton]; omega) (va_app (va_app (va_cut _ _ va9) vo) (va_cut _ _ va9))
  refine ⟨_, rfl, rfl, _, rfl, iteB (fun _ => ?_) (fun _ => ?_)⟩
  · refine ⟨_, rfl, _, rfl, _, rfl, t, _, rfl, sqt (Same.refl _), fun p1 H6 s6 hp1 => ?_⟩
    refine ⟨_, rfl, _, rfl, _, _, rfl, rfl, _, rfl, t, _, rfl, sqt s6, fun p2 H7 s7 hp2 => ?_⟩
    refine ⟨p1, p2, _, _, rfl, rfl, Same.tup s7 hp1, hp2, line _ (by have := lc none (some at'); have := lc (some (at' + 1)) none; omega), fun p3 H8 s8 hp3 => ?_⟩
    exact fin p3 H8 _ (s6.trans (s7.trans s8)) hp3 (by have := lc none (some at'); have := lc (some (at' + 1)) none; rw [List.length_append]; omega) (va_app (va_cut _ _ va9) (va_cut _ _ va9))
  refine ⟨_, rfl, rfl, _, rfl, iteB (fun _ => ?_) (fun _ => ?_)⟩
  · refine ⟨_, rfl, _, rfl, _, rfl, t, _, rfl, sqt (Same.refl _), fun p1 H6 s6 hp1 => ?_⟩
    refine ⟨_, rfl, _, rfl, _, rfl, _, rfl, _, _, rfl, rfl, _, rfl, t, _, rfl, sqt s6, fun p2 H7 s7 hp2 => ?_⟩
    refine ⟨p1, p2, _, _, rfl, rfl, Same.tup s7 hp1, hp2, line _ (by have := lc none (some at'); have := lc (some at') (some (at' + 1)); omega), fun p3 H8 s8 hp3 => ?_⟩
    have s68 := s6.trans (s7.trans s8)
    refine ⟨_, rfl, _, rfl, _, rfl, t, _, rfl, sqt s68, fun p4 HA sA hp4 => ?_⟩
    refine ⟨p3, p4, _, _, rfl, rfl, Same.tup sA hp3, hp4, line _ (by have := lc none (some at'); have := lc (some at') (some (at' + 1)); have := lc (some at') none; rw [List.length_append]; omega), fun p5 HB sB hp5 => ?_⟩
    exact fin p5 HB _ (s68.trans (sA.trans sB)) hp5 (by have := lc none (some at'); have := lc (some at') (some (at' + 1)); have := lc (some at') none; rw [List.length_append, List.length_append]; omega) (va_app (va_app (va_cut _ _ va9) (va_cut _ _ va9)) (va_cut _ _ va9))
  refine ⟨_, rfl, rfl, _, rfl, iteB (fun _ => ?_) (fun _ => ?_)⟩
  · refine ⟨_, rfl, t, _, rfl, ht9, fun p1 np1 => ?_⟩
    exact fin p1 _ _ (same_new np1 _) (SqT.of upd_same) (by rw [List.length_reverse]; omega) fun x hx => va9 x (List.mem_reverse.mp hx)
  refine ⟨_, rfl, rfl, _, rfl, iteB (fun _ => ?_) (fun _ => ?_)⟩
  · refine ⟨_, rfl, t, _, rfl, .inr ht9, fun b nb => ?_⟩
    have s6 := same_new nb (.lst xs)
    exact q _ _ (b09.trans (But.of s6)) (w9.same s6) (.lst (SqL.of upd_same))
  · refine ⟨_, rfl, _, rfl, _, rfl, t, _, rfl, sqt (Same.refl _), fun p1 H6 s6 hp1 => ?_⟩
    refine ⟨_, rfl, line 1 (by decide), fun y ny => ?_⟩
    have sy := same_new ny (.tup [odd])
    refine ⟨p1, y, _, _, rfl, rfl, Same.tup sy hp1, SqT.of upd_same, line _ (by have := lc none (some at'); rw [List.length_singleton]; omega), fun p2 H7 s7 hp2 => ?_⟩
    have s67 := s6.trans (sy.trans s7)
    refine ⟨_, rfl, _, rfl, _, _, rfl, rfl, _, rfl, t, _, rfl, sqt s67, fun p3 H8 s8 hp3 => ?_⟩
    refine ⟨p2, p3, _, _, rfl, rfl, Same.tup s8 hp2, hp3, line _ (by have := lc none (some at'); have := lc (some (at' + 1)) none; rw [List.length_append, List.length_singleton]; omega), fun p4 H9 s9 hp4 => ?_⟩
    exact fin p4 H9 _ (s67.trans (s8.trans s9)) hp4 (by have := lc none (some at'); have := lc (some (at' + 1)) none; rw [List.length_append, List.length_append, List.length_singleton]; omega) (va_app (va_app (va_cut _ _ va9) vo) (va_cut _ _ va9))
end
end My

set_option maxHeartbeats 4000000
/-! sorted(t), t a tuple of pairs of ints. -/
namespace My
open PySem PySem.Spec PyProof.Rows L2 Builtin
section
variable {prog : Program} {w : World} {A : Around} {E : Value → Shared → Prop} {s : Shared}
theorem collT {t : Addr} {us : List Value} {R : List Value → Shared → Prop} (ht : IsTup s.heap t us.toArray) (hz : us.length ≤ sizeLine)
    (h : R us { s with heap := (s.heap.push (seqObj "list" #[] 0)).update s.heap.objs.size (Obj.mapSeq (· ++ us.toArray)) }) : wpAny (model prog w) A (collect (.ref t)) R E s := by
  obtain ⟨ob, hob, hcl, m, hdt⟩ := id ht
  unfold collect
  refine wpAny_bind (wpAny_runValue (codeAny_builtin entry_proto_collect' ?_)); show wpAny _ _ (do again (.builtin "list.__iadd__" ⟨[← newList [], .ref t], []⟩)) _ _ s
  refine wpAny_bind (wpAny_newList (wpAny_pure ⟨Code.quiet_builtin _ (by decide +kernel), codeAny_builtin entry_list_iadd' ?_⟩))
  show wpAny _ _ (Builtin.List.listExtendWith (.ref s.heap.objs.size) (.ref t) (.ref s.heap.objs.size)) _ _ { s with heap := s.heap.push (seqObj "list" #[] 0) }
  unfold Builtin.List.listExtendWith
  have hob' : (s.heap.push (seqObj "list" #[] 0)).get? t = some ob := Heap.get?_push_of_some _ hob
  refine wpAny_bind (wpAny_typeOf (T := "tuple") ⟨ob, hob', hcl⟩ ?_)
  rw [if_pos (by rw [show (Value.type "tuple" == Value.type "tuple") = true from rfl]; simp)]
  have hnew : (s.heap.push (seqObj "list" #[] 0)).get? s.heap.objs.size = some (seqObj "list" #[] 0) := Heap.get?_push_size _ rfl
  refine wpAny_bind (listItems_at hob' hdt (wpAny_bind (listItems_at hnew rfl ?_)))
  rw [if_neg (by simp)]
  refine wpAny_bind (listUpdate_at hnew rfl ?_ (Nat.zero_le _) (by simp only [List.size_toArray, Array.size_append, List.length_nil]; omega))
  refine wpAny_pure ?_
  have hend := get?_update_seq hnew (· ++ us.toArray)
  have eus : ((#[] : Array Value) ++ us.toArray).toList = us := by simp
  show wpAny _ _ (do let o ← load s.heap.objs.size; match o.data with | .seq xs _ => pure xs.toList | _ => unsupported "internal:collect") _ _ _
  refine wpAny_bind (wpAny_load hend ?_); show wpAny _ _ (pure ((#[] : Array Value) ++ us.toArray).toList) R E _
  rw [eus]
  exact wpAny_pure h
theorem sortT {t : Addr} {us : List Value} {ord : Value → Value → Bool} {R : Value → Shared → Prop} (O : SrtO.Swo ord) (ht : IsTup s.heap t us.toArray) (hz : us.length ≤ sizeLine)
    (hS : 2 ≤ us.length → ∀ (g : Heap) (a : Addr), g.get? a = some (seqObj "list" us.toArray 0) → (∀ b o, s.heap.get? b = some o → b ≠ a ∧ g.get? b = some o) → SrtO.SortableO prog w A.in1.in1 { s with heap := g } a us ord)
    (h : ∀ out : List Value, SrtO.Srtd ord out → SrtO.Stb ord out us → R (.ref (s.heap.objs.size + 1)) { s with heap := sortedAll s.heap us out.toArray }) :
    wpAny (model prog w) A (call (.builtin "sorted") [.ref t]) R E s := by
  refine Calls.call_function_entry kind_sorted plain_sorted entry_sorted (args_sorted1 _) ?_; unfold Builtin.«sorted»
  refine wpAny_bind (m := checkCount "sorted" 1 1 _) (wpAny_pure (wpAny_bind (collT ht hz (wpAny_bind (wpAny_newList ?_ hz)))))
  generalize hg0 : (s.heap.push (seqObj "list" #[] 0)).update s.heap.objs.size (Obj.mapSeq (· ++ us.toArray)) = g0
  have z0 : g0.objs.size = s.heap.objs.size + 1 := by rw [← hg0, Heap.size_update, size_push']
  have old : ∀ b o, s.heap.get? b = some o → b ≠ s.heap.objs.size + 1 ∧ (g0.push (seqObj "list" us.toArray 0)).get? b = some o := fun b o e => by
    have lt : b < s.heap.objs.size := Heap.lt_size e
    refine ⟨Nat.ne_of_lt (Nat.lt_succ_of_lt lt), Heap.get?_push_of_some _ ?_⟩
    rw [← hg0, Heap.get?_update_ne _ _ _ _ (Nat.ne_of_lt lt)]; exact Heap.get?_push_of_some _ e
  have at1 : (g0.push (seqObj "list" us.toArray 0)).get? (s.heap.objs.size + 1) = some (seqObj "list" us.toArray 0) := by rw [← z0]; exact Heap.get?_push_size _ rfl
  show wpAny _ _ _ _ _ { s with heap := g0.push (seqObj "list" us.toArray 0) }
  rw [z0]
  refine wpAny_bind (wpAny_holding (wpAny_call_entry slot_list_sort ⟨_, at1, rfl⟩ entry_list_sort (SrtO.list_sort_ord O at1 hz (fun l2 => hS l2 _ _ at1 old) fun out so sb => ⟨_, rfl, wpAny_pure ⟨_, rfl, ?_⟩⟩) (args_list_sort _)))
  have z := h out so sb
  unfold sortedAll at z
  rw [hg0] at z
  exact z
end
section
variable {X : Cx}
def rSortPT (K : PySem.W.Frag) : List V → Hp → VK → Prop := fun vs H Q => ∃ (a : Addr) (xs : List V) (k : V → Int × Int), vs = [V.ref a] ∧ SqT K H a xs ∧ (∀ x ∈ xs, ∃ t, x = V.ref t ∧ H t = some (.tup [.int (k x).1, .int (k x).2])) ∧
  ∀ ys p, SrtO.Srtd (ltP k) ys → SrtO.Stb (ltP k) ys xs → H p = none → Q (.ref p) (upd H p (.lst ys))
theorem cr_sortPT : CallR X (.builtin "sorted") (rSortPT X.K) := by
  rintro pins s σ H vs us Q I r ⟨a, xs, k, rfl, hs, hx, q⟩
  obtain ⟨its, rv, hl, hz⟩ := I.tuple hs
  rw [Vals.ref1 r]
  obtain ⟨e1, e2⟩ := refs_back rv fun x m => let ⟨t, e, _⟩ := hx x m; ⟨t, e⟩
  have pr : ∀ v ∈ its, Srt.IsPair s.heap v (k (backV v)).1 (k (backV v)).2 := fun v hv => by
    obtain ⟨t, rfl⟩ := e2 v hv
    obtain ⟨t', e, ht⟩ := hx _ (show V.ref t ∈ xs by rw [e1]; exact List.mem_map.mpr ⟨_, hv, rfl⟩)
    cases e
    obtain ⟨_, its2, r2, o, ho, hc, n, hd⟩ := I.hok _ _ ht
    obtain ⟨u1, u2, rfl, ⟨t1, rfl⟩, ⟨t2, rfl⟩⟩ := vals2 r2
    exact ⟨t, o, t1, t2, n, rfl, ho, hc, hd⟩
  have lz : its.length ≤ sizeLine := by rw [← rv.length]; exact hz
  refine sortT (SrtO.swo_lex fun u => k (backV u)) hl lz (fun h2 g b hb kk => ?_) fun out so sb => ?_
  · refine SrtO.pairs_sortableO (s := { s with heap := g }) (by omega) (fun v hm => (pr v hm).keeps fun b o e _ => (kk b o e).2) fun o e => ?_
    have e' : some o = some (seqObj "list" its.toArray 0) := e.symm.trans hb
    cases e'
    exact fun c => absurd (Value.type.inj c) (by decide)
  · obtain ⟨n, hn⟩ := sortedAll_at s.heap its out.toArray
    have allr : ∀ u ∈ out, ∃ a, u = Value.ref a := fun u hu => e2 u (sb.perm.mem_iff.mp hu)
    have hb : SrtO.Stb (ltP k) (out.map backV) xs := by rw [e1]; exact SrtO.Stb.map (ltP_swo k) backV sb
    have new := Nat.le_succ s.heap.objs.size
    refine ⟨.ref (s.heap.objs.size + 1), upd H (s.heap.objs.size + 1) (.lst (out.map backV)), I.laid (t' := s.toks) (fun b o e => sortedAll_old e) new ⟨by rw [hb.len]; exact hz, out, n, vals_back allr, hn⟩, rfl, q _ _ (SrtO.srtd_map so) hb (I.hok.fresh new)⟩
end
end My

set_option maxHeartbeats 4000000
/-! sorted(t), t a tuple of pairs, whatever tuples. -/
namespace My
open PySem PySem.Spec PyProof.Rows L2 Builtin
section
variable {X : Cx}
def rSortPQ (K : PySem.W.Frag) : List V → Hp → VK → Prop := fun vs H Q => ∃ (a : Addr) (xs : List V), vs = [V.ref a] ∧ SqT K H a xs ∧ (∀ x ∈ xs, ∃ (t : Addr) (i j : Int), x = V.ref t ∧ SqT K H t [.int i, .int j]) ∧
  ∀ ys p, ys.Perm xs → H p = none → Q (.ref p) (upd H p (.lst ys))
theorem cr_sortPQ : CallR X (.builtin "sorted") (rSortPQ X.K) := by
  rintro pins s σ H vs us Q I r ⟨a, xs, rfl, hs, hx, q⟩
  obtain ⟨its, rv, hl, hz⟩ := I.tuple hs
  rw [Vals.ref1 r]
  obtain ⟨e1, e2⟩ := refs_back rv fun x m => let ⟨t, _, _, e, _⟩ := hx x m; ⟨t, e⟩
  have hk : ∀ x : V, ∃ z : Int × Int, x ∈ xs → ∃ t, x = V.ref t ∧ SqT X.K H t [.int z.1, .int z.2] := fun x => by
    by_cases m : x ∈ xs
    · obtain ⟨t, i, j, h1, h2⟩ := hx x m
      exact ⟨(i, j), fun _ => ⟨t, h1, h2⟩⟩
    · exact ⟨(0, 0), fun h => absurd h m⟩
  let k : V → Int × Int := fun x => Classical.choose (hk x)
  have kx : ∀ x ∈ xs, ∃ t, x = V.ref t ∧ SqT X.K H t [.int (k x).1, .int (k x).2] := fun x m => Classical.choose_spec (hk x) m
  have pr : ∀ v ∈ its, Srt.IsPair s.heap v (k (backV v)).1 (k (backV v)).2 := fun v hv => by
    obtain ⟨t, rfl⟩ := e2 v hv
    obtain ⟨t', e, ht⟩ := kx _ (show V.ref t ∈ xs by rw [e1]; exact List.mem_map.mpr ⟨_, hv, rfl⟩)
    cases e
    obtain ⟨its2, r2, ⟨o, ho, hc, n, hd⟩, _⟩ := I.tuple ht
    obtain ⟨u1, u2, rfl, ⟨t1, rfl⟩, ⟨t2, rfl⟩⟩ := vals2 r2
    exact ⟨t, o, t1, t2, n, rfl, ho, hc, hd⟩
  have lz : its.length ≤ sizeLine := by rw [← rv.length]; exact hz
  refine sortT (SrtO.swo_lex fun u => k (backV u)) hl lz (fun h2 g b hb kk => ?_) fun out so sb => ?_
  · refine SrtO.pairs_sortableO (s := { s with heap := g }) (by omega) (fun v hm => (pr v hm).keeps fun b o e _ => (kk b o e).2) fun o e => ?_
    have e' : some o = some (seqObj "list" its.toArray 0) := e.symm.trans hb
    cases e'
    exact fun c => absurd (Value.type.inj c) (by decide)
  · obtain ⟨n, hn⟩ := sortedAll_at s.heap its out.toArray
    have allr : ∀ u ∈ out, ∃ a, u = Value.ref a := fun u hu => e2 u (sb.perm.mem_iff.mp hu)
    have hb : SrtO.Stb (ltP k) (out.map backV) xs := by rw [e1]; exact SrtO.Stb.map (ltP_swo k) backV sb
    have new := Nat.le_succ s.heap.objs.size
    refine ⟨.ref (s.heap.objs.size + 1), upd H (s.heap.objs.size + 1) (.lst (out.map backV)), I.laid (t' := s.toks) (fun b o e => sortedAll_old e) new ⟨by rw [hb.len]; exact hz, out, n, vals_back allr, hn⟩, rfl, q _ _ hb.perm (I.hok.fresh new)⟩
end
end My

set_option maxHeartbeats 4000000
/-! len(set(xs)), xs a list of unlike texts, any number of them. -/
namespace My
open PySem PySem.Spec PyProof.Rows L2
theorem strAt : ∀ {its : List Value} {ys : List Str}, StrsAre its ys → ∀ (i : Nat) (u : Value), its[i]? = some u → ∃ t, u = .str (ys.getD i Str.empty) t
  | _, _, .nil, i, u, h => by simp at h
  | _, _, .cons y t r, 0, u, h => by simp at h; exact ⟨t, by rw [← h]; rfl⟩
  | _, _, .cons y t r, i + 1, u, h => by
    rw [List.getElem?_cons_succ] at h
    obtain ⟨t', e⟩ := strAt r i u h
    exact ⟨t', by rw [e]; rfl⟩
theorem had_not {xs : List Str} (nd : xs.Nodup) {i : Nat} (h : i < xs.length) : ((xs.take i).any (· == xs.getD i Str.empty)) = false := by
  rw [List.any_eq_false]
  intro y hy
  obtain ⟨j, hj⟩ := List.mem_iff_getElem?.mp hy
  have lj : j < i := by
    have z := (List.getElem?_eq_some_iff.mp hj).1
    rw [List.length_take] at z
    omega
  rw [List.getElem?_take_of_lt lj] at hj
  obtain ⟨l1, e1⟩ := List.getElem?_eq_some_iff.mp hj
  have e2 : xs.getD i Str.empty = xs[i] := by rw [List.getD_eq_getElem?_getD, List.getElem?_eq_getElem h]; rfl
  rw [e2, ← e1]
  intro c
  have c' : xs[j] = xs[i] := by simpa using c
  have z := List.pairwise_iff_getElem.mp nd j i l1 h lj
  exact z c'
theorem had_more {xs : List Str} {i : Nat} (h : i < xs.length) (k : Str) : ((xs.take i).any (· == k) || decide (k = xs.getD i Str.empty)) = (xs.take (i + 1)).any (· == k) := by
  have e2 : xs.getD i Str.empty = xs[i] := by rw [List.getD_eq_getElem?_getD, List.getElem?_eq_getElem h]; rfl
  rw [e2, List.take_succ, List.any_append, List.getElem?_eq_getElem h]
  congr 1
  show _ = ([xs[i]].any fun z => z == k)
  rw [List.any_cons, List.any_nil, Bool.or_false]
  by_cases c : k = xs[i]
  · rw [decide_eq_true c, c]; simp
  · rw [decide_eq_false c]
    symm
    exact beq_eq_false_iff_ne.mpr fun e => c e.symm
section
variable {prog : Program} {w : World} {A : Around} {R : Result → Shared → Prop} {I : Addr} {fp wr : List Addr} {G : Array GenState → Array GenState → Prop} {n : Nat} {P : Nat → Value → Prop} {St : Nat → Shared → Prop}
theorem ss_loop (W : WalksS prog w A.in1 I fp wr G n P St) (S : Addr) (off : S ∉ fp) {xs : List Str} (len : xs.length = n) (nd : xs.Nodup) (few : n + 1 < scanBound) (val : ∀ i v, P i v → ∃ t, v = .str (xs.getD i Str.empty) t) :
    ∀ (k i : Nat) (s : Shared), n - i = k → i ≤ n → St i s → s.heap.SetOf (PySem.strKind prog w) S (fun z => (xs.take i).any (· == z)) i →
      (∀ s', Moved (S :: wr) G s s' → s'.heap.SetOf (PySem.strKind prog w) S (fun z => (xs.take n).any (· == z)) n → R (.ok (.ret .none)) s') →
      codeAny (model prog w) A (.builtin "set.update.loop" ⟨[.ref S, .ref I], []⟩) R s := by
  have offw : S ∉ wr := fun h => off (W.sub _ h)
  have sub : ∀ b ∈ wr, b ∈ S :: wr := fun b hb => List.mem_cons_of_mem _ hb
  intro k
  induction k with
  | zero =>
    intro i s hk hi st hS hR
    obtain rfl : i = n := by omega
    refine codeAny_builtin PyProof.Rows.F.entry_set_update_loop ?_
    rw [Around.under_plainId PyProof.Rows.F.plain_set_update_loop _]
    show wpAny _ A.in1 (pyNext (.ref I) >>= _) _ _ s
    refine wpAny_bind (W.done s _ _ st fun s' mv => ?_)
    show wpAny _ A.in1 (ret Value.none) _ _ s'
    refine wpAny_pure (hR s' (mv.mono sub) ?_)
    obtain ⟨o, es, ep, t, ho, more⟩ := hS
    exact ⟨o, es, ep, t, mv.heap S _ offw ho, more⟩
  | succ k ih =>
    intro i s hk hi st hS hR
    have lt : i < n := by omega
    refine codeAny_builtin PyProof.Rows.F.entry_set_update_loop ?_
    rw [Around.under_plainId PyProof.Rows.F.plain_set_update_loop _]
    show wpAny _ A.in1 (pyNext (.ref I) >>= _) _ _ s
    refine wpAny_bind (W.item i s _ _ lt st fun v s' hP st' mv => ?_)
    obtain ⟨t, rfl⟩ := val i v hP
    have hS' : s'.heap.SetOf (PySem.strKind prog w) S (fun z => (xs.take i).any (· == z)) i := by
      obtain ⟨o, es, ep, tb, ho, more⟩ := hS
      exact ⟨o, es, ep, tb, mv.heap S _ offw ho, more⟩
    show wpAny _ A.in1 (holding [Value.str (xs.getD i Str.empty) t] (setAdd S (.str (xs.getD i Str.empty) t)) >>= _) _ _ s'
    refine wpAny_bind (wpAny_holding ?_)
    unfold setAdd
    refine wpAny_holding ?_
    refine wpAny_bind ((PySem.strKind prog w).pyHash (k := xs.getD i Str.empty) (strKind_is _ _ _ _) ?_)
    refine wpAny_setAddHashed_of (knd := PySem.strKind prog w) (s := { s' with toks := s'.toks + 1 }) (strKind_is _ _ _ _) rfl hS' (by omega) fun h' same hS2 => ?_
    have hS3 : h'.SetOf (PySem.strKind prog w) S (fun z => (xs.take (i + 1)).any (· == z)) (i + 1) :=
      SetOf_congr hS2 (fun z => had_more (by omega) z) (by rw [had_not nd (by omega)]; rfl)
    refine wpAny_pure ⟨plainId_quiet PyProof.Rows.F.plain_set_update_loop _, ih (i + 1) _ (by omega) lt (W.frame _ s' _ _ st' (Nat.le_succ _) fun b hb o e => ?_) hS3 fun s2 mv2 hS4 => hR s2 (Moved.trans W.gtrans ((mv.mono sub).then_heap (Nat.le_succ _) fun b o hb e => ?_) mv2) hS4⟩
    · rw [same.2 b (fun c : b = S => off (c ▸ hb))]
      exact e
    · rw [same.2 b (fun c : b = S => hb (by rw [c]; exact List.mem_cons_self))]
      exact e
end
section
variable {prog : Program} {w : World} {A : Around} {E : Value → Shared → Prop} {s : Shared}
set_option maxHeartbeats 6400000 in
theorem ss_call {l : Addr} {items : Array Value} {xs : List Str} {Q : Value → Shared → Prop} (hh : A.handled = none) (hl : s.heap.IsList l items) (are : StrsAre items.toList xs) (nd : xs.Nodup) (few : xs.length + 1 < scanBound)
    (h : ∀ (h' : Heap) (tk : Nat), h'.SetOf (PySem.strKind prog w) s.heap.objs.size (fun z => (xs.take items.size).any (· == z)) items.size →
      (∀ b o, b < s.heap.objs.size → s.heap.get? b = some o → h'.get? b = some o) → Q (.ref s.heap.objs.size) { s with heap := h', toks := tk }) :
    wpAny (model prog w) A (call (.type "set") [.ref l]) Q E s := by
  obtain ⟨c, tl, hmro⟩ := PySem.F.called_set.mro
  have hmade := PySem.F.called_set.made
  have hsub := PySem.F.called_set.sub
  refine wpAny_call (codeAny_of_tree ?_)
  show wpAny _ _ (callAny (.type "set") _) _ _ _
  refine wpAny_pure ⟨Code.quiet_builtin _ (by decide +kernel), codeAny_builtin PySem.F.entry_type_call ?_⟩
  rw [Around.under_plain (weight_type_call_type "set" [.ref l] []) rfl]
  have k1 := PySem.F.called_set.notType
  have k2 := PySem.F.called_set.canCreate
  have k3 := PySem.F.typeCall_set_1 (.ref l)
  repeat (any_goals (first | assumption | wp_step))
  refine codeAny_mono (code_set_new_1 (.ref l) (E := E) (Q₁ := fun obj s₁ => ∃ led : Bool, obj = .ref s.heap.objs.size ∧ s₁ = { s with heap := s.heap.push { cls := .type "set", dict := none, data := .set #[] 0 (.fresh 0 0 led) } }) fun led => ⟨led, rfl, rfl⟩) fun r s₁ hr => ?_
  cases r with
  | error e => exact hr
  | ok fl =>
    cases fl with
    | ret obj =>
      obtain ⟨led, rfl, rfl⟩ := hr
      have hS : (s.heap.push { cls := .type "set", dict := none, data := .set #[] 0 (.fresh 0 0 led) }).get? s.heap.objs.size = some { cls := .type "set", dict := none, data := .set #[] 0 (.fresh 0 0 led) } := Heap.get?_push_size _ rfl
      have hT : Shared.TypeIs { s with heap := s.heap.push { cls := .type "set", dict := none, data := .set #[] 0 (.fresh 0 0 led) } } (.ref s.heap.objs.size) "set" := ⟨_, hS, rfl⟩
      have k4 := PySem.F.called_set.init.lookup
      have k5 := PySem.F.called_set.init.bind (.ref s.heap.objs.size)
      repeat (any_goals (first | assumption | wp_step))
      refine codeAny_mono (codeAny_call_builtin (R := wants (fun r s₂ => r = .none ∧ ∃ h' tk, s₂ = { s with heap := h', toks := tk } ∧
          h'.SetOf (PySem.strKind prog w) s.heap.objs.size (fun z => (xs.take items.size).any (· == z)) items.size ∧
          (∀ b o, b < s.heap.objs.size → s.heap.get? b = some o → h'.get? b = some o)) E) PySem.F.called_set.init.plain PySem.F.entry_set_init (check_set_init_1 hT ?_)) fun r₂ s₂ hr₂ => ?_
      · obtain ⟨ol, hol, hcl, nl, hdl⟩ := hl
        obtain ⟨ocls, odict, odata, oslots⟩ := ol
        simp only at hcl hdl
        subst hcl; subst hdl
        have hol' : (s.heap.push { cls := .type "set", dict := none, data := .set #[] 0 (.fresh 0 0 led) }).get? l = some { cls := .type "list", dict := odict, data := .seq items nl, slots := oslots } := Heap.get?_push_of_some _ hol
        have k6 := PySem.F.sub_list_set
        have k7 := PySem.F.sub_list_frozenset
        have k8 : (Value.type "list" == Value.type "dict") = false := by decide
        have hl1 : (s.heap.push { cls := .type "set", dict := none, data := .set #[] 0 (.fresh 0 0 led) }).IsList l items := ⟨_, hol', rfl, nl, rfl⟩
        unfold Builtin.«set.__init__» noKeywords Builtin.Frozenset.updateFrom
        generalize hPI : pyIter = PI
        wp_walk
        subst hPI
        refine wpAny_pyIter_list hl1 ?_
        refine wpAny_bind (wpAny_runValue ?_)
        have lS : l < s.heap.objs.size := Heap.lt_size hol
        have hh3 : A.in1.in1.in1.handled = none := by simp [hh]
        have nI : l ≠ (s.heap.push { cls := .type "set", dict := none, data := .set #[] 0 (.fresh 0 0 led) }).objs.size := by
          rw [Heap.size_push]; exact Nat.ne_of_lt (Nat.lt_succ_of_lt lS)
        have off : s.heap.objs.size ∉ [(s.heap.push { cls := .type "set", dict := none, data := .set #[] 0 (.fresh 0 0 led) }).objs.size, l] := by
          rw [Heap.size_push]; simp only [List.mem_cons, List.mem_singleton, List.not_mem_nil, or_false, not_or]
          exact ⟨Nat.ne_of_lt (Nat.lt_succ_self _), Nat.ne_of_gt lS⟩
        have len : xs.length = items.size := by rw [← StrsAre.len_eq are, Array.length_toList]
        refine ss_loop ((Walks.list hh3 _ l nI items).toS) s.heap.objs.size off len nd (by rw [← len]; exact few) (fun i v hv => strAt are i v (by rw [Array.getElem?_toList]; exact hv)) (items.size - 0) 0 _ (by omega) (Nat.zero_le _)
          ⟨⟨_, Heap.get?_push_size _ rfl, rfl, rfl⟩, (hl1.push _)⟩ ?hS0 ?hR
        case hS0 =>
          have got : ((s.heap.push { cls := .type "set", dict := none, data := .set #[] 0 (.fresh 0 0 led) }).push { cls := .type "list_iterator", data := .fields #[.ref l, .int 0 0] }).get? s.heap.objs.size = some { cls := .type "set", dict := none, data := .set #[] 0 (.fresh 0 0 led) } := Heap.get?_push_of_some _ hS
          exact SetOf_congr ((setObjOf_fresh (knd := PySem.strKind prog w) led).setOf got (by unfold scanBound; omega)) (fun _ => rfl) rfl
        case hR =>
          intro s' mv hS'
          obtain ⟨h', g', d', tk', os'⟩ := s'
          have eg : g' = s.gens := mv.gens
          have ed : d' = s.drawn := mv.drawn
          have eo : os' = s.os := mv.os
          subst eg; subst ed; subst eo
          show wpAny _ _ _ _ _ _
          refine wpAny_pure ?_
          show wpAny _ _ (ret Value.none) _ _ _
          refine wpAny_pure ⟨rfl, h', tk', rfl, hS', fun b o hb e => ?_⟩
          have b1 : b ≠ s.heap.objs.size := Nat.ne_of_lt hb
          have b2 : b ≠ (s.heap.push { cls := .type "set", dict := none, data := .set #[] 0 (.fresh 0 0 led) }).objs.size := by
            rw [Heap.size_push]; exact Nat.ne_of_lt (Nat.lt_succ_of_lt hb)
          exact mv.heap b o (by simp only [List.mem_cons, List.mem_singleton, List.not_mem_nil, or_false, not_or]; exact ⟨b1, b2⟩) (Heap.get?_push_of_some _ (Heap.get?_push_of_some _ e))
      · cases r₂ with
        | error e => exact hr₂
        | ok fl₂ =>
          cases fl₂ with
          | ret r =>
            obtain ⟨rfl, h', tk, rfl, hS', hk'⟩ := hr₂
            repeat (any_goals (first | assumption | wp_step))
            exact h _ _ hS' hk'
          | _ => exact hr₂.elim
    | _ => exact hr.elim
end
section
variable {X : Cx}
def tLenS (K : PySem.W.Frag) (ta : TE) : TE := fun σ H Q => ta σ H fun x H1 => ∃ (l : Addr) (xs : List Str), x = .ref l ∧ SqL K H1 l (xs.map V.str) ∧ xs.length < 60 ∧ xs.Nodup ∧ Q (.int xs.length) H1
theorem pe_lenS {a : Expr} {ta : TE} {p p2 q pos : Pos} (hc : X.calm = true) (hg : Gl X "len") (hm : X.mg "len" = none) (hg2 : Gl X "set") (hm2 : X.mg "set" = none) (ha : PE X a ta)
    (na : starEach [a] X.env = (false, eval a X.env) :: starEach [] X.env := by rfl) : PE X (.Call (.Name "len" p) [.Call (.Name "set" p2) [a] [] q] [] pos) (tLenS X.K ta) := by
  refine ⟨fun pins s σ H Q I h => ?_⟩
  refine Call_ (ld_blt I hg hm boot_len ?_)
  refine callWith_builtin1 (args_cons ?_ rfl) rfl rfl
  refine Call_ (ld_blt I hg2 hm2 boot_set ?_)
  refine callWith_type1 (args_cons (thn (ha.run pins s σ H _ I h) fun v s1 ⟨x, H1, I1, r1, q1⟩ => args_nil ?_) na) na rfl
  obtain ⟨l, xs, rfl, hq, few, nd, q1⟩ := q1
  cases r1
  obtain ⟨its, r, pl, hz⟩ := I1.list hq
  refine ss_call (I1.ok.hd hc) pl.isList (xs := xs) (strsAre_of r) nd (by unfold scanBound; omega) fun h' tk hS hk => ?_
  refine args_nil ?_
  have hl : its.toArray.size = xs.length := by rw [List.size_toArray, ← r.length, List.length_map]
  rw [hl] at hS
  obtain ⟨o, es, ep, t, ho, hex, hd, _, _, _, hf, hn⟩ := hS
  have I2 : L2.Inv X pins σ H1 { s1 with heap := h', toks := tk } := I1.kept fun b o e => hk b o (Heap.lt_size e) e
  exact call_len_set ho hex hd hf (by rw [hn]; omega) ⟨.int xs.length, H1, I2.tok _, ⟨_, by rw [hn]⟩, q1⟩
end
end My

set_option maxHeartbeats 2000000
/-! list(zip(a, b)) of two lists of which one has one item; *a, b = a list. -/
namespace My
open PySem PySem.Spec PyProof.Rows L2
theorem nolen_zip : typeLookup (.type "zip") "__len__" = pure none := by rw [typeLookup_type, builtinLookup_eq_fast]; kernel_rfl
theorem nohint_zip : typeLookup (.type "zip") "__length_hint__" = pure none := by rw [typeLookup_type, builtinLookup_eq_fast]; kernel_rfl
/-- a zip at its beginning -/
structure Zip0 (h : Heap) (z TI TO i1 i2 l1 l2 : Addr) (xs ys : Array Value) : Prop where
  hz : IsZip h z TI TO .none
  hTI : IsPair h TI (.ref i1) (.ref i2)
  hTO : ∃ a b, IsPair h TO a b
  h1 : h.IsListIter i1 l1 0
  h2 : h.IsListIter i2 l2 0
  hl1 : h.IsList l1 xs
  hl2 : h.IsList l2 ys
theorem Zip0.keep {h h' : Heap} {z TI TO i1 i2 l1 l2 S : Addr} {xs ys : Array Value} (q : Zip0 h z TI TO i1 i2 l1 l2 xs ys) (off : ∀ b ∈ [z, TI, TO, i1, i2, l1, l2], b ≠ S) (k : ∀ b o, b ≠ S → h.get? b = some o → h'.get? b = some o) : Zip0 h' z TI TO i1 i2 l1 l2 xs ys := by
  obtain ⟨hz, hTI, ⟨a, b, hTO⟩, h1, h2, hl1, hl2⟩ := q
  exact ⟨k _ _ (off _ (by simp)) hz, k _ _ (off _ (by simp)) hTI, ⟨a, b, k _ _ (off _ (by simp)) hTO⟩, h1.at fun o e => k _ o (off _ (by simp)) e, h2.at fun o e => k _ o (off _ (by simp)) e, hl1.at fun o e => k _ o (off _ (by simp)) e, hl2.at fun o e => k _ o (off _ (by simp)) e⟩
section
variable {prog : Program} {w : World} {A : Around} {s : Shared} {R : Result → Shared → Prop} {z TI TO i1 i2 l1 l2 S : Addr} {xs ys : Array Value} {x y : Value}
theorem zl_loop (hh : A.handled = none) (D : ZipApart z TI TO i1 i2 l1 l2) (off : ∀ b ∈ [z, TI, TO, i1, i2, l1, l2], b ≠ S) (Z : Zip0 s.heap z TI TO i1 i2 l1 l2 xs ys) (hx : xs[0]? = some x) (hy : ys[0]? = some y) (hend : xs[1]? = none ∨ ys[1]? = none) (res : Value) {c : Nat}
    (hS : s.heap.get? S = some { cls := .type "list", dict := none, data := .seq #[] c, slots := #[] })
    (hR : ∀ h' tk c T, (∀ b o, b ≠ S → b ≠ z → b ≠ TO → b ≠ i1 → b ≠ i2 → s.heap.get? b = some o → h'.get? b = some o) → h'.get? S = some { cls := .type "list", dict := none, data := .seq #[.ref T] c, slots := #[] } → IsPair h' T x y → s.heap.objs.size ≤ T → R (.ok (.ret res)) { s with heap := h', toks := tk }) :
    codeAny (model prog w) A (.builtin "list.extend.loop" ⟨[.ref S, .ref z, res], []⟩) R s := by
  obtain ⟨hz, hTI, ⟨a, b, hTO⟩, h1, h2, hl1, hl2⟩ := Z
  have oz := off z (by simp)
  have oTI := off TI (by simp)
  have oTO := off TO (by simp)
  have o1 := off i1 (by simp)
  have o2 := off i2 (by simp)
  have ol1 := off l1 (by simp)
  have ol2 := off l2 (by simp)
  refine codeAny_builtin PySem.F.entry_extend_loop ?_
  rw [Around.under_plainId PySem.F.plain_extend_loop _]
  show wpAny _ A.in1 (pyNext (.ref z) >>= _) _ _ _
  refine wpAny_bind (wpAny_pyNext_zip_item D hz hTI hTO h1 h2 hl1 hl2 hx hy fun h' a1 a2 a3 a4 a5 a6 hk => ?_)
  have hS' := hk S _ (Ne.symm oz) (Ne.symm oTO) (Ne.symm o1) (Ne.symm o2) hS
  have nT : s.heap.objs.size ≠ S := Nat.ne_of_gt (Heap.lt_size hS)
  have up : ∀ b o, b ≠ S → h'.get? b = some o → (h'.update S (Obj.mapSeq (·.push (Value.ref s.heap.objs.size)))).get? b = some o := fun b o hb e => (Heap.get?_update_other _ _ (Ne.symm hb)).trans e
  show wpAny _ A.in1 (updateSeq S (·.push (Value.ref s.heap.objs.size)) >>= _) _ _ _
  refine wpAny_bind ?_
  refine wpAny_updateSeq hS' rfl (wpAny_pure ⟨plainId_quiet PySem.F.plain_extend_loop _, ?_⟩) (by show (#[] : Array Value).size ≤ sizeLine; rw [sizeLine_eq]; decide) (by rw [sizeLine_eq]; show (1 : Nat) ≤ _; decide)
  have hS2 := Heap.get?_update_self (Obj.mapSeq (·.push (Value.ref s.heap.objs.size))) hS' rfl
  generalize h'.update S (Obj.mapSeq (·.push (Value.ref s.heap.objs.size))) = h2' at up hS2
  refine codeAny_builtin PySem.F.entry_extend_loop ?_
  rw [Around.under_plainId PySem.F.plain_extend_loop _]
  show wpAny _ A.in1 (pyNext (.ref z) >>= _) _ _ _
  have lz : z ≠ s.heap.objs.size := Nat.ne_of_lt (Heap.lt_size hz)
  refine wpAny_bind (wpAny_pyNext_zip_end_held (s := { s with heap := h2' }) (A := A.in1) (T := s.heap.objs.size) (f := false) hh D (up _ _ oz a1) (up _ _ nT a5) (up _ _ oTI (hk _ _ D.TIz D.TITO D.TIi1 D.TIi2 hTI)) (a3.at fun o e => up _ o o1 e) (a4.at fun o e => up _ o o2 e)
    ((hl1.at fun o e => hk _ o D.l1z D.l1TO D.l1i1 D.l1i2 e).at fun o e => up _ o ol1 e) ((hl2.at fun o e => hk _ o D.l2z D.l2TO D.l2i1 D.l2i2 e).at fun o e => up _ o ol2 e) hend fun h3 hk3 => ?_)
  have t1 : s.heap.objs.size ≠ i1 := by obtain ⟨_, e, _⟩ := h1; exact Nat.ne_of_gt (Heap.lt_size e)
  have t2 : s.heap.objs.size ≠ i2 := by obtain ⟨_, e, _⟩ := h2; exact Nat.ne_of_gt (Heap.lt_size e)
  refine wpAny_pure (hR h3 s.toks _ s.heap.objs.size (fun b o n1 n2 n3 n4 n5 e => hk3 b o n2 n4 n5 (up b o n1 (hk b o n2 n3 n4 n5 e))) (hk3 S _ (Ne.symm oz) (Ne.symm o1) (Ne.symm o2) hS2) (hk3 _ _ (Ne.symm lz) t1 t2 (up _ _ nT a5)) (Nat.le_refl _))
theorem zl_extend (hh : A.handled = none) (D : ZipApart z TI TO i1 i2 l1 l2) (off : ∀ b ∈ [z, TI, TO, i1, i2, l1, l2], b ≠ S) (Z : Zip0 s.heap z TI TO i1 i2 l1 l2 xs ys) (hx : xs[0]? = some x) (hy : ys[0]? = some y) (hend : xs[1]? = none ∨ ys[1]? = none) (res : Value) {c : Nat}
    (hS : s.heap.get? S = some { cls := .type "list", dict := none, data := .seq #[] c, slots := #[] })
    (hR : ∀ h' tk c T, (∀ b o, b ≠ S → b ≠ z → b ≠ TO → b ≠ i1 → b ≠ i2 → s.heap.get? b = some o → h'.get? b = some o) → h'.get? S = some { cls := .type "list", dict := none, data := .seq #[.ref T] c, slots := #[] } → IsPair h' T x y → s.heap.objs.size ≤ T → R (.ok (.ret res)) { s with heap := h', toks := tk }) :
    wpAny (model prog w) A.in1 (Builtin.List.listExtendWith (.ref S) (.ref z) res)
      (fun fin s' => match fin with | .done f => R (.ok f) s' | .again c' => c'.quiet = true ∧ codeAny (model prog w) A c' R s') (fun e s' => R (.error e) s') s := by
  have oz := off z (by simp)
  have hT : s.TypeIs (.ref z) "zip" := ⟨_, Z.hz, rfl⟩
  unfold Builtin.List.listExtendWith
  refine wpAny_bind (wpAny_typeOf (T := "zip") hT ?_)
  have h1 : Builtin.List.listSameRef (.ref S) (.ref z) = false := by simp [Builtin.List.listSameRef, Ne.symm oz]
  have h2 : (Value.type "zip" == Value.type "list") = false := by decide
  have h3 : (Value.type "zip" == Value.type "tuple") = false := by decide
  simp only [h1, h2, h3, Bool.or_false, Bool.false_eq_true, if_false]
  refine wpAny_bind (wpAny_pyIter_zip Z.hz ?_)
  refine wpAny_bind (wpAny_holding ?_)
  unfold Builtin.List.listLengthHint
  refine wpAny_bind (wpAny_specialOf hT nolen_zip ?_)
  show wpAny _ A.in1 (specialOf (Value.ref z) (Str.ofString "__length_hint__") >>= _) _ _ _
  refine wpAny_bind (wpAny_specialOf hT nohint_zip ?_)
  refine wpAny_pure ?_
  show wpAny _ A.in1 (rule "list.extend.makes-room" >>= fun _ => Builtin.List.listTouch (.ref S) >>= fun _ =>
    again (.builtin "list.extend.loop" ⟨[.ref S, .ref z, res], []⟩)) _ _ _
  refine wpAny_bind (wpAny_rule ?_)
  refine wpAny_bind ?_
  show wpAny _ _ (updateSeq S (·.push .none) >>= fun _ => updateSeq S (·.pop)) _ _ _
  refine wpAny_bind (wpAny_updateSeq hS rfl ?_)
  have hS₂ := Heap.get?_update_self (Obj.mapSeq (·.push Value.none)) hS rfl
  refine wpAny_updateSeq (hz := by seq_fits) hS₂ rfl ?_
  have hS₃ := Heap.get?_update_self (Obj.mapSeq (·.pop)) hS₂ rfl
  have oth : ∀ b o, b ≠ S → s.heap.get? b = some o → ((s.heap.update S (Obj.mapSeq (·.push Value.none))).update S (Obj.mapSeq (·.pop))).get? b = some o :=
    fun b o hb e => (Heap.get?_update_other _ _ (Ne.symm hb)).trans ((Heap.get?_update_other _ _ (Ne.symm hb)).trans e)
  have sz : ((s.heap.update S (Obj.mapSeq (·.push Value.none))).update S (Obj.mapSeq (·.pop))).objs.size = s.heap.objs.size := by simp
  refine wpAny_pure ⟨plainId_quiet PySem.F.plain_extend_loop _, zl_loop (s := { s with heap := (s.heap.update S (Obj.mapSeq (·.push Value.none))).update S (Obj.mapSeq (·.pop)) }) hh D off (Z.keep off oth) hx hy hend res hS₃ fun h' tk c T hk hS' hp hT => ?_⟩
  exact hR h' tk c T (fun b o n1 n2 n3 n4 n5 e => hk b o n1 n2 n3 n4 n5 (oth b o n1 e)) hS' hp (by rw [← sz]; exact hT)
theorem zl_call {Q : Value → Shared → Prop} {E : Value → Shared → Prop} (hh : A.handled = none) (D : ZipApart z TI TO i1 i2 l1 l2) (Z : Zip0 s.heap z TI TO i1 i2 l1 l2 xs ys) (hx : xs[0]? = some x) (hy : ys[0]? = some y) (hend : xs[1]? = none ∨ ys[1]? = none)
    (hQ : ∀ h' tk c T, (∀ b o, b ≠ z → b ≠ TO → b ≠ i1 → b ≠ i2 → s.heap.get? b = some o → h'.get? b = some o) → h'.get? s.heap.objs.size = some { cls := .type "list", dict := none, data := .seq #[.ref T] c, slots := #[] } → IsPair h' T x y → s.heap.objs.size < T → Q (.ref s.heap.objs.size) { s with heap := h', toks := tk }) :
    wpAny (model prog w) A (call (.type "list") [.ref z]) Q E s := by
  have off : ∀ b ∈ [z, TI, TO, i1, i2, l1, l2], b ≠ s.heap.objs.size := by
    obtain ⟨hz, hTI, ⟨a, b, hTO⟩, ⟨_, h1, _⟩, ⟨_, h2, _⟩, ⟨_, hl1, _⟩, ⟨_, hl2, _⟩⟩ := Z
    intro c hc
    simp only [List.mem_cons, List.not_mem_nil, or_false] at hc
    rcases hc with rfl | rfl | rfl | rfl | rfl | rfl | rfl
    · exact Nat.ne_of_lt (Heap.lt_size hz)
    · exact Nat.ne_of_lt (Heap.lt_size hTI)
    · exact Nat.ne_of_lt (Heap.lt_size hTO)
    · exact Nat.ne_of_lt (Heap.lt_size h1)
    · exact Nat.ne_of_lt (Heap.lt_size h2)
    · exact Nat.ne_of_lt (Heap.lt_size hl1)
    · exact Nat.ne_of_lt (Heap.lt_size hl2)
  refine callType_codes (Q₁ := fun obj s₁ => obj = .ref s.heap.objs.size ∧ s₁ = { s with heap := s.heap.push { cls := .type "list", data := .seq #[] } }) PySem.F.called_list (PySem.F.typeCall_list_1 _) PySem.F.entry_list_init
    (code_list_new _ ⟨rfl, rfl⟩) fun obj s₁ h₁ => ?_
  obtain ⟨rfl, rfl⟩ := h₁
  have hS : (s.heap.push { cls := .type "list", data := .seq #[] }).get? s.heap.objs.size = some { cls := .type "list", data := .seq #[] } := Heap.get?_push_size _ rfl
  have init : ∀ (R : Result → Shared → Prop), (∀ h' tk c T, (∀ b o, b ≠ z → b ≠ TO → b ≠ i1 → b ≠ i2 → s.heap.get? b = some o → h'.get? b = some o) → h'.get? s.heap.objs.size = some { cls := .type "list", dict := none, data := .seq #[.ref T] c, slots := #[] } → IsPair h' T x y → s.heap.objs.size < T → R (.ok (.ret .none)) { s with heap := h', toks := tk }) →
      wpAny (model prog w) A.in1.in1 (Builtin.«list.__init__» ⟨[.ref s.heap.objs.size, .ref z], []⟩)
      (fun fin s' => match fin with | .done f => R (.ok f) s' | .again c' => c'.quiet = true ∧ codeAny (model prog w) A.in1 c' R s') (fun e s' => R (.error e) s') { s with heap := s.heap.push { cls := .type "list", data := .seq #[] } } := by
    intro R hR
    show wpAny _ _ (do let old ← Builtin.List.listItems (.ref s.heap.objs.size); Builtin.List.listUpdate (.ref s.heap.objs.size) (fun _ => #[]); letGo old.toList.reverse; Builtin.List.listExtendWith (.ref s.heap.objs.size) (.ref z) .none) _ _ _
    refine wpAny_bind ?_
    unfold Builtin.List.listItems
    refine wpAny_bind (wpAny_seqItems hS rfl (wpAny_pure ?_))
    show wpAny _ _ (updateSeq s.heap.objs.size (fun _ => #[]) >>= fun _ => letGo (#[] : Array Value).toList.reverse >>= fun _ => Builtin.List.listExtendWith (.ref s.heap.objs.size) (.ref z) .none) _ _ _
    refine wpAny_bind (wpAny_updateSeq hS rfl ?_)
    have hS₂ := Heap.get?_update_self (Obj.mapSeq (fun _ => (#[] : Array Value))) hS rfl
    have oth : ∀ b o, b ≠ s.heap.objs.size → s.heap.get? b = some o → ((s.heap.push { cls := .type "list", data := .seq #[] }).update s.heap.objs.size (Obj.mapSeq (fun _ => (#[] : Array Value)))).get? b = some o :=
      fun b o hb e => (Heap.get?_update_other _ _ (Ne.symm hb)).trans (Heap.get?_push_of_some _ e)
    have sz : ((s.heap.push { cls := .type "list", data := .seq #[] }).update s.heap.objs.size (Obj.mapSeq (fun _ => (#[] : Array Value)))).objs.size = s.heap.objs.size + 1 := by simp [Heap.size_push]
    refine wpAny_bind (wpAny_letGo ?_)
    refine zl_extend (A := A.in1) (s := { s with heap := (s.heap.push { cls := .type "list", data := .seq #[] }).update s.heap.objs.size (Obj.mapSeq (fun _ => (#[] : Array Value))) }) hh D off (Z.keep off oth) hx hy hend .none hS₂ fun h' tk c T hk hS' hp hT => ?_
    exact hR h' tk c T (fun b o n2 n3 n4 n5 e => hk b o (Nat.ne_of_lt (Heap.lt_size e)) n2 n3 n4 n5 (oth b o (Nat.ne_of_lt (Heap.lt_size e)) e)) hS' hp (by have z : ((s.heap.push { cls := .type "list", data := .seq #[] }).update s.heap.objs.size (Obj.mapSeq (fun _ => (#[] : Array Value)))).objs.size ≤ T := hT; rw [sz] at z; exact z)
  refine ⟨⟨_, hS, rfl⟩, PySem.F.args_list_init_2 _ _, init _ fun h' tk c T hk hS' hp hT => ?_⟩
  exact ⟨rfl, hQ h' tk c T hk hS' hp hT⟩
end
end My

set_option maxHeartbeats 4000000
/-! What is printed of a graph, and its lines, in plain Lean. -/
namespace My
open PySem PySem.Spec PyProof.Rows L2 TL
def dig (k : Nat) : Str := ⟨#[48 + k]⟩
def DG : Str := ⟨#[48, 49, 50, 51, 52, 53, 54, 55, 56, 57]⟩
def vlT (n : Nat) : Str := (Str.empty ++ "vertices ") ++ toString (n : Int)
def elT (p : E2) : Str := (((Str.empty ++ "edge ") ++ toString (p.1 : Int)) ++ " ") ++ toString (p.2 : Int)
def lnV (n : Nat) : Str := vlT n ++ "\n"
def lnE (p : E2) : Str := elT p ++ "\n"
/-- what is printed -/
def prT (n : Nat) (es : List E2) : Str := Txt.join "" (lnV n :: es.map lnE)
def wordsL (z : Str) : List Str := (Txt.split (Txt.partition z "#").1 " ").filter fun w => w.length != 0
theorem str_dig : ∀ k : Nat, k ≤ 9 → ((toString (k : Int) : String) : Str) = dig k := by decide +kernel
theorem words_v : ∀ n : Nat, n ≤ 9 → wordsL (vlT n) = [("vertices" : Str), dig n] := by decide +kernel
theorem words_e : ∀ u : Nat, u ≤ 9 → ∀ v : Nat, v ≤ 9 → wordsL (elT (u, v)) = [("edge" : Str), dig u, dig v] := by decide +kernel
theorem vl_free : ∀ n : Nat, n ≤ 9 → 10 ∉ tl (vlT n) := by decide +kernel
theorem el_free : ∀ u : Nat, u ≤ 9 → ∀ v : Nat, v ≤ 9 → 10 ∉ tl (elT (u, v)) := by decide +kernel
theorem lnV_len : ∀ n : Nat, n ≤ 9 → (lnV n).length = 11 := by decide +kernel
theorem lnE_len : ∀ u : Nat, u ≤ 9 → ∀ v : Nat, v ≤ 9 → (lnE (u, v)).length = 9 := by decide +kernel
theorem vl_len : ∀ n : Nat, n ≤ 9 → (vlT n).length ≤ 20 := by decide +kernel
theorem el_len : ∀ u : Nat, u ≤ 9 → ∀ v : Nat, v ≤ 9 → (elT (u, v)).length ≤ 20 := by decide +kernel
theorem DG_index : ∀ k : Nat, k ≤ 9 → Txt.index0 DG (dig k) = some k := by decide +kernel
theorem tl_eq {x y : Str} (h : tl x = tl y) : x = y := by
  have z := map_tl_inj (l := [x]) (m := [y]) (by simp only [List.map_cons, List.map_nil, h])
  cases z
  rfl
theorem tl_len (x : Str) : x.length = (tl x).length := by
  show x.cps.size = x.cps.toList.length
  rw [Array.length_toList]
theorem flat_join : ∀ l : List (List Nat), joinL [] l = l.flatten
  | [] => rfl
  | [p] => by rw [List.flatten_cons, List.flatten_nil, List.append_nil]; rfl
  | p :: q :: r => by
    show p ++ ([] ++ joinL [] (q :: r)) = _
    rw [List.nil_append, flat_join (q :: r), List.flatten_cons, List.flatten_cons, List.flatten_cons]
theorem tl_glue (l : List Str) : tl (Txt.join "" l) = (l.map tl).flatten := by
  rw [join_eq, tl_join, show tl (("" : String) : Str) = [] by decide +kernel, flat_join]
theorem glue_cons (a : Str) (l : List Str) : a ++ Txt.join "" l = Txt.join "" (a :: l) := by
  refine tl_eq ?_
  rw [tl_append, tl_glue, tl_glue, List.map_cons, List.flatten_cons]
theorem empty_glue (a : Str) : Str.empty ++ a = a := by
  refine tl_eq ?_
  rw [tl_append, show tl Str.empty = [] by decide +kernel, List.nil_append]
/-- lines, each ended by a line feed -/
theorem join_lines : ∀ ls : List Str, joinL [10] ((ls ++ [(("" : String) : Str)]).map tl) = ((ls.map (· ++ (("\n" : String) : Str))).map tl).flatten
  | [] => by decide +kernel
  | [a] => by
    show tl a ++ ([10] ++ joinL [10] [tl (("" : String) : Str)]) = (tl (a ++ (("\n" : String) : Str)) :: []).flatten
    rw [show joinL [10] [tl (("" : String) : Str)] = [] by decide +kernel, tl_append, show tl (("\n" : String) : Str) = [10] by decide +kernel, List.flatten_cons, List.flatten_nil, List.append_nil, List.append_nil]
  | a :: b :: r => by
    have ih := join_lines (b :: r)
    show tl a ++ ([10] ++ joinL [10] ((b :: r ++ [(("" : String) : Str)]).map tl)) = (tl (a ++ (("\n" : String) : Str)) :: ((b :: r).map (· ++ (("\n" : String) : Str))).map tl).flatten
    rw [ih, tl_append, show tl (("\n" : String) : Str) = [10] by decide +kernel, List.flatten_cons, List.append_assoc]
def linesP (n : Nat) (es : List E2) : List Str := vlT n :: es.map elT
theorem pr_lines (n : Nat) (es : List E2) : prT n es = Txt.join "\n" (linesP n es ++ [(("" : String) : Str)]) := by
  refine tl_eq ?_
  unfold prT
  rw [tl_glue, join_eq, tl_join, show tl (("\n" : String) : Str) = [10] by decide +kernel, join_lines]
  unfold linesP
  rw [List.map_cons, List.map_cons, List.map_cons, List.map_map, List.map_map, List.map_map]
  rfl
theorem pr_split {n : Nat} {es : List E2} (g : Good n es) : Txt.split (prT n es) "\n" = linesP n es ++ [(("" : String) : Str)] := by
  rw [pr_lines]
  refine split_join (s := 10) (S := []) (by decide +kernel) (by decide +kernel) (by simp) fun p hp => ?_
  rcases List.mem_append.mp hp with hp | hp
  · rcases List.mem_cons.mp hp with rfl | hp
    · exact vl_free n g.n9
    · obtain ⟨e, he, rfl⟩ := List.mem_map.mp hp
      have n9 := g.n9
      have l := g.lt e he
      exact el_free e.1 (by omega) e.2 (by omega)
  · rw [List.mem_singleton.mp hp]
    decide +kernel
theorem pr_len {n : Nat} {es : List E2} (g : Good n es) : (prT n es).length ≤ 340 := by
  have few := g.few
  have n9 := g.n9
  have go : ∀ l : List E2, (∀ p ∈ l, p.1 < p.2 ∧ p.2 < n) → (((l.map lnE).map tl).flatten).length = 9 * l.length := by
    intro l
    induction l with
    | nil => intro _; rfl
    | cons p l ih =>
      intro h
      have l1 := h p (List.mem_cons_self ..)
      have e := lnE_len p.1 (by omega) p.2 (by omega)
      rw [tl_len] at e
      rw [List.map_cons, List.map_cons, List.flatten_cons, List.length_append, ih fun q hq => h q (List.mem_cons_of_mem _ hq), List.length_cons, e]
      omega
  rw [tl_len]
  unfold prT
  rw [tl_glue, List.map_cons, List.flatten_cons, List.length_append, go es g.lt, ← tl_len, lnV_len n n9]
  omega
theorem log9 : ∀ k : Nat, k ≤ 9 → ((k : Nat) : Int).natAbs.log2 < 1920 := by decide +kernel
theorem e1_len : ∀ u : Nat, u ≤ 9 → ((Str.empty ++ "edge ") ++ toString (u : Int) : Str).length ≤ 20 := by decide +kernel
theorem e2_len : ∀ u : Nat, u ≤ 9 → (((Str.empty ++ "edge ") ++ toString (u : Int)) ++ " " : Str).length ≤ 20 := by decide +kernel
theorem k1_len : ∀ u : Nat, u ≤ 9 → ((("edge " : String) : Str) ++ toString (u : Int) : Str).length ≤ 20 := by decide +kernel
theorem k2_len : ∀ u : Nat, u ≤ 9 → (((("edge " : String) : Str) ++ toString (u : Int)) ++ " " : Str).length ≤ 20 := by decide +kernel
theorem k3_len : ∀ u : Nat, u ≤ 9 → ∀ v : Nat, v ≤ 9 → ((((("edge " : String) : Str) ++ toString (u : Int)) ++ " ") ++ toString (v : Int) : Str).length ≤ 20 := by decide +kernel
theorem l1_len : ∀ u : Nat, u ≤ 9 → ((toString (u : Int) : String) : Str).length ≤ 20 := by decide +kernel
theorem pr_sum {n : Nat} {es : List E2} (g : Good n es) : ((lnV n :: es.map lnE).map (·.length)).sum ≤ 340 ∧ ((es.map lnE).map (·.length)).sum ≤ 330 := by
  have few := g.few
  have n9 := g.n9
  have go : ∀ l : List E2, (∀ p ∈ l, p.1 < p.2 ∧ p.2 < n) → ((l.map lnE).map (·.length)).sum = 9 * l.length := by
    intro l
    induction l with
    | nil => intro _; rfl
    | cons p l ih =>
      intro h
      have l1 := h p (List.mem_cons_self ..)
      have e := lnE_len p.1 (by omega) p.2 (by omega)
      rw [List.map_cons, List.map_cons, List.sum_cons, ih fun q hq => h q (List.mem_cons_of_mem _ hq), List.length_cons, e]
      omega
  rw [List.map_cons, List.sum_cons, go es g.lt, lnV_len n n9]
  omega
theorem empty_vl (n : Nat) : ((("vertices " : String) : Str) ++ toString (n : Int)) ++ "\n" = lnV n := by
  unfold lnV vlT
  rw [empty_glue]
theorem empty_el (p : E2) : (((("edge " : String) : Str) ++ toString (p.1 : Int)) ++ " " ++ toString (p.2 : Int)) ++ "\n" = lnE p := by
  unfold lnE elT
  rw [empty_glue]
end My

set_option maxHeartbeats 4000000
/-! Unlike graphs are shown unlike, and have unlike graph6 texts. -/
namespace My
open PySem PySem.Spec PyProof.Rows L2 TL
/-- the figures of a text -/
def figs (x : Str) : List Nat := (tl x).filter fun c => decide (48 ≤ c ∧ c ≤ 57)
theorem figs_app (a b : Str) : figs (a ++ b) = figs a ++ figs b := by
  unfold figs
  rw [tl_append, List.filter_append]
theorem figs_join : ∀ ts : List Str, figs (Str.join ", " ts) = (ts.map figs).flatten
  | [] => by decide +kernel
  | [a] => by
    show figs a = [figs a].flatten
    rw [List.flatten_cons, List.flatten_nil, List.append_nil]
  | a :: b :: r => by
    show figs (a ++ ", " ++ Str.join ", " (b :: r)) = _
    rw [figs_app, figs_app, figs_join (b :: r), show figs ((", " : String) : Str) = [] by decide +kernel, List.append_nil]
    simp only [List.map_cons, List.flatten_cons]
theorem figs_tup (ts : List Str) : figs (tupleText ts) = (ts.map figs).flatten := by
  unfold tupleText
  rw [figs_app, figs_app, figs_join, show figs (("(" : String) : Str) = [] by decide +kernel, List.nil_append]
  split
  · rw [show figs ((",)" : String) : Str) = [] by decide +kernel, List.append_nil]
  · rw [show figs ((")" : String) : Str) = [] by decide +kernel, List.append_nil]
theorem figs_num : ∀ n : Nat, n ≤ 9 → figs (PyData.int (n : Int)).shown = [48 + n] := by decide +kernel
theorem figs_pair : ∀ a, a ≤ 9 → ∀ b, b ≤ 9 → figs (pairD (a, b)).shown = [48 + a, 48 + b] := by decide +kernel
theorem figs_pairs : ∀ {es : List E2}, (∀ p ∈ es, p.1 ≤ 9 ∧ p.2 ≤ 9) → ((PyData.shownAll (es.map pairD)).map figs).flatten = es.flatMap fun p => [48 + p.1, 48 + p.2]
  | [], _ => by rw [List.map_nil]; simp [PyData.shownAll]
  | p :: es, h => by
    have ih := figs_pairs (es := es) fun q hq => h q (List.mem_cons_of_mem _ hq)
    obtain ⟨a, b⟩ := h p (List.mem_cons_self ..)
    have f : figs (pairD p).shown = [48 + p.1, 48 + p.2] := figs_pair p.1 a p.2 b
    rw [List.map_cons]
    simp only [PyData.shownAll, List.map_cons, List.flatten_cons, List.flatMap_cons]
    rw [ih, f]
theorem figs_graph {n : Nat} {es : List E2} (g : Good n es) : figs (graphD n es).shown = (48 + n) :: es.flatMap fun p => [48 + p.1, 48 + p.2] := by
  have n9 := g.n9
  have e : (graphD n es).shown = tupleText [(PyData.int (n : Int)).shown, tupleText (PyData.shownAll (es.map pairD))] := by unfold graphD; simp [PyData.shown, PyData.shownAll]
  rw [e, figs_tup, List.map_cons, List.map_cons, List.map_nil, List.flatten_cons, List.flatten_cons, List.flatten_nil, List.append_nil, figs_tup, figs_num n n9, figs_pairs fun p hp => by have := g.lt p hp; omega]
  rfl
theorem flat_inj : ∀ {es fs : List E2}, (es.flatMap fun p => [48 + p.1, 48 + p.2]) = (fs.flatMap fun p => [48 + p.1, 48 + p.2]) → es = fs
  | [], [], _ => rfl
  | [], q :: fs, h => by simp at h
  | p :: es, [], h => by simp at h
  | p :: es, q :: fs, h => by
    rw [List.flatMap_cons, List.flatMap_cons] at h
    injection h with h1 h2
    injection h2 with h3 h4
    obtain ⟨a, b⟩ := p
    obtain ⟨c, d⟩ := q
    dsimp only at h1 h3
    rw [flat_inj h4, show a = c by omega, show b = d by omega]
theorem shown_inj {n m : Nat} {es fs : List E2} (g : Good n es) (g' : Good m fs) : (graphD n es).shown = (graphD m fs).shown ↔ n = m ∧ es = fs := by
  constructor
  · intro h
    have z := congrArg figs h
    rw [figs_graph g, figs_graph g'] at z
    injection z with h1 h2
    exact ⟨by omega, flat_inj h2⟩
  · rintro ⟨rfl, rfl⟩
    rfl
theorem code_inj {n m : Nat} {es fs : List E2} (g : Good n es) (g' : Good m fs) : tx (codeL n es) = tx (codeL m fs) ↔ n = m ∧ es = fs := by
  constructor
  · intro h
    have z : (codeL n es).map (63 + ·) = (codeL m fs).map (63 + ·) := by
      have z1 := congrArg tl h
      exact z1
    have r1 := read_code g
    have r2 := read_code g'
    rw [z, r2] at r1
    injection r1 with h1 h2
    subst h1
    refine ⟨rfl, eq_of_up g.up g'.up fun q => ?_⟩
    have k : ∀ {l : List E2}, Good m l → (q ∈ (pairsG m).filter (fun p => decide (p ∈ l)) ↔ q ∈ l) := fun {l} gl => by
      rw [List.mem_filter]
      constructor
      · intro x; exact of_decide_eq_true x.2
      · intro x; exact ⟨mem_pairsG.mpr (gl.lt q x), decide_eq_true x⟩
    rw [← k g, ← k g', h2]
  · rintro ⟨rfl, rfl⟩
    rfl
theorem two_alike {n m : Nat} {es fs : List E2} (g : Good n es) (g' : Good m fs) : decide (V.str (tx (codeL n es)) = V.str (tx (codeL m fs))) = decide (V.str (graphD n es).shown = V.str (graphD m fs).shown) := by
  have a := code_inj g g'
  have b := shown_inj g g'
  refine decide_eq_decide.mpr ⟨fun h => ?_, fun h => ?_⟩
  · have h' := (V.str.injEq _ _).mp h
    rw [b.mpr (a.mp h')]
  · have h' := (V.str.injEq _ _).mp h
    rw [a.mpr (b.mp h')]
theorem lnV_asc : ∀ n : Nat, n ≤ 9 → ∀ c ∈ tl (lnV n), c < 128 := by decide +kernel
theorem lnE_asc : ∀ u : Nat, u ≤ 9 → ∀ v : Nat, v ≤ 9 → ∀ c ∈ tl (lnE (u, v)), c < 128 := by decide +kernel
theorem pr_asc {n : Nat} {es : List E2} (g : Good n es) : ∀ c ∈ (prT n es).cps.toList, c < 128 := fun c hc => by
  have n9 := g.n9
  have hc' : c ∈ tl (prT n es) := hc
  unfold prT at hc'
  rw [tl_glue, List.mem_flatten] at hc'
  obtain ⟨l, hl, hcl⟩ := hc'
  obtain ⟨z, hz, rfl⟩ := List.mem_map.mp hl
  rcases List.mem_cons.mp hz with rfl | hz
  · exact lnV_asc n n9 c hcl
  · obtain ⟨p, hp, rfl⟩ := List.mem_map.mp hz
    have l := g.lt p hp
    exact lnE_asc p.1 (by omega) p.2 (by omega) c hcl
theorem pr3_fine {n : Nat} {es : List E2} (g : Good n es) : FineD (.list [.str (prT n es), .str (prT n es), graphD n es]) := by
  obtain ⟨k1, k2, k3⟩ := graph_fine g
  have r := StrLaws.reprText_len (prT n es) fun c hc => Nat.lt_trans (pr_asc g c hc) (by decide)
  have zl := pr_len g
  have t := lst_len [reprText (prT n es), reprText (prT n es), (graphD n es).shown]
  refine ⟨?_, ?_, ?_⟩
  · simp [PyData.showable, PyData.showableAll, k2]
  · simp only [PyData.depth, PyData.depthAll]
    omega
  · have e : (PyData.list [.str (prT n es), .str (prT n es), graphD n es]).shown = listText [reprText (prT n es), reprText (prT n es), (graphD n es).shown] := by simp [PyData.shown, PyData.shownAll]
    rw [e]
    simp only [List.map_cons, List.map_nil, List.sum_cons, List.sum_nil, List.length_cons, List.length_nil] at t
    exact Nat.le_of_lt (Nat.lt_of_le_of_lt t (by
      refine Nat.lt_of_lt_of_le (show _ < 15000 by omega) ?_
      rw [sizeLine_eq]
      decide))
theorem two_fine {n : Nat} {es : List E2} (g : Good n es) : FineD (.list [graphD n es, graphD n es]) := by
  obtain ⟨k1, k2, k3⟩ := graph_fine g
  have t := lst_len [(graphD n es).shown, (graphD n es).shown]
  refine ⟨?_, ?_, ?_⟩
  · simp [PyData.showable, PyData.showableAll, k2]
  · simp only [PyData.depth, PyData.depthAll]
    omega
  · have e : (PyData.list [graphD n es, graphD n es]).shown = listText [(graphD n es).shown, (graphD n es).shown] := by simp [PyData.shown, PyData.shownAll]
    rw [e]
    simp only [List.map_cons, List.map_nil, List.sum_cons, List.sum_nil, List.length_cons, List.length_nil] at t
    exact Nat.le_of_lt (Nat.lt_of_le_of_lt t (by
      refine Nat.lt_of_lt_of_le (show _ < 15000 by omega) ?_
      rw [sizeLine_eq]
      decide))
theorem pairs_lay : ∀ es : List E2, PyData.canLayAll0 (es.map pairD) = true
  | [] => by rw [List.map_nil]; simp [PyData.canLayAll0]
  | p :: es => by rw [List.map_cons]; simp [PyData.canLayAll0, PyData.canLay0, pairs_lay es, pairD]
theorem pairs_shaped (es : List E2) : SeqAt.shaped (.tuple (es.map pairD)) = true := by
  have pd := pairsD_depth es
  unfold SeqAt.shaped
  rw [Bool.and_eq_true]
  refine ⟨?_, decide_eq_true ?_⟩
  · simp [PyData.canLay0, pairs_lay es]
  · simp only [PyData.depth]
    omega
theorem eqv_nil (es : List E2) : PyData.eqv (.tuple (es.map pairD)) (.tuple []) = decide (es = []) := by
  cases es with
  | nil => rfl
  | cons p es => simp [PyData.eqv, PyData.eqvAll]
theorem sIx_last (n d : Nat) : HT.sIx n d (some (-1)) = n - 1 := by
  show (if (-1 : Int) < 0 then ((-1 : Int) + (n : Int)).toNat else min (-1 : Int).toNat n) = n - 1
  rw [if_pos (by decide)]
  omega
theorem cut_last (ys : List V) : cutV ys none (some (-1)) = ys.dropLast := by
  unfold cutV
  rw [HT.sIx_none, sIx_last, List.drop_zero, Nat.sub_zero, List.dropLast_eq_take]
theorem PairsAt.last {K : PySem.W.Frag} {H : Hp} : ∀ {xs : List V} {ps : List E2}, PairsAt K H xs ps → PairsAt K H xs.dropLast ps.dropLast
  | [], [], _ => .nil
  | [_], [_], _ => .nil
  | _ :: _ :: _, _ :: _ :: _, .cons a b => .cons a (PairsAt.last b)
theorem Good.last {n : Nat} {es : List E2} (g : Good n es) : Good n es.dropLast := ⟨g.n9, fun p hp => g.lt p ((List.dropLast_sublist es).subset hp), g.up.sublist (List.dropLast_sublist es)⟩
theorem code_len3 {n : Nat} {es : List E2} (h : n ≤ 9) : (tx (codeL n es)).length ≤ 7 := by
  rw [tx_len]
  unfold codeL
  rw [List.length_cons, List.length_map, List.length_range]
  unfold groups
  have := bits_few h es
  omega
theorem code_asc3 {n : Nat} {es : List E2} (h : n ≤ 9) : ∀ c ∈ (tx (codeL n es)).cps.toList, c < 128 := fun c hc => by
  have hc' : c ∈ (codeL n es).map (63 + ·) := hc
  obtain ⟨k, hk, rfl⟩ := List.mem_map.mp hc'
  unfold codeL at hk
  rcases List.mem_cons.mp hk with rfl | hk
  · omega
  · obtain ⟨i, _, rfl⟩ := List.mem_map.mp hk
    have := chunk_lt (i := i) (pad_le (bits_le n es))
    omega
end My

set_option maxHeartbeats 4000000
/-! f(name=e) of a def that may raise; isinstance(e, C) in an except suite, e with an own dict. -/
namespace My
open PySem PySem.Spec PyProof.Rows L2
section
variable {X : Cx} {CX : CXT} {k : Nat} {f : Addr} {fd : FuncData} {sp : Sp} {E : L2.St → XK} {x fld : Str} {p pos : Pos} {tk : TA}
theorem pe_kw1 (F : FnOk X.prog X.w X.K X.mg X.base CX k f fd [fld] sp) (hr : Room k X.A) (hg : Gl X x) (hm : X.mg x = some (.ref f)) (hk : PySem.W.keepIn X.K (.ref f) = true) (hb : ∀ (s : Shared) (u : Value), BindsTo s fd ⟨[], [(fld, u)]⟩ ([fld].zip [u])) (hx : ∀ σ, PassesAt CX X σ (E σ))
    {kws : List Keyword} (hkw : PK X kws tk) (hall : (backToKw pos (keywordEach kws X.env)).all (·.1.isSome) = true := by rfl) (hks : (backToKw pos (keywordEach kws X.env)).filterMap (·.1) = [fld] := by rfl)
    (hdb : (x == ("__debug__" : Str)) = false := by decide) (hpl : ((backTo pos (starEach [] X.env)).any (·.1) || (backToKw pos (keywordEach kws X.env)).any (·.1.isNone)) = false := by rfl) :
    PE X (.Call (.Name x p) [] kws pos) (tCallS sp E tk) := by
  refine ⟨?_⟩
  intro pins s σ H Q I h
  refine wpAny_Call_Name_kw (ld_glob I hg hm ?_ hdb)
  refine PySem.W.callWith_KW0 (h₀ := X.base) I.ok.mod.kin hk hall (thn (hkw.run pos pins s σ H _ I h) ?_) hpl
  rintro us s1 ⟨vs, H1, I1, r, q1⟩
  refine ⟨I1.kIn, ?_⟩
  rw [hks]
  have hl : us.length = 1 := by rw [← r.length]; exact F.len _ _ _ _ q1
  obtain ⟨u, rfl⟩ : ∃ u, us = [u] := by
    match us, hl with
    | [u], _ => exact ⟨u, rfl⟩
  refine wpAny_call (codeAny_mono (F.run X.A X.stack s1 H1 ⟨[], [(fld, u)]⟩ [u] vs Q (E σ) hr I1.env0 (hb _ _) r q1) fun r s' hq => ?_)
  cases r with
  | error e => exact hx σ pins H1 s1 e s' I1 hq
  | ok fl =>
    cases fl with
    | ret u => exact I1.after hq
    | next => exact False.elim hq
    | brk => exact False.elim hq
    | cont => exact False.elim hq
theorem passAt0 {X : Cx} {σ : L2.St} {E : XK} : PassesAt CX0 X σ E := fun _ _ _ _ _ _ h => h.elim
end
def rIsF (K : PySem.W.Frag) (a : Addr) (cls : Value) (d : Option Addr) : List V → Hp → VK → Prop := fun xs H Q => ∃ (C dd : Addr) (c : V) (u : Value) (b : Bool) (fs : List (Str × V)), xs = [.ref a, c] ∧ ClsV c u ∧ cls = .ref C ∧ d = some dd ∧ H dd = some (.xd fs) ∧ XIs K C ∧ PySem.W.kitOne K (.ref C) u = some b ∧ Q (.bl b) H
theorem call_isF {X : Cx} {a : Addr} {oe : Obj} {cls : Value} {d : Option Addr} {pn : List (Addr × Obj)} (hz : Zc cls d oe) (hf : ∃ vs, oe.data = .fields vs) : CallR (X.suite a ((a, oe) :: pn)) (.builtin "isinstance") (rIsF X.K a cls d) := by
  rintro pins s σ H xs us Q I r ⟨C, dd, c, u, b, fs, rfl, cv, rfl, rfl, ea, T, kit, q⟩
  obtain ⟨u1, u2, rfl, r1, r2⟩ := vals2 r
  obtain rfl : u2 = u := cv.eq r2
  obtain rfl : u1 = Value.ref a := r1
  obtain ⟨ha, _⟩ := I.pin (a, oe) (List.mem_append_left _ List.mem_cons_self)
  obtain ⟨vs, hd⟩ := hf
  have hx : ObjOk X.prog X.w H s.heap dd (.xd fs) := I.hok dd _ ea
  obtain ⟨mA, hns, hr⟩ := hx
  obtain ⟨od, ho, hl⟩ := lookIn_ns hns
  have J : PySem.W.InstAt s.heap a oe C (some od) := by
    refine ⟨ha, hz.1, ?_, ?_⟩
    · unfold PySem.W.notCls
      rw [hd]
    · rw [hz.2]
      exact ho
  exact PySem.W.kia_one (PySem.W.kitx_exc T.cl T.xf.ga T.xf.gg T.xf.exC T.ha T.hn T.ht T.hm) I.kIn J kit (fun z => nomatch z) fun tk => ⟨.bl b, H, I.tok tk, rfl, q⟩
end My

set_option maxHeartbeats 4000000
namespace My
open PySem PySem.Spec PyProof.Rows L2
/-- f(a=.., b=..), the other way round than f's parameters -/
def tKw2 (sp : Sp) (E : L2.St → XK) (t : TA) : TE := fun σ H Q => t σ H fun vs H1 => ∃ a b, vs = [a, b] ∧ sp [b, a] H1 Q (E σ)
section
variable {X : Cx} {CX : CXT} {k : Nat} {f : Addr} {fd : FuncData} {sp : Sp} {E : L2.St → XK} {x f1 f2 : Str} {p pos : Pos} {tk : TA}
theorem pe_kw2 (F : FnOk X.prog X.w X.K X.mg X.base CX k f fd [f1, f2] sp) (hr : Room k X.A) (hg : Gl X x) (hm : X.mg x = some (.ref f)) (hk : PySem.W.keepIn X.K (.ref f) = true) (hb : ∀ (s : Shared) (u v : Value), BindsTo s fd ⟨[], [(f2, u), (f1, v)]⟩ ([f1, f2].zip [v, u])) (hx : ∀ σ, PassesAt CX X σ (E σ))
    {kws : List Keyword} (hkw : PK X kws tk) (hall : (backToKw pos (keywordEach kws X.env)).all (·.1.isSome) = true := by rfl) (hks : (backToKw pos (keywordEach kws X.env)).filterMap (·.1) = [f2, f1] := by rfl)
    (hdb : (x == ("__debug__" : Str)) = false := by decide) (hpl : ((backTo pos (starEach [] X.env)).any (·.1) || (backToKw pos (keywordEach kws X.env)).any (·.1.isNone)) = false := by rfl) :
    PE X (.Call (.Name x p) [] kws pos) (tKw2 sp E tk) := by
  refine ⟨?_⟩
  intro pins s σ H Q I h
  refine wpAny_Call_Name_kw (ld_glob I hg hm ?_ hdb)
  refine PySem.W.callWith_KW0 (h₀ := X.base) I.ok.mod.kin hk hall (thn (hkw.run pos pins s σ H _ I h) ?_) hpl
  rintro us s1 ⟨vs, H1, I1, r, a, b, rfl, q1⟩
  refine ⟨I1.kIn, ?_⟩
  rw [hks]
  obtain ⟨u, v, rfl, ru, rv⟩ := vals2 r
  refine wpAny_call (codeAny_mono (F.run X.A X.stack s1 H1 ⟨[], [(f2, u), (f1, v)]⟩ [v, u] [b, a] Q (E σ) hr I1.env0 (hb _ _ _) (.cons rv (.cons ru .nil)) q1) fun r s' hq => ?_)
  cases r with
  | error e => exact hx σ pins H1 s1 e s' I1 hq
  | ok fl =>
    cases fl with
    | ret u => exact I1.after hq
    | next => exact False.elim hq
    | brk => exact False.elim hq
    | cont => exact False.elim hq
end
end My

set_option maxHeartbeats 16000000
namespace My
open PySem PySem.Spec PyProof.Rows L2
abbrev sRight : Stmt := top 45
theorem scRight : FnScope ["well", "turn", "graph", "things", "pair", "thing", "lot", "told", "due", "part", "u", "row", "v"] ["well"] (defScope sRight) := ⟨rfl, rfl, rfl, by decide +kernel, rfl, by decide +kernel, by decide +kernel⟩
def spRight : Sp := fun vs H Q _ => ∃ p : Addr, vs = [.ref p] ∧ Wl H p ∧ ∀ H', But p H H' → Q (.bl true) H'
structure Gr3 (K : PySem.W.Frag) (H : Hp) (t e : Addr) (xs : List V) (n : Nat) (es : List E2) : Prop where
  ht : SqT K H t [.int (n : Int), .ref e]
  he : SqT K H e xs
  hes : PairsAt K H xs es
section
variable {K : PySem.W.Frag} {H H' : Hp} {t e p : Addr} {xs : List V} {n : Nat} {es : List E2}
theorem Gr3.of {x : V} (h : GraphAt K H x n es) : ∃ t e xs, x = .ref t ∧ Gr3 K H t e xs n es := by
  obtain ⟨t, e, xs, rfl, a, b, c⟩ := h
  exact ⟨t, e, xs, rfl, a, b, c⟩
theorem Gr3.ts (s : TS H H') (h : Gr3 K H t e xs n es) : Gr3 K H' t e xs n es := ⟨s.tup h.ht, s.tup h.he, h.hes.ts s⟩
theorem Gr3.same (s : Same H H') (h : Gr3 K H t e xs n es) : Gr3 K H' t e xs n es := h.ts (TS.of s)
theorem Gr3.but (b : But p H H') (w : Wl H p) (h : Gr3 K H t e xs n es) : Gr3 K H' t e xs n es := h.ts (TS.but b w)
theorem Gr3.at (h : Gr3 K H t e xs n es) : GraphAt K H (.ref t) n es := ⟨t, e, xs, rfl, h.ht, h.he, h.hes⟩
theorem Gr3.pair (h : Gr3 K H t e xs n es) : ∀ x ∈ xs, ∃ (u : Addr) (i j : Int), x = .ref u ∧ SqT K H u [.int i, .int j] := fun x hx => by
  obtain ⟨i, hi, rfl⟩ := List.getElem_of_mem hx
  obtain ⟨q, _, u, hu, hq⟩ := h.hes.get (List.getElem?_eq_getElem hi)
  exact ⟨u, _, _, hu, hq⟩
theorem va_two {u : Addr} {i j : Int} (h : SqT K H u [.int i, .int j]) : Va K H (.ref u) := Va.tup h (by simp) fun x hx => by
  simp only [List.mem_cons, List.mem_nil_iff, or_false] at hx
  rcases hx with rfl | rfl <;> exact .int _
theorem Gr3.vas (h : Gr3 K H t e xs n es) : ∀ x ∈ xs, Va K H x := fun x hx => by
  obtain ⟨u, i, j, rfl, hu⟩ := h.pair x hx
  exact va_two hu
theorem Gr3.len (h : Gr3 K H t e xs n es) : xs.length = es.length := PairsAt.len h.hes
theorem Gr3.ve (h : Gr3 K H t e xs n es) (l : xs.length ≤ 900) : Va K H (.ref e) := Va.tup h.he l h.vas
theorem Gr3.vt (h : Gr3 K H t e xs n es) (l : xs.length ≤ 900) : ∀ x ∈ [V.int (n : Int), .ref e], Va K H x := fun x hx => by
  simp only [List.mem_cons, List.mem_nil_iff, or_false] at hx
  rcases hx with rfl | rfl
  · exact .int _
  · exact h.ve l
theorem Gr3.va (h : Gr3 K H t e xs n es) (l : xs.length ≤ 900) : Va K H (.ref t) := Va.tup h.ht (by simp) (h.vt l)
end
theorem leftP2 {n : Nat} {es : List E2} (g : Good n es) : leftP n (leftP n es) = es := by
  refine up_ext (good_left g.n9 _).up g.up fun q => ?_
  obtain ⟨a, b⟩ := q
  have m : ∀ fs : List E2, (a, b) ∈ leftP n fs ↔ (a < b ∧ b < n) ∧ (a, b) ∉ fs := fun fs => by
    unfold leftP
    rw [List.mem_filter, mem_allP, decide_eq_true_eq]
  rw [m, m]
  constructor
  · rintro ⟨h, no⟩
    by_cases c : (a, b) ∈ es
    · exact c
    · exact absurd ⟨h, c⟩ no
  · intro c
    exact ⟨g.lt _ c, fun z => z.2 c⟩
theorem adj_leftW {n : Nat} {es : List E2} {u v : Nat} (hu : u < n) (hv : v < n) (ne : u ≠ v) : adjB (leftP n es) u v = !adjB es u v := by
  unfold adjB
  have h : (min u v, max u v) ∈ allP n := mem_allP.mpr (by dsimp only; omega)
  rw [Bool.eq_iff_iff, decide_eq_true_eq]
  show (_ ∈ (allP n).filter fun p => decide (p ∉ es)) ↔ _
  rw [List.mem_filter]
  simp [h]
theorem within_left {n : Nat} {es : List E2} (g : Good n es) {l : List Nat} (lo : LotOk n l) : leftP l.length (withinP (leftP n es) l) = withinP es l := by
  have l9 : l.length ≤ 9 := Nat.le_trans lo.few g.n9
  refine up_ext (good_left l9 _).up (tab_good l9 _).up fun q => ?_
  obtain ⟨a, b⟩ := q
  have mt : ∀ f : Nat → Nat → Bool, (a, b) ∈ tabP l.length f ↔ (a < b ∧ b < l.length) ∧ f a b = true := fun f => by
    unfold tabP
    rw [List.mem_filter, mem_allP]
  have ml : ∀ fs : List E2, (a, b) ∈ leftP l.length fs ↔ (a < b ∧ b < l.length) ∧ (a, b) ∉ fs := fun fs => by
    unfold leftP
    rw [List.mem_filter, mem_allP, decide_eq_true_eq]
  unfold withinP
  rw [ml, mt, mt]
  constructor
  · rintro ⟨h, no⟩
    refine ⟨h, ?_⟩
    have ha : l.getD a 0 = l[a] := getD_at (by omega)
    have hb : l.getD b 0 = l[b] := getD_at (by omega)
    have lt : l[a] < l[b] := List.pairwise_iff_getElem.mp lo.up a b (by omega) (by omega) h.1
    have na := lo.lt l[a] (List.getElem_mem _)
    have nb := lo.lt l[b] (List.getElem_mem _)
    rw [ha, hb] at no ⊢
    rw [adj_leftW na nb (by omega)] at no
    cases c : adjB es l[a] l[b] with
    | true => rfl
    | false => exact absurd ⟨h, by rw [c]; rfl⟩ no
  · rintro ⟨h, yes⟩
    refine ⟨h, fun z => ?_⟩
    have ha : l.getD a 0 = l[a] := getD_at (by omega)
    have hb : l.getD b 0 = l[b] := getD_at (by omega)
    have lt : l[a] < l[b] := List.pairwise_iff_getElem.mp lo.up a b (by omega) (by omega) h.1
    have na := lo.lt l[a] (List.getElem_mem _)
    have nb := lo.lt l[b] (List.getElem_mem _)
    have z2 := z.2
    rw [ha, hb] at yes z2
    rw [adj_leftW na nb (by omega), yes] at z2
    cases z2
theorem pairs_nd : ∀ es : List E2, PyData.hasDictAll (es.map pairD) = false
  | [] => rfl
  | p :: es => by
    rw [List.map_cons]
    simp [PyData.hasDictAll, pairs_nd es, pairD, PyData.hasDict]
theorem graph_nd (n : Nat) (es : List E2) : (graphD n es).hasDict = false := by
  simp [graphD, PyData.hasDict, PyData.hasDictAll, pairs_nd es]
theorem graph_fi {n : Nat} {es : List E2} (g : Good n es) : Fine (graphD n es) := by
  obtain ⟨h1, h2, h3⟩ := graph_fine g
  exact ⟨h2, by omega, Nat.le_trans h1 (by rw [sizeLine_eq]; decide)⟩
theorem three_fi {n m k : Nat} {es fs hs : List E2} (g1 : Good n es) (g2 : Good m fs) (g3 : Good k hs) : Fine (.list [graphD n es, graphD m fs, graphD k hs]) ∧ (PyData.list [graphD n es, graphD m fs, graphD k hs]).hasDict = false := by
  obtain ⟨a1, a2, a3⟩ := graph_fine g1
  obtain ⟨b1, b2, b3⟩ := graph_fine g2
  obtain ⟨c1, c2, c3⟩ := graph_fine g3
  have ls := lst_len [(graphD n es).shown, (graphD m fs).shown, (graphD k hs).shown]
  refine ⟨⟨by simp [PyData.showable, PyData.showableAll, a2, b2, c2], by simp only [PyData.depth, PyData.depthAll]; omega, ?_⟩, by simp [PyData.hasDict, PyData.hasDictAll, graph_nd]⟩
  have e : (PyData.list [graphD n es, graphD m fs, graphD k hs]).shown = listText [(graphD n es).shown, (graphD m fs).shown, (graphD k hs).shown] := by simp [PyData.shown, PyData.shownAll]
  rw [e]
  simp only [List.map_cons, List.map_nil, List.sum_cons, List.sum_nil, List.length_cons, List.length_nil] at ls
  refine Nat.le_trans (by omega : _ ≤ 4000) (by rw [sizeLine_eq]; decide)
theorem bools_shown : ∀ bs : List Bool, PyData.showableAll (bs.map PyData.bool) = true ∧ PyData.depthAll (bs.map PyData.bool) ≤ 1 ∧ PyData.hasDictAll (bs.map PyData.bool) = false ∧ ((PyData.shownAll (bs.map PyData.bool)).map (·.length)).sum ≤ 5 * bs.length ∧ (PyData.shownAll (bs.map PyData.bool)).length = bs.length
  | [] => ⟨rfl, by simp [PyData.depthAll], rfl, by simp [PyData.shownAll], rfl⟩
  | b :: bs => by
    obtain ⟨h1, h2, h3, h4, h5⟩ := bools_shown bs
    have s : (PyData.bool b).shown.length ≤ 5 := by cases b <;> decide +kernel
    rw [List.map_cons]
    refine ⟨by simp [PyData.showableAll, PyData.showable, h1], by simp only [PyData.depthAll, PyData.depth]; omega, by simp [PyData.hasDictAll, PyData.hasDict, h3], ?_, by simp [PyData.shownAll, h5]⟩
    simp only [PyData.shownAll, List.map_cons, List.sum_cons, List.length_cons]
    omega
theorem bools_fi {bs : List Bool} (h : bs.length ≤ 9) : Fine (.list (bs.map PyData.bool)) ∧ (PyData.list (bs.map PyData.bool)).hasDict = false := by
  obtain ⟨h1, h2, h3, h4, h5⟩ := bools_shown bs
  have ls := lst_len (PyData.shownAll (bs.map PyData.bool))
  refine ⟨⟨by simpa [PyData.showable] using h1, by simp only [PyData.depth]; omega, ?_⟩, by simpa [PyData.hasDict] using h3⟩
  have e : (PyData.list (bs.map PyData.bool)).shown = listText (PyData.shownAll (bs.map PyData.bool)) := by simp [PyData.shown]
  rw [e]
  refine Nat.le_trans (by omega : _ ≤ 4000) (by rw [sizeLine_eq]; decide)
theorem bools_dp {K : PySem.W.Frag} {H : Hp} : ∀ bs : List Bool, DpAll K H (bs.map V.bl) (bs.map PyData.bool)
  | [] => .nil
  | b :: bs => .cons (.bl b) (bools_dp bs)
theorem LotF.but {p : Addr} {H H' : Hp} (b : But p H H') (w : Wl H p) {x : V} {l : List Nat} (h : LotF H x l) : LotF H' x l := by
  obtain ⟨t, e, o, h, d⟩ := h
  refine ⟨t, e, o, b _ _ (fun z => ?_) h, d⟩
  obtain ⟨a, c, d', hw⟩ := w
  rw [z, hw] at h
  cases h
theorem twoE_fine : ∀ b : Bool, Fine (.list [.bool b, .bool b]) ∧ (PyData.list [.bool b, .bool b]).hasDict = false := by decide +kernel
theorem rd_put {H : Hp} {F : Addr} {ws ws' : List V} (h : H F = some (.lst ws)) {q : Addr} {xs : List V} (r : Rd H q (.tup xs)) : Rd (upd H F (.lst ws')) q (.tup xs) := by
  have ne : q ≠ F := fun z => by
    subst z
    rcases r with r | ⟨o, r⟩
    · rw [h] at r
      cases r
    · rw [h] at r
      cases r
  rcases r with r | ⟨o, r⟩
  · exact .inl (by rw [upd_ne ne]; exact r)
  · exact .inr ⟨o, by rw [upd_ne ne]; exact r⟩
theorem ts_put {H : Hp} {F : Addr} {ws ws' : List V} (h : H F = some (.lst ws)) : TS H (upd H F (.lst ws')) := fun _ _ r => rd_put h r
theorem kp_put {K : PySem.W.Frag} {H : Hp} {F : Addr} {ws ws' : List V} (h : H F = some (.lst ws)) : Kp K H (upd H F (.lst ws')) := by
  refine ⟨fun t xs r => (ts_put h).tup r, fun a xs r => ?_, fun a kvs r => ?_⟩
  · by_cases e : a = F
    · subst e
      exact ⟨_, SqL.of upd_same⟩
    · rcases r with (r | ⟨o, r⟩) | r
      · exact ⟨xs, .inl (.inl (by rw [upd_ne e]; exact r))⟩
      · exact ⟨xs, .inl (.inr ⟨o, by rw [upd_ne e]; exact r⟩)⟩
      · exact ⟨xs, .inr r⟩
  · have ne : a ≠ F := fun z => by
      rw [z, h] at r
      cases r
    rw [upd_ne ne]
    exact r
theorem but_putW {p F : Addr} {H H' : Hp} {o : HO} (b : But p H H') (n : H F = none) : But p H (upd H' F o) := fun q u nq e => by
  have ne : q ≠ F := fun z => by
    rw [z, n] at e
    cases e
  rw [upd_ne ne]
  exact b q u nq e
theorem short_gr {s : Sh} (h : Lb s) : shortS s := by
  cases h with
  | @tup ss l hs =>
    match ss, hs with
    | [_, .tup es], hs =>
      have z := hs (.tup es) (by simp)
      cases z
      assumption
    | [], _ => exact trivial
    | [_], _ => exact trivial
    | [_, .int _], _ => exact trivial
    | [_, .bool _], _ => exact trivial
    | [_, .str _], _ => exact trivial
    | [_, .oth], _ => exact trivial
    | _ :: _ :: _ :: _, _ => simp [shortS]
  | _ => exact trivial
theorem short_lo {s : Sh} (h : Lb s) : shortL s := by
  cases h with
  | tup l _ => exact l
  | _ => exact trivial
theorem two_ddE {K : PySem.W.Frag} {H : Hp} {F : Addr} {a : Bool} (hF : H F = some (.lst [.bl a, .bl a])) : Dd K H (.ref F) (.list [.bool a, .bool a]) :=
  .dat (.lst (SqL.of hF) (.cons (.bl _) (.cons (.bl _) .nil))) (twoE_fine a).2
section
variable {P : Program} {w : World} {K : PySem.W.Frag} {mg : Str → Option Value} {base : Heap} {f fD fG fK fN fO fIg fTo fS fL fIl fSo fT fW fC fId fTi fAd : Addr} {fd dD dG dK dN dO dIg dTo dS dL dIl dSo dT dW dC dId dTi dAd : FuncData}
theorem ok_right (F : L2.Fun K "_law_right" "_law_right" sRight f fd)
    (GD : FnOk P w K mg base CX0 1 fD dD ["well", "many"] spDraw) (bD : L2.Binds K dD ["well", "many"] []) (kD : PySem.W.keepIn K (.ref fD) = true) (mD : mg "_law_draw" = some (.ref fD))
    (GG : FnOk P w K mg base CX0 4 fG dG ["well", "most"] (spGraph K)) (bG : L2.Binds K dG ["well", "most"] []) (kG : PySem.W.keepIn K (.ref fG) = true) (mG : mg "_law_graph" = some (.ref fG))
    (GK : FnOk P w K mg base CX0 2 fK dK ["well", "some"] (spPick K)) (bK : L2.Binds K dK ["well", "some"] []) (kK : PySem.W.keepIn K (.ref fK) = true) (mK : mg "_law_pick" = some (.ref fK))
    (GKl : FnOk P w K mg base CX0 2 fK dK ["well", "some"] (spPickL K))
    (GN : FnOk P w K mg base CX0 4 fN dN ["well", "rows"] (spBentW K)) (bN : L2.Binds K dN ["well", "rows"] []) (kN : PySem.W.keepIn K (.ref fN) = true) (mN : mg "_law_bent" = some (.ref fN))
    (GO : FnOk P w K mg base CX0 3 fO dO ["well"] (spOddW K)) (bO : L2.Binds K dO ["well"] []) (kO : PySem.W.keepIn K (.ref fO) = true) (mO : mg "_law_odd" = some (.ref fO))
    (GIg : FnOk P w K mg base CX0 4 fIg dIg ["value"] (spIsGraphA K)) (bIg : L2.Binds K dIg ["value"] []) (bIgk : ∀ (s : Shared) (u : Value), BindsTo s dIg ⟨[], [(("value" : Str), u)]⟩ ([("value" : Str)].zip [u])) (kIg : PySem.W.keepIn K (.ref fIg) = true) (mIg : mg "is_graph" = some (.ref fIg))
    (GTo : FnOk P w K mg base CX0 2 fTo dTo ["thing"] (spLTo K)) (bTo : L2.Binds K dTo ["thing"] []) (kTo : PySem.W.keepIn K (.ref fTo) = true) (mTo : mg "_law_is_told" = some (.ref fTo))
    (GS : FnG P w K mg base CX0 1 fS dS ["told", "due"] (spSame K)) (bS : L2.Binds K dS ["told", "due"] []) (kS : PySem.W.keepIn K (.ref fS) = true) (mS : mg "_law_same" = some (.ref fS))
    (GL : FnOk P w K mg base CX0 1 fL dL ["n"] (spLotsF K)) (bL : L2.Binds K dL ["n"] []) (kL : PySem.W.keepIn K (.ref fL) = true) (mL : mg "_law_lots" = some (.ref fL))
    (GIl : FnOk P w K mg base CX0 6 fIl dIl ["graph", "value"] (spIsLotA K)) (bIl : L2.Binds K dIl ["graph", "value"] []) (bIlk : ∀ (s : Shared) (u v : Value), BindsTo s dIl ⟨[], [(("value" : Str), u), (("graph" : Str), v)]⟩ ([("graph" : Str), ("value" : Str)].zip [v, u])) (kIl : PySem.W.keepIn K (.ref fIl) = true) (mIl : mg "is_lot" = some (.ref fIl))
    (GSo : FnOk P w K mg base CX0 2 fSo dSo ["graph", "thing"] (spLSo K)) (bSo : L2.Binds K dSo ["graph", "thing"] []) (kSo : PySem.W.keepIn K (.ref fSo) = true) (mSo : mg "_law_is_some" = some (.ref fSo))
    (GT : FnOk P w K mg base CX0 1 fT dT ["graph"] (spTurned K)) (bT : L2.Binds K dT ["graph"] []) (kT : PySem.W.keepIn K (.ref fT) = true) (mT : mg "_law_turned" = some (.ref fT))
    (GW : FnOk P w K mg base CX0 1 fW dW ["graph", "lot"] (spInduced K)) (bW : L2.Binds K dW ["graph", "lot"] []) (kW : PySem.W.keepIn K (.ref fW) = true) (mW : mg "_law_within" = some (.ref fW))
    (GC : FnOk P w K mg base CX0 6 fC dC ["graph"] (spComplement K)) (bC : L2.Binds K dC ["graph"] []) (bCk : ∀ (s : Shared) (u : Value), BindsTo s dC ⟨[], [(("graph" : Str), u)]⟩ ([("graph" : Str)].zip [u])) (kC : PySem.W.keepIn K (.ref fC) = true) (mC : mg "complement" = some (.ref fC))
    (GId : FnOk P w K mg base CX0 8 fId dId ["graph", "lot"] (spInduced K)) (bId : L2.Binds K dId ["graph", "lot"] []) (bIdk : ∀ (s : Shared) (u v : Value), BindsTo s dId ⟨[], [(("lot" : Str), u), (("graph" : Str), v)]⟩ ([("graph" : Str), ("lot" : Str)].zip [v, u])) (kId : PySem.W.keepIn K (.ref fId) = true) (mId : mg "induced" = some (.ref fId))
    (GTi : FnOk P w K mg base CX0 1 fTi dTi ["graph", "u", "v"] (spTied K)) (bTi : L2.Binds K dTi ["graph", "u", "v"] []) (kTi : PySem.W.keepIn K (.ref fTi) = true) (mTi : mg "_law_is_tied" = some (.ref fTi))
    (GAd : FnOk P w K mg base CX0 7 fAd dAd ["graph", "one", "other"] (spAdj K)) (bAd : L2.Binds K dAd ["graph", "one", "other"] []) (kAd : PySem.W.keepIn K (.ref fAd) = true) (mAd : mg "are_adjacent" = some (.ref fAd))
    (mr : mg "range" = none) (mt : mg "tuple" = none) (mli : mg "list" = none) (mso : mg "sorted" = none) : FnG P w K mg base CX0 9 f fd ["well"] spRight := by
  refine okG F scRight (fun vs H Q E h => ?_) (fun cdv A outer s0 H vs Q E gd hr h => ?_)
  · obtain ⟨p, rfl, _⟩ := h
    rfl
  obtain ⟨p, rfl, hW, q⟩ := h
  have gd' : (A.deeper (envOfC "_law_right" (defScope sRight) s0.heap.objs.size f cdv)).guards = some [] := gd
  have h1 := hr.mono (show 1 ≤ 8 by decide)
  have h2 := hr.mono (show 2 ≤ 8 by decide)
  have h3 := hr.mono (show 3 ≤ 8 by decide)
  have h4 := hr.mono (show 4 ≤ 8 by decide)
  have h6 := hr.mono (show 6 ≤ 8 by decide)
  have h7 := hr.mono (show 7 ≤ 8 by decide)
  refine ⟨_, pss_cons (ps_for PassesOwn.never rfl (pi_range1 (by rfl) mr (pa_cons pe_int pa_nil)) (pg_name (i := 1) scRight.nd rfl (.inl rfl))
      (pss_cons (ps_set (i := 2) scRight.nd rfl (.inr rfl) (pe_call GG h4 (by rfl) mG kG bG .nil pass0 (pa_cons (pv 0) (pa_cons pe_int pa_nil))))
      (pss_cons (ps_set (i := 3) scRight.nd rfl (.inl rfl) (pe_lst (pa_cons (pv 2) (pa_cons (pe_tup (pa_cons (pe_ix (r := rIxT K) ix_tup (pv 2) pe_int (fun _ _ => rfl)) (pa_cons (pe_call GN h4 (by rfl) mN kN bN .nil pass0 (pa_cons (pv 0) (pa_cons (pe_ix (r := rIxT K) ix_tup (pv 2) pe_int (fun _ _ => rfl)) pa_nil))) pa_nil)))
          (pa_cons (pe_tup (pa_cons (pe_call GO h3 (by rfl) mO kO bO .nil pass0 (pa_cons (pv 0) pa_nil)) (pa_cons (pe_ix (r := rIxT K) ix_tup (pv 2) pe_int (fun _ _ => rfl)) pa_nil)))
          (pa_cons (pe_call GN h4 (by rfl) mN kN bN .nil pass0 (pa_cons (pv 0) (pa_cons (pv 2) pa_nil))) pa_nil))))))
      (pss_cons (ps_set (i := 3) scRight.nd rfl (.inl rfl) (pe_op op_cat (pv 3) (pe_lst (pa_cons (pe_tup (pa_cons (pe_call GD h1 (by rfl) mD kD bD .nil pass0 (pa_cons (pv 0) (pa_cons pe_int pa_nil))) (pa_cons (pe_ix (r := rIxT K) ix_tup (pv 2) pe_int (fun _ _ => rfl)) pa_nil)))
          (pa_cons (pe_call GO h3 (by rfl) mO kO bO .nil pass0 (pa_cons (pv 0) pa_nil)) (pa_cons (pe_callTy call_list_of (by rfl) mli (by decide +kernel) (pa_cons (pv 2) pa_nil))
          (pa_cons (pe_tup (pa_cons (pe_ix (r := rIxT K) ix_tup (pv 2) pe_int (fun _ _ => rfl)) (pa_cons (pe_revT (pe_ix (r := rIxT K) ix_tup (pv 2) pe_int (fun _ _ => rfl))) pa_nil))) pa_nil)))))))
      (pss_cons (ps_if (pt_cmpR (op_neD hr.units) (pe_ix (r := rIxT K) ix_tup (pv 2) pe_int (fun _ _ => rfl)) (pe_tup pa_nil) (nomark _))
          (pss_cons (ps_set (i := 4) scRight.nd rfl (.inl rfl) (pe_call GN h4 (by rfl) mN kN bN .nil pass0 (pa_cons (pv 0) (pa_cons (pe_call GK h2 (by rfl) mK kK bK .nil pass0 (pa_cons (pv 0) (pa_cons (pe_ix (r := rIxT K) ix_tup (pv 2) pe_int (fun _ _ => rfl)) pa_nil))) pa_nil))))
          (pss_one (ps_expr (pe_bm PySem.F.plainAttrs_list PySem.F.slot_list_append PySem.F.type_list_append mt_append (pv 3) (pa_cons (pe_tup (pa_cons (pe_ix (r := rIxT K) ix_tup (pv 2) pe_int (fun _ _ => rfl)) (pa_cons (pe_op op_catW (pe_callTy call_tuple_of (by rfl) mt (by decide +kernel) (pa_cons (pe_callB cr_sortPQ (by rfl) mso (by decide +kernel) (pa_cons (pe_slice sl_tupW (pe_ix (r := rIxT K) ix_tup (pv 2) pe_int (fun _ _ => rfl)) (po_some pe_int) po_none) pa_nil)) pa_nil)) (pe_tup (pa_cons (pv 4) pa_nil))) pa_nil))) pa_nil))))) pss_nil)
      (pss_cons (ps_for PassesOwn.never rfl (pi_list (pv 3)) (pg_name (i := 5) scRight.nd rfl (.inl rfl))
          (pss_one (ps_if (pt_not (pt_val (pe_callG GS gd' h1 (by rfl) mS kS bS pass0 (pa_cons (pe_lst (pa_cons (pe_call GIg h4 (by rfl) mIg kIg bIg .nil pass0 (pa_cons (pv 5) pa_nil)) (pa_cons (pe_kw1 (E := fun _ => E0) GIg h4 (by rfl) mIg kIg bIgk (fun _ => passAt0) (pk_cons (pv 5) pk_nil)) pa_nil)))
            (pa_cons (pe_op (r := rRep) op_rep (pe_lst (pa_cons (pe_call GTo h2 (by rfl) mTo kTo bTo .nil pass0 (pa_cons (pv 5) pa_nil)) pa_nil)) pe_int) pa_nil))))) (pss_one (ps_ret pe_bl)) pss_nil)))
      (pss_cons (ps_set (i := 6) scRight.nd rfl (.inl rfl) (pe_call GKl h2 (by rfl) mK kK bK .nil pass0 (pa_cons (pv 0) (pa_cons (pe_call GL h1 (by rfl) mL kL bL .nil pass0 (pa_cons (pe_ix (r := rIxT K) ix_tup (pv 2) pe_int (fun _ _ => rfl)) pa_nil)) pa_nil))))
      (pss_cons (ps_for PassesOwn.never rfl (pi_tup (pe_tup (pa_cons (pv 6) (pa_cons (pe_call GN h4 (by rfl) mN kN bN .nil pass0 (pa_cons (pv 0) (pa_cons (pv 6) pa_nil))) (pa_cons (pe_call GN h4 (by rfl) mN kN bN .nil pass0 (pa_cons (pv 0) (pa_cons (pv 6) pa_nil)))
          (pa_cons (pe_call GO h3 (by rfl) mO kO bO .nil pass0 (pa_cons (pv 0) pa_nil)) (pa_cons (pe_tup (pa_cons (pe_ix (r := rIxT K) ix_tup (pv 2) pe_int (fun _ _ => rfl)) pa_nil)) (pa_cons (pe_callTy call_list_of (by rfl) mli (by decide +kernel) (pa_cons (pv 6) pa_nil)) pa_nil)))))))) (pg_name (i := 5) scRight.nd rfl (.inl rfl))
          (pss_cons (ps_set (i := 7) scRight.nd rfl (.inl rfl) (pe_lst (pa_cons (pe_call GIl h6 (by rfl) mIl kIl bIl .nil pass0 (pa_cons (pv 2) (pa_cons (pv 5) pa_nil))) (pa_cons (pe_kw2 (E := fun _ => E0) GIl h6 (by rfl) mIl kIl bIlk (fun _ => passAt0) (pk_cons (pv 5) (pk_cons (pv 2) pk_nil))) pa_nil))))
          (pss_one (ps_if (pt_not (pt_val (pe_callG GS gd' h1 (by rfl) mS kS bS pass0 (pa_cons (pv 7) (pa_cons (pe_op (r := rRep) op_rep (pe_lst (pa_cons (pe_call GSo h2 (by rfl) mSo kSo bSo .nil pass0 (pa_cons (pv 2) (pa_cons (pv 5) pa_nil))) pa_nil)) pe_int) pa_nil))))) (pss_one (ps_ret pe_bl)) pss_nil))))
      (pss_cons (ps_par (by rfl) scRight.nd (i := 8) (j := 9) rfl rfl (by decide) rfl rfl (pa_cons (pe_call GT h1 (by rfl) mT kT bT .nil pass0 (pa_cons (pv 2) pa_nil)) (pa_cons (pe_call GW h1 (by rfl) mW kW bW .nil pass0 (pa_cons (pv 2) (pa_cons (pv 6) pa_nil))) pa_nil)) (by rfl))
      (pss_cons (ps_if (pt_not (pt_val (pe_callG GS gd' h1 (by rfl) mS kS bS pass0 (pa_cons (pe_lst (pa_cons (pe_call GC h6 (by rfl) mC kC bC .nil pass0 (pa_cons (pv 2) pa_nil)) (pa_cons (pe_kw1 (E := fun _ => E0) GC h6 (by rfl) mC kC bCk (fun _ => passAt0) (pk_cons (pv 8) pk_nil)) (pa_cons (pe_call GId hr (by rfl) mId kId bId .nil pass0 (pa_cons (pv 2) (pa_cons (pv 6) pa_nil))) pa_nil))))
          (pa_cons (pe_lst (pa_cons (pv 8) (pa_cons (pv 2) (pa_cons (pv 9) pa_nil)))) pa_nil))))) (pss_one (ps_ret pe_bl)) pss_nil)
      (pss_cons (ps_if (pt_not (pt_val (pe_callG GS gd' h1 (by rfl) mS kS bS pass0 (pa_cons (pe_call GC h6 (by rfl) mC kC bC .nil pass0 (pa_cons (pe_kw2 (E := fun _ => E0) GId hr (by rfl) mId kId bIdk (fun _ => passAt0) (pk_cons (pv 6) (pk_cons (pv 8) pk_nil))) pa_nil)) (pa_cons (pv 9) pa_nil))))) (pss_one (ps_ret pe_bl)) pss_nil)
      (pss_one (ps_for PassesOwn.never rfl (pi_range1 (by rfl) mr (pa_cons (pe_ix (r := rIxT K) ix_tup (pv 2) pe_int (fun _ _ => rfl)) pa_nil)) (pg_name (i := 10) scRight.nd rfl (.inr rfl))
          (pss_cons (ps_setLc (i := 11) (own := [("v", 12)]) (g := gName 12) (tt := tYes) rfl scRight.nd rfl rfl (sw_true rfl rfl rfl (by decide +kernel)) (pi_range1 rfl mr (pa_cons (pe_ix (r := rIxT K) ix_tup (pv 2) pe_int (fun _ _ => rfl)) pa_nil))
              (blkOk_by (N := ["well", "turn", "graph", "things", "pair", "thing", "lot", "told", "due", "part", "u", "row", "v"]) (sc := defScope sRight) (by decide +kernel)) (fun _ _ _ _ _ => pg_name (i := 12) scRight.nd rfl (Or.inl rfl)) (fun _ _ _ _ _ => pts_nil)
              (fun _ _ _ _ _ => pe_and (pe_cmpR op_ne (pv 10) (pv 12) (nomark _)) (pe_one (pe_call GTi h1 (by rfl) mTi kTi bTi .nil pass0 (pa_cons (pv 2) (pa_cons (pv 10) (pa_cons (pv 12) pa_nil)))))))
          (pss_one (ps_if (pt_not (pt_val (pe_callG GS gd' h1 (by rfl) mS kS bS pass0 (pa_cons (pe_lc (own := [("v", 12)]) (g := gName 12) (tt := tYes) rfl scRight.nd (pi_range1 rfl mr (pa_cons (pe_ix (r := rIxT K) ix_tup (pv 2) pe_int (fun _ _ => rfl)) pa_nil))
              (blkOk_by (N := ["well", "turn", "graph", "things", "pair", "thing", "lot", "told", "due", "part", "u", "row", "v"]) (sc := defScope sRight) (by decide +kernel)) (fun _ _ _ _ _ => pg_name (i := 12) scRight.nd rfl (Or.inl rfl)) (fun _ _ _ _ _ => pts_nil)
              (fun _ _ _ _ _ => pe_call GAd h7 (by rfl) mAd kAd bAd .nil pass0 (pa_cons (pv 2) (pa_cons (pv 10) (pa_cons (pv 12) pa_nil))))) (pa_cons (pv 11) pa_nil))))) (pss_one (ps_ret pe_bl)) pss_nil))))))))))))))))
    (pss_one (ps_ret pe_bl)), ?_⟩
  have line : ∀ k, k ≤ 1000 → k ≤ sizeLine := fun k hk => small hk
  refine ⟨3, rfl, by decide, by decide, for_it (walk_range (lo := 0) (n := (3 : Int).toNat)) (fun i σ H' => ∃ (s1 s2 s3 s4 s5 s6 s7 s8 s9 s10 s11 : Option V), σ = [some (.ref p), s1, s2, s3, s4, s5, s6, s7, s8, s9, s10, s11, none] ∧ But p H H' ∧ Wl H' p) ⟨none, none, none, none, none, none, none, none, none, none, none, rfl, But.refl p H, hW⟩ (fun _ _ _ _ _ => trivial) ?_ ?_⟩
  rotate_left 1
  · rintro σ H1 ⟨_, _, _, _, _, _, _, _, _, _, _, rfl, b1, w1⟩
    exact q H1 b1
  rintro i y σ H1' H1 li ⟨s1', s2', s3', s4', s5', s6', s7', s8', s9', s10', s11', rfl, b1, w1⟩ ⟨rfl, ey⟩
  refine ⟨_, rfl, p, 9, rfl, w1, by decide, fun x n es H2 _ b2 w2 hx g => ?_⟩
  obtain ⟨t, e, xs, rfl, G2⟩ := Gr3.of hx
  have n9 := g.n9
  have lx : xs.length ≤ 36 := by rw [G2.len]; exact g.few
  have b02 := b1.trans b2
  have a0 : atI [V.int (n : Int), V.ref e] 0 = some (.int (n : Int)) := atI_nat (j := 0) rfl
  have a1 : atI [V.int (n : Int), V.ref e] 1 = some (.ref e) := atI_nat (j := 1) rfl
  clear hx b1 b2 w1
  refine ⟨_, rfl, _, rfl, t, _, 0, _, rfl, rfl, G2.ht, a0, _, rfl, _, rfl, t, _, 1, _, rfl, rfl, G2.ht, a1, p, e, xs, rfl, w2, G2.he, by omega, G2.vas, fun v1 H3 b3 w3 h3 => ?_⟩
  have G3 := G2.but b3 w2
  refine ⟨line 2 (by decide), fun y1 ny1 => ?_⟩
  have s4 := same_new ny1 (.tup [.int (n : Int), v1])
  have hy1 : Va K (upd H3 y1 (.tup [.int (n : Int), v1])) (.ref y1) := Va.tup (SqT.of upd_same) (by simp) fun x hx => by
    simp only [List.mem_cons, List.mem_nil_iff, or_false] at hx
    rcases hx with rfl | rfl
    · exact .int _
    · exact h3.same s4
  generalize upd H3 y1 (.tup [.int (n : Int), v1]) = H4 at s4 hy1 ⊢
  have w4 := w3.same s4
  have G4 := G3.same s4
  refine ⟨_, rfl, p, rfl, w4, fun v2 H5 b5 w5 h5 => ?_⟩
  have G5 := G4.but b5 w4
  refine ⟨_, rfl, t, _, 1, _, rfl, rfl, G5.ht, a1, line 2 (by decide), fun y2 ny2 => ?_⟩
  have s6 := same_new ny2 (.tup [v2, .ref e])
  have hy2 : Va K (upd H5 y2 (.tup [v2, .ref e])) (.ref y2) := Va.tup (SqT.of upd_same) (by simp) fun x hx => by
    simp only [List.mem_cons, List.mem_nil_iff, or_false] at hx
    rcases hx with rfl | rfl
    · exact h5.same s6
    · exact (G5.ve (by omega)).same s6
  have hy1 := (hy1.but b5 w4 w5).same s6
  generalize upd H5 y2 (.tup [v2, .ref e]) = H6 at s6 hy1 hy2 ⊢
  have w6 := w5.same s6
  have G6 := G5.same s6
  refine ⟨_, rfl, _, rfl, p, t, _, rfl, w6, G6.ht, by simp, G6.vt (by omega), fun v3 H7 b7 w7 h7 => ?_⟩
  have G7 := G6.but b7 w6
  have hy1 := hy1.but b7 w6 w7
  have hy2 := hy2.but b7 w6 w7
  have b27 := b3.trans ((But.of s4).trans (b5.trans ((But.of s6).trans b7)))
  refine ⟨line 4 (by decide), fun F nF => ?_⟩
  have s8 := same_new nF (.lst [.ref t, .ref y1, .ref y2, v3])
  have hF := upd_same (H := H7) (a := F) (o := .lst [.ref t, .ref y1, .ref y2, v3])
  have Fp := w7.ne nF
  have vA : ∀ x ∈ [V.ref t, .ref y1, .ref y2, v3], Va K H7 x := fun x hx => by
    simp only [List.mem_cons, List.mem_nil_iff, or_false] at hx
    rcases hx with rfl | rfl | rfl | rfl
    · exact G7.va (by omega)
    · exact hy1
    · exact hy2
    · exact h7
  have lA : [V.ref t, .ref y1, .ref y2, v3].length = 4 := rfl
  generalize [V.ref t, .ref y1, .ref y2, v3] = wa at hF vA lA s8 ⊢
  generalize upd H7 F (.lst wa) = H8 at s8 hF ⊢
  have vA := fun x hx => (vA x hx).same s8
  have w8 := w7.same s8
  have G8 := G7.same s8
  have b28 := b27.trans (But.of s8)
  clear hy1 hy2 h7 h5 h3 b27 b7 b5 b3 s4 s6 G3 G4 G5 G6 G7 w3 w4 w5 w6 w7 ny1 ny2 nF s8
  refine ⟨_, rfl, _, rfl, p, 11, rfl, w8, by decide, by decide, fun d H9 _ _ b9 w9 => ?_⟩
  have G9 := G8.but b9 w8
  refine ⟨_, rfl, t, _, 1, _, rfl, rfl, G9.ht, a1, line 2 (by decide), fun y3 ny3 => ?_⟩
  have s10 := same_new ny3 (.tup [.int d, .ref e])
  have hy3 : Va K (upd H9 y3 (.tup [.int d, .ref e])) (.ref y3) := Va.tup (SqT.of upd_same) (by simp) fun x hx => by
    simp only [List.mem_cons, List.mem_nil_iff, or_false] at hx
    rcases hx with rfl | rfl
    · exact .int _
    · exact (G9.ve (by omega)).same s10
  generalize upd H9 y3 (.tup [.int d, .ref e]) = H10 at s10 hy3 ⊢
  have w10 := w9.same s10
  refine ⟨_, rfl, p, rfl, w10, fun v4 H11 b11 w11 h11 => ?_⟩
  have G11 := (G9.same s10).but b11 w10
  have hy3 := hy3.but b11 w10 w11
  refine ⟨_, rfl, t, _, rfl, .inr G11.ht, fun L nL => ?_⟩
  have s12 := same_new nL (.lst [.int (n : Int), .ref e])
  have hL : Va K (upd H11 L (.lst [.int (n : Int), .ref e])) (.ref L) := .lst (SqL.of upd_same)
  generalize upd H11 L (.lst [.int (n : Int), .ref e]) = H12 at s12 hL ⊢
  have G12 := G11.same s12
  refine ⟨_, rfl, t, _, 0, _, rfl, rfl, G12.ht, a0, _, rfl, t, _, 1, _, rfl, rfl, G12.ht, a1, e, xs, rfl, G12.he, fun r nr => ?_⟩
  have s13 := same_new nr (.tup xs.reverse)
  have hr' : Va K (upd H12 r (.tup xs.reverse)) (.ref r) := Va.tup (SqT.of upd_same) (by rw [List.length_reverse]; omega) fun x hx => (G12.vas x (List.mem_reverse.mp hx)).same s13
  generalize upd H12 r (.tup xs.reverse) = H13 at s13 hr' ⊢
  refine ⟨line 2 (by decide), fun y4 ny4 => ?_⟩
  have s14 := same_new ny4 (.tup [.int (n : Int), .ref r])
  have hy4 : Va K (upd H13 y4 (.tup [.int (n : Int), .ref r])) (.ref y4) := Va.tup (SqT.of upd_same) (by simp) fun x hx => by
    simp only [List.mem_cons, List.mem_nil_iff, or_false] at hx
    rcases hx with rfl | rfl
    · exact .int _
    · exact hr'.same s14
  generalize upd H13 y4 (.tup [.int (n : Int), .ref r]) = H14 at s14 hy4 ⊢
  have s124 := s12.trans (s13.trans s14)
  refine ⟨line 4 (by decide), fun F2 nF2 => ?_⟩
  have s15 := same_new nF2 (.lst [.ref y3, v4, .ref L, .ref y4])
  have hF2 := upd_same (H := H14) (a := F2) (o := .lst [.ref y3, v4, .ref L, .ref y4])
  have vB : ∀ x ∈ [V.ref y3, v4, .ref L, .ref y4], Va K H14 x := fun x hx => by
    simp only [List.mem_cons, List.mem_nil_iff, or_false] at hx
    rcases hx with rfl | rfl | rfl | rfl
    · exact hy3.same s124
    · exact h11.same s124
    · exact hL.same (s13.trans s14)
    · exact hy4
  have lB : [V.ref y3, v4, .ref L, .ref y4].length = 4 := rfl
  generalize [V.ref y3, v4, .ref L, .ref y4] = wb at hF2 vB lB s15 ⊢
  generalize upd H14 F2 (.lst wb) = H15 at s15 hF2 ⊢
  have bF : But p H8 H15 := b9.trans ((But.of s10).trans (b11.trans (But.of (s124.trans s15))))
  have w15 := w11.same (s124.trans s15)
  refine ⟨F, F2, _, _, rfl, rfl, bF _ _ Fp hF, hF2, line _ (by omega), fun F3 nF3 => ?_⟩
  have s16 := same_new nF3 (.lst (wa ++ wb))
  have hF3 := upd_same (H := H15) (a := F3) (o := .lst (wa ++ wb))
  have Fp3 := w15.ne nF3
  have vC : ∀ x ∈ wa ++ wb, Va K (upd H15 F3 (.lst (wa ++ wb))) x := fun x hx => (List.mem_append.mp hx).elim (fun hx => ((vA x hx).but bF w8 w15).same s16) (fun hx => ((vB x hx).same s15).same s16)
  have lC : (wa ++ wb).length = 8 := by rw [List.length_append, lA, lB]
  have b2C := b28.trans (bF.trans (But.of s16))
  have wC := w15.same s16
  have GC' := G2.but b2C w2
  generalize upd H15 F3 (.lst (wa ++ wb)) = HC at hF3 vC b2C wC GC' ⊢
  generalize wa ++ wb = wc at hF3 vC lC
  have nH3 : H F3 = none := by
    cases z : H F3 with
    | none => rfl
    | some u =>
      have := (b02.trans (b28.trans bF)) _ _ Fp3 z
      rw [nF3] at this
      cases this
  clear hy3 hy4 hL hr' vA vB lA lB bF b28 h11 s10 s12 s13 s14 s15 s124 s16 b9 b11 w8 w9 w10 w11 w15 G8 G9 G11 G12 hF hF2 nF2 ny3 ny4 nL nr nF3
  have b0C := b02.trans b2C
  refine' joinT (R := fun σ H' => ∃ (s4 : Option V) (ws : List V), σ = [some (.ref p), some y, some (.ref t), some (.ref F3), s4, s5', s6', s7', s8', s9', s10', s11', none] ∧ But p H H' ∧ Wl H' p ∧ Gr3 K H' t e xs n es ∧ H' F3 = some (.lst ws) ∧ (∀ x ∈ ws, Va K H' x) ∧ ws.length ≤ 9) (fun go => ?_) ?_
  rotate_left 1
  · refine ⟨_, rfl, t, _, 1, _, rfl, rfl, GC'.ht, a1, line 0 (by decide), fun z nz => ?_⟩
    have sz := same_new nz (.tup [])
    refine ⟨.tuple (es.map pairD), .tuple [], .tup (GC'.same sz).he (PairsAt.dp (GC'.same sz).hes), .tup (SqT.of upd_same) .nil, pairs_shaped es, pairs_shaped [], _, rfl, ?_⟩
    rw [eqv_nil]
    have wz := wC.same sz
    have Gz := GC'.same sz
    have hFz := sz _ _ hF3
    have vz := fun x hx => (vC x hx).same sz
    have b0z := b0C.trans (But.of sz)
    generalize upd HC z (.tup []) = Hz at wz Gz hFz vz b0z ⊢
    refine iteB (fun c => ?_) (fun _ => go _ _ ⟨_, wc, rfl, b0z, wz, Gz, hFz, vz, by omega⟩)
    have ne : es ≠ [] := by simpa using c
    have pos : 0 < xs.length := by
      rw [Gz.len]
      exact List.length_pos_iff.mpr ne
    refine ⟨_, rfl, _, rfl, _, rfl, t, _, 1, _, rfl, rfl, Gz.ht, a1, p, e, xs, rfl, wz, wz.off Gz.he, pos, by omega, fun j v H4 hv b4 w4 => ?_⟩
    have G4 := Gz.but b4 wz
    obtain ⟨u, i1, i2, rfl, hu⟩ := G4.pair v (List.mem_of_getElem? hv)
    refine ⟨p, u, _, rfl, w4, hu, by simp, fun x hx => ?_, fun v5 H5 b5 w5 h5 => ?_⟩
    · simp only [List.mem_cons, List.mem_nil_iff, or_false] at hx
      rcases hx with rfl | rfl <;> exact .int _
    have G5 := G4.but b5 w4
    have bz5 := b4.trans b5
    have hF5 := bz5 _ _ Fp3 hFz
    have v5s := fun x hx => (vz x hx).but bz5 wz w5
    refine ⟨_, rfl, .inl ⟨rfl, _, SqL.of hF5⟩, _, rfl, t, _, 0, _, rfl, rfl, G5.ht, a0, _, rfl, t, _, 1, _, rfl, rfl, G5.ht, a1, _, rfl, e, xs, rfl, G5.he, fun q1 H6 s6 hq1 => ?_⟩
    have cl := cutV_length xs (some 1) none
    have G6 := G5.same s6
    have sub : ∀ x ∈ cutV xs (some 1) none, x ∈ xs := fun x hx => List.mem_of_mem_drop (List.mem_of_mem_take hx)
    refine ⟨q1, _, rfl, hq1, fun x hx => G6.pair x (sub x hx), fun ys q2 pm nq2 => ?_⟩
    have s7 := same_new nq2 (.lst ys)
    have hq2 := upd_same (H := H6) (a := q2) (o := .lst ys)
    generalize upd H6 q2 (.lst ys) = H7 at s7 hq2 ⊢
    have ly := pm.length_eq
    refine ⟨q2, ys, rfl, .inl ⟨SqL.of hq2, fun q3 nq3 => ?_⟩⟩
    have s8 := same_new nq3 (.tup ys)
    have hq3 := upd_same (H := H7) (a := q3) (o := .tup ys)
    generalize upd H7 q3 (.tup ys) = H8 at s8 hq3 ⊢
    refine ⟨_, rfl, line 1 (by decide), fun z nz => ?_⟩
    have s9 := same_new nz (.tup [v5])
    have hz := upd_same (H := H8) (a := z) (o := .tup [v5])
    have hq3 := s9 _ _ hq3
    generalize upd H8 z (.tup [v5]) = H9 at s9 hz hq3 ⊢
    refine ⟨q3, z, _, _, rfl, rfl, SqT.of hq3, SqT.of hz, line _ (by rw [List.length_singleton]; omega), fun q4 H10 s10 hq4 => ?_⟩
    have s5A := s6.trans (s7.trans (s8.trans (s9.trans s10)))
    have v4' : Va K H10 (.ref q4) := Va.tup hq4 (by rw [List.length_append, List.length_singleton]; omega) fun x hx => by
      rcases List.mem_append.mp hx with hx | hx
      · exact (G5.same s5A).vas x (sub x (pm.mem_iff.mp hx))
      · rw [List.mem_singleton.mp hx]
        exact h5.same s5A
    refine ⟨line 2 (by decide), fun y ny => ?_⟩
    have s11 := same_new ny (.tup [.int (n : Int), .ref q4])
    have vy : Va K (upd H10 y (.tup [.int (n : Int), .ref q4])) (.ref y) := Va.tup (SqT.of upd_same) (by simp) fun x hx => by
      simp only [List.mem_cons, List.mem_nil_iff, or_false] at hx
      rcases hx with rfl | rfl
      · exact .int _
      · exact v4'.same s11
    generalize upd H10 y (.tup [.int (n : Int), .ref q4]) = H11 at s11 vy ⊢
    have s5B := s5A.trans s11
    have hFB := s5B _ _ hF5
    have wB := w5.same s5B
    refine ⟨F3, wc, _, rfl, rfl, hFB, small1000 (by omega), ?_⟩
    have kp := kp_put (K := K) (ws' := wc ++ [.ref y]) hFB
    refine go _ _ ⟨_, wc ++ [.ref y], rfl, but_putW (b0z.trans (bz5.trans (But.of s5B))) nH3, ?_, (G5.same s5B).ts (ts_put hFB), upd_same, fun x hx => ?_, by rw [List.length_append, List.length_singleton]; omega⟩
    · obtain ⟨a, b', c', hp⟩ := wB
      exact ⟨a, b', c', by rw [upd_ne (Ne.symm Fp3)]; exact hp⟩
    · rcases List.mem_append.mp hx with hx | hx
      · exact ((v5s x hx).same s5B).kp kp
      · rw [List.mem_singleton.mp hx]
        exact vy.kp kp
  rintro _ H3 ⟨s4', ws, rfl, b3, w3, G3, hF, vF, lF⟩
  refine ⟨_, rfl, F3, rfl, ⟨_, SqL.of hF⟩, for_it (walk_list (xs := ws)) (fun j σ H' => ∃ (s5 : Option V), σ = [some (.ref p), some y, some (.ref t), some (.ref F3), s4', s5, s6', s7', s8', s9', s10', s11', none] ∧ Same H3 H') ⟨_, rfl, Same.refl _⟩ (fun j σ H' _ ⟨_, _, s⟩ => SqL.of (s _ _ hF)) ?_ ?_⟩
  · rintro j v σ _ H4 lj ⟨s5'', rfl, s4⟩ ⟨rfl, hv⟩
    obtain ⟨s, sh, lb⟩ := (vF v (List.mem_of_getElem? hv)).same s4
    have sg := short_gr lb
    refine ⟨_, rfl, v, s, rfl, sh, sg, fun H5 s5 => ?_⟩
    refine ⟨_, rfl, v, s, rfl, sh.same s5, sg, fun H6 s6 => ?_⟩
    refine ⟨line 2 (by decide), fun A nA => ?_⟩
    have sA := same_new nA (.lst [.bl (isGr s), .bl (isGr s)])
    have hA := upd_same (H := H6) (a := A) (o := .lst [.bl (isGr s), .bl (isGr s)])
    generalize upd H6 A (.lst [.bl (isGr s), .bl (isGr s)]) = H7 at sA hA ⊢
    have s47 := s5.trans (s6.trans sA)
    refine ⟨_, rfl, v, s, rfl, sh.same s47, lb, line 1 (by decide), fun B nB => ?_⟩
    have sB := same_new nB (.lst [.bl (isGr s)])
    refine ⟨B, 2, [.bl (isGr s)], rfl, rfl, upd_same, by decide, by decide, line 2 (by decide), fun C nC => ?_⟩
    have e2 : (List.replicate (2 : Int).toNat [V.bl (isGr s)]).flatten = [.bl (isGr s), .bl (isGr s)] := rfl
    rw [e2]
    have sC := same_new nC (.lst [.bl (isGr s), .bl (isGr s)])
    obtain ⟨f, _⟩ := twoE_fine (isGr s)
    refine ⟨.ref A, .ref C, _, _, rfl, two_ddE ((sB.trans sC) _ _ hA), two_ddE upd_same, f, f, _, rfl, ?_⟩
    rw [decide_eq_true rfl]
    exact iteF ⟨_, rfl, s4.trans (s47.trans (sB.trans sC))⟩
  rintro σ H4 ⟨s5', rfl, s4⟩
  have G4 := G3.same s4
  have w4 := w3.same s4
  have b4 := b3.trans (But.of s4)
  clear G3 w3 b3 s4 hF vF lF
  refine ⟨_, rfl, _, rfl, t, _, 0, _, rfl, rfl, G4.ht, a0, n, rfl, n9, fun Fl xl L H5 s5 hFl hl al len => ?_⟩
  have G5 := G4.same s5
  have w5 := w4.same s5
  have l512 : L.length ≤ 512 := by
    rw [len]
    exact Nat.le_trans (Nat.pow_le_pow_right (by decide) n9) (by decide)
  have l1 : 0 < L.length := by
    rw [len]
    exact Nat.pow_pos (by decide)
  have ll := hl.len
  have Flp : Fl ≠ p := fun z => by
    subst z
    obtain ⟨a, c, d, hp⟩ := w5
    rw [hp] at hFl
    injection hFl with hFl
    injection hFl with hFl
    subst hFl
    obtain ⟨_, _, t', e', _⟩ := hl.get (i := 0) rfl
    cases e'
  refine ⟨p, Fl, xl, rfl, w5, hFl, Flp, by omega, by omega, fun j v H6 hv b6 w6 => ?_⟩
  obtain ⟨lot, hlot, hL⟩ := hl.get hv
  have lo := (al.2 lot).mp (List.mem_of_getElem? hlot)
  obtain ⟨u, rfl, hu⟩ := hL.but b6 w5
  have G6 := G5.but b6 w5
  have b06 := b4.trans ((But.of s5).trans b6)
  clear hL hv hl al len hFl Flp l1 l512 ll b6 G5 w5 s5 G4 w4 b4 hlot
  have few : (natV lot).length ≤ 9 := by
    unfold natV
    rw [List.length_map]
    exact Nat.le_trans lo.few n9
  have vl : ∀ {H' : Hp}, ∀ x ∈ natV lot, Va K H' x := fun x hx => by
    obtain ⟨k, _, rfl⟩ := List.mem_map.mp hx
    exact .int _
  have ub : ∀ {H1 H2 : Hp}, But p H1 H2 → Wl H1 p → TupF H1 u (natV lot) → TupF H2 u (natV lot) := fun b w h => by
    obtain ⟨u', e', h'⟩ := LotF.but b w (x := .ref u) (l := lot) ⟨u, rfl, h⟩
    cases e'
    exact h'
  refine ⟨_, rfl, _, rfl, _, rfl, p, u, _, rfl, w6, hu.sq, by omega, vl, fun v1 H7 b7 w7 h7 => ?_⟩
  have hu7 := ub b7 w6 hu
  refine ⟨_, rfl, _, rfl, p, u, _, rfl, w7, hu7.sq, by omega, vl, fun v2 H8 b8 w8 h8 => ?_⟩
  have hu8 := ub b8 w7 hu7
  refine ⟨_, rfl, p, rfl, w8, fun v3 H9 b9 w9 h9 => ?_⟩
  have hu9 := ub b9 w8 hu8
  have b69 := b7.trans (b8.trans b9)
  have G9 := G6.but b69 w6
  have v1' := h7.but (b8.trans b9) w7 w9
  have v2' := h8.but b9 w8 w9
  have b09 := b06.trans b69
  clear b7 b8 b9 w7 w8 w6 hu hu7 hu8 h7 h8 G6 b69 b06
  refine ⟨_, rfl, t, _, 0, _, rfl, rfl, G9.ht, a0, line 1 (by decide), fun y2 ny2 => ?_⟩
  have s10 := same_new ny2 (.tup [.int (n : Int)])
  have hy2 : Va K (upd H9 y2 (.tup [.int (n : Int)])) (.ref y2) := Va.tup (SqT.of upd_same) (by simp) fun x hx => by
    rw [List.mem_singleton.mp hx]
    exact .int _
  generalize upd H9 y2 (.tup [.int (n : Int)]) = H10 at s10 hy2 ⊢
  refine ⟨_, rfl, u, _, rfl, .inr (hu9.same s10).sq, fun Q1 nQ1 => ?_⟩
  have s11 := same_new nQ1 (.lst (natV lot))
  have hQ1 : Va K (upd H10 Q1 (.lst (natV lot))) (.ref Q1) := .lst (SqL.of upd_same)
  generalize upd H10 Q1 (.lst (natV lot)) = H11 at s11 hQ1 ⊢
  refine ⟨line 6 (by decide), fun T nT => ?_⟩
  have s12 := same_new nT (.tup [.ref u, v1, v2, v3, .ref y2, .ref Q1])
  have hT := upd_same (H := H11) (a := T) (o := .tup [.ref u, v1, v2, v3, .ref y2, .ref Q1])
  have vT : ∀ x ∈ [V.ref u, v1, v2, v3, .ref y2, .ref Q1], Va K H11 x := fun x hx => by
    simp only [List.mem_cons, List.mem_nil_iff, or_false] at hx
    have s911 := s10.trans s11
    rcases hx with rfl | rfl | rfl | rfl | rfl | rfl
    · exact Va.tup ((hu9.same s911).sq) (by omega) vl
    · exact v1'.same s911
    · exact v2'.same s911
    · exact h9.same s911
    · exact hy2.same s11
    · exact hQ1
  generalize [V.ref u, v1, v2, v3, .ref y2, .ref Q1] = wt at hT vT s12 ⊢
  generalize upd H11 T (.tup wt) = H12 at s12 hT ⊢
  have s912 := s10.trans (s11.trans s12)
  have hu12 := hu9.same s912
  have G12 := G9.same s912
  have w12 := w9.same s912
  have b12 := b09.trans (But.of s912)
  clear hQ1 hy2 v1' v2' h9 s10 s11 nQ1 nT ny2 hu9 G9 w9 b09 s912
  refine ⟨T, rfl, ⟨_, SqT.of hT⟩, for_it (walk_tup (xs := wt)) (fun j σ H' => ∃ (s5 s7 : Option V), σ = [some (.ref p), some y, some (.ref t), some (.ref F3), s4', s5, some (.ref u), s7, s8', s9', s10', s11', none] ∧ Same H12 H') ⟨_, _, rfl, Same.refl _⟩ (fun j σ H' _ ⟨_, _, _, s⟩ => SqT.of (s _ _ hT)) ?_ ?_⟩
  · rintro j v σ _ H13 lj ⟨s5'', s7'', rfl, s13⟩ ⟨rfl, hv⟩
    obtain ⟨s, sh, lb⟩ := (vT v (List.mem_of_getElem? hv)).same (s12.trans s13)
    have sl := short_lo lb
    have G13 := G12.same s13
    refine ⟨_, rfl, _, rfl, .ref t, n, es, v, s, rfl, G13.at, g, sh, sl, fun H14 s14 => ?_⟩
    refine ⟨_, rfl, _, rfl, _, _, rfl, .ref t, n, es, v, s, rfl, (G13.same s14).at, g, sh.same s14, sl, fun H15 s15 => ?_⟩
    refine ⟨line 2 (by decide), fun A nA => ?_⟩
    have sA := same_new nA (.lst [.bl (isLot n s), .bl (isLot n s)])
    have hA := upd_same (H := H15) (a := A) (o := .lst [.bl (isLot n s), .bl (isLot n s)])
    generalize upd H15 A (.lst [.bl (isLot n s), .bl (isLot n s)]) = H16 at sA hA ⊢
    have s136 := s14.trans (s15.trans sA)
    refine ⟨_, rfl, _, rfl, _, rfl, .ref t, n, es, v, s, rfl, (G13.same s136).at, n9, sh.same s136, lb, line 1 (by decide), fun B nB => ?_⟩
    have sB := same_new nB (.lst [.bl (isLot n s)])
    refine ⟨B, 2, [.bl (isLot n s)], rfl, rfl, upd_same, by decide, by decide, line 2 (by decide), fun C nC => ?_⟩
    have e2 : (List.replicate (2 : Int).toNat [V.bl (isLot n s)]).flatten = [.bl (isLot n s), .bl (isLot n s)] := rfl
    rw [e2]
    have sC := same_new nC (.lst [.bl (isLot n s), .bl (isLot n s)])
    obtain ⟨f, _⟩ := twoE_fine (isLot n s)
    refine ⟨.ref A, .ref C, _, _, rfl, two_ddE ((sB.trans sC) _ _ hA), two_ddE upd_same, f, f, _, rfl, ?_⟩
    rw [decide_eq_true rfl]
    exact iteF ⟨_, _, rfl, s13.trans (s136.trans (sB.trans sC))⟩
  rintro σ H13 ⟨s5'', s7'', rfl, s13⟩
  have G13 := G12.same s13
  have hu13 := hu12.same s13
  have w13 := w12.same s13
  have b13 := b12.trans (But.of s13)
  clear G12 hu12 w12 b12 s13 vT hT
  have gl : Good n (leftP n es) := good_left n9 es
  have gw : Good lot.length (withinP es lot) := tab_good (Nat.le_trans lo.few n9) _
  have gwl : Good lot.length (withinP (leftP n es) lot) := tab_good (Nat.le_trans lo.few n9) _
  have cv : ∀ {H'}, TupF H' u (natV lot) → TupF H' u ((lot.map fun k => ((k : Nat) : Int)).map V.int) := fun h => by
    rw [List.map_map]
    exact h
  refine ⟨_, rfl, .ref t, n, es, rfl, G13.at, n9, fun y8 H14 s14 hy8 => ?_⟩
  have hu14 := hu13.same s14
  refine ⟨_, rfl, _, rfl, .ref t, n, es, u, lot, rfl, (G13.same s14).at, g, cv hu14, lo, fun y9 H15 s15 hy9 => ?_⟩
  refine ⟨_, _, rfl, ?_⟩
  have s135 := s14.trans s15
  have G15 := G13.same s135
  have hu15 := hu13.same s135
  have hy8 := hy8.same s15
  have w15 := w13.same s135
  have b15 := b13.trans (But.of s135)
  clear s14 s15 hu14 hu13 G13 w13 b13 s135
  refine ⟨_, rfl, .ref t, n, es, rfl, G15.at, g, fun z1 H16 s16 hz1 => ?_⟩
  refine ⟨_, rfl, y8, n, leftP n es, rfl, (hy8.same s16).at, gl, fun z2 H17 s17 hz2 => ?_⟩
  rw [leftP2 g] at hz2
  have s157 := s16.trans s17
  refine ⟨_, rfl, _, rfl, .ref t, n, es, u, lot, rfl, (G15.same s157).at, g, cv (hu15.same s157), lo, fun z3 H18 s18 hz3 => ?_⟩
  refine ⟨line 3 (by decide), fun A nA => ?_⟩
  have sA := same_new nA (.lst [z1, z2, z3])
  have hA := upd_same (H := H18) (a := A) (o := .lst [z1, z2, z3])
  have hz1 := hz1.same (s17.trans (s18.trans sA))
  have hz2 := hz2.same (s18.trans sA)
  have hz3 := (hz3.at (K := K)).same sA
  have s15A := s157.trans (s18.trans sA)
  generalize upd H18 A (.lst [z1, z2, z3]) = H19 at sA hA hz1 hz2 hz3 s15A ⊢
  refine ⟨_, rfl, _, rfl, _, rfl, line 3 (by decide), fun B nB => ?_⟩
  have sB := same_new nB (.lst [y8, .ref t, y9])
  have hB := upd_same (H := H19) (a := B) (o := .lst [y8, .ref t, y9])
  have hA := sB _ _ hA
  have hz1 := hz1.same sB
  have hz2 := hz2.same sB
  have hz3 := hz3.same sB
  have s15B := s15A.trans sB
  generalize upd H19 B (.lst [y8, .ref t, y9]) = H20 at sB hA hB hz1 hz2 hz3 s15B ⊢
  have G20 := G15.same s15B
  have hy8 := hy8.same s15B
  have hy9 := hy9.same s15B
  have hu20 := hu15.same s15B
  obtain ⟨f3, nd3⟩ := three_fi gl g gw
  refine ⟨.ref A, .ref B, _, _, rfl, .dat (.lst (SqL.of hA) (.cons hz1.dp (.cons hz2.dp (.cons hz3.dp .nil)))) nd3, .dat (.lst (SqL.of hB) (.cons hy8.at.dp (.cons G20.at.dp (.cons hy9.at.dp .nil)))) nd3, f3, f3, _, rfl, ?_⟩
  rw [decide_eq_true rfl]
  refine iteF ?_
  have w20 := w15.same s15B
  have b20 := b15.trans (But.of s15B)
  clear hz1 hz2 hz3 hA hB sA sB s16 s17 s18 s157 s15A s15B nA nB w15 b15 G15 hu15
  refine ⟨_, rfl, _, rfl, _, _, rfl, y8, n, leftP n es, u, lot, rfl, hy8.at, gl, cv hu20, lo, fun z1 H21 s21 hz1 => ?_⟩
  refine ⟨z1, lot.length, withinP (leftP n es) lot, rfl, hz1.at, gwl, fun z2 H22 s22 hz2 => ?_⟩
  rw [within_left g lo] at hz2
  have s202 := s21.trans s22
  refine ⟨_, rfl, z2, y9, _, _, rfl, .dat hz2.dp (graph_nd _ _), .dat (hy9.same s202).at.dp (graph_nd _ _), graph_fi gw, graph_fi gw, _, rfl, ?_⟩
  rw [decide_eq_true rfl]
  refine iteF ?_
  have G22 := G20.same s202
  have w22 := w20.same s202
  have b22 := b20.trans (But.of s202)
  clear hz1 hz2 s21 s22 s202 G20 w20 b20 hy8 hy9 hu20
  refine ⟨_, rfl, t, _, 0, _, rfl, rfl, G22.ht, a0, (n : Int), rfl, by omega, by omega, for_it (walk_range (lo := 0) (n := ((n : Nat) : Int).toNat)) (fun j σ H' => ∃ (s10 s11 : Option V), σ = [some (.ref p), some y, some (.ref t), some (.ref F3), s4', s5'', some (.ref u), s7'', some y8, some y9, s10, s11, none] ∧ Same H22 H') ⟨_, _, rfl, Same.refl _⟩ (fun _ _ _ _ _ => trivial) ?_ ?_⟩
  rotate_left 1
  · rintro σ H23 ⟨s10', s11', rfl, s23⟩
    exact ⟨_, _, _, _, _, _, _, _, _, _, _, rfl, b22.trans (But.of s23), w22.same s23⟩
  rintro k v σ H23' H23 lk ⟨s10', s11', rfl, s23⟩ ⟨rfl, ev⟩
  obtain rfl : v = V.int ((k : Nat) : Int) := ev.trans (congrArg V.int (Int.zero_add _))
  have kn : k < n := by omega
  have G23 := G22.same s23
  have row : ∀ j, (List.range j).map (fun v => adjB es k v) = (List.range j).map (fun v => adjB es k v) := fun _ => rfl
  refine ⟨_, rfl, t, _, 0, _, rfl, rfl, G23.ht, a0, (n : Int), rfl, by omega, by omega, fun D nD => lc_range (lo := 0) (n := ((n : Nat) : Int).toNat) (fun j H' => Same H23 H' ∧ H' D = some (.lst (((List.range j).map fun v => adjB es k v).map V.bl))) ⟨same_new nD _, upd_same⟩ ?_ ?_⟩
  · rintro j H24 lj ⟨s24, hD⟩
    rw [show (0 : Int) + (j : Int) = (j : Int) by omega]
    have jn : j < n := by omega
    have fin : ∀ b H5, Same H24 H5 → b = adjB es k j → Same H23 (upd H5 D (.lst (((List.range j).map fun v => adjB es k v).map V.bl ++ [.bl b]))) ∧ upd H5 D (.lst (((List.range j).map fun v => adjB es k v).map V.bl ++ [.bl b])) D = some (.lst (((List.range (j + 1)).map fun v => adjB es k v).map V.bl)) := fun b H5 s5 e => by
      refine ⟨same_put (s24.trans s5) nD, ?_⟩
      rw [upd_same, List.range_succ, List.map_append, List.map_append, e]
      rfl
    have ln : (((List.range j).map fun v => adjB es k v).map V.bl).length < sizeLine := small1000 (by rw [List.length_map, List.length_map, List.length_range]; omega)
    refine ⟨rfl, ?_⟩
    refine ⟨_, rfl, _, rfl, rfl, _, rfl, iteB (fun c1 => ?_) (fun c1 => ⟨_, hD, ln, fin _ H24 (Same.refl _) ?_⟩)⟩
    · refine ⟨_, rfl, _, rfl, _, rfl, .ref t, n, es, k, j, rfl, (G23.same s24).at, fun H25 s25 => ?_⟩
      exact ⟨_, s25 _ _ hD, ln, fin _ H25 s25 rfl⟩
    · have e : k = j := by
        have z : decide (V.int ((k : Nat) : Int) = V.int ((j : Nat) : Int)) = true := by simpa using c1
        have z := of_decide_eq_true z
        injection z with z
        omega
      subst e
      cases c : adjB es k k with
      | false => rfl
      | true => exact absurd rfl (adj_ne g c).1
  rintro H24 ⟨s24, hD⟩
  rw [Int.toNat_natCast] at hD
  have G24 := G23.same s24
  refine ⟨_, rfl, t, _, 0, _, rfl, rfl, G24.ht, a0, (n : Int), rfl, by omega, by omega, fun D2 nD2 => lc_range (lo := 0) (n := ((n : Nat) : Int).toNat) (fun j H' => Same H24 H' ∧ H' D2 = some (.lst (((List.range j).map fun v => adjB es k v).map V.bl))) ⟨same_new nD2 _, upd_same⟩ ?_ ?_⟩
  · rintro j H25 lj ⟨s25, hD2⟩
    rw [show (0 : Int) + (j : Int) = (j : Int) by omega]
    have jn : j < n := by omega
    refine ⟨rfl, ?_⟩
    refine ⟨_, rfl, _, rfl, _, rfl, .ref t, n, es, k, j, rfl, (G24.same s25).at, g, kn, jn, fun H26 s26 => ?_⟩
    refine ⟨_, s26 _ _ hD2, small1000 (by rw [List.length_map, List.length_map, List.length_range]; omega), same_put (s25.trans s26) nD2, ?_⟩
    rw [upd_same, List.range_succ, List.map_append, List.map_append]
    rfl
  rintro H25 ⟨s25, hD2⟩
  rw [Int.toNat_natCast] at hD2
  obtain ⟨fb, nb⟩ := bools_fi (bs := (List.range n).map fun v => adjB es k v) (by rw [List.length_map, List.length_range]; exact n9)
  refine ⟨_, rfl, .ref D2, .ref D, _, _, rfl, .dat (.lst (SqL.of hD2) (bools_dp _)) nb, .dat (.lst (SqL.of (s25 _ _ hD)) (bools_dp _)) nb, fb, fb, _, rfl, ?_⟩
  rw [decide_eq_true rfl]
  exact iteF ⟨_, _, rfl, s23.trans (s24.trans s25)⟩
end
end My

set_option maxHeartbeats 4000000
/-! law, of the second family: a few turns, each right. -/
namespace My
open PySem PySem.Spec PyProof.Rows L2
abbrev sLaw : Stmt := top 46
theorem scLaw : FnScope ["script", "turn"] ["script"] (defScope sLaw) := ⟨rfl, rfl, rfl, by decide +kernel, rfl, by decide +kernel, by decide +kernel⟩
def spLaw (K : PySem.W.Frag) : Sp := fun vs H Q _ => ∃ (a : Addr) (ns : List Int), vs = [.ref a] ∧ SqL K H a (ns.map V.int) ∧ ns.length ≤ 63 ∧ ∀ H', Q (.bl true) H'
section
variable {P : Program} {w : World} {K : PySem.W.Frag} {mg : Str → Option Value} {base : Heap} {f fW fR : Addr} {fd dW dR : FuncData} {n : Nat}
theorem ok_law (F : L2.Fun K "law" "law" sLaw f fd) (GW : FnOk P w K mg base CX0 1 fW dW ["script", "turn"] (spWell K)) (bW : L2.Binds K dW ["script", "turn"] []) (kW : PySem.W.keepIn K (.ref fW) = true) (mW : mg "_law_well" = some (.ref fW))
    (GR : FnG P w K mg base CX0 (n + 1) fR dR ["well"] spRight) (bR : L2.Binds K dR ["well"] []) (kR : PySem.W.keepIn K (.ref fR) = true) (mR : mg "_law_right" = some (.ref fR))
    (mr : mg "range" = none) (ml : mg "len" = none) (ma : mg "all" = none) (mx : mg "max" = none) (mn : mg "min" = none) : FnG P w K mg base CX0 (n + 2) f fd ["script"] (spLaw K) := by
  refine okG F scLaw (fun vs H Q E h => ?_) (fun cdv A outer s H vs Q E gd hr h => ?_)
  · obtain ⟨a, ns, rfl, _⟩ := h
    rfl
  obtain ⟨a, ns, rfl, hS, h63, q⟩ := h
  have gd' : (A.deeper (envOfC "law" (defScope sLaw) s.heap.objs.size f cdv)).guards = some [] := gd
  refine ⟨_, pss_one (ps_ret (pe_callB (cr_all rfl) (by rfl) ma (by decide +kernel) (pa_cons (pe_lc (own := [("turn", 1)]) (g := gName 1) (tt := tYes) rfl scLaw.nd
      (pi_range1 rfl mr (pa_cons (pe_callB (call_max2 rfl) (by rfl) mx (by decide +kernel) (pa_cons pe_int (pa_cons (pe_callB (call_min2 rfl) (by rfl) mn (by decide +kernel) (pa_cons (pe_callB call_len_seq (by rfl) ml PySem.boot_len (pa_cons (pv 0) pa_nil)) (pa_cons pe_int pa_nil))) pa_nil))) pa_nil))
      (blkOk_by (N := ["script", "turn"]) (sc := defScope sLaw) (by decide +kernel)) (fun _ _ _ _ _ => pg_name (i := 1) scLaw.nd rfl (Or.inl rfl)) (fun _ _ _ _ _ => pts_nil)
      (fun _ _ _ _ _ => pe_callG GR gd' hr (by rfl) mR kR bR pass0 (pa_cons (pe_call GW (hr.mono (Nat.le_add_left 1 n)) (by rfl) mW kW bW .nil pass0 (pa_cons (pv 0) (pa_cons (pv 1) pa_nil))) pa_nil))) pa_nil))), ?_⟩
  have hl : (ns.map V.int).length = ns.length := List.length_map _
  refine ⟨_, rfl, a, _, rfl, .inl hS, _, _, rfl, _, _, rfl, ?_⟩
  rw [hl]
  obtain ⟨j, hj, j0, j3⟩ : ∃ j : Int, (if (if (3 : Int) < ((ns.length : Nat) : Int) then (3 : Int) else ((ns.length : Nat) : Int)) > 2 then (if (3 : Int) < ((ns.length : Nat) : Int) then (3 : Int) else ((ns.length : Nat) : Int)) else 2) = j ∧ 0 ≤ j ∧ j ≤ 3 := by
    refine ⟨_, rfl, ?_, ?_⟩
    · split <;> (try split) <;> omega
    · split <;> (try split) <;> omega
  rw [hj]
  refine ⟨j, rfl, by omega, by omega, fun D nD => lc_range (lo := 0) (n := j.toNat) (fun k H' => Same H H' ∧ H' D = some (.lst ((List.replicate k true).map V.bl))) ⟨same_new nD _, upd_same⟩ ?_ ?_⟩
  · rintro k H1 lk ⟨s1, hD⟩
    rw [Int.zero_add]
    refine ⟨rfl, ?_⟩
    refine ⟨_, rfl, _, rfl, a, ns, k, rfl, L2.Same.seq s1 hS, h63, by omega, fun H2 p s2 np wl => ⟨p, rfl, wl, fun H3 bt => ?_⟩⟩
    have s3 : Same H1 H3 := fun b o e => bt b o (ne_of_none e np) (s2 b o e)
    refine ⟨_, s3 _ _ hD, ?_, same_put (s1.trans s3) nD, ?_⟩
    · rw [List.length_map, List.length_replicate]
      exact small1000 (by omega)
    · rw [upd_same, List.replicate_succ', List.map_append]
      rfl
  · rintro H1 ⟨s1, hD⟩
    refine ⟨D, List.replicate j.toNat true, rfl, SqL.of hD, ?_⟩
    have e : (List.replicate j.toNat true).all id = true := by simp
    rw [e]
    exact q H1
end
end My

set_option maxHeartbeats 16000000
namespace My
open PySem PySem.Spec PyProof.Rows L2
theorem all_mk {l : PySem.W.OpenLaw} {w : World} {K : PySem.W.Frag} {h : Heap} {mg : Str → Option Value} {fa f_is_whole f_is_whole_from f_is_tuple_of_two f_is_ascending f_is_graph f_is_vertex_pair f_check_graph f_is_lot f_check_lot f_check_vertex f_are_adjacent f_ordered f_complement f_induced f__law_well f__law_draw f__law_pick f__law_same f__law_of_pairs f__law_turned f__law_round f__law_called f__law_order f__law_random f__law_sides f__law_beside f__law_folded f__law_grown f__law_graph f__law_lots f__law_is_tied f__law_within f__law_is_whole f__law_is_told f__law_is_some f__law_odd f__law_bent f__law_right f_law : Addr} {tkV : Tok} (X : K.In h) (GN : h.Ns mainGlobals mg) (hfa : mg "law" = some (.ref fa))
    {fo_is_whole fk_is_whole fe_is_whole fm_is_whole fc_is_whole ft_is_whole : Value} {fD_is_whole fN_is_whole : Option Addr} {fS_is_whole : Array (Option Value)}
    (fa_is_whole : PySem.W.nsIn K mainGlobals "is_whole" = some (some (.ref f_is_whole)))
    (fl_is_whole : K.lookup f_is_whole = some ⟨fo_is_whole, fD_is_whole, .func (PySem.W.fnOf "is_whole" "is_whole" (defArgs (top 7)) (defBody (top 7)) (defScope (top 7)) .none fk_is_whole fe_is_whole fm_is_whole fN_is_whole fc_is_whole ft_is_whole), fS_is_whole⟩)
    (fcc_is_whole : PySem.W.codeIn K fc_is_whole "is_whole" = true)
    (fq_is_whole : PySem.W.keepIn K (.ref f_is_whole) = true)
    {fo_is_whole_from fk_is_whole_from fe_is_whole_from fm_is_whole_from fc_is_whole_from ft_is_whole_from : Value} {fD_is_whole_from fN_is_whole_from : Option Addr} {fS_is_whole_from : Array (Option Value)}
    (fa_is_whole_from : PySem.W.nsIn K mainGlobals "is_whole_from" = some (some (.ref f_is_whole_from)))
    (fl_is_whole_from : K.lookup f_is_whole_from = some ⟨fo_is_whole_from, fD_is_whole_from, .func (PySem.W.fnOf "is_whole_from" "is_whole_from" (defArgs (top 8)) (defBody (top 8)) (defScope (top 8)) .none fk_is_whole_from fe_is_whole_from fm_is_whole_from fN_is_whole_from fc_is_whole_from ft_is_whole_from), fS_is_whole_from⟩)
    (fcc_is_whole_from : PySem.W.codeIn K fc_is_whole_from "is_whole_from" = true)
    (fq_is_whole_from : PySem.W.keepIn K (.ref f_is_whole_from) = true)
    {fo_is_tuple_of_two fk_is_tuple_of_two fe_is_tuple_of_two fm_is_tuple_of_two fc_is_tuple_of_two ft_is_tuple_of_two : Value} {fD_is_tuple_of_two fN_is_tuple_of_two : Option Addr} {fS_is_tuple_of_two : Array (Option Value)}
    (fa_is_tuple_of_two : PySem.W.nsIn K mainGlobals "is_tuple_of_two" = some (some (.ref f_is_tuple_of_two)))
    (fl_is_tuple_of_two : K.lookup f_is_tuple_of_two = some ⟨fo_is_tuple_of_two, fD_is_tuple_of_two, .func (PySem.W.fnOf "is_tuple_of_two" "is_tuple_of_two" (defArgs (top 9)) (defBody (top 9)) (defScope (top 9)) .none fk_is_tuple_of_two fe_is_tuple_of_two fm_is_tuple_of_two fN_is_tuple_of_two fc_is_tuple_of_two ft_is_tuple_of_two), fS_is_tuple_of_two⟩)
    (fcc_is_tuple_of_two : PySem.W.codeIn K fc_is_tuple_of_two "is_tuple_of_two" = true)
    (fq_is_tuple_of_two : PySem.W.keepIn K (.ref f_is_tuple_of_two) = true)
    {fo_is_ascending fk_is_ascending fe_is_ascending fm_is_ascending fc_is_ascending ft_is_ascending : Value} {fD_is_ascending fN_is_ascending : Option Addr} {fS_is_ascending : Array (Option Value)}
    (fa_is_ascending : PySem.W.nsIn K mainGlobals "is_ascending" = some (some (.ref f_is_ascending)))
    (fl_is_ascending : K.lookup f_is_ascending = some ⟨fo_is_ascending, fD_is_ascending, .func (PySem.W.fnOf "is_ascending" "is_ascending" (defArgs (top 10)) (defBody (top 10)) (defScope (top 10)) .none fk_is_ascending fe_is_ascending fm_is_ascending fN_is_ascending fc_is_ascending ft_is_ascending), fS_is_ascending⟩)
    (fcc_is_ascending : PySem.W.codeIn K fc_is_ascending "is_ascending" = true)
    (fq_is_ascending : PySem.W.keepIn K (.ref f_is_ascending) = true)
    {fo_is_graph fk_is_graph fe_is_graph fm_is_graph fc_is_graph ft_is_graph : Value} {fD_is_graph fN_is_graph : Option Addr} {fS_is_graph : Array (Option Value)}
    (fa_is_graph : PySem.W.nsIn K mainGlobals "is_graph" = some (some (.ref f_is_graph)))
    (fl_is_graph : K.lookup f_is_graph = some ⟨fo_is_graph, fD_is_graph, .func (PySem.W.fnOf "is_graph" "is_graph" (defArgs (top 11)) (defBody (top 11)) (defScope (top 11)) .none fk_is_graph fe_is_graph fm_is_graph fN_is_graph fc_is_graph ft_is_graph), fS_is_graph⟩)
    (fcc_is_graph : PySem.W.codeIn K fc_is_graph "is_graph" = true)
    (fq_is_graph : PySem.W.keepIn K (.ref f_is_graph) = true)
    {fo_is_vertex_pair fk_is_vertex_pair fe_is_vertex_pair fm_is_vertex_pair fc_is_vertex_pair ft_is_vertex_pair : Value} {fD_is_vertex_pair fN_is_vertex_pair : Option Addr} {fS_is_vertex_pair : Array (Option Value)}
    (fa_is_vertex_pair : PySem.W.nsIn K mainGlobals "is_vertex_pair" = some (some (.ref f_is_vertex_pair)))
    (fl_is_vertex_pair : K.lookup f_is_vertex_pair = some ⟨fo_is_vertex_pair, fD_is_vertex_pair, .func (PySem.W.fnOf "is_vertex_pair" "is_vertex_pair" (defArgs (top 12)) (defBody (top 12)) (defScope (top 12)) .none fk_is_vertex_pair fe_is_vertex_pair fm_is_vertex_pair fN_is_vertex_pair fc_is_vertex_pair ft_is_vertex_pair), fS_is_vertex_pair⟩)
    (fcc_is_vertex_pair : PySem.W.codeIn K fc_is_vertex_pair "is_vertex_pair" = true)
    (fq_is_vertex_pair : PySem.W.keepIn K (.ref f_is_vertex_pair) = true)
    {fo_check_graph fk_check_graph fe_check_graph fm_check_graph fc_check_graph ft_check_graph : Value} {fD_check_graph fN_check_graph : Option Addr} {fS_check_graph : Array (Option Value)}
    (fa_check_graph : PySem.W.nsIn K mainGlobals "check_graph" = some (some (.ref f_check_graph)))
    (fl_check_graph : K.lookup f_check_graph = some ⟨fo_check_graph, fD_check_graph, .func (PySem.W.fnOf "check_graph" "check_graph" (defArgs (top 13)) (defBody (top 13)) (defScope (top 13)) .none fk_check_graph fe_check_graph fm_check_graph fN_check_graph fc_check_graph ft_check_graph), fS_check_graph⟩)
    (fcc_check_graph : PySem.W.codeIn K fc_check_graph "check_graph" = true)
    (fq_check_graph : PySem.W.keepIn K (.ref f_check_graph) = true)
    {fo_is_lot fk_is_lot fe_is_lot fm_is_lot fc_is_lot ft_is_lot : Value} {fD_is_lot fN_is_lot : Option Addr} {fS_is_lot : Array (Option Value)}
    (fa_is_lot : PySem.W.nsIn K mainGlobals "is_lot" = some (some (.ref f_is_lot)))
    (fl_is_lot : K.lookup f_is_lot = some ⟨fo_is_lot, fD_is_lot, .func (PySem.W.fnOf "is_lot" "is_lot" (defArgs (top 14)) (defBody (top 14)) (defScope (top 14)) .none fk_is_lot fe_is_lot fm_is_lot fN_is_lot fc_is_lot ft_is_lot), fS_is_lot⟩)
    (fcc_is_lot : PySem.W.codeIn K fc_is_lot "is_lot" = true)
    (fq_is_lot : PySem.W.keepIn K (.ref f_is_lot) = true)
    {fo_check_lot fk_check_lot fe_check_lot fm_check_lot fc_check_lot ft_check_lot : Value} {fD_check_lot fN_check_lot : Option Addr} {fS_check_lot : Array (Option Value)}
    (fa_check_lot : PySem.W.nsIn K mainGlobals "check_lot" = some (some (.ref f_check_lot)))
    (fl_check_lot : K.lookup f_check_lot = some ⟨fo_check_lot, fD_check_lot, .func (PySem.W.fnOf "check_lot" "check_lot" (defArgs (top 15)) (defBody (top 15)) (defScope (top 15)) .none fk_check_lot fe_check_lot fm_check_lot fN_check_lot fc_check_lot ft_check_lot), fS_check_lot⟩)
    (fcc_check_lot : PySem.W.codeIn K fc_check_lot "check_lot" = true)
    (fq_check_lot : PySem.W.keepIn K (.ref f_check_lot) = true)
    {fo_check_vertex fk_check_vertex fe_check_vertex fm_check_vertex fc_check_vertex ft_check_vertex : Value} {fD_check_vertex fN_check_vertex : Option Addr} {fS_check_vertex : Array (Option Value)}
    (fa_check_vertex : PySem.W.nsIn K mainGlobals "check_vertex" = some (some (.ref f_check_vertex)))
    (fl_check_vertex : K.lookup f_check_vertex = some ⟨fo_check_vertex, fD_check_vertex, .func (PySem.W.fnOf "check_vertex" "check_vertex" (defArgs (top 16)) (defBody (top 16)) (defScope (top 16)) .none fk_check_vertex fe_check_vertex fm_check_vertex fN_check_vertex fc_check_vertex ft_check_vertex), fS_check_vertex⟩)
    (fcc_check_vertex : PySem.W.codeIn K fc_check_vertex "check_vertex" = true)
    (fq_check_vertex : PySem.W.keepIn K (.ref f_check_vertex) = true)
    {fo_are_adjacent fk_are_adjacent fe_are_adjacent fm_are_adjacent fc_are_adjacent ft_are_adjacent : Value} {fD_are_adjacent fN_are_adjacent : Option Addr} {fS_are_adjacent : Array (Option Value)}
    (fa_are_adjacent : PySem.W.nsIn K mainGlobals "are_adjacent" = some (some (.ref f_are_adjacent)))
    (fl_are_adjacent : K.lookup f_are_adjacent = some ⟨fo_are_adjacent, fD_are_adjacent, .func (PySem.W.fnOf "are_adjacent" "are_adjacent" (defArgs (top 17)) (defBody (top 17)) (defScope (top 17)) .none fk_are_adjacent fe_are_adjacent fm_are_adjacent fN_are_adjacent fc_are_adjacent ft_are_adjacent), fS_are_adjacent⟩)
    (fcc_are_adjacent : PySem.W.codeIn K fc_are_adjacent "are_adjacent" = true)
    (fq_are_adjacent : PySem.W.keepIn K (.ref f_are_adjacent) = true)
    {fo_ordered fk_ordered fe_ordered fm_ordered fc_ordered ft_ordered : Value} {fD_ordered fN_ordered : Option Addr} {fS_ordered : Array (Option Value)}
    (fa_ordered : PySem.W.nsIn K mainGlobals "ordered" = some (some (.ref f_ordered)))
    (fl_ordered : K.lookup f_ordered = some ⟨fo_ordered, fD_ordered, .func (PySem.W.fnOf "ordered" "ordered" (defArgs (top 18)) (defBody (top 18)) (defScope (top 18)) .none fk_ordered fe_ordered fm_ordered fN_ordered fc_ordered ft_ordered), fS_ordered⟩)
    (fcc_ordered : PySem.W.codeIn K fc_ordered "ordered" = true)
    (fq_ordered : PySem.W.keepIn K (.ref f_ordered) = true)
    {fo_complement fk_complement fe_complement fm_complement fc_complement ft_complement : Value} {fD_complement fN_complement : Option Addr} {fS_complement : Array (Option Value)}
    (fa_complement : PySem.W.nsIn K mainGlobals "complement" = some (some (.ref f_complement)))
    (fl_complement : K.lookup f_complement = some ⟨fo_complement, fD_complement, .func (PySem.W.fnOf "complement" "complement" (defArgs (top 19)) (defBody (top 19)) (defScope (top 19)) .none fk_complement fe_complement fm_complement fN_complement fc_complement ft_complement), fS_complement⟩)
    (fcc_complement : PySem.W.codeIn K fc_complement "complement" = true)
    (fq_complement : PySem.W.keepIn K (.ref f_complement) = true)
    {fo_induced fk_induced fe_induced fm_induced fc_induced ft_induced : Value} {fD_induced fN_induced : Option Addr} {fS_induced : Array (Option Value)}
    (fa_induced : PySem.W.nsIn K mainGlobals "induced" = some (some (.ref f_induced)))
    (fl_induced : K.lookup f_induced = some ⟨fo_induced, fD_induced, .func (PySem.W.fnOf "induced" "induced" (defArgs (top 20)) (defBody (top 20)) (defScope (top 20)) .none fk_induced fe_induced fm_induced fN_induced fc_induced ft_induced), fS_induced⟩)
    (fcc_induced : PySem.W.codeIn K fc_induced "induced" = true)
    (fq_induced : PySem.W.keepIn K (.ref f_induced) = true)
    {fo__law_well fk__law_well fe__law_well fm__law_well fc__law_well ft__law_well : Value} {fD__law_well fN__law_well : Option Addr} {fS__law_well : Array (Option Value)}
    (fa__law_well : PySem.W.nsIn K mainGlobals "_law_well" = some (some (.ref f__law_well)))
    (fl__law_well : K.lookup f__law_well = some ⟨fo__law_well, fD__law_well, .func (PySem.W.fnOf "_law_well" "_law_well" (defArgs (top 22)) (defBody (top 22)) (defScope (top 22)) .none fk__law_well fe__law_well fm__law_well fN__law_well fc__law_well ft__law_well), fS__law_well⟩)
    (fcc__law_well : PySem.W.codeIn K fc__law_well "_law_well" = true)
    (fq__law_well : PySem.W.keepIn K (.ref f__law_well) = true)
    {fo__law_draw fk__law_draw fe__law_draw fm__law_draw fc__law_draw ft__law_draw : Value} {fD__law_draw fN__law_draw : Option Addr} {fS__law_draw : Array (Option Value)}
    (fa__law_draw : PySem.W.nsIn K mainGlobals "_law_draw" = some (some (.ref f__law_draw)))
    (fl__law_draw : K.lookup f__law_draw = some ⟨fo__law_draw, fD__law_draw, .func (PySem.W.fnOf "_law_draw" "_law_draw" (defArgs (top 23)) (defBody (top 23)) (defScope (top 23)) .none fk__law_draw fe__law_draw fm__law_draw fN__law_draw fc__law_draw ft__law_draw), fS__law_draw⟩)
    (fcc__law_draw : PySem.W.codeIn K fc__law_draw "_law_draw" = true)
    (fq__law_draw : PySem.W.keepIn K (.ref f__law_draw) = true)
    {fo__law_pick fk__law_pick fe__law_pick fm__law_pick fc__law_pick ft__law_pick : Value} {fD__law_pick fN__law_pick : Option Addr} {fS__law_pick : Array (Option Value)}
    (fa__law_pick : PySem.W.nsIn K mainGlobals "_law_pick" = some (some (.ref f__law_pick)))
    (fl__law_pick : K.lookup f__law_pick = some ⟨fo__law_pick, fD__law_pick, .func (PySem.W.fnOf "_law_pick" "_law_pick" (defArgs (top 24)) (defBody (top 24)) (defScope (top 24)) .none fk__law_pick fe__law_pick fm__law_pick fN__law_pick fc__law_pick ft__law_pick), fS__law_pick⟩)
    (fcc__law_pick : PySem.W.codeIn K fc__law_pick "_law_pick" = true)
    (fq__law_pick : PySem.W.keepIn K (.ref f__law_pick) = true)
    {fo__law_same fk__law_same fe__law_same fm__law_same fc__law_same ft__law_same : Value} {fD__law_same fN__law_same : Option Addr} {fS__law_same : Array (Option Value)}
    (fa__law_same : PySem.W.nsIn K mainGlobals "_law_same" = some (some (.ref f__law_same)))
    (fl__law_same : K.lookup f__law_same = some ⟨fo__law_same, fD__law_same, .func (PySem.W.fnOf "_law_same" "_law_same" (defArgs (top 25)) (defBody (top 25)) (defScope (top 25)) .none fk__law_same fe__law_same fm__law_same fN__law_same fc__law_same ft__law_same), fS__law_same⟩)
    (fcc__law_same : PySem.W.codeIn K fc__law_same "_law_same" = true)
    (fq__law_same : PySem.W.keepIn K (.ref f__law_same) = true)
    {fo__law_of_pairs fk__law_of_pairs fe__law_of_pairs fm__law_of_pairs fc__law_of_pairs ft__law_of_pairs : Value} {fD__law_of_pairs fN__law_of_pairs : Option Addr} {fS__law_of_pairs : Array (Option Value)}
    (fa__law_of_pairs : PySem.W.nsIn K mainGlobals "_law_of_pairs" = some (some (.ref f__law_of_pairs)))
    (fl__law_of_pairs : K.lookup f__law_of_pairs = some ⟨fo__law_of_pairs, fD__law_of_pairs, .func (PySem.W.fnOf "_law_of_pairs" "_law_of_pairs" (defArgs (top 26)) (defBody (top 26)) (defScope (top 26)) .none fk__law_of_pairs fe__law_of_pairs fm__law_of_pairs fN__law_of_pairs fc__law_of_pairs ft__law_of_pairs), fS__law_of_pairs⟩)
    (fcc__law_of_pairs : PySem.W.codeIn K fc__law_of_pairs "_law_of_pairs" = true)
    (fq__law_of_pairs : PySem.W.keepIn K (.ref f__law_of_pairs) = true)
    {fo__law_turned fk__law_turned fe__law_turned fm__law_turned fc__law_turned ft__law_turned : Value} {fD__law_turned fN__law_turned : Option Addr} {fS__law_turned : Array (Option Value)}
    (fa__law_turned : PySem.W.nsIn K mainGlobals "_law_turned" = some (some (.ref f__law_turned)))
    (fl__law_turned : K.lookup f__law_turned = some ⟨fo__law_turned, fD__law_turned, .func (PySem.W.fnOf "_law_turned" "_law_turned" (defArgs (top 27)) (defBody (top 27)) (defScope (top 27)) .none fk__law_turned fe__law_turned fm__law_turned fN__law_turned fc__law_turned ft__law_turned), fS__law_turned⟩)
    (fcc__law_turned : PySem.W.codeIn K fc__law_turned "_law_turned" = true)
    (fq__law_turned : PySem.W.keepIn K (.ref f__law_turned) = true)
    {fo__law_round fk__law_round fe__law_round fm__law_round fc__law_round ft__law_round : Value} {fD__law_round fN__law_round : Option Addr} {fS__law_round : Array (Option Value)}
    (fa__law_round : PySem.W.nsIn K mainGlobals "_law_round" = some (some (.ref f__law_round)))
    (fl__law_round : K.lookup f__law_round = some ⟨fo__law_round, fD__law_round, .func (PySem.W.fnOf "_law_round" "_law_round" (defArgs (top 28)) (defBody (top 28)) (defScope (top 28)) .none fk__law_round fe__law_round fm__law_round fN__law_round fc__law_round ft__law_round), fS__law_round⟩)
    (fcc__law_round : PySem.W.codeIn K fc__law_round "_law_round" = true)
    (fq__law_round : PySem.W.keepIn K (.ref f__law_round) = true)
    {fo__law_called fk__law_called fe__law_called fm__law_called fc__law_called ft__law_called : Value} {fD__law_called fN__law_called : Option Addr} {fS__law_called : Array (Option Value)}
    (fa__law_called : PySem.W.nsIn K mainGlobals "_law_called" = some (some (.ref f__law_called)))
    (fl__law_called : K.lookup f__law_called = some ⟨fo__law_called, fD__law_called, .func (PySem.W.fnOf "_law_called" "_law_called" (defArgs (top 29)) (defBody (top 29)) (defScope (top 29)) .none fk__law_called fe__law_called fm__law_called fN__law_called fc__law_called ft__law_called), fS__law_called⟩)
    (fcc__law_called : PySem.W.codeIn K fc__law_called "_law_called" = true)
    (fq__law_called : PySem.W.keepIn K (.ref f__law_called) = true)
    {fo__law_order fk__law_order fe__law_order fm__law_order fc__law_order ft__law_order : Value} {fD__law_order fN__law_order : Option Addr} {fS__law_order : Array (Option Value)}
    (fa__law_order : PySem.W.nsIn K mainGlobals "_law_order" = some (some (.ref f__law_order)))
    (fl__law_order : K.lookup f__law_order = some ⟨fo__law_order, fD__law_order, .func (PySem.W.fnOf "_law_order" "_law_order" (defArgs (top 30)) (defBody (top 30)) (defScope (top 30)) .none fk__law_order fe__law_order fm__law_order fN__law_order fc__law_order ft__law_order), fS__law_order⟩)
    (fcc__law_order : PySem.W.codeIn K fc__law_order "_law_order" = true)
    (fq__law_order : PySem.W.keepIn K (.ref f__law_order) = true)
    {fo__law_random fk__law_random fe__law_random fm__law_random fc__law_random ft__law_random : Value} {fD__law_random fN__law_random : Option Addr} {fS__law_random : Array (Option Value)}
    (fa__law_random : PySem.W.nsIn K mainGlobals "_law_random" = some (some (.ref f__law_random)))
    (fl__law_random : K.lookup f__law_random = some ⟨fo__law_random, fD__law_random, .func (PySem.W.fnOf "_law_random" "_law_random" (defArgs (top 31)) (defBody (top 31)) (defScope (top 31)) .none fk__law_random fe__law_random fm__law_random fN__law_random fc__law_random ft__law_random), fS__law_random⟩)
    (fcc__law_random : PySem.W.codeIn K fc__law_random "_law_random" = true)
    (fq__law_random : PySem.W.keepIn K (.ref f__law_random) = true)
    {fo__law_sides fk__law_sides fe__law_sides fm__law_sides fc__law_sides ft__law_sides : Value} {fD__law_sides fN__law_sides : Option Addr} {fS__law_sides : Array (Option Value)}
    (fa__law_sides : PySem.W.nsIn K mainGlobals "_law_sides" = some (some (.ref f__law_sides)))
    (fl__law_sides : K.lookup f__law_sides = some ⟨fo__law_sides, fD__law_sides, .func (PySem.W.fnOf "_law_sides" "_law_sides" (defArgs (top 32)) (defBody (top 32)) (defScope (top 32)) .none fk__law_sides fe__law_sides fm__law_sides fN__law_sides fc__law_sides ft__law_sides), fS__law_sides⟩)
    (fcc__law_sides : PySem.W.codeIn K fc__law_sides "_law_sides" = true)
    (fq__law_sides : PySem.W.keepIn K (.ref f__law_sides) = true)
    {fo__law_beside fk__law_beside fe__law_beside fm__law_beside fc__law_beside ft__law_beside : Value} {fD__law_beside fN__law_beside : Option Addr} {fS__law_beside : Array (Option Value)}
    (fa__law_beside : PySem.W.nsIn K mainGlobals "_law_beside" = some (some (.ref f__law_beside)))
    (fl__law_beside : K.lookup f__law_beside = some ⟨fo__law_beside, fD__law_beside, .func (PySem.W.fnOf "_law_beside" "_law_beside" (defArgs (top 33)) (defBody (top 33)) (defScope (top 33)) .none fk__law_beside fe__law_beside fm__law_beside fN__law_beside fc__law_beside ft__law_beside), fS__law_beside⟩)
    (fcc__law_beside : PySem.W.codeIn K fc__law_beside "_law_beside" = true)
    (fq__law_beside : PySem.W.keepIn K (.ref f__law_beside) = true)
    {fo__law_folded fk__law_folded fe__law_folded fm__law_folded fc__law_folded ft__law_folded : Value} {fD__law_folded fN__law_folded : Option Addr} {fS__law_folded : Array (Option Value)}
    (fa__law_folded : PySem.W.nsIn K mainGlobals "_law_folded" = some (some (.ref f__law_folded)))
    (fl__law_folded : K.lookup f__law_folded = some ⟨fo__law_folded, fD__law_folded, .func (PySem.W.fnOf "_law_folded" "_law_folded" (defArgs (top 34)) (defBody (top 34)) (defScope (top 34)) .none fk__law_folded fe__law_folded fm__law_folded fN__law_folded fc__law_folded ft__law_folded), fS__law_folded⟩)
    (fcc__law_folded : PySem.W.codeIn K fc__law_folded "_law_folded" = true)
    (fq__law_folded : PySem.W.keepIn K (.ref f__law_folded) = true)
    {fo__law_grown fk__law_grown fe__law_grown fm__law_grown fc__law_grown ft__law_grown : Value} {fD__law_grown fN__law_grown : Option Addr} {fS__law_grown : Array (Option Value)}
    (fa__law_grown : PySem.W.nsIn K mainGlobals "_law_grown" = some (some (.ref f__law_grown)))
    (fl__law_grown : K.lookup f__law_grown = some ⟨fo__law_grown, fD__law_grown, .func (PySem.W.fnOf "_law_grown" "_law_grown" (defArgs (top 35)) (defBody (top 35)) (defScope (top 35)) .none fk__law_grown fe__law_grown fm__law_grown fN__law_grown fc__law_grown ft__law_grown), fS__law_grown⟩)
    (fcc__law_grown : PySem.W.codeIn K fc__law_grown "_law_grown" = true)
    (fq__law_grown : PySem.W.keepIn K (.ref f__law_grown) = true)
    {fo__law_graph fk__law_graph fe__law_graph fm__law_graph fc__law_graph ft__law_graph : Value} {fD__law_graph fN__law_graph : Option Addr} {fS__law_graph : Array (Option Value)}
    (fa__law_graph : PySem.W.nsIn K mainGlobals "_law_graph" = some (some (.ref f__law_graph)))
    (fl__law_graph : K.lookup f__law_graph = some ⟨fo__law_graph, fD__law_graph, .func (PySem.W.fnOf "_law_graph" "_law_graph" (defArgs (top 36)) (defBody (top 36)) (defScope (top 36)) .none fk__law_graph fe__law_graph fm__law_graph fN__law_graph fc__law_graph ft__law_graph), fS__law_graph⟩)
    (fcc__law_graph : PySem.W.codeIn K fc__law_graph "_law_graph" = true)
    (fq__law_graph : PySem.W.keepIn K (.ref f__law_graph) = true)
    {fo__law_lots fk__law_lots fe__law_lots fm__law_lots fc__law_lots ft__law_lots : Value} {fD__law_lots fN__law_lots : Option Addr} {fS__law_lots : Array (Option Value)}
    (fa__law_lots : PySem.W.nsIn K mainGlobals "_law_lots" = some (some (.ref f__law_lots)))
    (fl__law_lots : K.lookup f__law_lots = some ⟨fo__law_lots, fD__law_lots, .func (PySem.W.fnOf "_law_lots" "_law_lots" (defArgs (top 37)) (defBody (top 37)) (defScope (top 37)) .none fk__law_lots fe__law_lots fm__law_lots fN__law_lots fc__law_lots ft__law_lots), fS__law_lots⟩)
    (fcc__law_lots : PySem.W.codeIn K fc__law_lots "_law_lots" = true)
    (fq__law_lots : PySem.W.keepIn K (.ref f__law_lots) = true)
    {fo__law_is_tied fk__law_is_tied fe__law_is_tied fm__law_is_tied fc__law_is_tied ft__law_is_tied : Value} {fD__law_is_tied fN__law_is_tied : Option Addr} {fS__law_is_tied : Array (Option Value)}
    (fa__law_is_tied : PySem.W.nsIn K mainGlobals "_law_is_tied" = some (some (.ref f__law_is_tied)))
    (fl__law_is_tied : K.lookup f__law_is_tied = some ⟨fo__law_is_tied, fD__law_is_tied, .func (PySem.W.fnOf "_law_is_tied" "_law_is_tied" (defArgs (top 38)) (defBody (top 38)) (defScope (top 38)) .none fk__law_is_tied fe__law_is_tied fm__law_is_tied fN__law_is_tied fc__law_is_tied ft__law_is_tied), fS__law_is_tied⟩)
    (fcc__law_is_tied : PySem.W.codeIn K fc__law_is_tied "_law_is_tied" = true)
    (fq__law_is_tied : PySem.W.keepIn K (.ref f__law_is_tied) = true)
    {fo__law_within fk__law_within fe__law_within fm__law_within fc__law_within ft__law_within : Value} {fD__law_within fN__law_within : Option Addr} {fS__law_within : Array (Option Value)}
    (fa__law_within : PySem.W.nsIn K mainGlobals "_law_within" = some (some (.ref f__law_within)))
    (fl__law_within : K.lookup f__law_within = some ⟨fo__law_within, fD__law_within, .func (PySem.W.fnOf "_law_within" "_law_within" (defArgs (top 39)) (defBody (top 39)) (defScope (top 39)) .none fk__law_within fe__law_within fm__law_within fN__law_within fc__law_within ft__law_within), fS__law_within⟩)
    (fcc__law_within : PySem.W.codeIn K fc__law_within "_law_within" = true)
    (fq__law_within : PySem.W.keepIn K (.ref f__law_within) = true)
    {fo__law_is_whole fk__law_is_whole fe__law_is_whole fm__law_is_whole fc__law_is_whole ft__law_is_whole : Value} {fD__law_is_whole fN__law_is_whole : Option Addr} {fS__law_is_whole : Array (Option Value)}
    (fa__law_is_whole : PySem.W.nsIn K mainGlobals "_law_is_whole" = some (some (.ref f__law_is_whole)))
    (fl__law_is_whole : K.lookup f__law_is_whole = some ⟨fo__law_is_whole, fD__law_is_whole, .func (PySem.W.fnOf "_law_is_whole" "_law_is_whole" (defArgs (top 40)) (defBody (top 40)) (defScope (top 40)) .none fk__law_is_whole fe__law_is_whole fm__law_is_whole fN__law_is_whole fc__law_is_whole ft__law_is_whole), fS__law_is_whole⟩)
    (fcc__law_is_whole : PySem.W.codeIn K fc__law_is_whole "_law_is_whole" = true)
    (fq__law_is_whole : PySem.W.keepIn K (.ref f__law_is_whole) = true)
    {fo__law_is_told fk__law_is_told fe__law_is_told fm__law_is_told fc__law_is_told ft__law_is_told : Value} {fD__law_is_told fN__law_is_told : Option Addr} {fS__law_is_told : Array (Option Value)}
    (fa__law_is_told : PySem.W.nsIn K mainGlobals "_law_is_told" = some (some (.ref f__law_is_told)))
    (fl__law_is_told : K.lookup f__law_is_told = some ⟨fo__law_is_told, fD__law_is_told, .func (PySem.W.fnOf "_law_is_told" "_law_is_told" (defArgs (top 41)) (defBody (top 41)) (defScope (top 41)) .none fk__law_is_told fe__law_is_told fm__law_is_told fN__law_is_told fc__law_is_told ft__law_is_told), fS__law_is_told⟩)
    (fcc__law_is_told : PySem.W.codeIn K fc__law_is_told "_law_is_told" = true)
    (fq__law_is_told : PySem.W.keepIn K (.ref f__law_is_told) = true)
    {fo__law_is_some fk__law_is_some fe__law_is_some fm__law_is_some fc__law_is_some ft__law_is_some : Value} {fD__law_is_some fN__law_is_some : Option Addr} {fS__law_is_some : Array (Option Value)}
    (fa__law_is_some : PySem.W.nsIn K mainGlobals "_law_is_some" = some (some (.ref f__law_is_some)))
    (fl__law_is_some : K.lookup f__law_is_some = some ⟨fo__law_is_some, fD__law_is_some, .func (PySem.W.fnOf "_law_is_some" "_law_is_some" (defArgs (top 42)) (defBody (top 42)) (defScope (top 42)) .none fk__law_is_some fe__law_is_some fm__law_is_some fN__law_is_some fc__law_is_some ft__law_is_some), fS__law_is_some⟩)
    (fcc__law_is_some : PySem.W.codeIn K fc__law_is_some "_law_is_some" = true)
    (fq__law_is_some : PySem.W.keepIn K (.ref f__law_is_some) = true)
    {fo__law_odd fk__law_odd fe__law_odd fm__law_odd fc__law_odd ft__law_odd : Value} {fD__law_odd fN__law_odd : Option Addr} {fS__law_odd : Array (Option Value)}
    (fa__law_odd : PySem.W.nsIn K mainGlobals "_law_odd" = some (some (.ref f__law_odd)))
    (fl__law_odd : K.lookup f__law_odd = some ⟨fo__law_odd, fD__law_odd, .func (PySem.W.fnOf "_law_odd" "_law_odd" (defArgs (top 43)) (defBody (top 43)) (defScope (top 43)) .none fk__law_odd fe__law_odd fm__law_odd fN__law_odd fc__law_odd ft__law_odd), fS__law_odd⟩)
    (fcc__law_odd : PySem.W.codeIn K fc__law_odd "_law_odd" = true)
    (fq__law_odd : PySem.W.keepIn K (.ref f__law_odd) = true)
    {fo__law_bent fk__law_bent fe__law_bent fm__law_bent fc__law_bent ft__law_bent : Value} {fD__law_bent fN__law_bent : Option Addr} {fS__law_bent : Array (Option Value)}
    (fa__law_bent : PySem.W.nsIn K mainGlobals "_law_bent" = some (some (.ref f__law_bent)))
    (fl__law_bent : K.lookup f__law_bent = some ⟨fo__law_bent, fD__law_bent, .func (PySem.W.fnOf "_law_bent" "_law_bent" (defArgs (top 44)) (defBody (top 44)) (defScope (top 44)) .none fk__law_bent fe__law_bent fm__law_bent fN__law_bent fc__law_bent ft__law_bent), fS__law_bent⟩)
    (fcc__law_bent : PySem.W.codeIn K fc__law_bent "_law_bent" = true)
    (fq__law_bent : PySem.W.keepIn K (.ref f__law_bent) = true)
    {fo__law_right fk__law_right fe__law_right fm__law_right fc__law_right ft__law_right : Value} {fD__law_right fN__law_right : Option Addr} {fS__law_right : Array (Option Value)}
    (fa__law_right : PySem.W.nsIn K mainGlobals "_law_right" = some (some (.ref f__law_right)))
    (fl__law_right : K.lookup f__law_right = some ⟨fo__law_right, fD__law_right, .func (PySem.W.fnOf "_law_right" "_law_right" (defArgs (top 45)) (defBody (top 45)) (defScope (top 45)) .none fk__law_right fe__law_right fm__law_right fN__law_right fc__law_right ft__law_right), fS__law_right⟩)
    (fcc__law_right : PySem.W.codeIn K fc__law_right "_law_right" = true)
    (fq__law_right : PySem.W.keepIn K (.ref f__law_right) = true)
    {fo_law fk_law fe_law fm_law fc_law ft_law : Value} {fD_law fN_law : Option Addr} {fS_law : Array (Option Value)}
    (fa_law : PySem.W.nsIn K mainGlobals "law" = some (some (.ref f_law)))
    (fl_law : K.lookup f_law = some ⟨fo_law, fD_law, .func (PySem.W.fnOf "law" "law" (defArgs (top 46)) (defBody (top 46)) (defScope (top 46)) .none fk_law fe_law fm_law fN_law fc_law ft_law), fS_law⟩)
    (fcc_law : PySem.W.codeIn K fc_law "law" = true)
    (fq_law : PySem.W.keepIn K (.ref f_law) = true)
    (gV : PySem.W.nsIn K mainGlobals "MOST_VERTICES" = some (some (.int 9 tkV)))
    (z_len : PySem.W.nsIn K mainGlobals "len" = some none)
    (z_int : PySem.W.nsIn K mainGlobals "int" = some none)
    (z_abs : PySem.W.nsIn K mainGlobals "abs" = some none)
    (z_divmod : PySem.W.nsIn K mainGlobals "divmod" = some none)
    (z_repr : PySem.W.nsIn K mainGlobals "repr" = some none)
    (z_range : PySem.W.nsIn K mainGlobals "range" = some none)
    (z_all : PySem.W.nsIn K mainGlobals "all" = some none)
    (z_any : PySem.W.nsIn K mainGlobals "any" = some none)
    (z_max : PySem.W.nsIn K mainGlobals "max" = some none)
    (z_min : PySem.W.nsIn K mainGlobals "min" = some none)
    (z_list : PySem.W.nsIn K mainGlobals "list" = some none)
    (z_tuple : PySem.W.nsIn K mainGlobals "tuple" = some none)
    (z_sorted : PySem.W.nsIn K mainGlobals "sorted" = some none)
    (z_type : PySem.W.nsIn K mainGlobals "type" = some none)
    (z_set : PySem.W.nsIn K mainGlobals "set" = some none)
    (z_zip : PySem.W.nsIn K mainGlobals "zip" = some none)
    (z_sum : PySem.W.nsIn K mainGlobals "sum" = some none)
    (z_enumerate : PySem.W.nsIn K mainGlobals "enumerate" = some none)
    (z_isinstance : PySem.W.nsIn K mainGlobals "isinstance" = some none)
    (z_bool : PySem.W.nsIn K mainGlobals "bool" = some none)
    : ∃ fd : FuncData, (∀ (s : Shared) (v : Value), BindsTo s fd ⟨[v], []⟩ [("script", v)]) ∧ ∀ base : Heap, K.In base → base.Ns mainGlobals mg → FnG l.prog w K mg base CX0 10 fa fd ["script"] (spLaw K) := by
  have e := hfa.symm.trans (PySem.W.mg_of X GN fa_law)
  cases e
  have F_is_whole := fun_mk (st := top 7) fl_is_whole fcc_is_whole fq_is_whole
  have B_is_whole := F_is_whole.binds (ps := ["value", "low", "high"]) fun _ _ _ _ _ _ us hl => match us, hl with | [_, _, _], _ => rfl
  have F_is_whole_from := fun_mk (st := top 8) fl_is_whole_from fcc_is_whole_from fq_is_whole_from
  have B_is_whole_from := F_is_whole_from.binds (ps := ["value", "low"]) fun _ _ _ _ _ _ us hl => match us, hl with | [_, _], _ => rfl
  have F_is_tuple_of_two := fun_mk (st := top 9) fl_is_tuple_of_two fcc_is_tuple_of_two fq_is_tuple_of_two
  have B_is_tuple_of_two := F_is_tuple_of_two.binds (ps := ["value"]) fun _ _ _ _ _ _ us hl => match us, hl with | [_], _ => rfl
  have F_is_ascending := fun_mk (st := top 10) fl_is_ascending fcc_is_ascending fq_is_ascending
  have B_is_ascending := F_is_ascending.binds (ps := ["row"]) fun _ _ _ _ _ _ us hl => match us, hl with | [_], _ => rfl
  have F_is_graph := fun_mk (st := top 11) fl_is_graph fcc_is_graph fq_is_graph
  have B_is_graph := F_is_graph.binds (ps := ["value"]) fun _ _ _ _ _ _ us hl => match us, hl with | [_], _ => rfl
  have F_is_vertex_pair := fun_mk (st := top 12) fl_is_vertex_pair fcc_is_vertex_pair fq_is_vertex_pair
  have B_is_vertex_pair := F_is_vertex_pair.binds (ps := ["value", "many"]) fun _ _ _ _ _ _ us hl => match us, hl with | [_, _], _ => rfl
  have F_check_graph := fun_mk (st := top 13) fl_check_graph fcc_check_graph fq_check_graph
  have B_check_graph := F_check_graph.binds (ps := ["graph"]) fun _ _ _ _ _ _ us hl => match us, hl with | [_], _ => rfl
  have F_is_lot := fun_mk (st := top 14) fl_is_lot fcc_is_lot fq_is_lot
  have B_is_lot := F_is_lot.binds (ps := ["graph", "value"]) fun _ _ _ _ _ _ us hl => match us, hl with | [_, _], _ => rfl
  have F_check_lot := fun_mk (st := top 15) fl_check_lot fcc_check_lot fq_check_lot
  have B_check_lot := F_check_lot.binds (ps := ["graph", "lot"]) fun _ _ _ _ _ _ us hl => match us, hl with | [_, _], _ => rfl
  have F_check_vertex := fun_mk (st := top 16) fl_check_vertex fcc_check_vertex fq_check_vertex
  have B_check_vertex := F_check_vertex.binds (ps := ["graph", "vertex"]) fun _ _ _ _ _ _ us hl => match us, hl with | [_, _], _ => rfl
  have F_are_adjacent := fun_mk (st := top 17) fl_are_adjacent fcc_are_adjacent fq_are_adjacent
  have B_are_adjacent := F_are_adjacent.binds (ps := ["graph", "one", "other"]) fun _ _ _ _ _ _ us hl => match us, hl with | [_, _, _], _ => rfl
  have F_ordered := fun_mk (st := top 18) fl_ordered fcc_ordered fq_ordered
  have B_ordered := F_ordered.binds (ps := ["one", "other"]) fun _ _ _ _ _ _ us hl => match us, hl with | [_, _], _ => rfl
  have F_complement := fun_mk (st := top 19) fl_complement fcc_complement fq_complement
  have B_complement := F_complement.binds (ps := ["graph"]) fun _ _ _ _ _ _ us hl => match us, hl with | [_], _ => rfl
  have F_induced := fun_mk (st := top 20) fl_induced fcc_induced fq_induced
  have B_induced := F_induced.binds (ps := ["graph", "lot"]) fun _ _ _ _ _ _ us hl => match us, hl with | [_, _], _ => rfl
  have F__law_well := fun_mk (st := top 22) fl__law_well fcc__law_well fq__law_well
  have B__law_well := F__law_well.binds (ps := ["script", "turn"]) fun _ _ _ _ _ _ us hl => match us, hl with | [_, _], _ => rfl
  have F__law_draw := fun_mk (st := top 23) fl__law_draw fcc__law_draw fq__law_draw
  have B__law_draw := F__law_draw.binds (ps := ["well", "many"]) fun _ _ _ _ _ _ us hl => match us, hl with | [_, _], _ => rfl
  have F__law_pick := fun_mk (st := top 24) fl__law_pick fcc__law_pick fq__law_pick
  have B__law_pick := F__law_pick.binds (ps := ["well", "some"]) fun _ _ _ _ _ _ us hl => match us, hl with | [_, _], _ => rfl
  have F__law_same := fun_mk (st := top 25) fl__law_same fcc__law_same fq__law_same
  have B__law_same := F__law_same.binds (ps := ["told", "due"]) fun _ _ _ _ _ _ us hl => match us, hl with | [_, _], _ => rfl
  have F__law_of_pairs := fun_mk (st := top 26) fl__law_of_pairs fcc__law_of_pairs fq__law_of_pairs
  have B__law_of_pairs := F__law_of_pairs.binds (ps := ["n", "pairs"]) fun _ _ _ _ _ _ us hl => match us, hl with | [_, _], _ => rfl
  have F__law_turned := fun_mk (st := top 27) fl__law_turned fcc__law_turned fq__law_turned
  have B__law_turned := F__law_turned.binds (ps := ["graph"]) fun _ _ _ _ _ _ us hl => match us, hl with | [_], _ => rfl
  have F__law_round := fun_mk (st := top 28) fl__law_round fcc__law_round fq__law_round
  have B__law_round := F__law_round.binds (ps := ["many"]) fun _ _ _ _ _ _ us hl => match us, hl with | [_], _ => rfl
  have F__law_called := fun_mk (st := top 29) fl__law_called fcc__law_called fq__law_called
  have B__law_called := F__law_called.binds (ps := ["graph", "names"]) fun _ _ _ _ _ _ us hl => match us, hl with | [_, _], _ => rfl
  have F__law_order := fun_mk (st := top 30) fl__law_order fcc__law_order fq__law_order
  have B__law_order := F__law_order.binds (ps := ["well", "many"]) fun _ _ _ _ _ _ us hl => match us, hl with | [_, _], _ => rfl
  have F__law_random := fun_mk (st := top 31) fl__law_random fcc__law_random fq__law_random
  have B__law_random := F__law_random.binds (ps := ["well", "n"]) fun _ _ _ _ _ _ us hl => match us, hl with | [_, _], _ => rfl
  have F__law_sides := fun_mk (st := top 32) fl__law_sides fcc__law_sides fq__law_sides
  have B__law_sides := F__law_sides.binds (ps := ["well", "n"]) fun _ _ _ _ _ _ us hl => match us, hl with | [_, _], _ => rfl
  have F__law_beside := fun_mk (st := top 33) fl__law_beside fcc__law_beside fq__law_beside
  have B__law_beside := F__law_beside.binds (ps := ["one", "two", "is_joined"]) fun _ _ _ _ _ _ us hl => match us, hl with | [_, _, _], _ => rfl
  have F__law_folded := fun_mk (st := top 34) fl__law_folded fcc__law_folded fq__law_folded
  have B__law_folded := F__law_folded.binds (ps := ["well", "n"]) fun _ _ _ _ _ _ us hl => match us, hl with | [_, _], _ => rfl
  have F__law_grown := fun_mk (st := top 35) fl__law_grown fcc__law_grown fq__law_grown
  have B__law_grown := F__law_grown.binds (ps := ["well", "graph", "n"]) fun _ _ _ _ _ _ us hl => match us, hl with | [_, _, _], _ => rfl
  have F__law_graph := fun_mk (st := top 36) fl__law_graph fcc__law_graph fq__law_graph
  have B__law_graph := F__law_graph.binds (ps := ["well", "most"]) fun _ _ _ _ _ _ us hl => match us, hl with | [_, _], _ => rfl
  have F__law_lots := fun_mk (st := top 37) fl__law_lots fcc__law_lots fq__law_lots
  have B__law_lots := F__law_lots.binds (ps := ["n"]) fun _ _ _ _ _ _ us hl => match us, hl with | [_], _ => rfl
  have F__law_is_tied := fun_mk (st := top 38) fl__law_is_tied fcc__law_is_tied fq__law_is_tied
  have B__law_is_tied := F__law_is_tied.binds (ps := ["graph", "u", "v"]) fun _ _ _ _ _ _ us hl => match us, hl with | [_, _, _], _ => rfl
  have F__law_within := fun_mk (st := top 39) fl__law_within fcc__law_within fq__law_within
  have B__law_within := F__law_within.binds (ps := ["graph", "lot"]) fun _ _ _ _ _ _ us hl => match us, hl with | [_, _], _ => rfl
  have F__law_is_whole := fun_mk (st := top 40) fl__law_is_whole fcc__law_is_whole fq__law_is_whole
  have B__law_is_whole := F__law_is_whole.binds (ps := ["thing"]) fun _ _ _ _ _ _ us hl => match us, hl with | [_], _ => rfl
  have F__law_is_told := fun_mk (st := top 41) fl__law_is_told fcc__law_is_told fq__law_is_told
  have B__law_is_told := F__law_is_told.binds (ps := ["thing"]) fun _ _ _ _ _ _ us hl => match us, hl with | [_], _ => rfl
  have F__law_is_some := fun_mk (st := top 42) fl__law_is_some fcc__law_is_some fq__law_is_some
  have B__law_is_some := F__law_is_some.binds (ps := ["graph", "thing"]) fun _ _ _ _ _ _ us hl => match us, hl with | [_, _], _ => rfl
  have F__law_odd := fun_mk (st := top 43) fl__law_odd fcc__law_odd fq__law_odd
  have B__law_odd := F__law_odd.binds (ps := ["well"]) fun _ _ _ _ _ _ us hl => match us, hl with | [_], _ => rfl
  have F__law_bent := fun_mk (st := top 44) fl__law_bent fcc__law_bent fq__law_bent
  have B__law_bent := F__law_bent.binds (ps := ["well", "rows"]) fun _ _ _ _ _ _ us hl => match us, hl with | [_, _], _ => rfl
  have F__law_right := fun_mk (st := top 45) fl__law_right fcc__law_right fq__law_right
  have B__law_right := F__law_right.binds (ps := ["well"]) fun _ _ _ _ _ _ us hl => match us, hl with | [_], _ => rfl
  have F_law := fun_mk (st := top 46) fl_law fcc_law fq_law
  have B_law := F_law.binds (ps := ["script"]) fun _ _ _ _ _ _ us hl => match us, hl with | [_], _ => rfl
  have m_len := PySem.W.mg_none_of X GN z_len
  have m_int := PySem.W.mg_none_of X GN z_int
  have m_abs := PySem.W.mg_none_of X GN z_abs
  have m_divmod := PySem.W.mg_none_of X GN z_divmod
  have m_repr := PySem.W.mg_none_of X GN z_repr
  have m_range := PySem.W.mg_none_of X GN z_range
  have m_all := PySem.W.mg_none_of X GN z_all
  have m_any := PySem.W.mg_none_of X GN z_any
  have m_max := PySem.W.mg_none_of X GN z_max
  have m_min := PySem.W.mg_none_of X GN z_min
  have m_list := PySem.W.mg_none_of X GN z_list
  have m_tuple := PySem.W.mg_none_of X GN z_tuple
  have m_sorted := PySem.W.mg_none_of X GN z_sorted
  have m_type := PySem.W.mg_none_of X GN z_type
  have m_set := PySem.W.mg_none_of X GN z_set
  have m_zip := PySem.W.mg_none_of X GN z_zip
  have m_sum := PySem.W.mg_none_of X GN z_sum
  have m_enumerate := PySem.W.mg_none_of X GN z_enumerate
  have m_isinstance := PySem.W.mg_none_of X GN z_isinstance
  have m_bool := PySem.W.mg_none_of X GN z_bool
  have mV := PySem.W.mg_of X GN gV
  refine ⟨PySem.W.fnOf "law" "law" (defArgs (top 46)) (defBody (top 46)) (defScope (top 46)) .none fk_law fe_law fm_law fN_law fc_law ft_law, fun s v => .of_eq rfl, fun base _ _ => ?_⟩
  have O__law_well := ok_well (P := l.prog) (w := w) (K := K) (mg := mg) (base := base) F__law_well m_len m_int m_abs
  have O__law_draw := ok_draw (P := l.prog) (w := w) (K := K) (mg := mg) (base := base) F__law_draw m_divmod m_int
  have O__law_pick := ok_pick (P := l.prog) (w := w) (K := K) (mg := mg) (base := base) F__law_pick O__law_draw B__law_draw fq__law_draw (PySem.W.mg_of X GN fa__law_draw) m_len
  have O__law_same := ok_same (P := l.prog) (w := w) (K := K) (mg := mg) (base := base) F__law_same m_repr
  have O_pickL := ok_pickL (P := l.prog) (w := w) (K := K) (mg := mg) (base := base) F__law_pick O__law_draw B__law_draw fq__law_draw (PySem.W.mg_of X GN fa__law_draw) m_len
  have O_is_whole_from := ok_whole_from (P := l.prog) (w := w) (K := K) (mg := mg) (base := base) F_is_whole_from m_type m_int
  have O_is_whole := ok_is_whole (P := l.prog) (w := w) (K := K) (mg := mg) (base := base) F_is_whole O_is_whole_from B_is_whole_from fq_is_whole_from (PySem.W.mg_of X GN fa_is_whole_from)
  have O_is_tuple_of_two := ok_is_two (P := l.prog) (w := w) (K := K) (mg := mg) (base := base) F_is_tuple_of_two m_type m_tuple m_len
  have O_is_ascending := ok_asc (P := l.prog) (w := w) (K := K) (mg := mg) (base := base) F_is_ascending m_all m_zip
  have O_is_vertex_pair := ok_vp (P := l.prog) (w := w) (K := K) (mg := mg) (base := base) F_is_vertex_pair O_is_tuple_of_two B_is_tuple_of_two fq_is_tuple_of_two (PySem.W.mg_of X GN fa_is_tuple_of_two) O_is_whole B_is_whole fq_is_whole (PySem.W.mg_of X GN fa_is_whole) m_all
  have O_is_graph := ok_is_graph (P := l.prog) (w := w) (K := K) (mg := mg) (base := base) F_is_graph O_is_tuple_of_two B_is_tuple_of_two fq_is_tuple_of_two (PySem.W.mg_of X GN fa_is_tuple_of_two) O_is_whole B_is_whole fq_is_whole (PySem.W.mg_of X GN fa_is_whole) O_is_vertex_pair B_is_vertex_pair fq_is_vertex_pair (PySem.W.mg_of X GN fa_is_vertex_pair) O_is_ascending B_is_ascending fq_is_ascending (PySem.W.mg_of X GN fa_is_ascending) tkV mV m_type m_tuple m_all
  have O_check_graph := ok_check_graph (P := l.prog) (w := w) (K := K) (mg := mg) (base := base) F_check_graph O_is_graph B_is_graph fq_is_graph (PySem.W.mg_of X GN fa_is_graph)
  have O_is_lot := ok_is_lot (P := l.prog) (w := w) (K := K) (mg := mg) (base := base) F_is_lot O_check_graph B_check_graph fq_check_graph (PySem.W.mg_of X GN fa_check_graph) O_is_whole B_is_whole fq_is_whole (PySem.W.mg_of X GN fa_is_whole) O_is_ascending B_is_ascending fq_is_ascending (PySem.W.mg_of X GN fa_is_ascending) m_type m_tuple m_all
  have O_check_lot := ok_check_lot (P := l.prog) (w := w) (K := K) (mg := mg) (base := base) F_check_lot O_is_lot B_is_lot fq_is_lot (PySem.W.mg_of X GN fa_is_lot)
  have O_complement := ok_complement (P := l.prog) (w := w) (K := K) (mg := mg) (base := base) F_complement O_check_graph B_check_graph fq_check_graph (PySem.W.mg_of X GN fa_check_graph) m_range m_tuple
  have O_ordered := ok_ord (P := l.prog) (w := w) (K := K) (mg := mg) (base := base) F_ordered m_min m_max
  have O_check_vertex := ok_cvx (P := l.prog) (w := w) (K := K) (mg := mg) (base := base) F_check_vertex O_check_graph B_check_graph fq_check_graph (PySem.W.mg_of X GN fa_check_graph) O_is_whole B_is_whole fq_is_whole (PySem.W.mg_of X GN fa_is_whole)
  have O_are_adjacent := ok_adj (P := l.prog) (w := w) (K := K) (mg := mg) (base := base) F_are_adjacent O_check_vertex B_check_vertex fq_check_vertex (PySem.W.mg_of X GN fa_check_vertex) O_ordered B_ordered fq_ordered (PySem.W.mg_of X GN fa_ordered)
  have O_induced := ok_induced (P := l.prog) (w := w) (K := K) (mg := mg) (base := base) F_induced O_check_lot B_check_lot fq_check_lot (PySem.W.mg_of X GN fa_check_lot) m_len m_tuple
  have O__law_of_pairs := ok_of_pairs (P := l.prog) (w := w) (K := K) (mg := mg) (base := base) F__law_of_pairs m_tuple m_sorted m_set m_min m_max
  have O__law_turned := ok_turned (P := l.prog) (w := w) (K := K) (mg := mg) (base := base) F__law_turned m_range m_tuple
  have O__law_round := ok_round (P := l.prog) (w := w) (K := K) (mg := mg) (base := base) F__law_round O__law_of_pairs B__law_of_pairs fq__law_of_pairs (PySem.W.mg_of X GN fa__law_of_pairs) m_range m_int
  have O__law_called := ok_called (P := l.prog) (w := w) (K := K) (mg := mg) (base := base) F__law_called O__law_of_pairs B__law_of_pairs fq__law_of_pairs (PySem.W.mg_of X GN fa__law_of_pairs)
  have O__law_order := ok_order (P := l.prog) (w := w) (K := K) (mg := mg) (base := base) F__law_order O__law_draw B__law_draw fq__law_draw (PySem.W.mg_of X GN fa__law_draw) m_len m_range m_list m_tuple
  have O__law_random := ok_random (P := l.prog) (w := w) (K := K) (mg := mg) (base := base) F__law_random O__law_draw B__law_draw fq__law_draw (PySem.W.mg_of X GN fa__law_draw) O__law_of_pairs B__law_of_pairs fq__law_of_pairs (PySem.W.mg_of X GN fa__law_of_pairs) O__law_pick B__law_pick fq__law_pick (PySem.W.mg_of X GN fa__law_pick) m_range
  have O__law_sides := ok_sides (P := l.prog) (w := w) (K := K) (mg := mg) (base := base) F__law_sides O__law_draw B__law_draw fq__law_draw (PySem.W.mg_of X GN fa__law_draw) O__law_of_pairs B__law_of_pairs fq__law_of_pairs (PySem.W.mg_of X GN fa__law_of_pairs) m_range
  have O__law_beside := ok_beside (P := l.prog) (w := w) (K := K) (mg := mg) (base := base) F__law_beside O__law_of_pairs B__law_of_pairs fq__law_of_pairs (PySem.W.mg_of X GN fa__law_of_pairs) m_range m_list
  have O__law_folded := ok_folded (P := l.prog) (w := w) (K := K) (mg := mg) (base := base) F__law_folded O__law_draw B__law_draw fq__law_draw (PySem.W.mg_of X GN fa__law_draw) O__law_beside B__law_beside fq__law_beside (PySem.W.mg_of X GN fa__law_beside) O__law_turned B__law_turned fq__law_turned (PySem.W.mg_of X GN fa__law_turned) m_range
  have O__law_grown := ok_grown (P := l.prog) (w := w) (K := K) (mg := mg) (base := base) F__law_grown O__law_draw B__law_draw fq__law_draw (PySem.W.mg_of X GN fa__law_draw) O__law_of_pairs B__law_of_pairs fq__law_of_pairs (PySem.W.mg_of X GN fa__law_of_pairs) m_range m_list m_min m_max
  have O__law_graph := ok_graph (P := l.prog) (w := w) (K := K) (mg := mg) (base := base) F__law_graph O__law_draw B__law_draw fq__law_draw (PySem.W.mg_of X GN fa__law_draw) O__law_random B__law_random fq__law_random (PySem.W.mg_of X GN fa__law_random) O__law_sides B__law_sides fq__law_sides (PySem.W.mg_of X GN fa__law_sides) O__law_folded B__law_folded fq__law_folded (PySem.W.mg_of X GN fa__law_folded) O__law_grown B__law_grown fq__law_grown (PySem.W.mg_of X GN fa__law_grown) O__law_round B__law_round fq__law_round (PySem.W.mg_of X GN fa__law_round) O__law_pick B__law_pick fq__law_pick (PySem.W.mg_of X GN fa__law_pick) O__law_turned B__law_turned fq__law_turned (PySem.W.mg_of X GN fa__law_turned) O__law_called B__law_called fq__law_called (PySem.W.mg_of X GN fa__law_called) O__law_order B__law_order fq__law_order (PySem.W.mg_of X GN fa__law_order) m_max
  have O__law_is_tied := ok_tied (P := l.prog) (w := w) (K := K) (mg := mg) (base := base) F__law_is_tied m_min m_max
  have O__law_lots := ok_lotsF (P := l.prog) (w := w) (K := K) (mg := mg) (base := base) F__law_lots m_range m_sorted
  have O__law_within := ok_lwi (P := l.prog) (w := w) (K := K) (mg := mg) (base := base) F__law_within m_len m_tuple
  have O__law_is_whole := ok_lwh (P := l.prog) (w := w) (K := K) (mg := mg) (base := base) F__law_is_whole m_isinstance m_int m_bool
  have O__law_is_told := ok_lto (P := l.prog) (w := w) (K := K) (mg := mg) (base := base) F__law_is_told O__law_is_whole B__law_is_whole fq__law_is_whole (PySem.W.mg_of X GN fa__law_is_whole) m_isinstance m_tuple m_len m_range
  have O__law_is_some := ok_lso (P := l.prog) (w := w) (K := K) (mg := mg) (base := base) F__law_is_some O__law_is_whole B__law_is_whole fq__law_is_whole (PySem.W.mg_of X GN fa__law_is_whole) m_isinstance m_tuple m_len m_range
  have O__law_odd := ok_oddW (P := l.prog) (w := w) (K := K) (mg := mg) (base := base) F__law_odd O__law_pick B__law_pick fq__law_pick (PySem.W.mg_of X GN fa__law_pick)
  have O__law_bent := ok_bentW (P := l.prog) (w := w) (K := K) (mg := mg) (base := base) F__law_bent O__law_draw B__law_draw fq__law_draw (PySem.W.mg_of X GN fa__law_draw) O__law_pick B__law_pick fq__law_pick (PySem.W.mg_of X GN fa__law_pick) O__law_odd B__law_odd fq__law_odd (PySem.W.mg_of X GN fa__law_odd) m_len m_list
  have O__law_right := ok_right (P := l.prog) (w := w) (K := K) (mg := mg) (base := base) F__law_right O__law_draw B__law_draw fq__law_draw (PySem.W.mg_of X GN fa__law_draw) O__law_graph B__law_graph fq__law_graph (PySem.W.mg_of X GN fa__law_graph) O__law_pick B__law_pick fq__law_pick (PySem.W.mg_of X GN fa__law_pick) O_pickL O__law_bent B__law_bent fq__law_bent (PySem.W.mg_of X GN fa__law_bent) O__law_odd B__law_odd fq__law_odd (PySem.W.mg_of X GN fa__law_odd) O_is_graph B_is_graph (fun s u0 => .of_eq rfl) fq_is_graph (PySem.W.mg_of X GN fa_is_graph) O__law_is_told B__law_is_told fq__law_is_told (PySem.W.mg_of X GN fa__law_is_told) O__law_same B__law_same fq__law_same (PySem.W.mg_of X GN fa__law_same) O__law_lots B__law_lots fq__law_lots (PySem.W.mg_of X GN fa__law_lots) O_is_lot B_is_lot (fun s u0 u1 => .of_eq rfl) fq_is_lot (PySem.W.mg_of X GN fa_is_lot) O__law_is_some B__law_is_some fq__law_is_some (PySem.W.mg_of X GN fa__law_is_some) O__law_turned B__law_turned fq__law_turned (PySem.W.mg_of X GN fa__law_turned) O__law_within B__law_within fq__law_within (PySem.W.mg_of X GN fa__law_within) O_complement B_complement (fun s u0 => .of_eq rfl) fq_complement (PySem.W.mg_of X GN fa_complement) O_induced B_induced (fun s u0 u1 => .of_eq rfl) fq_induced (PySem.W.mg_of X GN fa_induced) O__law_is_tied B__law_is_tied fq__law_is_tied (PySem.W.mg_of X GN fa__law_is_tied) O_are_adjacent B_are_adjacent fq_are_adjacent (PySem.W.mg_of X GN fa_are_adjacent) m_range m_tuple m_list m_sorted
  exact ok_law (n := 8) F_law O__law_well B__law_well fq__law_well (PySem.W.mg_of X GN fa__law_well) O__law_right B__law_right fq__law_right (PySem.W.mg_of X GN fa__law_right) m_range m_len m_all m_max m_min
end My

open PySem PySem.W PyProof.Rows
set_option maxRecDepth 100000 in
set_option maxHeartbeats 0 in
theorem PySem.Challenge.cw_perfectgraphs_k05_graphs_lots_complement_holds : PySem.Challenge.rw_perfectgraphs_k05_graphs_lots_complement.Holds := by
  w_on; o_law; k_head; (case hw => w_witness2)
  k_fill
  refine My.walkG (l := PySem.Challenge.rw_perfectgraphs_k05_graphs_lots_complement) (m := 63) (n := 10) (x := "script") (sp := fun K => My.spLaw K) rfl (by decide) rfl ⟨rfl, by decide, by decide⟩ (fun w h Y => PySem.W.kIn_of Y) ?F (fun K H a ns hl _ hS => ⟨a, ns, rfl, hS, hl, fun _ => rfl⟩)
  case F =>
    intro w mg fa h KX G hmg
    refine' My.all_mk KX G hmg ?fa_is_whole ?fl_is_whole ?fcc_is_whole ?fq_is_whole ?fa_is_whole_from ?fl_is_whole_from ?fcc_is_whole_from ?fq_is_whole_from ?fa_is_tuple_of_two ?fl_is_tuple_of_two ?fcc_is_tuple_of_two ?fq_is_tuple_of_two ?fa_is_ascending ?fl_is_ascending ?fcc_is_ascending ?fq_is_ascending ?fa_is_graph ?fl_is_graph ?fcc_is_graph ?fq_is_graph ?fa_is_vertex_pair ?fl_is_vertex_pair ?fcc_is_vertex_pair ?fq_is_vertex_pair ?fa_check_graph ?fl_check_graph ?fcc_check_graph ?fq_check_graph ?fa_is_lot ?fl_is_lot ?fcc_is_lot ?fq_is_lot ?fa_check_lot ?fl_check_lot ?fcc_check_lot ?fq_check_lot ?fa_check_vertex ?fl_check_vertex ?fcc_check_vertex ?fq_check_vertex ?fa_are_adjacent ?fl_are_adjacent ?fcc_are_adjacent ?fq_are_adjacent ?fa_ordered ?fl_ordered ?fcc_ordered ?fq_ordered ?fa_complement ?fl_complement ?fcc_complement ?fq_complement ?fa_induced ?fl_induced ?fcc_induced ?fq_induced ?fa__law_well ?fl__law_well ?fcc__law_well ?fq__law_well ?fa__law_draw ?fl__law_draw ?fcc__law_draw ?fq__law_draw ?fa__law_pick ?fl__law_pick ?fcc__law_pick ?fq__law_pick ?fa__law_same ?fl__law_same ?fcc__law_same ?fq__law_same ?fa__law_of_pairs ?fl__law_of_pairs ?fcc__law_of_pairs ?fq__law_of_pairs ?fa__law_turned ?fl__law_turned ?fcc__law_turned ?fq__law_turned ?fa__law_round ?fl__law_round ?fcc__law_round ?fq__law_round ?fa__law_called ?fl__law_called ?fcc__law_called ?fq__law_called ?fa__law_order ?fl__law_order ?fcc__law_order ?fq__law_order ?fa__law_random ?fl__law_random ?fcc__law_random ?fq__law_random ?fa__law_sides ?fl__law_sides ?fcc__law_sides ?fq__law_sides ?fa__law_beside ?fl__law_beside ?fcc__law_beside ?fq__law_beside ?fa__law_folded ?fl__law_folded ?fcc__law_folded ?fq__law_folded ?fa__law_grown ?fl__law_grown ?fcc__law_grown ?fq__law_grown ?fa__law_graph ?fl__law_graph ?fcc__law_graph ?fq__law_graph ?fa__law_lots ?fl__law_lots ?fcc__law_lots ?fq__law_lots ?fa__law_is_tied ?fl__law_is_tied ?fcc__law_is_tied ?fq__law_is_tied ?fa__law_within ?fl__law_within ?fcc__law_within ?fq__law_within ?fa__law_is_whole ?fl__law_is_whole ?fcc__law_is_whole ?fq__law_is_whole ?fa__law_is_told ?fl__law_is_told ?fcc__law_is_told ?fq__law_is_told ?fa__law_is_some ?fl__law_is_some ?fcc__law_is_some ?fq__law_is_some ?fa__law_odd ?fl__law_odd ?fcc__law_odd ?fq__law_odd ?fa__law_bent ?fl__law_bent ?fcc__law_bent ?fq__law_bent ?fa__law_right ?fl__law_right ?fcc__law_right ?fq__law_right ?fa_law ?fl_law ?fcc_law ?fq_law ?gV ?z_len ?z_int ?z_abs ?z_divmod ?z_repr ?z_range ?z_all ?z_any ?z_max ?z_min ?z_list ?z_tuple ?z_sorted ?z_type ?z_set ?z_zip ?z_sum ?z_enumerate ?z_isinstance ?z_bool
    (case fa_is_whole => k_is)
    (case fl_is_whole => k_is)
    (case fcc_is_whole => k_is)
    (case fq_is_whole => k_is)
    (case fa_is_whole_from => k_is)
    (case fl_is_whole_from => k_is)
    (case fcc_is_whole_from => k_is)
    (case fq_is_whole_from => k_is)
    (case fa_is_tuple_of_two => k_is)
    (case fl_is_tuple_of_two => k_is)
    (case fcc_is_tuple_of_two => k_is)
    (case fq_is_tuple_of_two => k_is)
    (case fa_is_ascending => k_is)
    (case fl_is_ascending => k_is)
    (case fcc_is_ascending => k_is)
    (case fq_is_ascending => k_is)
    (case fa_is_graph => k_is)
    (case fl_is_graph => k_is)
    (case fcc_is_graph => k_is)
    (case fq_is_graph => k_is)
    (case fa_is_vertex_pair => k_is)
    (case fl_is_vertex_pair => k_is)
    (case fcc_is_vertex_pair => k_is)
    (case fq_is_vertex_pair => k_is)
    (case fa_check_graph => k_is)
    (case fl_check_graph => k_is)
    (case fcc_check_graph => k_is)
    (case fq_check_graph => k_is)
    (case fa_is_lot => k_is)
    (case fl_is_lot => k_is)
    (case fcc_is_lot => k_is)
    (case fq_is_lot => k_is)
    (case fa_check_lot => k_is)
    (case fl_check_lot => k_is)
    (case fcc_check_lot => k_is)
    (case fq_check_lot => k_is)
    (case fa_check_vertex => k_is)
    (case fl_check_vertex => k_is)
    (case fcc_check_vertex => k_is)
    (case fq_check_vertex => k_is)
    (case fa_are_adjacent => k_is)
    (case fl_are_adjacent => k_is)
    (case fcc_are_adjacent => k_is)
    (case fq_are_adjacent => k_is)
    (case fa_ordered => k_is)
    (case fl_ordered => k_is)
    (case fcc_ordered => k_is)
    (case fq_ordered => k_is)
    (case fa_complement => k_is)
    (case fl_complement => k_is)
    (case fcc_complement => k_is)
    (case fq_complement => k_is)
    (case fa_induced => k_is)
    (case fl_induced => k_is)
    (case fcc_induced => k_is)
    (case fq_induced => k_is)
    (case fa__law_well => k_is)
    (case fl__law_well => k_is)
    (case fcc__law_well => k_is)
    (case fq__law_well => k_is)
    (case fa__law_draw => k_is)
    (case fl__law_draw => k_is)
    (case fcc__law_draw => k_is)
    (case fq__law_draw => k_is)
    (case fa__law_pick => k_is)
    (case fl__law_pick => k_is)
    (case fcc__law_pick => k_is)
    (case fq__law_pick => k_is)
    (case fa__law_same => k_is)
    (case fl__law_same => k_is)
    (case fcc__law_same => k_is)
    (case fq__law_same => k_is)
    (case fa__law_of_pairs => k_is)
    (case fl__law_of_pairs => k_is)
    (case fcc__law_of_pairs => k_is)
    (case fq__law_of_pairs => k_is)
    (case fa__law_turned => k_is)
    (case fl__law_turned => k_is)
    (case fcc__law_turned => k_is)
    (case fq__law_turned => k_is)
    (case fa__law_round => k_is)
    (case fl__law_round => k_is)
    (case fcc__law_round => k_is)
    (case fq__law_round => k_is)
    (case fa__law_called => k_is)
    (case fl__law_called => k_is)
    (case fcc__law_called => k_is)
    (case fq__law_called => k_is)
    (case fa__law_order => k_is)
    (case fl__law_order => k_is)
    (case fcc__law_order => k_is)
    (case fq__law_order => k_is)
    (case fa__law_random => k_is)
    (case fl__law_random => k_is)
    (case fcc__law_random => k_is)
    (case fq__law_random => k_is)
    (case fa__law_sides => k_is)
    (case fl__law_sides => k_is)
    (case fcc__law_sides => k_is)
    (case fq__law_sides => k_is)
    (case fa__law_beside => k_is)
    (case fl__law_beside => k_is)
    (case fcc__law_beside => k_is)
    (case fq__law_beside => k_is)
    (case fa__law_folded => k_is)
    (case fl__law_folded => k_is)
    (case fcc__law_folded => k_is)
    (case fq__law_folded => k_is)
    (case fa__law_grown => k_is)
    (case fl__law_grown => k_is)
    (case fcc__law_grown => k_is)
    (case fq__law_grown => k_is)
    (case fa__law_graph => k_is)
    (case fl__law_graph => k_is)
    (case fcc__law_graph => k_is)
    (case fq__law_graph => k_is)
    (case fa__law_lots => k_is)
    (case fl__law_lots => k_is)
    (case fcc__law_lots => k_is)
    (case fq__law_lots => k_is)
    (case fa__law_is_tied => k_is)
    (case fl__law_is_tied => k_is)
    (case fcc__law_is_tied => k_is)
    (case fq__law_is_tied => k_is)
    (case fa__law_within => k_is)
    (case fl__law_within => k_is)
    (case fcc__law_within => k_is)
    (case fq__law_within => k_is)
    (case fa__law_is_whole => k_is)
    (case fl__law_is_whole => k_is)
    (case fcc__law_is_whole => k_is)
    (case fq__law_is_whole => k_is)
    (case fa__law_is_told => k_is)
    (case fl__law_is_told => k_is)
    (case fcc__law_is_told => k_is)
    (case fq__law_is_told => k_is)
    (case fa__law_is_some => k_is)
    (case fl__law_is_some => k_is)
    (case fcc__law_is_some => k_is)
    (case fq__law_is_some => k_is)
    (case fa__law_odd => k_is)
    (case fl__law_odd => k_is)
    (case fcc__law_odd => k_is)
    (case fq__law_odd => k_is)
    (case fa__law_bent => k_is)
    (case fl__law_bent => k_is)
    (case fcc__law_bent => k_is)
    (case fq__law_bent => k_is)
    (case fa__law_right => k_is)
    (case fl__law_right => k_is)
    (case fcc__law_right => k_is)
    (case fq__law_right => k_is)
    (case fa_law => k_is)
    (case fl_law => k_is)
    (case fcc_law => k_is)
    (case fq_law => k_is)
    (case gV => k_is)
    (case z_len => k_is)
    (case z_int => k_is)
    (case z_abs => k_is)
    (case z_divmod => k_is)
    (case z_repr => k_is)
    (case z_range => k_is)
    (case z_all => k_is)
    (case z_any => k_is)
    (case z_max => k_is)
    (case z_min => k_is)
    (case z_list => k_is)
    (case z_tuple => k_is)
    (case z_sorted => k_is)
    (case z_type => k_is)
    (case z_set => k_is)
    (case z_zip => k_is)
    (case z_sum => k_is)
    (case z_enumerate => k_is)
    (case z_isinstance => k_is)
    (case z_bool => k_is)
#print axioms PySem.Challenge.cw_perfectgraphs_k05_graphs_lots_complement_holds

