import PyProof.Rows.All
import Wide.All
import OpenK.AllK
import Wide.FinOn
import HandS.ForMost
import HandS.ForExc
import HandS.ExcInit
import HandS.ExcValue
import HandS.IsInst
import KE.KExcIs
import HandS.ExcField
import HandS.TupSets
import HandS.Deep
import HandS.Conv
import HandS.Style
import KE.DatumOrd
import HandS.Walk
import HandS.Iter
import HandS.Text
import HandS.StrMore
import HandS.SortRule
import PyProof.StrLawsRepr
import HandS.TupAny
import HandS.Zip
import PyProof.Rows.BitMore
import HandS.NamedTupSort
import HandS.Strs
import HandS.WideBits
import HandS.Flow
import PyProof.ListStr
import PyProof.CollectIter
import PyProof.Walks
import PyProof.WalksMore
import PyProof.TupleIter
import KE.GoesEnum
import HandS.SetFor
import KE.DataAny
import HandS.List
import HandS.Sort
import PyProof.ListRange
import HandS.More
import HandS.Dict
import HandS.SortInts
import HandS.DeepEq
import HandS.ExcOwn
import PySem.Challenge.RW_perfectgraphs_k11_whole_minimally_imperf
set_option Elab.async false
set_option linter.all false
set_option maxRecDepth 100000
set_option maxHeartbeats 2000000
/-! Defs that are asked where nothing is being displayed: repr of data, whatever it holds. -/
namespace My
open PySem PySem.Spec PyProof.Rows L2

/-- like FnOk, for calls outside of any display -/
structure FnG (P : Program) (w : World) (K : PySem.W.Frag) (mg : Str → Option Value) (base : Heap) (C : CXT) (n : Nat) (f : Addr) (fd : FuncData) (ps : List Str) (sp : Sp) : Prop where
  arity : ∀ xs H Q E, sp xs H Q E → xs.length = ps.length
  goes : ∀ (A : Around) (out : List Env) (s : Shared) (H : Hp) (args : Args) (us : List Value) (xs : List V) (Q : VK) (E : XK), A.guards = some [] → Room n A → Env0 P w K mg base A out s H →
    BindsTo s fd args (ps.zip us) → Vals xs us → sp xs H Q E → codeAny (model P w) A (.call (.ref f) args) (CR C out P w H s Q E) s
section
variable {P : Program} {w : World} {K : PySem.W.Frag} {mg : Str → Option Value} {base : Heap} {C : CXT} {n : Nat} {f : Addr} {fd : FuncData} {ps : List Str} {sp : Sp}
theorem FnG.of (F : FnOk P w K mg base C n f fd ps sp) : FnG P w K mg base C n f fd ps sp :=
  { arity := F.len, goes := fun A out s H args us xs Q E _ r e b v h => F.run A out s H args us xs Q E r e b v h }
end

section
variable {X : Cx} {C : CXT} {n : Nat} {f : Addr} {fd : FuncData} {ps : List Str} {sp : Sp} {E : XK} {nm : Str} {p pos : Pos} {a : Expr} {as : List Expr} {t : TA}
theorem FnG.call_at {pins : List (Addr × Obj)} {σ : L2.St} {H : Hp} {s : Shared} {Q : VK} {us : List Value} {xs : List V} (F : FnG X.prog X.w X.K X.mg X.base C n f fd ps sp) (gd : X.A.guards = some []) (r : Room n X.A) (b : Binds X.K fd ps []) (x : Passes C X E)
    (I : Inv X pins σ H s) (v : Vals xs us) (h : sp xs H Q E) : wpAny (model X.prog X.w) X.A (call (.ref f) us) (EP X pins σ Q) X.xe s := by
  have len : (us ++ []).length = ps.length := by
    rw [List.append_nil, ← v.length]
    exact F.arity _ _ _ _ h
  have bd := b s us I.kIn len
  rw [List.append_nil] at bd
  refine wpAny_call (codeAny_mono (F.goes X.A X.stack s H ⟨us, []⟩ us xs Q E gd r I.env0 bd v h) ?_)
  rintro (er | fl) s' hq
  · exact x pins σ H s er s' I hq
  · cases fl <;> first | exact hq.elim | exact I.after hq
/-- f(a, ..), f such a def -/
theorem pe_callG (F : FnG X.prog X.w X.K X.mg X.base C n f fd ps sp) (gd : X.A.guards = some []) (r : Room n X.A) (g : Gl X nm) (m : X.mg nm = some (.ref f)) (kp : PySem.W.keepIn X.K (.ref f) = true) (b : Binds X.K fd ps []) (x : Passes C X E)
    (ha : PA X (a :: as) t) (nd : (nm == ("__debug__" : Str)) = false := by decide) (st : starEach (a :: as) X.env = (false, eval a X.env) :: starEach as X.env := by rfl) (pl : (backTo pos (starEach as X.env)).any (·.1) = false := by rfl) :
    PE X (.Call (.Name nm p) (a :: as) [] pos) (tCall sp [] E t) := by
  constructor
  intro pins s σ H Q I h
  refine wpAny_Call_Name_kw (ld_glob I g m ?_ nd)
  refine PySem.W.callWith_K (h₀ := X.base) I.ok.mod.kin kp (thn (ha.run pos pins s σ H _ I h) ?_) st pl
  rintro us s1 ⟨xs, H1, I1, v, q⟩
  rw [List.append_nil] at q
  exact ⟨I1.kIn, F.call_at gd r b x I1 v q⟩
end

section
variable {P : Program} {w : World} {K : PySem.W.Frag} {mg : Str → Option Value} {base : Heap} {C : CXT} {n : Nat} {f : Addr} {ps N : List Str} {sp : Sp}
/-- such a def by its body -/
theorem fnG_of {name qual : Str} {pm : Arguments} {body : List Stmt} {sc : Scope} {dV kV doc md cdv ct oc : Value} {an od : Option Addr} {sl : Array (Option Value)}
    (lk : K.lookup f = some ⟨oc, od, .func (PySem.W.fnOf name qual pm body sc dV kV doc md an cdv ct), sl⟩) (cd : PySem.W.codeIn K cdv qual = true) (S : FnScope N ps sc) (ar : ∀ xs H Q E, sp xs H Q E → xs.length = ps.length)
    (hb : ∀ (A : Around) (out : List Env) (s : Shared) (H : Hp) (xs : List V) (Q : VK) (E : XK), A.guards = some [] → Room n (A.deeper (envOfC qual sc s.heap.objs.size f cdv)) → sp xs H Q E →
      ∃ t, PSs (cxOf C P w K mg base N qual sc f cdv A out s H E) body t ∧ t { nx := fun _ H' => Q .non H', rt := Q } (start N xs) H) :
    FnG P w K mg base C (n + 1) f (PySem.W.fnOf name qual pm body sc dV kV doc md an cdv ct) ps sp := by
  refine { arity := ar, goes := ?_ }
  intro A out s H args us xs Q E gd r e bd v h
  have all : K.In s.heap := e.mod.kin.keeps fun b o z => (e.bs b o z).1
  have nolim : s.heap.NoLimit := e.mod.nolimit.keeps fun b o z => (e.bs b o z).1
  have kinds : ∀ y ∈ ps.zip us, sc.names.lookup y.1 = some .local ∨ (sc.names.lookup y.1 = some .cell ∧ ((cellsFrom (s.heap.objs.size + 1) sc.names []).lookup y.1).isSome = true) := by
    rintro ⟨y, u⟩ hy
    exact (S.par y (List.of_mem_zip hy).1).imp id fun z => ⟨z, PySem.W.cellsFrom_some _ _ _ (.inl z)⟩
  refine codeAny_call_function r.depth (all _ _ lk) rfl S.co S.gen rfl (PySem.W.codeRec_of all cd) (bd _ _ _ _ (wpAny_newFunctionEnv_cells S.kind kinds ?_))
  intro env he s1 x
  cases he
  obtain ⟨t, ht, hq⟩ := hb A out s H xs Q E gd (r.deeper _) h
  refine ⟨nolim.keeps x.toInCall.keep, codeAny_func (wpAny_mono (ht.run [] s1 (start N xs) H _ (inv_start S r.hd e (ar _ _ _ _ h) v x) hq) ?_ fun _ _ z => z)⟩
  rintro fl s' hs
  cases fl with
  | ret u =>
    obtain ⟨y, σ', H', J, ry, q⟩ := hs
    exact ⟨y, H', J.os, J.bare, J.base, J.hok, ry, q⟩
  | next =>
    obtain ⟨σ', H', J, q⟩ := hs
    exact ⟨.non, H', J.os, J.bare, J.base, J.hok, rfl, q⟩
  | brk => exact hs.choose_spec.choose_spec.2.elim
  | cont => exact hs.choose_spec.choose_spec.2.elim
theorem okG {name qual : Str} {st : Stmt} {fd : FuncData} (F : L2.Fun K name qual st f fd) (S : FnScope N ps (defScope st)) (ar : ∀ xs H Q E, sp xs H Q E → xs.length = ps.length)
    (hb : ∀ (cdv : Value) (A : Around) (out : List Env) (s : Shared) (H : Hp) (xs : List V) (Q : VK) (E : XK), A.guards = some [] → Room n (A.deeper (envOfC qual (defScope st) s.heap.objs.size f cdv)) → sp xs H Q E →
      ∃ t, PSs (cxOf CX0 P w K mg base N qual (defScope st) f cdv A out s H E).nox (defBody st) t ∧ t { nx := fun _ H' => Q .non H', rt := Q } (start N xs) H) : FnG P w K mg base CX0 (n + 1) f fd ps sp := by
  obtain ⟨_, _, _, _, _, _, cdv, _, _, rfl, lk, cd⟩ := F.ex
  refine fnG_of lk cd S ar ?_
  intro A out s H xs Q E gd r h
  obtain ⟨t, ht, q⟩ := hb cdv A out s H xs Q E gd r h
  exact ⟨t, ht.nox, q⟩
end

/-! ### the end of a law's row -/
/-- the call of the law itself, over one abstract heap -/
theorem law_at {P : Program} {w : World} {K : PySem.W.Frag} {mg mb : Str → Option Value} {n : Nat} {fa a : Addr} {fd : FuncData} {x : Str} {sp : Sp} {s : Shared} {vs : List Value} {H : Hp}
    (KX : K.In s.heap) (hns : s.heap.Ns mainGlobals mg) (hb : s.heap.Ns builtinsNs mb) (hbb : ∀ x : Str, x ≠ "__name__" → mb x = bootBuiltins x) (lim : s.heap.NoLimit) (ng : s.gens = #[])
    (ha : s.heap.get? a = some { cls := .type "list", data := .seq vs.toArray }) (hr : Room n callerA)
    (F : ∀ base : Heap, K.In base → base.Ns mainGlobals mg → FnG P w K mg base CX0 n fa fd [x] sp) (bd : BindsTo s fd ⟨[.ref a], []⟩ [(x, .ref a)])
    (hsp : sp [.ref a] H (fun v _ => v = .bl true) E0) (hO : Only H) (hok : HOk P w H s.heap) (one : ∀ b, H b ≠ none → b = a) (apart : H a ≠ none → K.lookup a = none) :
    codeAny (model P w) callerA (.call (.ref fa) ⟨[.ref a], []⟩) (fun r s' => r = .ok (.ret (.bool true)) ∧ OldK s.heap s'.heap ∧ s'.os = s.os ∧ AllBare s'.gens) s := by
  have no : ∀ {b : Addr} {o : Obj}, s.heap.get? b = some o → (∀ its m, o.data ≠ .seq its m) → H b = none := by
    intro b o e d
    refine Classical.byContradiction fun z => ?_
    cases one b z
    rw [ha] at e
    cases e
    exact d _ _ rfl
  have keep : ∀ {b : Addr} {m : Str → Option Value}, s.heap.Ns b m → (hidT s.heap H).Ns b m := by
    rintro b m ⟨o, es, ep, e, d, r⟩
    exact ⟨o, es, ep, hidT_get e (no e fun its m z => by rw [d] at z; cases z), d, r⟩
  have inb : K.In (hidT s.heap H) := by
    intro b o e
    refine hidT_get (KX b o e) (Classical.byContradiction fun z => ?_)
    have eb := one b z
    rw [eb] at z e
    rw [apart z] at e
    cases e
  obtain ⟨mc, l1, l2⟩ := lim
  have M : Mod K mg (hidT s.heap H) := ⟨inb, keep hns, ⟨mb, keep hb, hbb⟩, ⟨mc, keep l1, l2⟩⟩
  have e0 : Env0 P w K mg (hidT s.heap H) callerA [] s H :=
    { frames := rfl, mod := M, bs := fun b o e => of_hidT e, bsz := Nat.le_of_eq (hidT_size _ _), funs := trivial, frf := fun b z => absurd (show b ∈ ([] : List Addr) from z) List.not_mem_nil, hok := hok, bare := .of_eq ng }
  refine codeAny_mono ((F _ inb (keep hns)).goes callerA [] s H ⟨[.ref a], []⟩ [.ref a] [.ref a] _ _ rfl hr e0 bd (.cons rfl .nil) hsp) ?_
  rintro (er | fl) s' h
  · exact False.elim h
  · cases fl with
    | ret u =>
      obtain ⟨v, H', os, bare, un, hok', rv, q⟩ := h
      cases (show v = .bl true from q)
      cases (show u = Value.bool true from rv)
      refine ⟨rfl, OldK.of_keep ?_, os, bare⟩
      intro b o e
      rcases hO b with z | ⟨ob, xs, z⟩
      · exact un.keep b o e z (fun y => absurd (show b ∈ ([] : List Addr) from y) List.not_mem_nil) List.not_mem_nil
      · have i1 := (hok b _ z).1
        rw [e] at i1
        rw [i1]
        exact (hok' b _ (un.frzs b ob _ z)).1
    | next => exact False.elim h
    | brk => exact False.elim h
    | cont => exact False.elim h
theorem walkG {l : PySem.W.OpenLaw} {m n : Nat} {q : Program} {loose : List Str} {XP : (Str → Option Value) → Heap → Prop} {YP : World → Heap → Prop} {d : DefRec} {K : Params → PySem.W.Frag} {sp : PySem.W.Frag → Sp} {x : Str}
    (hm : l.most = some m) (hm2 : m ≤ sizeLine) (hdf : d.params.defaults = []) (hr : Room n callerA) (hY : ∀ (w : World) (h : Heap), YP w h → (K w.params).In h)
    (F : ∀ (w : World) (mg : Str → Option Value) (fa : Addr) (h : Heap), (K w.params).In h → h.Ns mainGlobals mg → mg d.name = some (.ref fa) →
      ∃ fd : FuncData, (∀ (s : Shared) (u : Value), BindsTo s fd ⟨[u], []⟩ [(x, u)]) ∧
        ∀ base : Heap, (K w.params).In base → base.Ns mainGlobals mg → FnG l.prog w (K w.params) mg base CX0 n fa fd [x] (sp (K w.params)))
    (hsp : ∀ (K : PySem.W.Frag) (H : Hp) (a : Addr) (ns : List Int), ns.length ≤ m → Only H → SqL K H a (ns.map V.int) → sp K [.ref a] H (fun v _ => v = .bl true) E0) :
    PySem.W.WalkO q loose XP YP l.row.toRowW d [] (fun f vs => PySem.call f vs) := by
  refine Att.attach_call hm hdf ?_
  intro w s₀ s mg mb fa o pm cd doc a vs ns G Y ho hd hcd hmg hobj hints hlen hg
  have KX := hY w _ Y
  obtain ⟨fd, hb, hF⟩ := F w mg fa _ KX G.T.g hmg
  have rv := vals_ints hints
  have hl : (ns.map V.int).length ≤ sizeLine := by
    rw [List.length_map]
    exact Nat.le_trans hlen hm2
  cases hk : (K w.params).lookup a with
  | some ob =>
    have e := KX a ob hk
    rw [hobj] at e
    cases e
    refine law_at KX G.T.g G.T.b G.T.builtins G.T.nolimit hg hobj hr hF (hb s _) (H := fun _ => none) (hsp _ _ a ns hlen (fun _ => .inl rfl) (.inr ?_)) (fun _ => .inl rfl) (fun b u z => nomatch (show (none : Option HO) = some u from z)) (fun b z => absurd rfl z) fun z => absurd rfl z
    exact ⟨_, vs.toArray, _, hk, rfl, rfl, rfl, by rw [List.size_toArray, ← rv.length]; exact hl, by simpa using rv⟩
  | none =>
    let T : HO := .frz { cls := .type "list", data := .seq vs.toArray } (.lst (ns.map V.int))
    let H0 : Hp := fun _ => none
    have at_a : upd H0 a T a = some T := upd_same
    have off : ∀ b, b ≠ a → upd H0 a T b = none := fun b z => upd_ne z
    refine law_at KX G.T.g G.T.b G.T.builtins G.T.nolimit hg hobj hr hF (hb s _) (H := upd H0 a T) (hsp _ _ a ns hlen ?_ (.inl (.inr ⟨_, at_a⟩))) ?_ ?_ ?_ fun _ => hk
    · intro b
      by_cases z : b = a
      · cases z
        exact .inr ⟨_, _, at_a⟩
      · exact .inl (off b z)
    · intro b
      by_cases z : b = a
      · cases z
        exact .inr ⟨_, _, at_a⟩
      · exact .inl (off b z)
    · intro b u e
      by_cases z : b = a
      · cases z
        cases at_a.symm.trans e
        exact ⟨hobj, hl, vs, _, rv, hobj⟩
      · rw [off b z] at e
        cases e
    · intro b z
      exact Classical.byContradiction fun y => z (off b y)
end My

set_option maxHeartbeats 2000000
/-! repr of data: flat things, lists, tuples at any depth, and dicts of flat things. -/
namespace My
open PySem PySem.Spec PyProof.Rows L2

def flatD : V → Option PyData
  | .non => some .none
  | .bl b => some (.bool b)
  | .int i => some (.int i)
  | .str x => some (.str x)
  | _ => none
def keyD : Key → PyData
  | .inl i => .int i
  | .inr x => .str x
/-- the value v is the datum d -/
inductive Dd (K : PySem.W.Frag) (H : Hp) : V → PyData → Prop
  | dat {v : V} {d : PyData} : Dp K H v d → d.hasDict = false → Dd K H v d
  | dct {a : Addr} {kvs : List (Key × V)} {ds : List PyData} : H a = some (.dK kvs) → kvs.map (fun p => flatD p.2) = ds.map some → Dd K H (.ref a) (.dict ((kvs.map fun p => keyD p.1).zip ds))
theorem flat_reads {h : Heap} {v : V} {u : Value} {d : PyData} (e : flatD v = some d) (r : RelV v u) : Reads h u d [] := by
  cases v with
  | non => cases e; cases (show u = Value.none from r); exact .none
  | bl b => cases e; cases (show u = Value.bool b from r); exact .bool b
  | int i => cases e; obtain ⟨t, rfl⟩ := (show ∃ t, u = Value.int i t from r); exact .int i t
  | str x => cases e; obtain ⟨t, rfl⟩ := (show ∃ t, u = Value.str x t from r); exact .str x t
  | byt b => cases e
  | flt b => cases e
  | ref a => cases e
  | ty n => cases e
theorem key_reads {h : Heap} {k : Key} {u : Value} (e : keyIs k u = true) : Reads h u (keyD k) [] := by
  rcases keyIs_shape e with ⟨i, t, rfl, rfl⟩ | ⟨x, t, rfl, rfl⟩
  · exact .int i t
  · exact .str x t
theorem pairs_reads {P : Program} {w : World} {h : Heap} : ∀ {kvs : List (Key × V)} {vs : List (Key × Value)} {es : List DictEntry} {ds : List PyData}, KV kvs vs → Pairs (mixKind P w) es vs → kvs.map (fun p => flatD p.2) = ds.map some →
    ReadsAll h (es.map (·.key)) (((kvs.map fun p => keyD p.1).zip ds).map (·.1)) [] ∧ ReadsAll h (es.map (·.val)) (((kvs.map fun p => keyD p.1).zip ds).map (·.2)) []
  | [], _, _, [], .nil, .nil, _ => ⟨.nil, .nil⟩
  | [], _, _, _ :: _, _, _, e => by cases e
  | _ :: _, _, _, [], _, _, e => by cases e
  | p :: kvs, _, _, d :: ds, .cons r rs, .cons k v ps, e => by
    obtain ⟨e1, e2⟩ := List.cons.inj e
    obtain ⟨i1, i2⟩ := pairs_reads (h := h) rs ps e2
    rw [← r.1] at k
    rw [← v] at r
    exact ⟨ReadsAll.cons (as := []) (bs := []) (key_reads k) i1, ReadsAll.cons (as := []) (bs := []) (flat_reads e1 r.2) i2⟩
section
variable {X : Cx} {pins : List (Addr × Obj)} {σ : L2.St} {H : Hp} {s : Shared}
theorem Dd.reads (I : Inv X pins σ H s) {v : V} {u : Value} {d : PyData} (h : Dd X.K H v d) (r : RelV v u) : ∃ as, Reads s.heap u d as ∧ (d.hasDict = true → sysModules ∉ as) := by
  cases h with
  | dat hd n =>
    obtain ⟨as, q⟩ := Dp.reads I d v u hd r
    exact ⟨as, q, fun z => by rw [n] at z; cases z⟩
  | @dct a kvs ds ha e =>
    cases (show u = Value.ref a from r)
    obtain ⟨_, ns, vs, kv, o, es, ep, ho, ex, hd, _, ps, _⟩ := (show ObjOk X.prog X.w H s.heap a (.dK kvs) from I.hok a _ ha)
    obtain ⟨q1, q2⟩ := pairs_reads (h := s.heap) kv ps e
    refine ⟨_, Reads.dict (as := []) (bs := []) ho ex.1 hd q1 q2, fun _ z => ?_⟩
    have z' : sysModules = a := by simpa using z
    rw [z'] at ns
    simp at ns
/-- repr(v), v a datum -/
def rRepr (K : PySem.W.Frag) : List V → Hp → VK → Prop := fun xs H Q => ∃ v d, xs = [v] ∧ Dd K H v d ∧ d.showable = true ∧ d.depth ≤ 60 ∧ d.shown.length ≤ sizeLine ∧ Q (.str d.shown) H
theorem call_repr (gd : X.A.guards = some []) (hu : X.A.units + 64 < cLine) : CallR X (.builtin "repr") (rRepr X.K) := by
  rintro pins s σ H xs us Q I r ⟨v, d, rfl, hd, sh, dp, sz, q⟩
  obtain ⟨u, rfl, ru⟩ := vals1 r
  obtain ⟨as, rd, ns⟩ := hd.reads I ru
  cases rd with
  | none =>
    refine PySem.P.repr_of_none ⟨.str "None", H, I.tok _, ⟨_, rfl⟩, ?_⟩
    simpa only [PyData.shown] using q
  | bool b =>
    refine PySem.P.repr_of_bool ⟨.str (if b then "True" else "False"), H, I.tok _, ⟨_, rfl⟩, ?_⟩
    simpa only [PyData.shown] using q
  | int i t =>
    refine PySem.P.repr_of_int (by simpa [PyData.showable] using sh) ⟨.str (toString i), H, I.tok _, ⟨_, rfl⟩, ?_⟩
    simpa only [PyData.shown] using q
  | str x t =>
    refine PySem.P.repr_of_str ⟨.str (reprText x), H, I.tok _, ⟨_, rfl⟩, ?_⟩ (by simpa only [PyData.shown] using sz)
    simpa only [PyData.shown] using q
  | list h1 h2 h3 h4 => exact repr_of_reads' (.list h1 h2 h3 h4) sh ns gd (by omega) (fun _ _ e => e) (fun h1 u tk hk => ⟨.str _, H, I.kept hk, ⟨u, rfl⟩, q⟩) sz
  | tuple h1 h2 h3 h4 => exact repr_of_reads' (.tuple h1 h2 h3 h4) sh ns gd (by omega) (fun _ _ e => e) (fun h1 u tk hk => ⟨.str _, H, I.kept hk, ⟨u, rfl⟩, q⟩) sz
  | dict h1 h2 h3 h4 h5 => exact repr_of_reads' (.dict h1 h2 h3 h4 h5) sh ns gd (by omega) (fun _ _ e => e) (fun h1 u tk hk => ⟨.str _, H, I.kept hk, ⟨u, rfl⟩, q⟩) sz
end
theorem Same.tup {K : PySem.W.Frag} {H H' : Hp} {a : Addr} {xs : List V} (e : Same H H') (h : SqT K H a xs) : SqT K H' a xs := by
  rcases h with (h | ⟨o, h⟩) | h
  · exact .inl (.inl (e _ _ h))
  · exact .inl (.inr ⟨o, e _ _ h⟩)
  · exact .inr h
mutual
theorem Dp.same {K : PySem.W.Frag} {H H' : Hp} (e : Same H H') : ∀ (d : PyData) (v : V), Dp K H v d → Dp K H' v d
  | .none, _, h => by cases h; exact .non
  | .bool _, _, h => by cases h; exact .bl _
  | .int _, _, h => by cases h; exact .int _
  | .str _, _, h => by cases h; exact .str _
  | .list ds, _, h => by
    cases h with
    | lst s a => exact .lst (L2.Same.seq e s) (DpAll.same e ds _ a)
  | .tuple ds, _, h => by
    cases h with
    | tup s a => exact .tup (Same.tup e s) (DpAll.same e ds _ a)
  | .dict _, _, h => by cases h
theorem DpAll.same {K : PySem.W.Frag} {H H' : Hp} (e : Same H H') : ∀ (ds : List PyData) (vs : List V), DpAll K H vs ds → DpAll K H' vs ds
  | [], _, h => by cases h; exact .nil
  | d :: ds, _, h => by
    cases h with
    | cons a b => exact .cons (Dp.same e d _ a) (DpAll.same e ds _ b)
end
theorem Dd.same {K : PySem.W.Frag} {H H' : Hp} (e : Same H H') {v : V} {d : PyData} (h : Dd K H v d) : Dd K H' v d := by
  cases h with
  | dat a n => exact .dat (Dp.same e _ _ a) n
  | dct a n => exact .dct (e _ _ a) n
end My

set_option maxHeartbeats 4000000
/-! Exceptions of own classes over ValueError as values: made by position and by name, their fields, isinstance. -/
namespace MyX
open PySem PySem.W PySem.Calls PyProof.Rows PySem.HandSPX
open Builtin Builtin.ObjectAttr
section
variable {M : Model} {prog : Program} {w : World} {A : Around} {E : Value → Shared → Prop} {R : Result → Shared → Prop} {h : Heap} {g : Array GenState} {d : Drawn} {t : Nat} {os : OsState}
variable {nm q : Str} {C N : Addr} {bs bm bmB : List Value} {hdct : Bool} {sn : List Str} {sub : List Value} {ab : Bool} {col : Option Bool} {dd : Option Addr} {k0 k1 k2 k3 k5 : Option Value} {B newId initId : String} {key : Str} {val : Value}
theorem check_type_kw {Q : Unit → Shared → Prop} (hC : h.get? C = some (excClassObj nm q C N bs bm hdct sn sub ab col dd k0 k1 k2 k3 k5 newId)) (z : Q () ⟨h, g, d, t, os⟩) :
    wpAny M A (checkBuiltinCall "type.__call__" ⟨[.ref C], [(key, val)]⟩) Q E ⟨h, g, d, t, os⟩ := by
  have e3 := tc_sub
  have ty : (⟨h, g, d, t, os⟩ : Shared).TypeIs (.ref C) "type" := ⟨_, hC, rfl⟩
  simp only [checkBuiltinCall, tc_kind, tc_split]
  repeat (any_goals (first
    | assumption
    | with_reducible refine wpAny_loadPart_at hC ?_
    | with_reducible refine wpAny_onRaise ?_
    | with_reducible refine wpAny_map ?_
    | wp_step))
theorem check_new_kw (F : ExcBaseFacts B newId initId bmB) (hT : ∀ X : String, bm.contains (.type X) = bmB.contains (.type X)) {Q : Unit → Shared → Prop}
    (hC : h.get? C = some (excClassObj nm q C N bs bm hdct sn sub ab col dd k0 k1 k2 k3 k5 newId)) (z : Q () ⟨h, g, d, t, os⟩) : wpAny M A (checkBuiltinCall newId ⟨[.ref C], [(key, val)]⟩) Q E ⟨h, g, d, t, os⟩ := by
  have hc : (Value.ref C :: bm).contains (.type B) = true := by rw [List.contains_cons, hT, F.hasB, Bool.or_true]
  have ns := F.noStar
  simp only [checkBuiltinCall, F.newKind, F.newSplit, F.newRow]
  repeat (first
    | refine wpAny_loadPart_at hC ?_
    | (refine wpAny_isSubtype_exc hC ?_; rw [hc])
    | refine wpAny_staticBase_exc hC ?_
    | refine wpAny_madeBy_exc hC ?_
    | simp only [bne_self_eq_false, Bool.false_eq_true, if_false]
    | wp_step)
  exact z
theorem new_kw (F : ExcBaseFacts B newId initId bmB) (hT : ∀ X : String, bm.contains (.type X) = bmB.contains (.type X))
    (hC : h.get? C = some (excClassObj nm q C N bs bm hdct sn sub ab col dd k0 k1 k2 k3 k5 newId))
    (z : R (.ok (.ret (.ref (h.objs.size + 1)))) ⟨(h.push (kdv_tup [])).push (excO C h.objs.size), g, d, t, os⟩) :
    codeAny (model prog w) A (.builtin newId ⟨[.ref C], [(key, val)]⟩) R ⟨h, g, d, t, os⟩ := by
  have he := F.ends
  have c1 : (Value.ref C :: bm).contains (.type B) = true := by rw [List.contains_cons, hT, F.hasB, Bool.or_true]
  have c2 : (Value.ref C :: bm).contains (.type "AttributeError") = false := by
    rw [List.contains_cons, hT, F.noAttr]
    rfl
  have c3 : (Value.ref C :: bm).contains (.type "NameError") = false := by
    rw [List.contains_cons, hT, F.noName]
    rfl
  refine codeAny_builtinAt F.entry ?_
  unfold Builtin.«BaseException.__new__»
  refine PySem.wpAt_bind ?_
  show PySem.wpAt _ _ _ (stack >>= _) _ _ _
  refine PySem.wpAt_bind (PySem.wpAt_stack fun p below => PySem.wpAt_of_wpAny ?_)
  wp_walk
  refine PySem.wpAt_of_wpAny ?_
  rw [F.owner]
  repeat (first
    | with_reducible refine wpAny_madeHere_exc F.canon hC ?_
    | with_reducible refine wpAny_loadPart_at hC ?_
    | (with_reducible refine wpAny_isSubtype_exc hC ?_; first | rw [c1] | rw [c2] | rw [c3])
    | wp_step)
  show R _ _
  rw [Heap.size_push]
  exact z
theorem type_call_kw (F : ExcBaseFacts B newId initId bmB) (hT : ∀ X : String, bm.contains (.type X) = bmB.contains (.type X)) {fI : Addr} {Q : Fin → Shared → Prop}
    (hC : h.get? C = some (excClassObj nm q C N bs bm hdct sn sub ab col dd k0 k1 k2 k3 k5 newId))
    (hi : Looks (model prog w) h (typeLookup (.ref C) "__init__") (some (.ref fI))) (hb : ∀ self, Looks (model prog w) h (bindSpecial (.ref fI) self) (.ref fI, [self]))
    (z : codeAny (model prog w) A (.call (.ref fI) ⟨[.ref (h.objs.size + 1)], [(key, val)]⟩)
      (fun r s' => match r with | .ok (.ret v) => v = .none ∧ Q (.done (.ret (.ref (h.objs.size + 1)))) s' | .ok _ => False | .error e => E e s')
      ⟨(h.push (kdv_tup [])).push (excO C h.objs.size), g, d, t, os⟩) :
    wpAny (model prog w) A (Builtin.«type.__call__» ⟨[.ref C], [(key, val)]⟩) Q E ⟨h, g, d, t, os⟩ := by
  repeat (first
    | with_reducible refine wpAny_loadPart_at hC ?_
    | with_reducible refine wpAny_madeBy_exc hC ?_
    | wp_step)
  refine codeAny_call_builtin_code (Code.quiet_builtin _ F.quiet) (check_new_kw F hT hC ?_)
  refine new_kw F hT hC ?_
  show wpAny _ _ _ _ _ _
  have k : ∀ b o, h.get? b = some o → ((h.push (kdv_tup [])).push (excO C h.objs.size)).get? b = some o := fun b o e => Heap.get?_push_of_some _ (Heap.get?_push_of_some _ e)
  have hC2 := k _ _ hC
  have at1 : ((h.push (kdv_tup [])).push (excO C h.objs.size)).get? (h.objs.size + 1) = some (excO C h.objs.size) := by heap_get
  have cc : (Value.ref C :: bm).contains (.ref C) = true := by simp
  have i1 := hi.keeps k
  have b1 := (hb (.ref (h.objs.size + 1))).keeps k
  unfold isInstance
  repeat (first
    | with_reducible refine wpAny_loadPart_at at1 ?_
    | (with_reducible refine wpAny_isSubtype_exc hC2 ?_; rw [cc])
    | wp_step)
  show wpAny _ _ (typeLookup (.ref C) _) _ _ _
  refine i1.at ?_
  refine wpAny_holding (wpAny_bind (b1.at ?_))
  refine wpAny_bind (wpAny_call (codeAny_mono z ?_))
  rintro (e | (v | _ | _ | _)) s' y <;> first | exact y | exact y.elim | skip
  all_goals first
    | (obtain ⟨rfl, y⟩ := y; first | exact wpAny_pure (wpAny_pure y) | (wp_walk; exact y))
    | exact y
theorem call_kw (F : ExcBaseFacts B newId initId bmB) (hT : ∀ X : String, bm.contains (.type X) = bmB.contains (.type X)) {fI : Addr}
    (hC : h.get? C = some (excClassObj nm q C N bs bm hdct sn sub ab col dd k0 k1 k2 k3 k5 newId))
    (hi : Looks (model prog w) h (typeLookup (.ref C) "__init__") (some (.ref fI))) (hb : ∀ self, Looks (model prog w) h (bindSpecial (.ref fI) self) (.ref fI, [self]))
    (z : codeAny (model prog w) (A.under (.builtin "type.__call__" ⟨[.ref C], [(key, val)]⟩)) (.call (.ref fI) ⟨[.ref (h.objs.size + 1)], [(key, val)]⟩) (InitBack (h.objs.size + 1) R)
      ⟨(h.push (kdv_tup [])).push (excO C h.objs.size), g, d, t, os⟩) :
    codeAny (model prog w) A (.call (.ref C) ⟨[], [(key, val)]⟩) R ⟨h, g, d, t, os⟩ := by
  have e1 := tc_lookup
  have e2 := tc_bind (.ref C)
  have ty : (⟨h, g, d, t, os⟩ : Shared).TypeIs (.ref C) "type" := ⟨_, hC, rfl⟩
  refine codeAny_of_tree ?_
  show wpAny _ _ (callAny (.ref C) _) _ _ _
  repeat (any_goals (first
    | assumption
    | with_reducible refine wpAny_loadPart_at hC ?_
    | wp_step))
  refine ⟨rfl, ?_⟩
  refine codeAny_call_builtin_at (Code.quiet_builtin _ (by decide +kernel)) entry_typeCall (check_type_kw hC (type_call_kw F hT hC hi hb ?_))
  refine codeAny_mono z ?_
  rintro (e | (v | _ | _ | _)) s' y <;> exact y
end
end MyX

set_option maxHeartbeats 4000000
/-! The layer's rules for exceptions as values. -/
namespace My
open PySem PySem.Spec PyProof.Rows L2

/-- an exception's own __init__: one field -/
def spInit (C : Addr) (fld : Str) : Sp := fun xs H Q _ => ∃ (a : Addr) (v : V), xs = [.ref a, v] ∧ H a = some (exo a C none) ∧
  ∀ d, H d = none → d ≠ a → Q .non (upd (upd H d (exd d [(fld, v)])) a (exo a C (some d)))
/-- what the class at C, its __init__ at fI must be -/
structure XCls (K : PySem.W.Frag) (C fI : Addr) (fld : Str) : Prop where
  ox : OexC K C
  iC : PySem.W.findIn K (.ref C) "__init__" = some (some (.ref fI))
  tI : PySem.W.typeIn K (.ref fI) = some (.type "function")
  xf : XfC K C
  no : PySem.W.findIn K (.ref C) fld = some none
/-- a new exception of the class at C, its dict with the one field -/
def NewX (C : Addr) (fld : Str) (v : V) (H : Hp) (Q : VK) : Prop := ∀ a d, H a = none → H d = none → d ≠ a → Q (.ref a) (upd (upd (upd H a (exo a C none)) d (exd d [(fld, v)])) a (exo a C (some d)))
def tMkX (C : Addr) (fld : Str) (ta : TA) : TE := fun σ H Q => ta σ H fun vs H1 => ∃ v, vs = [v] ∧ NewX C fld v H1 Q
section
variable {X : Cx} {nm : Str} {C fI : Addr} {k : Nat} {fd : FuncData} {fld : Str} {e : Expr} {te : TE} {ta : TA} {p pos kpos : Pos} {pins : List (Addr × Obj)} {σ : L2.St} {H : Hp}
theorem mkx_start {hp : Heap} {g : Array GenState} {dr : Drawn} {tk : Nat} {os : OsState} {us : List Value} {v : V} {Q : VK} (I : Inv X pins σ H ⟨hp, g, dr, tk, os⟩) (q : NewX C fld v H Q) :
    Inv X pins σ (upd H (hp.objs.size + 1) (exo (hp.objs.size + 1) C none)) ⟨(hp.push (PySem.W.kdv_tup us)).push (PySem.HandSPX.excO C hp.objs.size), g, dr, tk, os⟩ ∧
    spInit C fld [.ref (hp.objs.size + 1), v] (upd H (hp.objs.size + 1) (exo (hp.objs.size + 1) C none)) (fun r H2 => r = .non ∧ Q (.ref (hp.objs.size + 1)) H2) E0 := by
  have big : hp.objs.size ≤ hp.objs.size + 1 := Nat.le_succ _
  have none1 : H (hp.objs.size + 1) = none := I.hok.fresh big
  have here : ((hp.push (PySem.W.kdv_tup us)).push (PySem.HandSPX.excO C hp.objs.size)).get? (hp.objs.size + 1) = some (PySem.HandSPX.excO C hp.objs.size) := by heap_get
  refine ⟨I.laid (fun b o e => Heap.get?_push_of_some _ (Heap.get?_push_of_some _ e)) big (exo_ok here), _, v, rfl, upd_same, ?_⟩
  intro d hd hne
  rw [upd_ne hne] at hd
  exact ⟨rfl, q _ d none1 hd hne⟩
/-- behind __init__ -/
theorem mkx_end {s : Shared} {n : Addr} {Q : VK} (I : Inv X pins σ H s) {r : Result} {s' : Shared} (h : CR CX0 X.stack X.prog X.w H s (fun r H2 => r = .non ∧ Q (.ref n) H2) E0 r s') :
    PySem.W.InitBack n (fun r s' => match r with | .ok (.ret v) => EP X pins σ Q v s' | .ok _ => False | .error e => X.xe e s') r s' := by
  rcases r with er | fl
  · exact False.elim h
  · cases fl with
    | ret u =>
      obtain ⟨v, H', J, rv, ev, q⟩ := I.after h
      subst ev
      exact ⟨rv, .ref n, H', J, rfl, q⟩
    | next => exact False.elim h
    | brk => exact False.elim h
    | cont => exact False.elim h
theorem pe_mkX (T : XCls X.K C fI fld) (G : FnOk X.prog X.w X.K X.mg X.base CX0 k fI fd ["self", fld] (spInit C fld)) (hr : Room (k + 1) X.A) (hb : Binds X.K fd ["self", fld] []) (hg : Gl X nm) (hm : X.mg nm = some (.ref C)) (ha : PA X [e] ta)
    (hdb : (nm == ("__debug__" : Str)) = false := by decide) (hs : starEach [e] X.env = (false, eval e X.env) :: starEach [] X.env := by rfl) (hpl : (backTo pos (starEach [] X.env)).any (·.1) = false := by rfl) :
    PE X (.Call (.Name nm p) [e] [] pos) (tMkX C fld ta) := by
  refine ⟨?_⟩
  intro pins s σ H Q I h
  obtain ⟨cn, q, N, bs, bm, sn, sub, ab, col, dd, k0, k1, k2, k3, k5, hC, hbm⟩ := T.ox.cls
  refine wpAny_Call_Name_kw (ld_glob I hg hm ?_ hdb)
  refine PySem.W.callWith_K (h₀ := X.base) I.ok.mod.kin T.ox.kC (thn (ha.run pos pins s σ H _ I h) ?_) hs hpl
  rintro us s1 ⟨vs, H1, I1, r, v, rfl, q1⟩
  refine ⟨I1.kIn, ?_⟩
  obtain ⟨u, rfl, ru⟩ := vals1 r
  obtain ⟨hp, g, dr, tk, os⟩ := s1
  obtain ⟨I2, h2⟩ := mkx_start (us := [u]) I1 q1
  show wpAny _ _ (call (.ref C) [u]) _ _ _
  have bd := hb _ [.ref (hp.objs.size + 1), u] I2.kIn rfl
  refine wpAny_call (PySem.HandSPX.call_own PySem.F.excBase_ValueError (fun Y => PySem.HandSPX.refsVE_contains Y bm hbm) (I1.kIn _ _ hC) (PySem.W.looks_findIn I1.kIn T.iC) (fun self => PySem.W.bind_fn I1.kIn self T.tI) (by show 1 ≤ sizeLine; decide) ?_)
  refine codeAny_mono (G.run _ X.stack _ _ ⟨[.ref (hp.objs.size + 1), u], []⟩ [.ref (hp.objs.size + 1), u] [.ref (hp.objs.size + 1), v] _ E0 (hr.make C [u] []) (I2.env0.make C [u] []) bd (.cons rfl (.cons ru .nil)) h2) ?_
  intro r s' hq
  exact mkx_end I2 hq
/-- the same by the field's name -/
theorem pe_mkXK {tk : TA} (T : XCls X.K C fI fld) (G : FnOk X.prog X.w X.K X.mg X.base CX0 k fI fd ["self", fld] (spInit C fld)) (hr : Room (k + 1) X.A) (hb : ∀ (s : Shared) (a u : Value), BindsTo s fd ⟨[a], [(fld, u)]⟩ ([("self" : Str), fld].zip [a, u])) (hg : Gl X nm) (hm : X.mg nm = some (.ref C))
    {kws : List Keyword} (hk : PK X kws tk) (hall : (backToKw pos (keywordEach kws X.env)).all (·.1.isSome) = true := by rfl) (hks : (backToKw pos (keywordEach kws X.env)).filterMap (·.1) = [fld] := by rfl)
    (hdb : (nm == ("__debug__" : Str)) = false := by decide) (hpl : ((backTo pos (starEach [] X.env)).any (·.1) || (backToKw pos (keywordEach kws X.env)).any (·.1.isNone)) = false := by rfl) :
    PE X (.Call (.Name nm p) [] kws pos) (tMkX C fld tk) := by
  refine ⟨?_⟩
  intro pins s σ H Q I h
  obtain ⟨cn, q, N, bs, bm, sn, sub, ab, col, dd, k0, k1, k2, k3, k5, hC, hbm⟩ := T.ox.cls
  refine wpAny_Call_Name_kw (ld_glob I hg hm ?_ hdb)
  refine PySem.W.callWith_KW0 (h₀ := X.base) I.ok.mod.kin T.ox.kC hall (thn (hk.run pos pins s σ H _ I h) ?_) hpl
  rintro us s1 ⟨vs, H1, I1, r, v, rfl, q1⟩
  refine ⟨I1.kIn, ?_⟩
  obtain ⟨u, rfl, ru⟩ := vals1 r
  rw [hks]
  obtain ⟨hp, g, dr, tk, os⟩ := s1
  obtain ⟨I2, h2⟩ := mkx_start (us := []) I1 q1
  show wpAny _ _ (call (.ref C) [] [(fld, u)]) _ _ _
  refine wpAny_call (MyX.call_kw PySem.F.excBase_ValueError (fun Y => PySem.HandSPX.refsVE_contains Y bm hbm) (I1.kIn _ _ hC) (PySem.W.looks_findIn I1.kIn T.iC) (fun self => PySem.W.bind_fn I1.kIn self T.tI) ?_)
  refine codeAny_mono (G.run _ X.stack _ _ ⟨[.ref (hp.objs.size + 1)], [(fld, u)]⟩ [.ref (hp.objs.size + 1), u] [.ref (hp.objs.size + 1), v] _ E0 (hr.make C [] [(fld, u)]) (I2.env0.make C [] [(fld, u)]) (hb _ _ _) (.cons rfl (.cons ru .nil)) h2) ?_
  intro r s' hq
  exact mkx_end I2 hq
/-- C(), an own exception class without an __init__ -/
theorem pe_mkX0 {bmB : List Value} {B newId initId : String} (F : ExcBaseFacts B newId initId bmB) (q : PySem.W.excIn X.K C bmB newId = true) (gC : X.mg nm = some (.ref C)) (kC : PySem.W.keepIn X.K (.ref C) = true) (hg : Gl X nm) (hdb : (nm == ("__debug__" : Str)) = false := by decide) :
    PE X (.Call (.Name nm p) [] [] pos) (fun _ H Q => ∀ a, H a = none → Q (.ref a) (upd H a (ExO (.ref C) a))) := by
  refine ⟨?_⟩
  intro pins s σ H Q I h
  refine wpAny_Call_Name_kw (ld_glob I hg gC ?_ hdb)
  refine PySem.W.callWith_K0 I.kIn kC ?_
  show wpAny _ _ (call (.ref C) []) _ _ _
  obtain ⟨bm, N, nm, qn, bs, hdct, sn, sub, ab, col, dd, k0, k1, k2, k3, k5, mN, hC, hN, hni, T⟩ := exc_obj I.kIn q
  refine wpAny_call_exc_subT F T hC hN hni ?_ (by show 0 ≤ sizeLine; decide)
  intro h' a hm
  have hn : H a = none := I.hok.gone hm.new
  obtain ⟨t, ht, _, _⟩ := hm.there
  exact ⟨.ref a, _, I.laidN hm.keeps hm.new hn (exO_ok ht ⟨rfl, rfl⟩ rfl rfl rfl (show 4 < 6 by decide)), rfl, h a hn⟩

/-- e.f, e such an exception -/
def tXget (K : PySem.W.Frag) (f : Str) (te : TE) : TE := fun σ H Q => te σ H fun x H1 => ∃ (a C d : Addr) (fs : List (Str × V)) (v : V), x = .ref a ∧ H1 a = some (exo a C (some d)) ∧ H1 d = some (exd d fs) ∧ XfC K C ∧
  PySem.W.findIn K (.ref C) f = some none ∧ fs.lookup f = some v ∧ Q v H1
theorem pe_xget {f : Str} (he : PE X e te) (hb : attributeBase e f X.env (eval e X.env) = eval e X.env := by rfl) : PE X (.Attribute e f pos) (tXget X.K f te) := by
  refine ⟨?_⟩
  intro pins s σ H Q I h
  refine attr_of hb (thn (he.run pins s σ H _ I h) ?_)
  rintro u s1 ⟨x, H1, I1, rx, a, C, d, fs, v, rfl, ha, hd, T, no, l, q⟩
  obtain rfl : u = Value.ref a := rx
  obtain ⟨t1, oa⟩ := exo_at I1.hok ha
  obtain ⟨mA, ns, rel⟩ := exd_at I1.hok hd
  obtain ⟨od, hod, hl⟩ := lookIn_ns ns
  obtain ⟨u, hu, ru⟩ := RelO.some_of (v := v) (o := mA f) (by rw [← l]; exact rel f)
  have J : PySem.W.InstAt s1.heap a { cls := .ref C, dict := some d, data := .fields #[.ref t1, .none, .none, .none, .bool false, .none] } C (some od) := ⟨oa, rfl, rfl, hod⟩
  exact HandSPX.exc_get I1.kIn J T.ga T.gg T.exC (PySem.W.findObj_own T.hdC no rfl (by rw [hl, hu])) (handed_of ru) ⟨v, H1, I1.tok _, ru, q⟩

/-- at a: an exception of the class at C -/
def IsX (H : Hp) (a C : Addr) : Prop := (∃ d fs, H a = some (exo a C (some d)) ∧ H d = some (exd d fs)) ∨ H a = some (ExO (.ref C) a)
/-- what isinstance asks of such a class -/
structure XIs (K : PySem.W.Frag) (C : Addr) : Prop where
  cl : (PySem.W.clsIn K C).isSome = true
  xf : XfC K C
  ha : PySem.W.findIn K (.ref C) "__class__" = some (some (.builtin "object.__class__"))
  hn : PySem.W.specialIn K (.builtin "object.__class__") "__get__" = some (some (.builtin "getset_descriptor.__get__"))
  ht : PySem.W.takesIn K (.builtin "object.__class__") = some true
  hm : PySem.W.mroIn K C (.type "object") = some true
def rIsX (K : PySem.W.Frag) : List V → Hp → VK → Prop := fun xs H Q => ∃ (a C : Addr) (c : V) (u : Value) (b : Bool), xs = [.ref a, c] ∧ ClsV c u ∧ IsX H a C ∧ XIs K C ∧ PySem.W.kitOne K (.ref C) u = some b ∧ Q (.bl b) H
theorem call_isX : CallR X (.builtin "isinstance") (rIsX X.K) := by
  rintro pins s σ H xs us Q I r ⟨a, C, c, u, b, rfl, cv, hx, T, kit, q⟩
  obtain ⟨u1, u2, rfl, r1, r2⟩ := vals2 r
  obtain rfl : u2 = u := cv.eq r2
  obtain rfl : u1 = Value.ref a := r1
  have go : ∀ (ox : Obj) (od : Option Obj), PySem.W.InstAt s.heap a ox C od → wpAny (model X.prog X.w) X.A (call (.builtin "isinstance") [.ref a, u2]) (EP X pins σ Q) X.xe s := fun ox od J =>
    PySem.W.kia_one (PySem.W.kitx_exc T.cl T.xf.ga T.xf.gg T.xf.exC T.ha T.hn T.ht T.hm) I.kIn J kit (fun z => nomatch z) fun tk => ⟨.bl b, H, I.tok tk, rfl, q⟩
  rcases hx with ⟨d, fs, ha, hd⟩ | ha
  · obtain ⟨t1, oa⟩ := exo_at I.hok ha
    obtain ⟨mA, ⟨od, es, ep, hod, _⟩, _⟩ := exd_at I.hok hd
    exact go _ (some od) ⟨oa, rfl, rfl, hod⟩
  · have z : ObjOk X.prog X.w H s.heap a (ExO (.ref C) a) := I.hok a _ ha
    obtain ⟨⟨oe, vs, ho, ⟨z1, z2⟩, hd, _⟩, _⟩ := z
    refine go oe none ⟨ho, z1, ?_, ?_⟩
    · unfold PySem.W.notCls
      rw [hd]
    · rw [z2]
      trivial
end
end My

set_option maxHeartbeats 2000000
/-! Graphs as pairs of numbers: what a GRAPH is, in plain Lean. -/
namespace My
open PySem PySem.Spec PyProof.Rows L2
abbrev E2 := Nat × Nat
theorem same_put {H H1 : Hp} {D : Addr} {o : HO} (s : Same H H1) (n : H D = none) : Same H (upd H1 D o) := fun b u e => by
  rw [upd_ne (ne_of_none e n)]
  exact s b u e
/-- a stands ahead of b, as tuples -/
def ahead (a b : E2) : Prop := a.1 < b.1 ∨ (a.1 = b.1 ∧ a.2 < b.2)
instance (a b : E2) : Decidable (ahead a b) := inferInstanceAs (Decidable (_ ∨ _))
structure Good (n : Nat) (es : List E2) : Prop where
  n9 : n ≤ 9
  lt : ∀ p ∈ es, p.1 < p.2 ∧ p.2 < n
  up : es.Pairwise ahead
/-- the pairs with u ahead, below n; all pairs below n, ascending -/
def rowP (n u : Nat) : List E2 := (List.range (n - (u + 1))).map fun j => (u, u + 1 + j)
def allP (n : Nat) : List E2 := (List.range n).flatMap (rowP n)
theorem mem_rowP {n u : Nat} {p : E2} : p ∈ rowP n u ↔ p.1 = u ∧ u < p.2 ∧ p.2 < n := by
  unfold rowP
  rw [List.mem_map]
  constructor
  · rintro ⟨j, hj, rfl⟩
    have := List.mem_range.mp hj
    refine ⟨rfl, ?_, ?_⟩ <;> show _ < _ <;> omega
  · rintro ⟨h1, h2, h3⟩
    refine ⟨p.2 - (u + 1), List.mem_range.mpr (by omega), ?_⟩
    obtain ⟨a, b⟩ := p
    simp only at h1 h2 h3 ⊢
    rw [h1, show u + 1 + (b - (u + 1)) = b by omega]
theorem mem_allP {n : Nat} {p : E2} : p ∈ allP n ↔ p.1 < p.2 ∧ p.2 < n := by
  unfold allP
  rw [List.mem_flatMap]
  constructor
  · rintro ⟨u, hu, h⟩
    obtain ⟨h1, h2, h3⟩ := mem_rowP.mp h
    omega
  · rintro ⟨h1, h2⟩
    exact ⟨p.1, List.mem_range.mpr (by omega), mem_rowP.mpr ⟨rfl, h1, h2⟩⟩
theorem allP_up : ∀ n, n ≤ 9 → (allP n).Pairwise ahead := by decide +kernel
theorem allP_few : ∀ n, n ≤ 9 → (allP n).length ≤ 36 := by decide +kernel
theorem ahead_ne {a b : E2} (h : ahead a b) : a ≠ b := by
  rintro rfl
  rcases h with h | h <;> omega
theorem sub_few {α : Type} [DecidableEq α] : ∀ {l m : List α}, l.Nodup → (∀ x ∈ l, x ∈ m) → l.length ≤ m.length
  | [], _, _, _ => Nat.zero_le _
  | a :: l, m, nd, sub => by
    obtain ⟨na, nl⟩ := List.nodup_cons.mp nd
    have ma : a ∈ m := sub a (List.mem_cons_self ..)
    have ih := sub_few (l := l) (m := m.erase a) nl fun x hx => by
      have hne : x ≠ a := fun e => na (e ▸ hx)
      exact (List.mem_erase_of_ne hne).mpr (sub x (List.mem_cons_of_mem _ hx))
    have le := List.length_erase_of_mem ma
    have pos : 0 < m.length := List.length_pos_of_mem ma
    rw [List.length_cons]
    omega
theorem Good.nodup {n : Nat} {es : List E2} (g : Good n es) : es.Nodup := g.up.imp fun h => ahead_ne h
theorem Good.few {n : Nat} {es : List E2} (g : Good n es) : es.length ≤ 36 := Nat.le_trans (sub_few g.nodup fun p hp => mem_allP.mpr (g.lt p hp)) (allP_few n g.n9)
theorem Good.filter {n : Nat} (h : n ≤ 9) (f : E2 → Bool) : Good n ((allP n).filter f) := ⟨h, fun p hp => mem_allP.mp (List.mem_filter.mp hp).1, (allP_up n h).filter _⟩
theorem Good.nil {n : Nat} (h : n ≤ 9) : Good n [] := ⟨h, fun _ z => (nomatch z), .nil⟩
theorem Good.more {n m : Nat} {es : List E2} (g : Good n es) (h : n ≤ m) (h9 : m ≤ 9) : Good m es := ⟨h9, fun p hp => ⟨(g.lt p hp).1, by have := (g.lt p hp).2; omega⟩, g.up⟩

/-! ### on the heap -/
/-- the pair p as a tuple -/
def PairAt (K : PySem.W.Frag) (H : Hp) (x : V) (p : E2) : Prop := ∃ t, x = .ref t ∧ SqT K H t [.int (p.1 : Int), .int (p.2 : Int)]
abbrev PairsAt (K : PySem.W.Frag) (H : Hp) : List V → List E2 → Prop := Paired (PairAt K H)
theorem PairAt.same {K : PySem.W.Frag} {H H' : Hp} (e : Same H H') {x : V} {p : E2} (h : PairAt K H x p) : PairAt K H' x p := by
  obtain ⟨t, rfl, h⟩ := h
  exact ⟨t, rfl, Same.tup e h⟩
theorem PairsAt.same {K : PySem.W.Frag} {H H' : Hp} (e : Same H H') : ∀ {xs : List V} {ps : List E2}, PairsAt K H xs ps → PairsAt K H' xs ps
  | _, _, .nil => .nil
  | _, _, .cons a b => .cons (a.same e) (PairsAt.same e b)
theorem PairsAt.append {K : PySem.W.Frag} {H : Hp} : ∀ {xs ys : List V} {ps qs : List E2}, PairsAt K H xs ps → PairsAt K H ys qs → PairsAt K H (xs ++ ys) (ps ++ qs)
  | _, _, _, _, .nil, h => h
  | _, _, _, _, .cons a b, h => .cons a (PairsAt.append b h)
/-- a graph -/
def GraphAt (K : PySem.W.Frag) (H : Hp) (x : V) (n : Nat) (es : List E2) : Prop := ∃ (t e : Addr) (xs : List V), x = .ref t ∧ SqT K H t [.int (n : Int), .ref e] ∧ SqT K H e xs ∧ PairsAt K H xs es
theorem GraphAt.same {K : PySem.W.Frag} {H H' : Hp} (s : Same H H') {x : V} {n : Nat} {es : List E2} (h : GraphAt K H x n es) : GraphAt K H' x n es := by
  obtain ⟨t, e, xs, rfl, h1, h2, h3⟩ := h
  exact ⟨t, e, xs, rfl, Same.tup s h1, Same.tup s h2, h3.same s⟩
def pairD (p : E2) : PyData := .tuple [.int (p.1 : Int), .int (p.2 : Int)]
def graphD (n : Nat) (es : List E2) : PyData := .tuple [.int (n : Int), .tuple (es.map pairD)]
theorem PairAt.dp {K : PySem.W.Frag} {H : Hp} {x : V} {p : E2} (h : PairAt K H x p) : Dp K H x (pairD p) := by
  obtain ⟨t, rfl, h⟩ := h
  exact .tup h (.cons (.int _) (.cons (.int _) .nil))
theorem PairsAt.dp {K : PySem.W.Frag} {H : Hp} : ∀ {xs : List V} {ps : List E2}, PairsAt K H xs ps → DpAll K H xs (ps.map pairD)
  | _, _, .nil => .nil
  | _, _, .cons a b => .cons a.dp (PairsAt.dp b)
theorem GraphAt.dp {K : PySem.W.Frag} {H : Hp} {x : V} {n : Nat} {es : List E2} (h : GraphAt K H x n es) : Dp K H x (graphD n es) := by
  obtain ⟨t, e, xs, rfl, h1, h2, h3⟩ := h
  exact .tup h1 (.cons (.int _) (.cons (.tup h2 h3.dp) .nil))
theorem PairsAt.get {K : PySem.W.Frag} {H : Hp} {xs : List V} {ps : List E2} {i : Nat} {x : V} (h : PairsAt K H xs ps) (e : xs[i]? = some x) : ∃ p, ps[i]? = some p ∧ PairAt K H x p := by
  have go : ∀ {xs : List V} {ps : List E2} {i : Nat} {x : V}, PairsAt K H xs ps → xs[i]? = some x → ∃ p, ps[i]? = some p ∧ PairAt K H x p := by
    intro xs
    induction xs with
    | nil => intro ps i x _ e; simp at e
    | cons a l ih =>
      intro ps i x h e
      cases h with
      | cons r t =>
        cases i with
        | zero => simp at e; subst e; exact ⟨_, rfl, r⟩
        | succ i => obtain ⟨p, h1, h2⟩ := ih t (by simpa using e); exact ⟨p, by simpa using h1, h2⟩
  exact go h e
end My

set_option maxHeartbeats 2000000
/-! Rules that pairs want: the lesser and the greater number of one; a list of pairs made a set, sorted, made a tuple. -/
namespace My
open PySem PySem.Spec PyProof.Rows L2
section
variable {X : Cx}
def rOfPair (f : Int → Int → Int) (K : PySem.W.Frag) : List V → Hp → VK → Prop := fun xs H Q => ∃ (t : Addr) (u v : Int), xs = [.ref t] ∧ SqT K H t [.int u, .int v] ∧ Q (.int (f u v)) H
theorem pair_reads {pins : List (Addr × Obj)} {σ : L2.St} {H : Hp} {s : Shared} {t : Addr} {u v : Int} (I : Inv X pins σ H s) (h : SqT X.K H t [.int u, .int v]) : ∃ vs : Array Value, s.heap.IsTuple t vs ∧ ∃ as, ReadsAll s.heap vs.toList [.int u, .int v] as := by
  obtain ⟨its, r, p, _⟩ := I.tuple h
  obtain ⟨as, q⟩ := Dp.readsAll I [.int u, .int v] [.int u, .int v] its (.cons (.int _) (.cons (.int _) .nil)) r
  obtain ⟨o, ho, hc, n, hd⟩ := p
  exact ⟨its.toArray, ⟨o, ho, hc, n, hd⟩, as, by simpa using q⟩
theorem call_minPair (hc : X.calm = true) (hu : X.A.units + 64 < cLine) : CallR X (.builtin "min") (rOfPair min X.K) := by
  rintro pins s σ H xs us Q I r ⟨t, u, v, rfl, h, q⟩
  rw [Vals.ref1 r]
  obtain ⟨vs, ht, as, rs⟩ := pair_reads I h
  refine PySem.W.min_tuple_data (I.ok.hd hc) ht rs (PySem.W.alikeAll_datum [u, v]) (by simp only [PyData.depthAll, PyData.depth]; omega) ?_
  intro i x h' tk bs hi rd hk
  have e := PySem.W.minD_ints u [v]
  have e' : PySem.W.minD (.int u) [.int v] = .int (min u v) := e
  rw [e'] at rd
  cases rd
  exact ⟨.int _, H, I.kept hk, ⟨_, rfl⟩, q⟩
theorem call_maxPair (hc : X.calm = true) (hu : X.A.units + 64 < cLine) : CallR X (.builtin "max") (rOfPair max X.K) := by
  rintro pins s σ H xs us Q I r ⟨t, u, v, rfl, h, q⟩
  rw [Vals.ref1 r]
  obtain ⟨vs, ht, as, rs⟩ := pair_reads I h
  refine PySem.W.max_tuple_data (I.ok.hd hc) ht rs (PySem.W.alikeAll_datum [u, v]) (by simp only [PyData.depthAll, PyData.depth]; omega) ?_
  intro i x h' tk bs hi rd hk
  have e := PySem.W.maxD_ints u [v]
  have e' : PySem.W.maxD (.int u) [.int v] = .int (max u v) := e
  rw [e'] at rd
  cases rd
  exact ⟨.int _, H, I.kept hk, ⟨_, rfl⟩, q⟩
end
/-! ### a pair among the pairs of a tuple -/
theorem pairD_lay (p : E2) : (pairD p).canLay0 = true := by simp [pairD, PyData.canLay0, PyData.canLayAll0]
theorem pairD_depth (p : E2) : (pairD p).depth = 1 := by simp [pairD, PyData.depth, PyData.depthAll]
theorem pairsD_lay : ∀ ps : List E2, PyData.canLayAll0 (ps.map pairD) = true
  | [] => by rw [List.map_nil]; simp [PyData.canLayAll0]
  | p :: ps => by simp [PyData.canLayAll0, pairD_lay p, pairsD_lay ps]
theorem pairsD_depth : ∀ ps : List E2, PyData.depthAll (ps.map pairD) ≤ 1
  | [] => by rw [List.map_nil]; simp [PyData.depthAll]
  | p :: ps => by
    have a := pairsD_depth ps
    have b := pairD_depth p
    rw [List.map_cons]
    simp only [PyData.depthAll]
    omega
theorem pairD_eqv (p q : E2) : PyData.eqv (pairD p) (pairD q) = decide (p = q) := by
  obtain ⟨a, b⟩ := p
  obtain ⟨c, d⟩ := q
  simp only [pairD, PyData.eqv, PyData.eqvAll, Bool.and_true]
  by_cases h1 : a = c
  · subst h1
    by_cases h2 : b = d
    · subst h2
      simp
    · have z : ((b : Int) == (d : Int)) = false := beq_eq_false_iff_ne.mpr fun e => h2 (by omega)
      simp [z, h2]
  · have z : ((a : Int) == (c : Int)) = false := beq_eq_false_iff_ne.mpr fun e => h1 (by omega)
    simp [z, h1]
theorem any_pairs (p : E2) : ∀ es : List E2, ((es.map pairD).any fun z => PyData.eqv z (pairD p)) = decide (p ∈ es)
  | [] => rfl
  | q :: es => by
    rw [List.map_cons, List.any_cons, any_pairs p es, pairD_eqv]
    by_cases h : q = p
    · subst h
      simp
    · have h' : p ≠ q := fun e => h e.symm
      simp [h, h']
section
variable {X : Cx}
def rInP (k : Bool → Bool) (K : PySem.W.Frag) : R2 := fun x y H Q => ∃ (p : E2) (t : Addr) (xs : List V) (es : List E2), PairAt K H x p ∧ y = .ref t ∧ SqT K H t xs ∧ PairsAt K H xs es ∧ Q (.bl (k (decide (p ∈ es)))) H
theorem op_inP (hu : X.A.units + 64 < cLine) : OpR X (compareOp .In) (rInP id X.K) := by
  rintro pins s σ H x y v u Q I rx ry ⟨p, t, xs, es, hp, rfl, ht, hes, q⟩
  obtain ⟨as, r1⟩ := Dp.reads I _ x v hp.dp rx
  obtain ⟨bs, r2⟩ := Dp.reads I (.tuple (es.map pairD)) (.ref t) u (.tup ht hes.dp) ry
  refine SeqAt.in_tuple_reads r2 r1 (pairsD_lay es) (pairD_lay p) ?_ ?_
  · have := pairD_depth p
    have := Nat.min_le_right (PyData.depthAll (es.map pairD)) (pairD p).depth
    omega
  · rw [any_pairs]
    exact ⟨.bl _, H, I, rfl, q⟩
theorem op_notInP (hu : X.A.units + 64 < cLine) : OpR X (compareOp .NotIn) (rInP not X.K) := by
  rintro pins s σ H x y v u Q I rx ry ⟨p, t, xs, es, hp, rfl, ht, hes, q⟩
  obtain ⟨as, r1⟩ := Dp.reads I _ x v hp.dp rx
  obtain ⟨bs, r2⟩ := Dp.reads I (.tuple (es.map pairD)) (.ref t) u (.tup ht hes.dp) ry
  refine SeqAt.notIn_tuple_reads r2 r1 (pairsD_lay es) (pairD_lay p) ?_ ?_
  · have := pairD_depth p
    have := Nat.min_le_right (PyData.depthAll (es.map pairD)) (pairD p).depth
    omega
  · rw [any_pairs]
    exact ⟨.bl _, H, I, rfl, q⟩
end
end My

set_option maxHeartbeats 2000000
/-! graph6 in plain Lean. -/
namespace My
open PySem PySem.Spec PyProof.Rows L2
/-- a walk from any heap on: S says a turn, by what follows it -/
theorem lo_it {J : It} {n : Nat} {G : Hp → Prop} {Y : Nat → Hp → V → Hp → Prop} (w : Walk J n G Y) {S : V → Hp → (Hp → Prop) → Prop} {Qd : Hp → Prop} {H0 : Hp} (Pv : Nat → Hp → Prop) (h0 : Pv 0 H0) (hG : ∀ i H, i ≤ n → Pv i H → G H)
    (hs : ∀ i x H H', i < n → Pv i H → Y i H x H' → S x H' (Pv (i + 1))) (hd : ∀ H, Pv n H → Qd H) :
    ∃ W : Nat → Nat → Hp → Prop, (∃ m, W 0 m H0) ∧ ∀ i m H, W i m H → (J.stop i H ∧ Qd H) ∨ (J.go i H ∧ ∃ Nx : Hp → Prop, (∀ H', Nx H' → ∃ m', m' < m ∧ W (i + 1) m' H') ∧ ∀ x H', J.yld i H x H' → S x H' Nx) := by
  refine ⟨fun i m H => i + m = n ∧ Pv i H, ⟨n, Nat.zero_add n, h0⟩, fun i m H hw => ?_⟩
  obtain ⟨e, pv⟩ := hw
  have g := hG i H (by omega) pv
  rcases Nat.eq_zero_or_pos m with z | z
  · have en : i = n := by omega
    subst en
    exact .inl ⟨w.stops H g, hd H pv⟩
  · refine .inr ⟨w.goes i H (by omega) g, Pv (i + 1), fun H' pv' => ⟨m - 1, by omega, by omega, pv'⟩, fun x H' y => ?_⟩
    exact hs i x H H' (by omega) pv (w.yields i H x H' (by omega) g y)
/-- the pairs by their greater number, then by the lesser -/
def pairsG (n : Nat) : List E2 := (List.range n).flatMap fun v => (List.range v).map fun u => (u, v)
def bit1 (es : List E2) (p : E2) : Nat := if p ∈ es then 1 else 0
def bitsOf (n : Nat) (es : List E2) : List Nat := (pairsG n).map (bit1 es)
def pad (b : List Nat) : List Nat := b ++ List.replicate ((b.length + 5) / 6 * 6 - b.length) 0
def numOf (b : List Nat) : Nat := b.foldl (fun a x => 2 * a + x) 0
def chunk (b : List Nat) (i : Nat) : List Nat := (b.drop (6 * i)).take 6
def groups (b : List Nat) : Nat := (b.length + 5) / 6
/-- the text of signs told by numbers -/
def tx (ks : List Nat) : Str := ⟨(ks.map (63 + ·)).toArray⟩
/-- the 64 signs -/
def SG : Str := tx (List.range 64)
def codeL (n : Nat) (es : List E2) : List Nat := n :: (List.range (groups (bitsOf n es))).map fun i => numOf (chunk (pad (bitsOf n es)) i)
theorem tx_len (ks : List Nat) : (tx ks).length = ks.length := by
  show ((ks.map (63 + ·)).toArray).size = _
  rw [List.size_toArray, List.length_map]
theorem tx_append (ks ls : List Nat) : tx ks ++ tx ls = tx (ks ++ ls) := by
  show Str.append _ _ = _
  unfold Str.append tx
  rw [List.map_append]
  simp
theorem join_tx : ∀ ks : List Nat, Str.join "" (ks.map fun k => tx [k]) = tx ks
  | [] => rfl
  | [k] => rfl
  | k :: l :: ks => by
    show tx [k] ++ (("" : String) : Str) ++ Str.join "" ((l :: ks).map fun k => tx [k]) = _
    rw [join_tx (l :: ks)]
    have e : tx [k] ++ (("" : String) : Str) = tx [k] := by
      show Str.append _ _ = _
      unfold Str.append
      have z : ((("" : String) : Str)).cps = #[] := by decide +kernel
      rw [z, Array.append_empty]
    rw [e, tx_append]
    rfl
theorem pairsG_succ (n : Nat) : pairsG (n + 1) = pairsG n ++ (List.range n).map fun u => (u, n) := by
  unfold pairsG
  rw [List.range_succ, List.flatMap_append, List.flatMap_cons, List.flatMap_nil, List.append_nil]
theorem pairsG_few : ∀ n, n ≤ 9 → (pairsG n).length ≤ 36 := by decide +kernel
theorem mem_pairsG {n : Nat} {p : E2} : p ∈ pairsG n ↔ p.1 < p.2 ∧ p.2 < n := by
  unfold pairsG
  rw [List.mem_flatMap]
  constructor
  · rintro ⟨v, hv, h⟩
    obtain ⟨u, hu, rfl⟩ := List.mem_map.mp h
    exact ⟨List.mem_range.mp hu, List.mem_range.mp hv⟩
  · rintro ⟨h1, h2⟩
    exact ⟨p.2, List.mem_range.mpr h2, List.mem_map.mpr ⟨p.1, List.mem_range.mpr h1, rfl⟩⟩
theorem bits_len (n : Nat) (es : List E2) : (bitsOf n es).length = (pairsG n).length := List.length_map _
theorem bits_few {n : Nat} (h : n ≤ 9) (es : List E2) : (bitsOf n es).length ≤ 36 := by rw [bits_len]; exact pairsG_few n h
theorem bits_le (n : Nat) (es : List E2) : ∀ b ∈ bitsOf n es, b ≤ 1 := by
  intro b hb
  obtain ⟨p, _, rfl⟩ := List.mem_map.mp hb
  unfold bit1
  split <;> omega
theorem pad_len (b : List Nat) : (pad b).length = 6 * groups b := by
  unfold pad groups
  rw [List.length_append, List.length_replicate]
  omega
theorem pad_le {b : List Nat} (h : ∀ x ∈ b, x ≤ 1) : ∀ x ∈ pad b, x ≤ 1 := by
  intro x hx
  rcases List.mem_append.mp hx with hx | hx
  · exact h x hx
  · rw [(List.mem_replicate.mp hx).2]
    exact Nat.zero_le _
theorem foldl_lt : ∀ (b : List Nat) (a k : Nat), (∀ x ∈ b, x ≤ 1) → a < 2 ^ k → b.foldl (fun a x => 2 * a + x) a < 2 ^ (k + b.length)
  | [], a, k, _, h => h
  | x :: b, a, k, hb, h => by
    have hx := hb x (List.mem_cons_self ..)
    have z := foldl_lt b (2 * a + x) (k + 1) (fun y hy => hb y (List.mem_cons_of_mem _ hy)) (by rw [Nat.pow_succ]; omega)
    rw [List.foldl_cons, List.length_cons, show k + (b.length + 1) = k + 1 + b.length by omega]
    exact z
theorem numOf_lt {b : List Nat} (h : ∀ x ∈ b, x ≤ 1) : numOf b < 2 ^ b.length := by
  have z := foldl_lt b 0 0 h (by decide)
  rw [Nat.zero_add] at z
  exact z
theorem numOf_snoc (b : List Nat) (x : Nat) : numOf (b ++ [x]) = 2 * numOf b + x := by
  unfold numOf
  rw [List.foldl_append]
  rfl
theorem chunk_sub (b : List Nat) (i : Nat) : ∀ x ∈ chunk b i, x ∈ b := fun x hx => List.mem_of_mem_drop (List.mem_of_mem_take hx)
theorem chunk_len {b : List Nat} {i : Nat} (h : 6 * i + 6 ≤ b.length) : (chunk b i).length = 6 := by
  unfold chunk
  rw [List.length_take, List.length_drop]
  omega
theorem chunk_lt {b : List Nat} {i : Nat} (hb : ∀ x ∈ b, x ≤ 1) : numOf (chunk b i) < 64 := by
  have z := numOf_lt (b := chunk b i) fun x hx => hb x (chunk_sub b i x hx)
  have l : (chunk b i).length ≤ 6 := by
    unfold chunk
    rw [List.length_take]
    omega
  exact Nat.lt_of_lt_of_le z (Nat.pow_le_pow_right (by decide) l)
theorem SG_at : ∀ k : Nat, k < 64 → atI SG.cps.toList (k : Int) = some (63 + k) := by
  intro k hk
  refine atI_nat ?_
  show ((List.range 64).map (63 + ·))[k]? = _
  rw [List.getElem?_map, List.getElem?_range hk]
  rfl
theorem six : ∀ k : Nat, k ≤ 42 → RgC 0 (k : Int) 6 ((k + 5) / 6) := by
  have h : ∀ k : Nat, k ≤ 42 → Builtin.Range.small 0 (k : Int) 6 = true ∧ Builtin.Range.rangeSize 0 (k : Int) 6 = (((k + 5) / 6 : Nat) : Int) := by decide +kernel
  exact fun k hk => ⟨by decide, by decide, (h k hk).1, (h k hk).2⟩
end My

set_option maxHeartbeats 2000000
/-! Reading graph6, in plain Lean: by the signs' codes. -/
namespace My
open PySem PySem.Spec PyProof.Rows L2
/-- the sign c can stand at place a behind the first one, with L pairs to tell -/
def goodS (L a c : Nat) : Bool := decide (63 ≤ c ∧ c < 127) && decide (6 * a < L) && decide ((c - 63) % 2 ^ (6 - (L - 6 * a)) = 0)
/-- where it is wrong, by how many signs are right -/
def scan (L : Nat) : Nat → List Nat → Option Nat
  | a, [] => if 6 * a < L then some (a + 1) else none
  | a, c :: cs => if goodS L a c = true then scan L (a + 1) cs else some (a + 1)
def bits6 (c : Nat) : List Nat := [5, 4, 3, 2, 1, 0].map fun p => (c - 63) / 2 ^ p % 2
def bitsC (cs : List Nat) : List Nat := cs.flatMap bits6
def tellP (ps : List E2) (bs : List Nat) : List E2 := ((ps.zip bs).filter fun q => q.2 != 0).map (·.1)
inductive RdG where
  | bad (k : Nat)
  | told (n : Nat) (ps : List E2)
def readG : List Nat → RdG
  | [] => .bad 0
  | c :: cs => if 63 ≤ c ∧ c ≤ 72 then match scan (pairsG (c - 63)).length 0 cs with
    | some k => .bad k
    | none => .told (c - 63) (tellP (pairsG (c - 63)) (bitsC cs))
    else .bad 0
theorem bitsC_len (cs : List Nat) : (bitsC cs).length = 6 * cs.length := by
  unfold bitsC
  induction cs with
  | nil => rfl
  | cons c cs ih => rw [List.flatMap_cons, List.length_append, ih, List.length_cons]; show 6 + _ = _; omega
theorem eq_of_up : ∀ {es fs : List E2}, es.Pairwise ahead → fs.Pairwise ahead → (∀ q, q ∈ es ↔ q ∈ fs) → es = fs
  | [], [], _, _, _ => rfl
  | [], f :: fs, _, _, h => absurd ((h f).mpr (List.mem_cons_self ..)) (fun z => nomatch z)
  | e :: es, [], _, _, h => absurd ((h e).mp (List.mem_cons_self ..)) (fun z => nomatch z)
  | e :: es, f :: fs, he, hf, h => by
    obtain ⟨e1, e2⟩ := List.pairwise_cons.mp he
    obtain ⟨f1, f2⟩ := List.pairwise_cons.mp hf
    have ef : e = f := by
      rcases List.mem_cons.mp ((h e).mp (List.mem_cons_self ..)) with z | z
      · exact z
      · rcases List.mem_cons.mp ((h f).mpr (List.mem_cons_self ..)) with y | y
        · exact y.symm
        · have a1 := f1 e z
          have a2 := e1 f y
          unfold ahead at a1 a2
          omega
    subst ef
    refine congrArg (e :: ·) (eq_of_up e2 f2 fun q => ⟨fun z => ?_, fun z => ?_⟩)
    · rcases List.mem_cons.mp ((h q).mp (List.mem_cons_of_mem _ z)) with y | y
      · exact absurd (e1 q z) (fun w => ahead_ne w y.symm)
      · exact y
    · rcases List.mem_cons.mp ((h q).mpr (List.mem_cons_of_mem _ z)) with y | y
      · exact absurd (f1 q z) (fun w => ahead_ne w y.symm)
      · exact y
theorem tellP_snoc {ps : List E2} {bs : List Nat} {p : E2} {b : Nat} (h : ps.length = bs.length) : tellP (ps ++ [p]) (bs ++ [b]) = tellP ps bs ++ (if b != 0 then [p] else []) := by
  unfold tellP
  rw [List.zip_append h, List.filter_append, List.map_append]
  congr 1
  show (([(p, b)] : List (E2 × Nat)).filter _).map _ = _
  cases e : (b != 0)
  · rw [List.filter_cons_of_neg (by simpa using e)]
    rfl
  · rw [List.filter_cons_of_pos (by simpa using e)]
    rfl
theorem tellP_sub (ps : List E2) (bs : List Nat) : ∀ q ∈ tellP ps bs, q ∈ ps := by
  intro q hq
  obtain ⟨r, hr, rfl⟩ := List.mem_map.mp hq
  exact (List.of_mem_zip (List.mem_filter.mp hr).1).1
/-! ### there and back -/
theorem bits6_of : ∀ a b c d e f : Nat, a ≤ 1 → b ≤ 1 → c ≤ 1 → d ≤ 1 → e ≤ 1 → f ≤ 1 → bits6 (63 + numOf [a, b, c, d, e, f]) = [a, b, c, d, e, f] := by
  have h : ∀ a b c d e f : Fin 2, bits6 (63 + numOf [a.val, b.val, c.val, d.val, e.val, f.val]) = [a.val, b.val, c.val, d.val, e.val, f.val] := by decide +kernel
  exact fun a b c d e f h1 h2 h3 h4 h5 h6 => h ⟨a, by omega⟩ ⟨b, by omega⟩ ⟨c, by omega⟩ ⟨d, by omega⟩ ⟨e, by omega⟩ ⟨f, by omega⟩
theorem bits6_chunk {b : List Nat} (l : b.length = 6) (h : ∀ x ∈ b, x ≤ 1) : bits6 (63 + numOf b) = b := by
  match b, l, h with
  | [a, b, c, d, e, f], _, h => exact bits6_of a b c d e f (h a (by simp)) (h b (by simp)) (h c (by simp)) (h d (by simp)) (h e (by simp)) (h f (by simp))
theorem chunks_all {b : List Nat} : ∀ m, b.length = 6 * m → (List.range m).flatMap (chunk b) = b
  | 0, h => by
    rw [List.range_zero, List.flatMap_nil]
    exact (List.eq_nil_of_length_eq_zero (by omega)).symm
  | m + 1, h => by
    have ih := chunks_all (b := b.drop 6) m (by rw [List.length_drop]; omega)
    rw [List.range_succ_eq_map, List.flatMap_cons, List.flatMap_map]
    have e : (List.range m).flatMap (fun i => chunk b (Nat.succ i)) = (List.range m).flatMap (chunk (b.drop 6)) := by
      congr 1
      funext i
      unfold chunk
      rw [List.drop_drop]
      congr 2
      omega
    rw [e, ih]
    unfold chunk
    rw [Nat.mul_zero, List.drop_zero, List.take_append_drop]
theorem bitsC_code {b : List Nat} {m : Nat} (l : b.length = 6 * m) (h : ∀ x ∈ b, x ≤ 1) : bitsC ((List.range m).map fun i => 63 + numOf (chunk b i)) = b := by
  unfold bitsC
  rw [List.flatMap_map]
  have e : ∀ i ∈ List.range m, bits6 (63 + numOf (chunk b i)) = chunk b i := fun i hi => by
    have im := List.mem_range.mp hi
    exact bits6_chunk (chunk_len (by omega)) fun x hx => h x (chunk_sub b i x hx)
  have e2 : (List.range m).flatMap (fun i => bits6 (63 + numOf (chunk b i))) = (List.range m).flatMap (chunk b) := by
    rw [List.flatMap_def, List.flatMap_def, List.map_congr_left e]
  rw [e2, chunks_all m l]
theorem numOf_zeros (b : List Nat) : ∀ k, numOf (b ++ List.replicate k 0) = numOf b * 2 ^ k
  | 0 => by rw [List.replicate_zero, List.append_nil, Nat.pow_zero, Nat.mul_one]
  | k + 1 => by
    rw [List.replicate_succ', ← List.append_assoc, numOf_snoc, numOf_zeros b k, Nat.pow_succ, Nat.add_zero, Nat.mul_comm 2, Nat.mul_assoc]
theorem goodS_code {bs : List Nat} {i : Nat} (h : ∀ x ∈ bs, x ≤ 1) (hi : i < groups bs) : goodS bs.length i (63 + numOf (chunk (pad bs) i)) = true := by
  have lt := chunk_lt (i := i) (pad_le h)
  unfold groups at hi
  unfold goodS
  rw [Bool.and_eq_true, Bool.and_eq_true]
  refine ⟨⟨decide_eq_true (by omega), decide_eq_true (by omega)⟩, decide_eq_true ?_⟩
  rw [Nat.add_sub_cancel_left]
  by_cases f : 6 * i + 6 ≤ bs.length
  · rw [show 6 - (bs.length - 6 * i) = 0 by omega, Nat.pow_zero, Nat.mod_one]
  · have e : chunk (pad bs) i = bs.drop (6 * i) ++ List.replicate (6 - (bs.length - 6 * i)) 0 := by
      unfold chunk pad
      rw [List.drop_append_of_le_length (by omega)]
      rw [List.take_of_length_le (by rw [List.length_append, List.length_drop, List.length_replicate]; omega)]
      congr 2
      omega
    rw [e, numOf_zeros, Nat.mul_mod_left]
theorem scan_code {L m : Nat} (f : Nat → Nat) (hm : m = (L + 5) / 6) (h : ∀ i, i < m → goodS L i (f i) = true) : ∀ k, k ≤ m → scan L k (((List.range m).drop k).map f) = none := by
  intro k hk
  induction e : m - k generalizing k with
  | zero =>
    have : k = m := by omega
    subst this
    rw [List.drop_eq_nil_of_le (by rw [List.length_range]; exact Nat.le_refl _)]
    show (if 6 * k < L then some (k + 1) else none) = none
    rw [if_neg (by omega)]
  | succ d ih =>
    have lk : k < (List.range m).length := by rw [List.length_range]; omega
    rw [List.drop_eq_getElem_cons lk, List.getElem_range, List.map_cons]
    show (if goodS L k (f k) = true then scan L (k + 1) _ else some (k + 1)) = none
    rw [if_pos (h k (by omega))]
    exact ih (k + 1) (by omega) (by omega)
theorem tellP_bits (es : List E2) : ∀ (ps : List E2) (k : Nat), tellP ps (ps.map (bit1 es) ++ List.replicate k 0) = ps.filter fun p => decide (p ∈ es)
  | [], k => by
    unfold tellP
    rw [List.zip_nil_left]
    rfl
  | p :: ps, k => by
    have ih := tellP_bits es ps k
    unfold tellP at ih ⊢
    rw [List.map_cons, List.cons_append, List.zip_cons_cons]
    unfold bit1 at *
    by_cases h : p ∈ es
    · rw [List.filter_cons_of_pos (by simp [h]), List.map_cons, List.filter_cons_of_pos (by simpa using h), ih]
    · rw [List.filter_cons_of_neg (by simp [h]), List.filter_cons_of_neg (by simpa using h), ih]
/-- the text of a graph, read -/
theorem read_code {n : Nat} {es : List E2} (g : Good n es) : readG ((codeL n es).map (63 + ·)) = .told n ((pairsG n).filter fun p => decide (p ∈ es)) := by
  unfold codeL
  rw [List.map_cons, List.map_map]
  have n9 := g.n9
  have hb := bits_le n es
  show (if 63 ≤ 63 + n ∧ 63 + n ≤ 72 then _ else _) = _
  rw [if_pos (by omega), Nat.add_sub_cancel_left]
  have e1 : ((fun x => 63 + x) ∘ fun i => numOf (chunk (pad (bitsOf n es)) i)) = fun i => 63 + numOf (chunk (pad (bitsOf n es)) i) := rfl
  rw [e1]
  have s := scan_code (L := (pairsG n).length) (m := groups (bitsOf n es)) (fun i => 63 + numOf (chunk (pad (bitsOf n es)) i)) (by unfold groups; rw [bits_len]) (fun i hi => by rw [← bits_len n es]; exact goodS_code hb hi) 0 (Nat.zero_le _)
  rw [List.drop_zero] at s
  rw [s, bitsC_code (pad_len _) (pad_le hb)]
  show RdG.told n (tellP (pairsG n) (pad (bitsOf n es))) = _
  unfold pad
  rw [show bitsOf n es = (pairsG n).map (bit1 es) from rfl, tellP_bits]
end My

set_option maxHeartbeats 2000000
/-! Pairs that stand in the heap by themselves; sorted lists of them. -/
namespace My
open PySem PySem.Spec PyProof.Rows L2
def PairT (H : Hp) (x : V) (p : E2) : Prop := ∃ t, x = .ref t ∧ H t = some (.tup [.int (p.1 : Int), .int (p.2 : Int)])
abbrev PairsT (H : Hp) : List V → List E2 → Prop := Paired (PairT H)
theorem PairT.at {K : PySem.W.Frag} {H : Hp} {x : V} {p : E2} (h : PairT H x p) : PairAt K H x p := by
  obtain ⟨t, e, h⟩ := h
  exact ⟨t, e, SqT.of h⟩
theorem PairsT.at {K : PySem.W.Frag} {H : Hp} : ∀ {xs : List V} {ps : List E2}, PairsT H xs ps → PairsAt K H xs ps
  | _, _, .nil => .nil
  | _, _, .cons a b => .cons a.at (PairsT.at b)
theorem PairsT.same {H H' : Hp} (s : Same H H') : ∀ {xs : List V} {ps : List E2}, PairsT H xs ps → PairsT H' xs ps
  | _, _, .nil => .nil
  | _, _, .cons ⟨t, e, h⟩ b => .cons ⟨t, e, s _ _ h⟩ (PairsT.same s b)
theorem PairsT.put {H : Hp} {D : Addr} {o : HO} {zs : List V} (hD : H D = some (.lst zs)) : ∀ {xs : List V} {ps : List E2}, PairsT H xs ps → PairsT (upd H D o) xs ps
  | _, _, .nil => .nil
  | _, _, .cons ⟨t, e, h⟩ b => .cons ⟨t, e, by rw [upd_ne (fun z => by rw [z, hD] at h; cases h)]; exact h⟩ (PairsT.put hD b)
theorem PairsT.append {H : Hp} : ∀ {xs ys : List V} {ps qs : List E2}, PairsT H xs ps → PairsT H ys qs → PairsT H (xs ++ ys) (ps ++ qs)
  | _, _, _, _, .nil, h => h
  | _, _, _, _, .cons a b, h => .cons a (PairsT.append b h)
theorem PairsT.len {H : Hp} : ∀ {xs : List V} {ps : List E2}, PairsT H xs ps → xs.length = ps.length
  | _, _, .nil => rfl
  | _, _, .cons _ b => congrArg (· + 1) (PairsT.len b)
theorem push_pairT {H : Hp} {D r : Addr} {zs : List V} {ps : List E2} (p : E2) (hD : H D = some (.lst zs)) (nr : H r = none) (h : PairsT H zs ps) :
    PairsT (upd (upd H r (.tup [.int (p.1 : Int), .int (p.2 : Int)])) D (.lst (zs ++ [.ref r]))) (zs ++ [.ref r]) (ps ++ [p]) := by
  have s1 : Same H (upd H r (.tup [.int (p.1 : Int), .int (p.2 : Int)])) := fun b u q => by rw [upd_ne (ne_of_none q nr)]; exact q
  have h2 : PairsT (upd H r (.tup [.int (p.1 : Int), .int (p.2 : Int)])) (zs ++ [.ref r]) (ps ++ [p]) := (h.same s1).append (.cons ⟨r, rfl, upd_same⟩ .nil)
  exact h2.put (s1 _ _ hD)
/-- the numbers of a pair at a value -/
def kOf (H : Hp) (x : V) : Int × Int := match x with
  | .ref t => match H t with
    | some (.tup [.int i, .int j]) => (i, j)
    | _ => (0, 0)
  | _ => (0, 0)
def gOf (H : Hp) (x : V) : E2 := ((kOf H x).1.toNat, (kOf H x).2.toNat)
theorem kOf_at {H : Hp} {x : V} {p : E2} (h : PairT H x p) : kOf H x = ((p.1 : Int), (p.2 : Int)) := by
  obtain ⟨t, rfl, h⟩ := h
  show (match H t with
    | some (.tup [.int i, .int j]) => (i, j)
    | _ => ((0 : Int), (0 : Int))) = _
  rw [h]
theorem gOf_at {H : Hp} {x : V} {p : E2} (h : PairT H x p) : gOf H x = p := by
  unfold gOf
  rw [kOf_at h]
  rfl
theorem map_gOf {H : Hp} : ∀ {xs : List V} {ps : List E2}, PairsT H xs ps → xs.map (gOf H) = ps
  | _, _, .nil => rfl
  | _, _, .cons a b => by rw [List.map_cons, gOf_at a, map_gOf b]
theorem PairsT.mem {H : Hp} : ∀ {xs : List V} {ps : List E2}, PairsT H xs ps → ∀ x ∈ xs, PairT H x (gOf H x)
  | _, _, .nil => fun _ z => nomatch z
  | _, _, .cons a b => fun x hx => by
    rcases List.mem_cons.mp hx with rfl | hx
    · rw [gOf_at a]; exact a
    · exact PairsT.mem b x hx
theorem PairsT.of_mem {H : Hp} : ∀ {ys : List V}, (∀ y ∈ ys, PairT H y (gOf H y)) → PairsT H ys (ys.map (gOf H))
  | [], _ => .nil
  | y :: ys, h => .cons (h y (List.mem_cons_self ..)) (PairsT.of_mem fun z hz => h z (List.mem_cons_of_mem _ hz))
/-- sorted pairs, none twice, ascend -/
theorem sorted_pairs {H : Hp} {xs ys : List V} {ps : List E2} (h : PairsT H xs ps) (nd : ps.Nodup) (so : SrtO.Srtd (ltP (kOf H)) ys) (st : SrtO.Stb (ltP (kOf H)) ys xs) :
    PairsT H ys (ys.map (gOf H)) ∧ (ys.map (gOf H)).Pairwise ahead ∧ ∀ q, q ∈ ys.map (gOf H) ↔ q ∈ ps := by
  have pm : (ys.map (gOf H)).Perm ps := by
    have z := st.perm.map (gOf H)
    rw [map_gOf h] at z
    exact z
  have hy : ∀ y ∈ ys, PairT H y (gOf H y) := fun y hy => h.mem y (st.perm.mem_iff.mp hy)
  refine ⟨PairsT.of_mem hy, ?_, fun q => pm.mem_iff⟩
  have nd2 : (ys.map (gOf H)).Nodup := pm.nodup_iff.mpr nd
  rw [List.pairwise_map]
  refine (so.and (List.pairwise_map.mp nd2)).imp_of_mem ?_
  intro a b ha hb ⟨le, ne⟩
  have ka := kOf_at (hy a ha)
  have kb := kOf_at (hy b hb)
  have le2 : SrtO.lexB (kOf H b) (kOf H a) = false := le
  rw [ka, kb] at le2
  have le3 := mt (SrtO.lexB_iff (p := (((gOf H b).1 : Int), ((gOf H b).2 : Int))) (q := (((gOf H a).1 : Int), ((gOf H a).2 : Int)))).mpr (by rw [le2]; decide)
  dsimp only at le3
  have ne2 : ¬ ((gOf H a).1 = (gOf H b).1 ∧ (gOf H a).2 = (gOf H b).2) := fun ⟨x, y⟩ => ne (Prod.ext x y)
  unfold ahead
  omega
theorem find_sg : ∀ c : Nat, c < 128 → Txt.find SG ⟨#[c]⟩ = if 63 ≤ c ∧ c < 127 then (c : Int) - 63 else -1 := by decide +kernel
theorem and_one : ∀ x : Nat, x < 64 → Builtin.bitAnd (x : Int) 1 = ((x % 2 : Nat) : Int) := by decide +kernel
/-- the number that a sign tells -/
def nm (c : Nat) : Int := if 63 ≤ c ∧ c < 127 then (c : Int) - 63 else -1
def numsZ (cs : List Nat) : List V := cs.map fun c => V.int (nm c)
theorem scan_good {L : Nat} : ∀ (cs : List Nat) (a : Nat), scan L a cs = none → ∀ i c, cs[i]? = some c → goodS L (a + i) c = true
  | [], _, _, i, c, h => by simp at h
  | d :: cs, a, h, i, c, hi => by
    have h' : (if goodS L a d = true then scan L (a + 1) cs else some (a + 1)) = none := h
    by_cases g : goodS L a d = true
    · rw [if_pos g] at h'
      cases i with
      | zero =>
        have e : d = c := by simpa using hi
        rw [← e]
        exact g
      | succ i =>
        have z := scan_good cs (a + 1) h' i c (by simpa using hi)
        rw [show a + (i + 1) = a + 1 + i by omega]
        exact z
    · rw [if_neg g] at h'
      cases h'
theorem scan_enough {L : Nat} : ∀ (cs : List Nat) (a : Nat), scan L a cs = none → L ≤ 6 * (a + cs.length)
  | [], a, h => by
    have h' : (if 6 * a < L then some (a + 1) else none) = none := h
    by_cases l : 6 * a < L
    · rw [if_pos l] at h'
      cases h'
    · rw [List.length_nil]
      omega
  | d :: cs, a, h => by
    have h' : (if goodS L a d = true then scan L (a + 1) cs else some (a + 1)) = none := h
    by_cases g : goodS L a d = true
    · rw [if_pos g] at h'
      have := scan_enough cs (a + 1) h'
      rw [List.length_cons]
      omega
    · rw [if_neg g] at h'
      cases h'
theorem bits6_at (c : Nat) : ∀ j, j < 6 → (bits6 c)[j]? = some ((c - 63) / 2 ^ (5 - j) % 2) := by
  intro j hj
  unfold bits6
  match j, hj with
  | 0, _ => rfl
  | 1, _ => rfl
  | 2, _ => rfl
  | 3, _ => rfl
  | 4, _ => rfl
  | 5, _ => rfl
theorem places_at {x : V} {j : Nat} (h : ([.int 5, .int 4, .int 3, .int 2, .int 1, .int 0] : List V)[j]? = some x) : j < 6 ∧ x = .int ((5 - j : Nat) : Int) := by
  match j, h with
  | 0, h => exact ⟨by decide, (Option.some.inj h).symm⟩
  | 1, h => exact ⟨by decide, (Option.some.inj h).symm⟩
  | 2, h => exact ⟨by decide, (Option.some.inj h).symm⟩
  | 3, h => exact ⟨by decide, (Option.some.inj h).symm⟩
  | 4, h => exact ⟨by decide, (Option.some.inj h).symm⟩
  | 5, h => exact ⟨by decide, (Option.some.inj h).symm⟩
  | j + 6, h => exact absurd h (by simp)
theorem bitsC_succ {cs : List Nat} {i c : Nat} (h : cs[i]? = some c) : bitsC (cs.take (i + 1)) = bitsC (cs.take i) ++ bits6 c := by
  unfold bitsC
  rw [List.take_succ, h, List.flatMap_append]
  show _ ++ ([c].flatMap bits6) = _
  rw [List.flatMap_cons, List.flatMap_nil, List.append_nil]
theorem pairsG_nodup : ∀ n, n ≤ 9 → (pairsG n).Nodup := by decide +kernel
theorem tellP_sublist : ∀ (ps : List E2) (bs : List Nat), (tellP ps bs).Sublist ps
  | [], bs => by unfold tellP; rw [List.zip_nil_left]; exact List.Sublist.refl _
  | p :: ps, [] => by unfold tellP; rw [List.zip_nil_right]; exact List.nil_sublist _
  | p :: ps, b :: bs => by
    have ih := tellP_sublist ps bs
    unfold tellP at ih ⊢
    rw [List.zip_cons_cons, List.filter_cons]
    split
    · rw [List.map_cons]
      exact ih.cons_cons p
    · exact ih.cons p
theorem tellP_nodup {ps : List E2} {bs : List Nat} (h : ps.Nodup) : (tellP ps bs).Nodup := h.sublist (tellP_sublist ps bs)
end My

set_option maxHeartbeats 4000000
/-! What is told is fit to be shown. -/
namespace My
open PySem PySem.Spec PyProof.Rows L2
theorem app_len (a b : Str) : (a ++ b).length = a.length + b.length := by
  show (a.cps ++ b.cps).size = _
  rw [Array.size_append]
  rfl
theorem tup_len (ts : List Str) : (tupleText ts).length ≤ (ts.map (·.length)).sum + 2 * ts.length + 3 := by
  have h := StrLaws.join_length_le ", " ts
  have c : ((", " : String) : Str).length = 2 := by decide +kernel
  have o : (("(" : String) : Str).length = 1 := by decide +kernel
  have e1 : ((",)" : String) : Str).length = 2 := by decide +kernel
  have e2 : ((")" : String) : Str).length = 1 := by decide +kernel
  unfold tupleText
  rw [app_len, app_len, o]
  rw [c] at h
  split
  · rw [e1]; omega
  · rw [e2]; omega
theorem from_len : ∀ (ts : List Str) (k : Nat) (acc : Str), (textFrom k acc ts).length ≤ acc.length + (ts.map (·.length)).sum + 2 * ts.length
  | [], k, acc => by show acc.length ≤ acc.length + 0 + 0; omega
  | t :: ts, k, acc => by
    have h := from_len ts (k + 1) (acc ++ (((if k > 0 then ", " else "" : String)) : Str) ++ t)
    have c : ((", " : String) : Str).length = 2 := by decide +kernel
    have c0 : (("" : String) : Str).length = 0 := by decide +kernel
    have e : (acc ++ (((if k > 0 then ", " else "" : String)) : Str) ++ t : Str).length ≤ acc.length + 2 + t.length := by
      rw [app_len, app_len]
      split
      · rw [c]; omega
      · rw [c0]; omega
    show (textFrom (k + 1) (acc ++ (((if k > 0 then ", " else "" : String)) : Str) ++ t) ts).length ≤ _
    rw [List.map_cons, List.sum_cons, List.length_cons]
    omega
theorem lst_len (ts : List Str) : (listText ts).length ≤ (ts.map (·.length)).sum + 2 * ts.length + 2 := by
  have h := from_len ts 0 "["
  have o : (("[" : String) : Str).length = 1 := by decide +kernel
  have e2 : (("]" : String) : Str).length = 1 := by decide +kernel
  unfold listText
  rw [app_len, e2]
  rw [o] at h
  omega
theorem pair_fine : ∀ a, a ≤ 9 → ∀ b, b ≤ 9 → (pairD (a, b)).shown.length ≤ 6 ∧ (pairD (a, b)).showable = true := by decide +kernel
theorem pairs_fine : ∀ {es : List E2}, (∀ p ∈ es, p.1 ≤ 9 ∧ p.2 ≤ 9) → ((PyData.shownAll (es.map pairD)).map (·.length)).sum ≤ 6 * es.length ∧ (PyData.shownAll (es.map pairD)).length = es.length ∧ PyData.showableAll (es.map pairD) = true
  | [], _ => ⟨Nat.le_refl _, rfl, by rw [List.map_nil]; simp [PyData.showableAll]⟩
  | p :: es, h => by
    obtain ⟨h1, h2, h3⟩ := pairs_fine (es := es) fun q hq => h q (List.mem_cons_of_mem _ hq)
    obtain ⟨a, b⟩ := h p (List.mem_cons_self ..)
    obtain ⟨f1, f2⟩ := pair_fine p.1 a p.2 b
    rw [List.map_cons]
    simp only [PyData.shownAll, PyData.showableAll, List.map_cons, List.sum_cons, List.length_cons]
    refine ⟨?_, by omega, ?_⟩
    · have f1' : (pairD p).shown.length ≤ 6 := f1
      omega
    · have f2' : (pairD p).showable = true := f2
      rw [f2', h3]
      rfl
theorem num_fine : ∀ n : Nat, n ≤ 9 → (PyData.int (n : Int)).shown.length ≤ 1 ∧ (PyData.int (n : Int)).showable = true := by decide +kernel
theorem graph_fine {n : Nat} {es : List E2} (g : Good n es) : (graphD n es).shown.length ≤ 400 ∧ (graphD n es).showable = true ∧ (graphD n es).depth ≤ 3 := by
  have n9 := g.n9
  obtain ⟨h1, h2, h3⟩ := pairs_fine (es := es) fun p hp => by have := g.lt p hp; omega
  obtain ⟨f1, f2⟩ := num_fine n n9
  have few := g.few
  have t1 := tup_len (PyData.shownAll (es.map pairD))
  have t2 := tup_len [(PyData.int (n : Int)).shown, tupleText (PyData.shownAll (es.map pairD))]
  have pd := pairsD_depth es
  unfold graphD
  refine ⟨?_, ?_, ?_⟩
  · have e : (PyData.tuple [.int (n : Int), .tuple (es.map pairD)]).shown = tupleText [(PyData.int (n : Int)).shown, tupleText (PyData.shownAll (es.map pairD))] := by simp [PyData.shown, PyData.shownAll]
    rw [e]
    simp only [List.map_cons, List.map_nil, List.sum_cons, List.sum_nil, List.length_cons, List.length_nil] at t2
    omega
  · simp [PyData.showable, PyData.showableAll, h3]
    simpa [PyData.showable] using f2
  · simp only [PyData.depth, PyData.depthAll]
    omega
def FineD (d : PyData) : Prop := d.showable = true ∧ d.depth ≤ 60 ∧ d.shown.length ≤ sizeLine
instance (d : PyData) : Decidable (FineD d) := inferInstanceAs (Decidable (_ ∧ _ ∧ _))
theorem bad_fine : ∀ k : Nat, k ≤ 950 → FineD (.list [.str "wrong", .int (k : Int)]) := by decide +kernel
theorem told_fine {n : Nat} {es : List E2} (g : Good n es) : FineD (.list [.str "told", graphD n es]) := by
  obtain ⟨h1, h2, h3⟩ := graph_fine g
  have c : (reprText "told").length = 6 := by decide +kernel
  have t := lst_len [reprText "told", (graphD n es).shown]
  refine ⟨?_, ?_, ?_⟩
  · simp [PyData.showable, PyData.showableAll, h2]
  · simp only [PyData.depth, PyData.depthAll]
    omega
  · have e : (PyData.list [.str "told", graphD n es]).shown = listText [reprText "told", (graphD n es).shown] := by simp [PyData.shown, PyData.shownAll]
    rw [e]
    simp only [List.map_cons, List.map_nil, List.sum_cons, List.sum_nil, List.length_cons, List.length_nil] at t
    exact Nat.le_trans t (Nat.le_of_lt (small1000 (by omega)))
theorem three_fine {n : Nat} {es : List E2} (g : Good n es) {z : Str} (hz : ∀ c ∈ z.cps.toList, c < 128) (zl : z.length ≤ 30) : FineD (.list [.str z, .str z, .list [.str "told", graphD n es]]) := by
  obtain ⟨h1, h2, h3⟩ := told_fine g
  obtain ⟨k1, k2, k3⟩ := graph_fine g
  have r := StrLaws.reprText_len z fun c hc => Nat.lt_trans (hz c hc) (by decide)
  have c : (reprText "told").length = 6 := by decide +kernel
  have t0 := lst_len [reprText "told", (graphD n es).shown]
  have t := lst_len [reprText z, reprText z, listText [reprText "told", (graphD n es).shown]]
  refine ⟨?_, ?_, ?_⟩
  · simp [PyData.showable, PyData.showableAll, k2]
  · simp only [PyData.depth, PyData.depthAll]
    omega
  · have e : (PyData.list [.str z, .str z, .list [.str "told", graphD n es]]).shown = listText [reprText z, reprText z, listText [reprText "told", (graphD n es).shown]] := by simp [PyData.shown, PyData.shownAll]
    rw [e]
    simp only [List.map_cons, List.map_nil, List.sum_cons, List.sum_nil, List.length_cons, List.length_nil] at t t0
    exact Nat.le_of_lt (Nat.lt_of_le_of_lt t (by
      refine Nat.lt_of_lt_of_le (show _ < 5000 by omega) ?_
      rw [sizeLine_eq]
      decide))
end My

set_option maxHeartbeats 2000000
/-! Values of any kind, by their shape; what is a graph, a lot. -/
namespace My
open PySem PySem.Spec PyProof.Rows L2
inductive Sh where
  | int (i : Int)
  | bool (b : Bool)
  | str (x : Str)
  | tup (ss : List Sh)
  | oth
mutual
inductive ShAt (K : PySem.W.Frag) (H : Hp) : V → Sh → Prop
  | int (i : Int) : ShAt K H (.int i) (.int i)
  | bool (b : Bool) : ShAt K H (.bl b) (.bool b)
  | tup {t : Addr} {xs : List V} {ss : List Sh} (h : SqT K H t xs) (r : ShsAt K H xs ss) : ShAt K H (.ref t) (.tup ss)
  | non : ShAt K H .non .oth
  | str (x : Str) : ShAt K H (.str x) (.str x)
  | lst {a : Addr} {xs : List V} (h : SqL K H a xs) : ShAt K H (.ref a) .oth
  | dct {a : Addr} {kvs : List (Key × V)} (h : H a = some (.dK kvs)) : ShAt K H (.ref a) .oth
inductive ShsAt (K : PySem.W.Frag) (H : Hp) : List V → List Sh → Prop
  | nil : ShsAt K H [] []
  | cons {x : V} {s : Sh} {xs : List V} {ss : List Sh} (a : ShAt K H x s) (r : ShsAt K H xs ss) : ShsAt K H (x :: xs) (s :: ss)
end
/-- tuples and dicts stay, lists stay lists -/
structure Kp (K : PySem.W.Frag) (H H' : Hp) : Prop where
  tup : ∀ t xs, SqT K H t xs → SqT K H' t xs
  lst : ∀ a xs, SqL K H a xs → ∃ ys, SqL K H' a ys
  dct : ∀ a kvs, H a = some (.dK kvs) → H' a = some (.dK kvs)
theorem Kp.of {K : PySem.W.Frag} {H H' : Hp} (s : Same H H') : Kp K H H' := ⟨fun t xs h => Same.tup s h, fun a xs h => ⟨xs, L2.Same.seq s h⟩, fun a kvs h => s _ _ h⟩
theorem Kp.trans {K : PySem.W.Frag} {H1 H2 H3 : Hp} (a : Kp K H1 H2) (b : Kp K H2 H3) : Kp K H1 H3 := ⟨fun t xs h => b.tup t xs (a.tup t xs h), fun c xs h => by
    obtain ⟨ys, h2⟩ := a.lst c xs h
    exact b.lst c ys h2, fun c kvs h => b.dct c kvs (a.dct c kvs h)⟩
mutual
theorem ShAt.kp {K : PySem.W.Frag} {H H' : Hp} (e : Kp K H H') : ∀ {v : V} {s : Sh}, ShAt K H v s → ShAt K H' v s
  | _, _, .int i => .int i
  | _, _, .bool b => .bool b
  | _, _, .tup h r => .tup (e.tup _ _ h) (ShsAt.kp e r)
  | _, _, .non => .non
  | _, _, .str x => .str x
  | _, _, .lst h => by
    obtain ⟨ys, h2⟩ := e.lst _ _ h
    exact .lst h2
  | _, _, .dct h => .dct (e.dct _ _ h)
theorem ShsAt.kp {K : PySem.W.Frag} {H H' : Hp} (e : Kp K H H') : ∀ {xs : List V} {ss : List Sh}, ShsAt K H xs ss → ShsAt K H' xs ss
  | _, _, .nil => .nil
  | _, _, .cons a r => .cons (a.kp e) (ShsAt.kp e r)
end
theorem ShAt.same {K : PySem.W.Frag} {H H' : Hp} (e : Same H H') {v : V} {s : Sh} (h : ShAt K H v s) : ShAt K H' v s := h.kp (Kp.of e)
theorem ShsAt.same {K : PySem.W.Frag} {H H' : Hp} (e : Same H H') {xs : List V} {ss : List Sh} (h : ShsAt K H xs ss) : ShsAt K H' xs ss := h.kp (Kp.of e)
theorem ShsAt.len {K : PySem.W.Frag} {H : Hp} : ∀ {xs : List V} {ss : List Sh}, ShsAt K H xs ss → xs.length = ss.length
  | _, _, .nil => rfl
  | _, _, .cons _ r => congrArg (· + 1) (ShsAt.len r)
theorem ShsAt.get {K : PySem.W.Frag} {H : Hp} : ∀ {xs : List V} {ss : List Sh}, ShsAt K H xs ss → ∀ {i : Nat} {x : V}, xs[i]? = some x → ∃ s, ss[i]? = some s ∧ ShAt K H x s
  | _, _, .nil, i, x, e => by simp at e
  | _, _, .cons a r, 0, x, e => by simp at e; subst e; exact ⟨_, rfl, a⟩
  | _, _, .cons a r, i + 1, x, e => by
    obtain ⟨s, h1, h2⟩ := ShsAt.get r (i := i) (x := x) (by simpa using e)
    exact ⟨s, by simpa using h1, h2⟩
theorem ShsAt.app {K : PySem.W.Frag} {H : Hp} : ∀ {xs ys : List V} {ss ts : List Sh}, ShsAt K H xs ss → ShsAt K H ys ts → ShsAt K H (xs ++ ys) (ss ++ ts)
  | _, _, _, _, .nil, h => h
  | _, _, _, _, .cons a r, h => .cons a (ShsAt.app r h)
/-- the type's name -/
def tyOk (T : String) : Sh → Prop
  | .int _ => T = "int"
  | .bool _ => T = "bool"
  | .tup _ => T = "tuple"
  | .str _ => T = "str"
  | .oth => T ≠ "int" ∧ T ≠ "bool" ∧ T ≠ "tuple" ∧ T ≠ "str"
theorem ShAt.ty {K : PySem.W.Frag} {H : Hp} {v : V} {s : Sh} (h : ShAt K H v s) : ∃ T, TyB K H v T ∧ tyOk T s := by
  cases h with
  | int i => exact ⟨_, .int i, rfl⟩
  | bool b => exact ⟨_, .bl b, rfl⟩
  | tup h r => exact ⟨_, .tup h, rfl⟩
  | non => exact ⟨_, .non, (by decide : ("NoneType" : String) ≠ "int" ∧ ("NoneType" : String) ≠ "bool" ∧ ("NoneType" : String) ≠ "tuple" ∧ ("NoneType" : String) ≠ "str")⟩
  | str x => exact ⟨_, .str x, rfl⟩
  | lst h => exact ⟨_, .lst h, (by decide : ("list" : String) ≠ "int" ∧ ("list" : String) ≠ "bool" ∧ ("list" : String) ≠ "tuple" ∧ ("list" : String) ≠ "str")⟩
  | dct h => exact ⟨_, .dK h, (by decide : ("dict" : String) ≠ "int" ∧ ("dict" : String) ≠ "bool" ∧ ("dict" : String) ≠ "tuple" ∧ ("dict" : String) ≠ "str")⟩
def wholeF (lo : Int) : Sh → Bool
  | .int i => decide (i ≥ lo)
  | _ => false
def wholeR (lo hi : Int) : Sh → Bool
  | .int i => decide (i ≥ lo) && decide (i ≤ hi)
  | _ => false
def isTwo : Sh → Bool
  | .tup [_, _] => true
  | _ => false
def vpB (n : Int) : Sh → Bool
  | .tup [a, b] => wholeR 0 (n - 1) a && wholeR 0 (n - 1) b
  | _ => false
def lt2 : Sh → Bool
  | .tup [.int a, .int b] => decide (a < b)
  | _ => false
def edgeB (n : Int) (s : Sh) : Bool := vpB n s && lt2 s
/-- one stands ahead of the other, as numbers or as pairs of numbers -/
def ltS : Sh → Sh → Bool
  | .int a, .int b => decide (a < b)
  | .tup [.int a, .int b], .tup [.int c, .int d] => HT.lexLt [a, b] [c, d]
  | _, _ => false
def ascB : List Sh → Bool
  | s :: t :: r => ltS s t && ascB (t :: r)
  | _ => true
def isGr : Sh → Bool
  | .tup [.int n, .tup es] => (decide (n ≥ 0) && decide (n ≤ 9)) && (es.all (edgeB n) && ascB es)
  | _ => false
def isLot (n : Nat) : Sh → Bool
  | .tup ss => ss.all (wholeR 0 ((n : Int) - 1)) && ascB ss
  | _ => false
end My

set_option maxHeartbeats 4000000
/-! What the second family of laws draws from: the pot; values of any kind made from written ones. -/
namespace My
open PySem PySem.Spec PyProof.Rows L2
theorem same_new {H : Hp} {p : Addr} (h : H p = none) (o : HO) : Same H (upd H p o) := fun b u q => by rw [upd_ne (ne_of_none q h)]; exact q
theorem small {n : Nat} (h : n ≤ 1000) : n ≤ sizeLine := Nat.le_of_lt (small1000 h)
theorem iteB {c : Bool} {A B : Prop} (h1 : c = true → A) (h2 : c = false → B) : if c = true then A else B := by
  cases c with
  | true => exact iteT (h1 rfl)
  | false => exact iteF (h2 rfl)
theorem join {i : Nat} {σ : L2.St} {N : L2.St → Hp → Prop} {H : Hp} {G : Prop} {R : V → Prop} (h : (∀ v, R v → gName i v σ H N) → G) (g : ∀ v, R v → gName i v σ H N) : G := h g
theorem joinS {i : Nat} {σ : L2.St} {N : L2.St → Hp → Prop} {G : Prop} {R : V → Hp → Prop} (h : (∀ v H, R v H → gName i v σ H N) → G) (g : ∀ v H, R v H → gName i v σ H N) : G := h g
theorem joinT {N : L2.St → Hp → Prop} {G : Prop} {R : L2.St → Hp → Prop} (h : (∀ σ H, R σ H → N σ H) → G) (g : ∀ σ H, R σ H → N σ H) : G := h g
/-- a pot at p -/
def Wl (H : Hp) (p : Addr) : Prop := ∃ (a : Int) (b : Fin 2147483629) (c : Int), H p = some (.lst [.int a, .int ((b.val : Nat) : Int), .int c])
theorem wl_mk {H : Hp} {p : Addr} {a x c : Int} (h : H p = some (.lst [.int a, .int x, .int c])) (h0 : 0 ≤ x) (h1 : x < 2147483629) : Wl H p := by
  refine ⟨a, ⟨x.toNat, by omega⟩, c, ?_⟩
  rw [h]
  have : ((x.toNat : Nat) : Int) = x := by omega
  show _ = some (HO.lst [.int a, .int ((x.toNat : Nat) : Int), .int c])
  rw [this]
/-- all but p is as it was -/
def But (p : Addr) (H H' : Hp) : Prop := ∀ q o, q ≠ p → H q = some o → H' q = some o
theorem But.refl (p : Addr) (H : Hp) : But p H H := fun _ _ _ e => e
theorem But.trans {p : Addr} {H1 H2 H3 : Hp} (x : But p H1 H2) (y : But p H2 H3) : But p H1 H3 := fun q o n e => y q o n (x q o n e)
theorem But.new {p q : Addr} {H : Hp} {o : HO} (n : H q = none) : But p H (upd H q o) := fun b u _ e => by rw [upd_ne (ne_of_none e n)]; exact e
theorem But.put {p : Addr} {H : Hp} {o : HO} : But p H (upd H p o) := fun b u n e => by rw [upd_ne n]; exact e
theorem But.of {p : Addr} {H H' : Hp} (s : Same H H') : But p H H' := fun b u _ e => s b u e
/-- the heap without p -/
def hide (p : Addr) (H : Hp) : Hp := fun q => if q = p then none else H q
theorem hide_ne {p q : Addr} {H : Hp} (h : q ≠ p) : hide p H q = H q := if_neg h
theorem hide_at {p : Addr} {H : Hp} : hide p H p = none := if_pos rfl
theorem hide_some {p q : Addr} {H : Hp} {o : HO} (h : hide p H q = some o) : q ≠ p ∧ H q = some o := by
  by_cases e : q = p
  · rw [e, hide_at] at h
    cases h
  · rw [hide_ne e] at h
    exact ⟨e, h⟩
theorem hide_sub (p : Addr) (H : Hp) : Same (hide p H) H := fun q o h => (hide_some h).2
theorem But.hide {p : Addr} {H H' : Hp} (h : But p H H') : Same (hide p H) (hide p H') := fun q o e => by
  obtain ⟨n, e⟩ := hide_some e
  rw [hide_ne n]
  exact h q o n e
def Fine (d : PyData) : Prop := d.showable = true ∧ d.depth ≤ 60 ∧ d.shown.length ≤ sizeLine
instance (d : PyData) : Decidable (Fine d) := inferInstanceAs (Decidable (_ ∧ _ ∧ _))
theorem take_succ {α : Type} {l : List α} {i : Nat} {x : α} (h : l[i]? = some x) : l.take (i + 1) = l.take i ++ [x] := by
  rw [List.take_succ, h]
  rfl
/-- every tuple stays -/
def TS (H H' : Hp) : Prop := ∀ q xs, Rd H q (.tup xs) → Rd H' q (.tup xs)
theorem TS.refl (H : Hp) : TS H H := fun _ _ h => h
theorem TS.trans {H1 H2 H3 : Hp} (a : TS H1 H2) (b : TS H2 H3) : TS H1 H3 := fun q xs h => b q xs (a q xs h)
theorem TS.of {H H' : Hp} (s : Same H H') : TS H H' := fun q xs h => by
  rcases h with h | ⟨o, h⟩
  · exact .inl (s _ _ h)
  · exact .inr ⟨o, s _ _ h⟩
theorem TS.put {H : Hp} {D : Addr} {zs : List V} {o : HO} (h : H D = some (.lst zs)) : TS H (upd H D o) := fun q xs r => by
  have ne : q ≠ D := fun z => by
    rw [z] at r
    rcases r with r | ⟨_, r⟩ <;> (rw [h] at r; cases r)
  unfold Rd
  rw [upd_ne ne]
  exact r
theorem TS.but {p : Addr} {H H' : Hp} (b : But p H H') (w : Wl H p) : TS H H' := fun q xs r => by
  obtain ⟨x, y, z, hp⟩ := w
  have ne : q ≠ p := fun e => by
    rw [e] at r
    rcases r with r | ⟨_, r⟩ <;> (rw [hp] at r; cases r)
  rcases r with r | ⟨o, r⟩
  · exact .inl (b _ _ ne r)
  · exact .inr ⟨o, b _ _ ne r⟩
theorem TS.tup {K : PySem.W.Frag} {H H' : Hp} (s : TS H H') {t : Addr} {xs : List V} (h : SqT K H t xs) : SqT K H' t xs := by
  rcases h with h | h
  · exact .inl (s _ _ h)
  · exact .inr h
theorem PairsAt.ts {K : PySem.W.Frag} {H H' : Hp} (e : TS H H') : ∀ {xs : List V} {ps : List E2}, PairsAt K H xs ps → PairsAt K H' xs ps
  | _, _, .nil => .nil
  | _, _, .cons ⟨t, h1, h2⟩ b => .cons ⟨t, h1, e.tup h2⟩ (PairsAt.ts e b)
theorem PairsAt.len {K : PySem.W.Frag} {H : Hp} : ∀ {xs : List V} {ps : List E2}, PairsAt K H xs ps → xs.length = ps.length
  | _, _, .nil => rfl
  | _, _, .cons _ b => congrArg (· + 1) (PairsAt.len b)
theorem GraphAt.ts {K : PySem.W.Frag} {H H' : Hp} (s : TS H H') {x : V} {n : Nat} {es : List E2} (h : GraphAt K H x n es) : GraphAt K H' x n es := by
  obtain ⟨t, e, xs, rfl, h1, h2, h3⟩ := h
  exact ⟨t, e, xs, rfl, s.tup h1, s.tup h2, h3.ts s⟩
theorem Wl.same {H H' : Hp} {p : Addr} (s : Same H H') (w : Wl H p) : Wl H' p := by
  obtain ⟨a, b, c, h⟩ := w
  exact ⟨a, b, c, s _ _ h⟩
theorem Wl.put {H : Hp} {p D : Addr} {o : HO} (w : Wl H p) (ne : D ≠ p) : Wl (upd H D o) p := by
  obtain ⟨a, b, c, h⟩ := w
  exact ⟨a, b, c, by rw [upd_ne (Ne.symm ne)]; exact h⟩
theorem Wl.ne {H : Hp} {p D : Addr} (w : Wl H p) (n : H D = none) : D ≠ p := by
  obtain ⟨a, b, c, h⟩ := w
  rintro rfl
  rw [h] at n
  cases n
theorem Wl.off {K : PySem.W.Frag} {H : Hp} {p t : Addr} {xs : List V} (w : Wl H p) (h : SqT K H t xs) : SqT K (hide p H) t xs := by
  obtain ⟨a, b, c, hp⟩ := w
  rcases h with h | h
  · left
    have ne : t ≠ p := fun e => by
      rw [e] at h
      rcases h with r | ⟨_, r⟩ <;> (rw [hp] at r; cases r)
    unfold Rd
    rw [hide_ne ne]
    exact h
  · exact .inr h
theorem Wl.ts {K : PySem.W.Frag} {H H' : Hp} {p t : Addr} {xs : List V} (w : Wl H p) (b : But p H H') (h : SqT K H t xs) : SqT K H' t xs := (TS.but b w).tup h
theorem Kp.but {K : PySem.W.Frag} {p : Addr} {H H' : Hp} (b : But p H H') (w : Wl H p) (w' : Wl H' p) : Kp K H H' := by
  refine ⟨fun t xs h => (TS.but b w).tup h, fun a xs h => ?_, fun a kvs h => ?_⟩
  · obtain ⟨x, y, z, hp⟩ := w
    obtain ⟨x', y', z', hp'⟩ := w'
    rcases h with (h | ⟨o, h⟩) | h
    · by_cases e : a = p
      · subst e
        exact ⟨_, SqL.of hp'⟩
      · exact ⟨xs, SqL.of (b _ _ e h)⟩
    · by_cases e : a = p
      · subst e
        rw [hp] at h
        cases h
      · exact ⟨xs, .inl (.inr ⟨o, b _ _ e h⟩)⟩
    · exact ⟨xs, .inr h⟩
  · obtain ⟨x, y, z, hp⟩ := w
    have e : a ≠ p := fun e => by
      subst e
      rw [hp] at h
      cases h
    exact b _ _ e h
theorem ShAt.but {K : PySem.W.Frag} {p : Addr} {H H' : Hp} (b : But p H H') (w : Wl H p) (w' : Wl H' p) {v : V} {s : Sh} (h : ShAt K H v s) : ShAt K H' v s := h.kp (Kp.but b w w')
theorem ShsAt.but {K : PySem.W.Frag} {p : Addr} {H H' : Hp} (b : But p H H') (w : Wl H p) (w' : Wl H' p) {v : List V} {s : List Sh} (h : ShsAt K H v s) : ShsAt K H' v s := h.kp (Kp.but b w w')
/-! ### rules -/
/-- t + u, whatever of them is () -/
def rCatW (K : PySem.W.Frag) : R2 := fun x y H Q => ∃ a b xs ys, x = .ref a ∧ y = .ref b ∧ SqT K H a xs ∧ SqT K H b ys ∧ xs.length + ys.length ≤ sizeLine ∧ ∀ p H', Same H H' → SqT K H' p (xs ++ ys) → Q (.ref p) H'
theorem op_catW {X : Cx} : OpR X (binaryOp .Add) (rCatW X.K) := by
  intro pins s σ H x y v u Q I rx ry h
  obtain ⟨a, b, xs, ys, rfl, rfl, ha, hb, hz, q⟩ := h
  refine op_catA pins s σ H _ _ v u Q I rx ry ⟨a, b, xs, ys, rfl, rfl, ha, hb, hz, fun e => ?_, fun _ e => ?_, fun _ _ p np => q p _ (same_new np _) (SqT.of upd_same)⟩
  · subst e
    exact q b H (Same.refl H) hb
  · subst e
    exact q a H (Same.refl H) (by rw [List.append_nil]; exact ha)
/-- t[lo:hi], the whole of it too -/
def rSlW (K : PySem.W.Frag) : V → Option Int → Option Int → Hp → VK → Prop := fun x lo hi H Q => ∃ a xs, x = .ref a ∧ SqT K H a xs ∧ ∀ p H', Same H H' → SqT K H' p (cutV xs lo hi) → Q (.ref p) H'
theorem sl_tupW {X : Cx} : SlR X (rSlW X.K) := by
  intro pins s σ H x v vl vu lo hi sl Q I rx hs pl pu h
  obtain ⟨a, xs, rfl, hx, q⟩ := h
  refine sl_tupA pins s σ H _ v vl vu lo hi sl Q I rx hs pl pu ⟨a, xs, rfl, hx, fun w => q a H (Same.refl H) ?_, fun _ p np => q p _ (same_new np _) (SqT.of upd_same)⟩
  have e : cutV xs lo hi = xs := by
    unfold cutV
    rw [w.1, w.2, List.drop_zero, Nat.sub_zero, List.take_length]
  rw [e]
  exact hx
theorem ShsAt.drop {K : PySem.W.Frag} {H : Hp} : ∀ {xs : List V} {ss : List Sh} (k : Nat), ShsAt K H xs ss → ShsAt K H (xs.drop k) (ss.drop k)
  | _, _, 0, h => h
  | _, _, k + 1, .nil => .nil
  | _, _, k + 1, .cons _ r => ShsAt.drop k r
theorem ShsAt.take {K : PySem.W.Frag} {H : Hp} : ∀ {xs : List V} {ss : List Sh} (k : Nat), ShsAt K H xs ss → ShsAt K H (xs.take k) (ss.take k)
  | _, _, 0, _ => .nil
  | _, _, k + 1, .nil => .nil
  | _, _, k + 1, .cons a r => .cons a (ShsAt.take k r)
theorem ShsAt.cut {K : PySem.W.Frag} {H : Hp} {xs : List V} {ss : List Sh} (h : ShsAt K H xs ss) (lo hi : Option Int) : ∃ ts, ShsAt K H (cutV xs lo hi) ts := ⟨_, (h.drop _).take _⟩
theorem ShsAt.rev {K : PySem.W.Frag} {H : Hp} : ∀ {xs : List V} {ss : List Sh}, ShsAt K H xs ss → ShsAt K H xs.reverse ss.reverse
  | _, _, .nil => .nil
  | _, _, .cons a r => by
    rw [List.reverse_cons, List.reverse_cons]
    exact (ShsAt.rev r).app (.cons a .nil)
theorem ShsAt.mem {K : PySem.W.Frag} {H : Hp} {xs : List V} {ss : List Sh} (h : ShsAt K H xs ss) {x : V} (m : x ∈ xs) : ∃ s, s ∈ ss ∧ ShAt K H x s := by
  obtain ⟨i, hi, e⟩ := List.getElem_of_mem m
  obtain ⟨s, h1, h2⟩ := h.get (i := i) (x := x) (by rw [List.getElem?_eq_getElem hi, e])
  exact ⟨s, List.mem_of_getElem? h1, h2⟩
/-- t[::-1], t a tuple -/
theorem getItem_tuple_rev {prog : Program} {w : World} {A : Around} {E : Value → Shared → Prop} {s : Shared} {t sl : Addr} {items : Array Value} {k : Tok} {Q : Value → Shared → Prop} (ht : IsTup s.heap t items) (hs : s.heap.IsSliceOf sl .none .none (.int (-1) k))
    (h : Q (.ref s.heap.objs.size) { s with heap := s.heap.push { cls := .type "tuple", data := .seq items.toList.reverse.toArray } }) (hsz : items.size ≤ sizeLine) : wpAny (model prog w) A (getItem (.ref t) (.ref sl)) Q E s := by
  have htake : sizeOk (.seq items.toList.reverse.toArray) := by
    show items.toList.reverse.toArray.size ≤ sizeLine
    rw [List.size_toArray, List.length_reverse, Array.length_toList]
    exact hsz
  obtain ⟨os, hos, hcs, hds⟩ := id hs
  have hTs : s.TypeIs (.ref sl) "slice" := ⟨os, hos, hcs⟩
  unfold getItem
  try with_reducible refine wpAny_holding ?_
  first | refine wpAny_bind (wpAny_pure ?_) | skip
  refine wpAny_bind (wpAny_sequenceKey ht.typeIs (by decide) ?_)
  refine wpAny_bind (wpAny_callSpecial?_slot (name := Str.ofString "__getitem__") ht.typeIs PyProof.Rows.slot_tuple_getitem
    (wpAny_call_entry PyProof.Rows.slot_tuple_getitem ht.typeIs entry_tuple_getitem ?_ (args_tuple_getitem _ _)))
  show wpAny _ _ (Builtin.Tuple.tupleItemsOf (.ref t) >>= _) _ _ s
  refine wpAny_bind (tupleItemsOf_ ht ?_)
  refine wpAny_bind (wpAny_typeOf hTs ?_)
  rw [if_pos (by decide)]
  have ap : Builtin.Slice.sliceAdjust none none (-1) (items.size : Int) = ((items.size : Int) - 1, -1) := rfl
  have pl : Builtin.Slice.slicePlaces ((items.size : Int) - 1) (-1) (-1) = items.size := by
    unfold Builtin.Slice.slicePlaces
    rw [if_neg (by decide)]
    by_cases z : items.size = 0
    · rw [z]
      rfl
    · rw [if_pos (by omega)]
      have : ((items.size : Int) - 1 - -1 - 1) / (- -1) + 1 = (items.size : Int) := by
        rw [show - (-1 : Int) = 1 by decide, Int.ediv_one]
        omega
      rw [this, Int.toNat_natCast]
  have pk : ((List.range items.size).filterMap fun (m : Nat) => items[(((items.size : Int) - 1) + (m : Int) * -1).toNat]?).toArray = items.toList.reverse.toArray := by
    congr 1
    refine List.ext_getElem? fun j => ?_
    have e : ∀ n, n ≤ items.size → (List.range n).filterMap (fun (m : Nat) => items[(((items.size : Int) - 1) + (m : Int) * -1).toNat]?) = (items.toList.reverse).take n := fun n => by
      induction n with
      | zero => intro _; rfl
      | succ n ih =>
        intro h
        have hn : n < items.toList.reverse.length := by rw [List.length_reverse, Array.length_toList]; omega
        rw [List.range_succ, List.filterMap_append, ih (by omega), List.take_add_one, List.getElem?_eq_getElem hn]
        congr 1
        have i1 : (((items.size : Int) - 1) + (n : Int) * -1).toNat = items.size - 1 - n := by omega
        have lt : items.size - 1 - n < items.size := by omega
        rw [List.getElem_reverse]
        simp only [List.filterMap_cons, List.filterMap_nil, i1, Array.getElem?_eq_getElem lt, Option.toList_some]
        simp
    rw [e _ (Nat.le_refl _), List.take_of_length_le (by rw [List.length_reverse, Array.length_toList]; exact Nat.le_refl _)]
  refine wpAny_bind ?_
  unfold Builtin.Slice.sliceApplied Builtin.Slice.sliceFields
  refine wpAny_bind (wpAny_bind (wpAny_field hos hds (x := .none) rfl (wpAny_bind (wpAny_field hos hds (x := .none) rfl (wpAny_bind (wpAny_field hos hds (x := .int (-1) k) rfl (wpAny_pure ?_)))))))
  refine wpAny_bind (HT.slicePart_ (.int (-1) k) ?_)
  show wpAny _ _ (if ((-1 : Int) == 0) = true then _ else _) _ _ s
  rw [if_neg (by decide)]
  refine wpAny_bind (HT.slicePart_ .none (wpAny_bind (HT.slicePart_ .none (wpAny_bind (wpAny_pure ?_)))))
  show wpAny _ _ (match Builtin.Slice.sliceAdjust none none (-1) (items.size : Int) with | (lo, hi) => pure (lo, (-1 : Int), Builtin.Slice.slicePlaces lo hi (-1))) _ _ s
  rw [ap]
  show wpAny _ _ (pure ((items.size : Int) - 1, (-1 : Int), Builtin.Slice.slicePlaces ((items.size : Int) - 1) (-1) (-1))) _ _ s
  rw [pl]
  refine wpAny_pure ?_
  have hno : ¬ (((items.size : Int) - 1 == 0 && (-1 : Int) == 1 && items.size == items.size) = true) := by simp
  show wpAny _ _ (if ((items.size : Int) - 1 == 0 && (-1 : Int) == 1 && items.size == items.size) = true then _ else _) _ _ s
  rw [if_neg hno, pk]
  first
    | exact wpAny_bind (m := Builtin.Tuple.tupleExact _) (wpAny_newObj_type (wpAny_pure ⟨_, rfl, wpAny_pure h⟩) htake)
    | exact wpAny_bind (m := Builtin.Tuple.tupleExact _) (wpAny_newObj_type (wpAny_bind (wpAny_pure (wpAny_pure ⟨_, rfl, wpAny_pure h⟩))) htake)
    | exact wpAny_bind (wpAny_bind (m := Builtin.Tuple.tupleExact _) (wpAny_newObj_type (wpAny_pure (wpAny_pure ⟨_, rfl, wpAny_pure h⟩)) htake))
    | exact wpAny_bind (wpAny_bind (m := Builtin.Tuple.tupleExact _) (wpAny_newObj_type (wpAny_pure ⟨_, rfl, wpAny_pure h⟩) htake))
section
variable {X : Cx}
def tRevT (K : PySem.W.Frag) (te : TE) : TE := fun σ H Q => te σ H fun x H1 => ∃ a xs, x = .ref a ∧ SqT K H1 a xs ∧ ∀ p, H1 p = none → Q (.ref p) (upd H1 p (.tup xs.reverse))
theorem pe_revT {e : Expr} {te : TE} {k : Nat} {p1 p2 p3 pos : Pos} (he : PE X e te) : PE X (.Subscript e (.Slice none none (some (.UnaryOp .USub (.Constant (.int 1) k p1) p2)) p3) pos) (tRevT X.K te) := by
  refine ⟨fun pins s σ H Q I h => ?_⟩
  refine Subscript_ (thn (he.run pins s σ H _ I h) fun v s1 ⟨x, H1, I1, r1, q1⟩ => ?_)
  obtain ⟨a, xs, ex, hx, q⟩ := q1
  subst ex
  cases r1
  have hst : PO X (some (.UnaryOp .USub (.Constant (.int 1) k p1) p2)) (tPart (tUn (rU fun i => .int (-i)) (tC (.int 1)))) := po_some (pe_un un_neg pe_int)
  refine wpAny_Slice (thn (po_none.run pins s1 σ H1 (fun o H2 => o = none ∧ H2 = H1) I1 ⟨rfl, rfl⟩) fun vl s2 ⟨l, H2, I2, pl, el, e2⟩ => ?_)
  subst el e2
  refine thn (po_none.run pins s2 σ H2 (fun o H3 => o = none ∧ H3 = H2) I2 ⟨rfl, rfl⟩) fun vu s3 ⟨u, H3, I3, pu, eu, e3⟩ => ?_
  subst eu e3
  refine thn (hst.run pins s3 σ H3 (fun o H4 => o = some (-1) ∧ H4 = H3) I3 ⟨1, rfl, -1, rfl, rfl, rfl⟩) fun vs s4 ⟨o, H4, I4, ps, eo, e4⟩ => ?_
  subst eo e4
  cases pl
  cases pu
  obtain ⟨tk, rfl⟩ : ∃ tk, vs = Value.int (-1) tk := by
    cases ps
    exact ⟨_, rfl⟩
  have I5 : L2.Inv X pins σ H4 { s4 with heap := s4.heap.push { cls := .type "slice", data := .fields #[.none, .none, .int (-1) tk] } } := I4.kept (t' := s4.toks) fun b ob q => Heap.get?_push_of_some _ q
  obtain ⟨its, r, ht, hz⟩ := I5.tuple hx
  have hlen := r.length
  show wpAny (model X.prog X.w) X.A (subscriptTail e (.Slice none none (some (.UnaryOp .USub (.Constant (.int 1) k p1) p2)) p3) (.ref a) (.ref s4.heap.objs.size)) (EP X pins σ Q) X.xe { s4 with heap := s4.heap.push { cls := .type "slice", data := .fields #[.none, .none, .int (-1) tk] } }
  refine tail_any (ops := [.ref a, .ref s4.heap.objs.size]) ht.typeIs (PyProof.Rows.slot_tuple_getitem.lookup) ?_ (by with_unfolding_all rfl)
  refine getItem_tuple_rev ht (Heap.IsSliceOf.new _ .none .none (.int (-1) tk)) ?_ (by rw [List.size_toArray]; omega)
  refine ⟨.ref _, _, I5.laid (t' := s4.toks) (o := .tup xs.reverse) (fun b ob q => Heap.get?_push_of_some _ q) (Nat.le_refl _) ?_, rfl, q _ (I5.hok.fresh (Nat.le_refl _))⟩
  exact ⟨by rw [List.length_reverse]; exact hz, _, r.reverse, IsTup.new _ _⟩
end
theorem but_put {p l : Addr} {H H1 : Hp} {o : HO} (b : But p H H1) (n : H l = none) : But p H (upd H1 l o) := fun q u ne e => by
  rw [upd_ne (ne_of_none e n)]
  exact b q u ne e
theorem cut_to {xs : List V} {k : Nat} (h : k ≤ xs.length) : cutV xs none (some (k : Int)) = xs.take k := by
  unfold cutV
  rw [HT.sIx_none, HT.sIx_nat, List.drop_zero, Nat.sub_zero, Nat.min_eq_left h]
theorem cut_from {xs : List V} {k : Nat} (h : k ≤ xs.length) : cutV xs (some (k : Int)) none = xs.drop k := by
  unfold cutV
  rw [HT.sIx_none, HT.sIx_nat, Nat.min_eq_left h, List.take_of_length_le (by rw [List.length_drop]; exact Nat.le_refl _)]
/-! ### what is asked of a value's kind -/
def isTup : Sh → Bool
  | .tup _ => true
  | _ => false
def isInt : Sh → Bool
  | .int _ => true
  | .bool _ => true
  | _ => false
def isBool : Sh → Bool
  | .bool _ => true
  | _ => false
theorem tyx_tup {K : PySem.W.Frag} {H : Hp} {t : Addr} {xs : List V} (h : SqT K H t xs) : TyX K H (.ref t) (.type "tuple") := by
  rcases h with (h | ⟨o, h⟩) | ⟨o, its, n, h, c, _⟩
  · exact .base (.tup h)
  · exact .fTuple h
  · exact .kTuple h c
theorem tyx_lst {K : PySem.W.Frag} {H : Hp} {t : Addr} {xs : List V} (h : SqL K H t xs) : TyX K H (.ref t) (.type "list") := by
  rcases h with (h | ⟨o, h⟩) | ⟨o, its, n, h, c, _⟩
  · exact .base (.lst h)
  · exact .base (.frz h)
  · exact .kList h c
theorem isi_of {K : PySem.W.Frag} {H : Hp} {v : V} {s : Sh} (h : ShAt K H v s) : ∃ t, TyX K H v t ∧ PySem.W.kitOne K t (.type "tuple") = some (isTup s) ∧ PySem.W.kitOne K t (.type "int") = some (isInt s) ∧ PySem.W.kitOne K t (.type "bool") = some (isBool s) := by
  cases h with
  | int i => exact ⟨_, .base (.int i), rfl, rfl, rfl⟩
  | bool b => exact ⟨_, .base (.bl b), rfl, rfl, rfl⟩
  | tup h r => exact ⟨_, tyx_tup h, rfl, rfl, rfl⟩
  | non => exact ⟨_, .base .non, rfl, rfl, rfl⟩
  | str x => exact ⟨_, .base (.str x), rfl, rfl, rfl⟩
  | lst h => exact ⟨_, tyx_lst h, rfl, rfl, rfl⟩
  | dct h => exact ⟨_, .base (.dK h), rfl, rfl, rfl⟩
/-! ### shapes of pairs -/
def pairS (p : E2) : Sh := .tup [.int (p.1 : Int), .int (p.2 : Int)]
theorem PairsAt.sh {K : PySem.W.Frag} {H : Hp} : ∀ {xs : List V} {ps : List E2}, PairsAt K H xs ps → ShsAt K H xs (ps.map pairS)
  | _, _, .nil => .nil
  | _, _, .cons ⟨t, h1, h2⟩ b => by
    subst h1
    exact .cons (.tup h2 (.cons (.int _) (.cons (.int _) .nil))) (PairsAt.sh b)
theorem sh_pairs {K : PySem.W.Frag} {H : Hp} : ∀ {xs : List V} {ps : List E2}, ShsAt K H xs (ps.map pairS) → PairsAt K H xs ps
  | _, [], h => by cases h; exact .nil
  | _, p :: ps, h => by
    cases h with
    | cons a r =>
      refine .cons ?_ (sh_pairs r)
      cases a with
      | tup ht ra =>
        cases ra with
        | cons r1 ra =>
          cases ra with
          | cons r2 ra =>
            cases ra
            cases r1
            cases r2
            exact ⟨_, rfl, ht⟩
theorem PairsT.but {p : Addr} {H H' : Hp} (b : But p H H') (w : Wl H p) : ∀ {xs : List V} {ps : List E2}, PairsT H xs ps → PairsT H' xs ps
  | _, _, .nil => .nil
  | _, _, .cons ⟨t, e, h⟩ r => .cons ⟨t, e, b _ _ (fun z => by
      obtain ⟨x, y, c, hp⟩ := w
      rw [z, hp] at h
      cases h) h⟩ (PairsT.but b w r)
/-- sorted pairs, some of them maybe alike -/
theorem sorted_pairsD {H : Hp} {xs ys : List V} {ps : List E2} (h : PairsT H xs ps) (so : SrtO.Srtd (ltP (kOf H)) ys) (st : SrtO.Stb (ltP (kOf H)) ys xs) :
    PairsT H ys (ys.map (gOf H)) ∧ ((ys.map (gOf H)).Pairwise fun a b => ¬ ahead b a) ∧ (ys.map (gOf H)).Perm ps := by
  have pm : (ys.map (gOf H)).Perm ps := by
    have z := st.perm.map (gOf H)
    rw [map_gOf h] at z
    exact z
  have hy : ∀ y ∈ ys, PairT H y (gOf H y) := fun y hy => h.mem y (st.perm.mem_iff.mp hy)
  refine ⟨PairsT.of_mem hy, ?_, pm⟩
  rw [List.pairwise_map]
  refine List.Pairwise.imp_of_mem ?_ so
  intro a b ha hb le
  have ka := kOf_at (hy a ha)
  have kb := kOf_at (hy b hb)
  have le2 : SrtO.lexB (kOf H b) (kOf H a) = false := le
  rw [ka, kb] at le2
  have le3 := mt (SrtO.lexB_iff (p := (((gOf H b).1 : Int), ((gOf H b).2 : Int))) (q := (((gOf H a).1 : Int), ((gOf H a).2 : Int)))).mpr (by rw [le2]; decide)
  dsimp only at le3
  unfold ahead
  omega
theorem PairsT.ks {H : Hp} {xs : List V} {ps : List E2} (h : PairsT H xs ps) : ∀ x ∈ xs, ∃ t, x = V.ref t ∧ H t = some (.tup [.int (kOf H x).1, .int (kOf H x).2]) := fun x hx => by
  have z := h.mem x hx
  have k := kOf_at z
  obtain ⟨t, e, ht⟩ := z
  exact ⟨t, e, by rw [k]; exact ht⟩
theorem wl_tup {p t : Addr} {H : Hp} {xs : List V} (w : Wl H p) (h : H t = some (.tup xs)) : t ≠ p := fun z => by
  obtain ⟨x, y, c, hp⟩ := w
  rw [z, hp] at h
  cases h
theorem rows_few : ∀ u, u ≤ 9 → ∀ n, n ≤ 9 → ((List.range u).flatMap (rowP n)).length ≤ 81 := by decide +kernel
/-- lists of numbers -/
def numsN (l : List Nat) : List V := l.map fun k => V.int ((k : Nat) : Int)
theorem numsN_len (l : List Nat) : (numsN l).length = l.length := List.length_map _
theorem numsN_app (l m : List Nat) : numsN (l ++ m) = numsN l ++ numsN m := List.map_append
theorem numsN_get {l : List Nat} {i : Nat} {x : V} (h : (numsN l)[i]? = some x) : ∃ k, l[i]? = some k ∧ x = .int ((k : Nat) : Int) := by
  unfold numsN at h
  rw [List.getElem?_map] at h
  cases e : l[i]? with
  | none => rw [e] at h; cases h
  | some k => rw [e] at h; cases h; exact ⟨k, rfl, rfl⟩
/-! ### values of some kind, not too long -/
inductive Lb : Sh → Prop
  | int (i : Int) : Lb (.int i)
  | bool (b : Bool) : Lb (.bool b)
  | str (x : Str) : Lb (.str x)
  | oth : Lb .oth
  | tup {ss : List Sh} (l : ss.length ≤ 900) (h : ∀ z ∈ ss, Lb z) : Lb (.tup ss)
def Va (K : PySem.W.Frag) (H : Hp) (v : V) : Prop := ∃ s, ShAt K H v s ∧ Lb s
section
variable {K : PySem.W.Frag} {H : Hp}
theorem Va.int (i : Int) : Va K H (.int i) := ⟨_, .int i, .int i⟩
theorem Va.bl (b : Bool) : Va K H (.bl b) := ⟨_, .bool b, .bool b⟩
theorem Va.str (x : Str) : Va K H (.str x) := ⟨_, .str x, .str x⟩
theorem Va.non : Va K H .non := ⟨_, .non, .oth⟩
theorem Va.lst {a : Addr} {xs : List V} (h : SqL K H a xs) : Va K H (.ref a) := ⟨_, .lst h, .oth⟩
theorem Va.dct {a : Addr} {kvs : List (Key × V)} (h : H a = some (.dK kvs)) : Va K H (.ref a) := ⟨_, .dct h, .oth⟩
theorem va_all : ∀ {xs : List V}, (∀ x ∈ xs, Va K H x) → ∃ ss, ShsAt K H xs ss ∧ ∀ z ∈ ss, Lb z
  | [], _ => ⟨[], .nil, fun _ z => nomatch z⟩
  | x :: xs, h => by
    obtain ⟨s, h1, h2⟩ := h x (List.mem_cons_self ..)
    obtain ⟨ss, h3, h4⟩ := va_all (xs := xs) fun y hy => h y (List.mem_cons_of_mem _ hy)
    refine ⟨s :: ss, .cons h1 h3, fun z hz => ?_⟩
    rcases List.mem_cons.mp hz with rfl | hz
    · exact h2
    · exact h4 z hz
theorem Va.tup {t : Addr} {xs : List V} (h : SqT K H t xs) (l : xs.length ≤ 900) (a : ∀ x ∈ xs, Va K H x) : Va K H (.ref t) := by
  obtain ⟨ss, h1, h2⟩ := va_all a
  exact ⟨.tup ss, .tup h h1, .tup (by rw [← h1.len]; exact l) h2⟩
theorem Va.kp {H' : Hp} (e : Kp K H H') {v : V} (h : Va K H v) : Va K H' v := by
  obtain ⟨s, h1, h2⟩ := h
  exact ⟨s, h1.kp e, h2⟩
theorem Va.same {H' : Hp} (e : Same H H') {v : V} (h : Va K H v) : Va K H' v := h.kp (Kp.of e)
theorem Va.but {p : Addr} {H' : Hp} (b : But p H H') (w : Wl H p) (w' : Wl H' p) {v : V} (h : Va K H v) : Va K H' v := h.kp (Kp.but b w w')
theorem va_cut {xs : List V} (lo hi : Option Int) (h : ∀ x ∈ xs, Va K H x) : ∀ x ∈ cutV xs lo hi, Va K H x := fun x hx => h x (List.mem_of_mem_drop (List.mem_of_mem_take hx))
theorem va_app {xs ys : List V} (h : ∀ x ∈ xs, Va K H x) (g : ∀ x ∈ ys, Va K H x) : ∀ x ∈ xs ++ ys, Va K H x := fun x hx => (List.mem_append.mp hx).elim (h x) (g x)
theorem va_nil : ∀ x ∈ ([] : List V), Va K H x := fun _ z => nomatch z
theorem va_cons {x : V} {xs : List V} (a : Va K H x) (h : ∀ x ∈ xs, Va K H x) : ∀ y ∈ x :: xs, Va K H y := fun y hy => by
  rcases List.mem_cons.mp hy with rfl | hy
  · exact a
  · exact h y hy
end
/-! ### values made from written ones -/
def Mk (K : PySem.W.Frag) (t : TE) : Prop := ∀ (σ : L2.St) (H : Hp) (Q : VK), (∀ v H', Same H H' → Va K H' v → Q v H') → t σ H Q
def MkA (K : PySem.W.Frag) (n : Nat) (t : TA) : Prop := ∀ (σ : L2.St) (H : Hp) (Q : List V → Hp → Prop), (∀ vs H', Same H H' → vs.length = n → (∀ v ∈ vs, Va K H' v) → Q vs H') → t σ H Q
section
variable {K : PySem.W.Frag}
theorem mk_int (i : Int) : Mk K (tC (.int i)) := fun σ H Q h => h _ H (Same.refl H) (.int i)
theorem mk_bl (b : Bool) : Mk K (tC (.bl b)) := fun σ H Q h => h _ H (Same.refl H) (.bl b)
theorem mk_str (x : Str) : Mk K (tC (.str x)) := fun σ H Q h => h _ H (Same.refl H) (.str x)
theorem mk_non : Mk K (tC .non) := fun σ H Q h => h _ H (Same.refl H) .non
theorem mk_nil : MkA K 0 tNil := fun σ H Q h => h _ H (Same.refl H) rfl va_nil
theorem mk_cons {t : TE} {ts : TA} {n : Nat} (a : Mk K t) (b : MkA K n ts) : MkA K (n + 1) (tCons t ts) := fun σ H Q h =>
  a σ H _ fun v H1 s1 hv => b σ H1 _ fun vs H2 s2 l hs => h _ H2 (s1.trans s2) (congrArg (· + 1) l) (va_cons (hv.same s2) hs)
theorem mk_tup {ts : TA} {n : Nat} (hn : n ≤ 900) (b : MkA K n ts) : Mk K (tTup ts) := fun σ H Q h =>
  b σ H _ fun vs H1 s1 l hs => ⟨by rw [l]; exact small (by omega), fun p np => h _ _ (s1.trans (same_new np _)) (.tup (SqT.of upd_same) (by omega) fun x hx => (hs x hx).same (same_new np _))⟩
theorem mk_lst {ts : TA} {n : Nat} (hn : n ≤ 1000) (b : MkA K n ts) : Mk K (tLst ts) := fun σ H Q h =>
  b σ H _ fun vs H1 s1 l hs => ⟨by rw [l]; exact small hn, fun p np => h _ _ (s1.trans (same_new np _)) (.lst (SqL.of upd_same))⟩
theorem mk_dct : Mk K tDNewK := fun σ H Q h => fun p np => h _ _ (same_new np _) (.dct upd_same)
theorem mk_pow (i j : Int) (h : CPow i j) : Mk K (tOp (rI CPow fun i j => .int (i ^ j.toNat)) (tC (.int i)) (tC (.int j))) := fun σ H Q q => ⟨_, _, rfl, rfl, h, q _ H (Same.refl H) (.int _)⟩
theorem mk_neg (i : Int) : Mk K (tUn (rU fun i => .int (-i)) (tC (.int i))) := fun σ H Q q => ⟨i, rfl, q _ H (Same.refl H) (.int _)⟩
theorem set_mk {n i : Nat} {ts : TA} {rest : L2.TS} {D : Ends} {σ : L2.St} {H : Hp} (m : MkA K n ts) (hn : n ≤ 1000) (go : ∀ vs F H1, Same H H1 → vs.length = n → (∀ v ∈ vs, Va K H1 v) → H F = none → H1 F = some (.lst vs) → rest D (σ.set i (some (.ref F))) H1) : tSeq (tAsg (tLst ts) (gName i)) rest D σ H :=
  m σ H _ fun vs H1 s1 l h1 => ⟨by rw [l]; exact small hn, fun F nF => go vs F _ (s1.trans (same_new nF _)) l (fun x hx => (h1 x hx).same (same_new nF _)) (s1.free nF) upd_same⟩
end
end My

set_option maxHeartbeats 4000000
/-! The law's draws from a well, on PtM. -/
namespace My
open PySem PySem.Spec PyProof.Rows L2
def top (i : Nat) : Stmt := PySem.Challenge.pw_perfectgraphs_k11_whole_minimally_imperf.main.body.getD i (.Pass ⟨0, 0, 0, 0⟩)
abbrev sWell : Stmt := top 23
abbrev sDraw : Stmt := top 24
abbrev sPick : Stmt := top 25
abbrev sSame : Stmt := top 26
theorem scWell : FnScope ["script", "turn", "cell", "mixed", "each"] ["script", "turn"] (defScope sWell) := ⟨rfl, rfl, rfl, by decide +kernel, rfl, by decide +kernel, by decide +kernel⟩
theorem scDraw : FnScope ["well", "many", "figure", "mixed"] ["well", "many"] (defScope sDraw) := ⟨rfl, rfl, rfl, by decide +kernel, rfl, by decide +kernel, by decide +kernel⟩
theorem scPick : FnScope ["well", "some"] ["well", "some"] (defScope sPick) := ⟨rfl, rfl, rfl, by decide +kernel, rfl, by decide +kernel, by decide +kernel⟩
theorem scSame : FnScope ["told", "due"] ["told", "due"] (defScope sSame) := ⟨rfl, rfl, rfl, by decide +kernel, rfl, by decide +kernel, by decide +kernel⟩

def spWell (K : PySem.W.Frag) : Sp := fun vs H Q _ => ∃ (a : Addr) (ns : List Int) (t : Nat), vs = [.ref a, .int (t : Int)] ∧ SqL K H a (ns.map V.int) ∧ ns.length ≤ 63 ∧ t ≤ 2 ∧
  ∀ (H' : Hp) (p : Addr), Same H H' → H p = none → Wl H' p → Q (.ref p) H'
def spDraw : Sp := fun vs H Q _ => ∃ (p : Addr) (m : Int), vs = [.ref p, .int m] ∧ Wl H p ∧ 0 < m ∧ m < 1000000 ∧
  ∀ (r : Int) (H' : Hp), 0 ≤ r → r < m → But p H H' → Wl H' p → Q (.int r) H'
/-- from a tuple that stands beside the well -/
def spPick (K : PySem.W.Frag) : Sp := fun vs H Q _ => ∃ (p t : Addr) (xs : List V), vs = [.ref p, .ref t] ∧ Wl H p ∧ SqT K (hide p H) t xs ∧ 0 < xs.length ∧ xs.length < 1000 ∧
  ∀ (i : Nat) (v : V) (H' : Hp), xs[i]? = some v → But p H H' → Wl H' p → Q v H'
def spSame (K : PySem.W.Frag) : Sp := fun vs H Q _ => ∃ (x y : V) (d e : PyData), vs = [x, y] ∧ Dd K H x d ∧ Dd K H y e ∧ Fine d ∧ Fine e ∧ Q (.bl (decide (V.str d.shown = V.str e.shown))) H
section
variable {P : Program} {w : World} {K : PySem.W.Frag} {mg : Str → Option Value} {base : Heap} {f fD : Addr} {fd dD : FuncData}
theorem ok_well (F : L2.Fun K "_law_well" "_law_well" sWell f fd) (ml : mg "len" = none) (mi : mg "int" = none) (ma : mg "abs" = none) : FnOk P w K mg base CX0 1 f fd ["script", "turn"] (spWell K) := by
  refine F.ok scWell (fun vs H Q E h => ?_) (fun cdv A outer s H vs Q E hr h => ?_)
  · obtain ⟨a, ns, t, rfl, _⟩ := h
    rfl
  obtain ⟨a, ns, t, rfl, hS, h63, h2, q⟩ := h
  refine ⟨_, pss_cons (ps_set (i := 2) scWell.nd rfl (.inl rfl) (pe_ifExp (pt_cmpR op_lt (pv 1) (pe_callB call_len_seq (by rfl) ml PySem.boot_len (pa_cons (pv 0) pa_nil)) (nomark _))
        (pe_callTy call_int1 (by rfl) mi (by decide +kernel) (pa_cons (pe_ix ix_list (pv 0) (pv 1) (fun _ _ => rfl)) pa_nil))
        (pe_op op_add (pe_op op_mul pe_int (pv 1)) pe_int)))
    (pss_cons (ps_set (i := 3) scWell.nd rfl (.inl rfl) (pe_op op_add pe_int (pe_op op_mul pe_int (pv 1))))
    (pss_cons (ps_for PassesOwn.never rfl (pi_list (pe_slice sl_list (pv 0) po_none (po_some pe_int))) (pg_name (i := 4) scWell.nd rfl (.inl rfl))
      (pss_one (ps_set (i := 3) scWell.nd rfl (.inl rfl) (pe_op op_mod (pe_callTy call_int1 (by rfl) mi (by decide +kernel) (pa_cons (pe_op op_add (pe_op op_add (pe_op op_mul (pv 3) pe_int)
        (pe_op op_mod (pe_callTy call_int1 (by rfl) mi (by decide +kernel) (pa_cons (pv 4) pa_nil)) pe_int)) pe_int) pa_nil)) pe_int))))
    (pss_cons (ps_set (i := 3) scWell.nd rfl (.inl rfl) (pe_op op_mod (pe_callTy call_int1 (by rfl) mi (by decide +kernel) (pa_cons (pe_op op_add (pe_op op_add (pe_op op_mul (pv 3) pe_int)
        (pe_op op_mul (pe_op op_mod (pe_callTy call_int1 (by rfl) mi (by decide +kernel) (pa_cons (pv 2) pa_nil)) pe_int) pe_int)) pe_int) pa_nil)) pe_int))
    (pss_one (ps_ret (pe_lst (pa_cons (pe_ifExp (PW.pt (pw_or (pt_cmpR op_lt (pv 2) pe_int (nomark _)) (pw_or1 (pt_cmpR op_ge (pv 2) (pe_op op_pow pe_int pe_int) (nomark _)))))
      (pe_callB call_abs (by rfl) ma (by decide +kernel) (pa_cons (pv 2) pa_nil)) pe_int) (pa_cons (pv 3) (pa_cons pe_int pa_nil))))))))), ?_⟩
  have hl : (ns.map V.int).length = ns.length := List.length_map _
  refine ⟨_, rfl, _, rfl, a, _, rfl, .inl hS, _, _, rfl, rfl, _, rfl, ?_⟩
  refine' join (i := 2) (R := fun v => ∃ n : Int, v = V.int n) (fun go => ?_) ?_
  rotate_left 3
  · refine iteB (fun c => ?_) (fun c => ?_)
    · have c1 : ((t : Nat) : Int) < (((ns.map V.int).length : Nat) : Int) := of_decide_eq_true c
      have c2 : t < ns.length := by rw [hl] at c1; omega
      have at1 : atI (ns.map V.int) ((t : Nat) : Int) = some (.int ns[t]) := atI_nat (by rw [List.getElem?_map, List.getElem?_eq_getElem c2] <;> rfl)
      exact ⟨_, rfl, _, rfl, a, _, _, _, rfl, rfl, hS, at1, .inl ⟨_, rfl, go _ ⟨_, rfl⟩⟩⟩
    · exact ⟨_, rfl, _, _, rfl, rfl, .inl ⟨by decide, by decide⟩, _, _, rfl, rfl, go _ ⟨_, rfl⟩⟩
  rintro _ ⟨cell, rfl⟩
  refine ⟨_, rfl, _, _, rfl, rfl, .inl ⟨by decide, by decide⟩, _, _, rfl, rfl, ?_⟩
  refine ⟨_, rfl, 9, rfl, a, _, rfl, hS, fun p np => ?_⟩
  refine ⟨p, rfl, ⟨_, SqL.of upd_same⟩, for_list (K := K) (a := p) (xs := cutV (ns.map V.int) none (some 9)) (fun i σ H' => ∃ (m : Int) (e : Option V), σ = [some (.ref a), some (.int (t : Int)), some (.int cell), some (.int m), e] ∧ H' = upd H p (.lst (cutV (ns.map V.int) none (some 9)))) ⟨_, none, rfl, rfl⟩ ?_ ?_ ?_⟩
  · rintro i σ H' _ ⟨m, e, rfl, rfl⟩
    exact SqL.of upd_same
  · rintro i x σ H' hi ⟨m, e, rfl, rfl⟩
    obtain ⟨z, rfl⟩ : ∃ z, x = V.int z := by
      have mem := List.mem_of_getElem? hi
      unfold cutV at mem
      have mem2 := List.mem_of_mem_drop (List.mem_of_mem_take mem)
      obtain ⟨z, _, e⟩ := List.mem_map.mp mem2
      exact ⟨z, e.symm⟩
    refine ⟨_, rfl, _, _, rfl, rfl, .inr ⟨by decide, by decide⟩, _, rfl, .inl ⟨_, rfl, _, _, rfl, rfl, (show (0 : Int) < 2147483543 by decide), _, _, rfl, rfl, _, _, rfl, rfl, .inl ⟨_, rfl, _, _, rfl, rfl, (show (0 : Int) < 2147483629 by decide), ?_⟩⟩⟩
    exact ⟨_, _, rfl, rfl⟩
  rintro σ H' ⟨m, e, rfl, rfl⟩
  refine ⟨_, rfl, _, _, rfl, rfl, .inr ⟨by decide, by decide⟩, _, rfl, .inl ⟨_, rfl, _, _, rfl, rfl, (show (0 : Int) < 2147483543 by decide), _, _, rfl, rfl, .inr ⟨by decide, by decide⟩, _, _, rfl, rfl, _, _, rfl, rfl, .inl ⟨_, rfl, _, _, rfl, rfl, (show (0 : Int) < 2147483629 by decide), ?_⟩⟩⟩
  have fin : ∀ (x y : Int) (r : Addr), 0 ≤ y → y < 2147483629 → upd H p (.lst (cutV (ns.map V.int) none (some 9))) r = none → Q (.ref r) (upd (upd H p (.lst (cutV (ns.map V.int) none (some 9)))) r (.lst [.int x, .int y, .int 0])) := fun x y r y0 y1 nr =>
    q _ r ((same_new np _).trans (same_new nr _)) ((same_new np _).free nr) (wl_mk upd_same y0 y1)
  refine ⟨_, rfl, _, _, rfl, rfl, _, rfl, iteB (fun _ => iteT ?_) (fun _ => ⟨_, rfl, _, _, rfl, rfl, (by show (0 : Int) ≤ 15 ∧ (15 : Int) ≤ 1000000 ∧ (10 : Int).natAbs < 2 ^ 64; decide), _, _, rfl, rfl, _, rfl, iteB (fun _ => ?_) (fun _ => ?_)⟩)⟩
  · exact ⟨_, rfl, _, rfl, _, rfl, (by show 3 ≤ sizeLine; decide), fun r nr => fin _ _ r (Int.emod_nonneg _ (by decide)) (Int.emod_lt_of_pos _ (by decide)) nr⟩
  · exact ⟨_, rfl, _, rfl, _, rfl, (by show 3 ≤ sizeLine; decide), fun r nr => fin _ _ r (Int.emod_nonneg _ (by decide)) (Int.emod_lt_of_pos _ (by decide)) nr⟩
  · exact ⟨_, rfl, (by show 3 ≤ sizeLine; decide), fun r nr => fin _ _ r (Int.emod_nonneg _ (by decide)) (Int.emod_lt_of_pos _ (by decide)) nr⟩
theorem ok_draw (F : L2.Fun K "_law_draw" "_law_draw" sDraw f fd) (md : mg "divmod" = none) (mi : mg "int" = none) : FnOk P w K mg base CX0 1 f fd ["well", "many"] spDraw := by
  refine F.ok scDraw (fun vs H Q E h => ?_) (fun cdv A outer s H vs Q E hr h => ?_)
  · obtain ⟨p, m, rfl, _⟩ := h
    rfl
  obtain ⟨p, m, rfl, ⟨a, b, c, hp⟩, m0, m1, q⟩ := h
  refine ⟨_, pss_cons (ps_if (pt_cmpR op_gt (pe_ix ix_list (pv 0) pe_int (fun _ _ => rfl)) pe_int (nomark _))
      (pss_cons (ps_asg (pe_callB call_divmod (by rfl) md (by decide +kernel) (pa_cons (pe_ix ix_list (pv 0) pe_int (fun _ _ => rfl)) (pa_cons (pv 1) pa_nil))) (pg_tup (by rfl) (pgs_cons (pg_sub (pv 0) pe_int set_list) (pgs_cons (pg_name (i := 2) scDraw.nd rfl (.inl rfl)) pgs_nil))))
        (pss_one (ps_ret (pv 2)))) pss_nil)
    (pss_cons (ps_asg (pe_op op_add (pe_ix ix_list (pv 0) pe_int (fun _ _ => rfl)) pe_int) (pg_sub (pv 0) pe_int set_list))
    (pss_cons (ps_set (i := 3) scDraw.nd rfl (.inl rfl) (pe_op op_mod (pe_callTy call_int1 (by rfl) mi (by decide +kernel) (pa_cons (pe_op op_add (pe_op op_add (pe_op op_mul (pe_ix ix_list (pv 0) pe_int (fun _ _ => rfl)) pe_int)
        (pe_op op_mul pe_int (pe_ix ix_list (pv 0) pe_int (fun _ _ => rfl)))) pe_int) pa_nil)) pe_int))
    (pss_cons (ps_asg (pe_op op_mod (pe_callTy call_int1 (by rfl) mi (by decide +kernel) (pa_cons (pe_op op_add (pe_op op_mul (pv 3) (pe_op op_add (pe_op op_mod (pe_callTy call_int1 (by rfl) mi (by decide +kernel) (pa_cons (pv 3) pa_nil)) pe_int) pe_int))
        (pe_ix ix_list (pv 0) pe_int (fun _ _ => rfl))) pa_nil)) pe_int) (pg_sub (pv 0) pe_int set_list))
    (pss_one (ps_ret (pe_op op_mod (pe_callTy call_int1 (by rfl) mi (by decide +kernel) (pa_cons (pe_op op_fdiv (pe_ix ix_list (pv 0) pe_int (fun _ _ => rfl)) pe_int) pa_nil)) (pv 1))))))), ?_⟩
  refine ⟨_, rfl, p, _, _, _, rfl, rfl, SqL.of hp, rfl, _, _, rfl, rfl, _, rfl, iteB (fun c1 => ?_) (fun _ => ?_)⟩
  · have a0 : a > 0 := of_decide_eq_true c1
    refine ⟨_, rfl, p, _, _, _, rfl, rfl, SqL.of hp, rfl, _, rfl, a, m, rfl, ⟨m0, by omega⟩, fun t nt => ?_⟩
    refine ⟨t, _, rfl, SqT.of upd_same, rfl, _, _, rfl, _, rfl, p, [.int a, .int ((b.val : Nat) : Int), .int c], _, 0, rfl, rfl, ?_, rfl, ?_⟩
    · rw [upd_ne (ne_of_none hp nt)]
      exact hp
    refine ⟨_, _, rfl, ⟨rfl, _, rfl, ?_⟩⟩
    exact q (a % m) _ (Int.emod_nonneg _ (by omega)) (Int.emod_lt_of_pos _ m0) ((But.new nt).trans But.put) ⟨_, b, _, upd_same⟩
  · refine ⟨_, rfl, p, _, _, _, rfl, rfl, SqL.of hp, rfl, _, _, rfl, rfl, _, rfl, p, [.int a, .int ((b.val : Nat) : Int), .int c], _, 2, rfl, rfl, hp, rfl, ?_⟩
    have h1 : upd H p (.lst [.int a, .int ((b.val : Nat) : Int), .int (c + 1)]) p = some (.lst [.int a, .int ((b.val : Nat) : Int), .int (c + 1)]) := upd_same
    refine ⟨_, rfl, p, _, _, _, rfl, rfl, SqL.of h1, rfl, _, _, rfl, rfl, .inr ⟨by decide, by decide⟩, _, rfl, p, _, _, _, rfl, rfl, SqL.of h1, rfl, _, _, rfl, rfl, .inl ⟨by decide, by decide⟩, _, _, rfl, rfl, _, _, rfl, rfl,
      .inl ⟨_, rfl, _, _, rfl, rfl, (show (0 : Int) < 2147483399 by decide), ?_⟩⟩
    generalize (((b.val : Nat) : Int) * 40692 + 3301 * (c + 1) + 83) % 2147483399 = z
    have y1 := Int.emod_nonneg z (show (4001 : Int) ≠ 0 by decide)
    have y2 := Int.emod_lt_of_pos z (show (0 : Int) < 4001 by decide)
    refine ⟨_, rfl, _, rfl, .inl ⟨_, rfl, _, _, rfl, rfl, (show (0 : Int) < 4001 by decide), _, _, rfl, rfl, _, _, rfl, rfl, .inr ⟨by omega, by omega⟩, _, rfl, p, _, _, _, rfl, rfl, SqL.of h1, rfl, _, _, rfl, rfl,
      .inl ⟨_, rfl, _, _, rfl, rfl, (show (0 : Int) < 2147483399 by decide), _, rfl, p, [.int a, .int ((b.val : Nat) : Int), .int (c + 1)], _, 1, rfl, rfl, h1, rfl, ?_⟩⟩⟩
    refine ⟨_, rfl, p, _, _, _, rfl, rfl, SqL.of upd_same, rfl, _, _, rfl, rfl, ⟨by decide, by decide⟩, .inl ⟨_, rfl, _, rfl, _, _, rfl, rfl, m0, ?_⟩⟩
    exact q _ _ (Int.emod_nonneg _ (by omega)) (Int.emod_lt_of_pos _ m0) (But.put.trans But.put) (wl_mk upd_same (Int.emod_nonneg _ (by decide)) (Int.lt_trans (Int.emod_lt_of_pos _ (show (0 : Int) < 2147483399 by decide)) (by decide)))
theorem ok_pick (F : L2.Fun K "_law_pick" "_law_pick" sPick f fd) (GD : FnOk P w K mg base CX0 1 fD dD ["well", "many"] spDraw) (bD : L2.Binds K dD ["well", "many"] []) (kD : PySem.W.keepIn K (.ref fD) = true) (mD : mg "_law_draw" = some (.ref fD)) (ml : mg "len" = none) :
    FnOk P w K mg base CX0 2 f fd ["well", "some"] (spPick K) := by
  refine F.ok scPick (fun vs H Q E h => ?_) (fun cdv A outer s H vs Q E hr h => ?_)
  · obtain ⟨p, t, xs, rfl, _⟩ := h
    rfl
  obtain ⟨p, t, xs, rfl, hW, hT, l0, l1, q⟩ := h
  refine ⟨_, pss_one (ps_ret (pe_ix ix_tup (pv 1) (pe_call GD hr (by rfl) mD kD bD .nil pass0 (pa_cons (pv 0) (pa_cons (pe_callB call_len_seq (by rfl) ml PySem.boot_len (pa_cons (pv 1) pa_nil)) pa_nil))) (fun _ _ => rfl))), ?_⟩
  have hT0 : SqT K H t xs := Same.tup (hide_sub p H) hT
  refine ⟨_, rfl, _, rfl, _, rfl, t, xs, rfl, .inr hT0, p, _, rfl, hW, by omega, by omega, fun r H' r0 r1 bt hW' => ?_⟩
  obtain ⟨i, rfl⟩ : ∃ i : Nat, r = (i : Int) := ⟨r.toNat, by omega⟩
  have hi : i < xs.length := by omega
  exact ⟨t, xs, _, xs[i], rfl, rfl, Same.tup (hide_sub p H') (Same.tup bt.hide hT), atI_nat (List.getElem?_eq_getElem hi), q i _ H' (List.getElem?_eq_getElem hi) bt hW'⟩
theorem ok_same (F : L2.Fun K "_law_same" "_law_same" sSame f fd) (mr : mg "repr" = none) : FnG P w K mg base CX0 1 f fd ["told", "due"] (spSame K) := by
  refine okG F scSame (fun vs H Q E h => ?_) (fun cdv A outer s H vs Q E gd hr h => ?_)
  · obtain ⟨x, y, d, e, rfl, _⟩ := h
    rfl
  obtain ⟨x, y, d, e, rfl, h1, h2, ⟨f1, f2, f3⟩, ⟨g1, g2, g3⟩, q⟩ := h
  have gd' : (A.deeper (envOfC "_law_same" (defScope sSame) s.heap.objs.size f cdv)).guards = some [] := gd
  refine ⟨_, pss_one (ps_ret (pe_cmpR op_eq (pe_callB (call_repr gd' hr.units) (by rfl) mr (by decide +kernel) (pa_cons (pv 0) pa_nil)) (pe_callB (call_repr gd' hr.units) (by rfl) mr (by decide +kernel) (pa_cons (pv 1) pa_nil)) (nomark _))), ?_⟩
  exact ⟨_, rfl, _, d, rfl, h1, f1, f2, f3, _, rfl, _, e, rfl, h2, g1, g2, g3, rfl, q⟩
end
end My

set_option maxHeartbeats 4000000
namespace My
open PySem PySem.Spec PyProof.Rows L2 RZ
abbrev sIsWhole : Stmt := top 5
abbrev sWholeFrom : Stmt := top (5 + 1)
abbrev sIsTwo : Stmt := top (5 + 2)
abbrev sAsc : Stmt := top (5 + 3)
abbrev sIsGraph : Stmt := top (5 + 4)
abbrev sIsVP : Stmt := top (5 + 5)
abbrev sCheckGraph : Stmt := top (5 + 6)
theorem scIsWhole : FnScope ["value", "low", "high"] ["value", "low", "high"] (defScope sIsWhole) := ⟨rfl, rfl, rfl, by decide +kernel, rfl, by decide +kernel, by decide +kernel⟩
theorem scWholeFrom : FnScope ["value", "low"] ["value", "low"] (defScope sWholeFrom) := ⟨rfl, rfl, rfl, by decide +kernel, rfl, by decide +kernel, by decide +kernel⟩
theorem scIsTwo : FnScope ["value"] ["value"] (defScope sIsTwo) := ⟨rfl, rfl, rfl, by decide +kernel, rfl, by decide +kernel, by decide +kernel⟩
theorem scAsc : FnScope ["row", "value", "following"] ["row"] (defScope sAsc) := ⟨rfl, rfl, rfl, by decide +kernel, rfl, by decide +kernel, by decide +kernel⟩
theorem scIsGraph : FnScope ["value", "many", "edges", "edge"] ["value"] (defScope sIsGraph) := ⟨rfl, rfl, rfl, by decide +kernel, rfl, by decide +kernel, by decide +kernel⟩
theorem scIsVP : FnScope ["value", "many", "vertex"] ["value", "many"] (defScope sIsVP) := ⟨rfl, rfl, rfl, by decide +kernel, rfl, by decide +kernel, by decide +kernel⟩
theorem scCheckGraph : FnScope ["graph"] ["graph"] (defScope sCheckGraph) := ⟨rfl, rfl, rfl, by decide +kernel, rfl, by decide +kernel, by decide +kernel⟩
theorem opOr {X : Cx} {op : Value → Value → Sem Value} {r r' : R2} (a : OpR X op r) (b : OpR X op r') : OpR X op (fun x y H Q => r x y H Q ∨ r' x y H Q) := by
  intro pins s σ H x y v u Q I rx ry h
  rcases h with h | h
  · exact a pins s σ H x y v u Q I rx ry h
  · exact b pins s σ H x y v u Q I rx ry h
theorem walk_zipT {K : PySem.W.Frag} {a b : Addr} {xs ys : List V} {n : Nat} (hn : n = min xs.length ys.length) : Walk (ItzT K a b) n (fun H => SqT K H a xs ∧ SqT K H b ys) (YPair (fun i => xs[i]?) (fun i => ys[i]?)) := by
  subst hn
  refine ⟨fun i _ hi q => ?_, fun _ q => ⟨xs, ys, q.1, q.2, by omega⟩, fun i H v H' _ q y => ?_⟩
  · have h1 : i < xs.length := by omega
    have h2 : i < ys.length := by omega
    exact ⟨xs, ys, xs[i], ys[i], q.1, q.2, by simp [h1], by simp [h2]⟩
  · obtain ⟨T, x, z, h1, h2, h3, h4, h5⟩ := y
    exact ⟨T, x, z, h1, h2, h3, h4 xs q.1, h5 ys q.2⟩
/-- what may be compared: numbers alone, or pairs of numbers alone -/
def Cmp (ss : List Sh) : Prop := (∀ s ∈ ss, ∃ i, s = .int i) ∨ (∀ s ∈ ss, ∃ i j, s = .tup [.int i, .int j])
theorem asc_zip : ∀ ss : List Sh, (List.zipWith ltS ss (ss.drop 1)).all id = ascB ss
  | [] => rfl
  | [s] => rfl
  | s :: t :: r => by
    have ih := asc_zip (t :: r)
    show (ltS s t && (List.zipWith ltS (t :: r) ((t :: r).drop 1)).all id) = (ltS s t && ascB (t :: r))
    rw [ih]
def spWholeFromA (K : PySem.W.Frag) : Sp := fun vs H Q _ => ∃ (v : V) (s : Sh) (lo : Int), vs = [v, .int lo] ∧ ShAt K H v s ∧ Q (.bl (wholeF lo s)) H
def spIsWholeA (K : PySem.W.Frag) : Sp := fun vs H Q _ => ∃ (v : V) (s : Sh) (lo hi : Int), vs = [v, .int lo, .int hi] ∧ ShAt K H v s ∧ Q (.bl (wholeR lo hi s)) H
def spIsTwoA (K : PySem.W.Frag) : Sp := fun vs H Q _ => ∃ (v : V) (s : Sh), vs = [v] ∧ ShAt K H v s ∧ Q (.bl (isTwo s)) H
def spAscA (K : PySem.W.Frag) : Sp := fun vs H Q _ => ∃ (e : Addr) (xs : List V) (ss : List Sh), vs = [.ref e] ∧ SqT K H e xs ∧ ShsAt K H xs ss ∧ Cmp ss ∧ ss.length ≤ 900 ∧ ∀ H', Same H H' → Q (.bl (ascB ss)) H'
def spVPA (K : PySem.W.Frag) : Sp := fun vs H Q _ => ∃ (v : V) (s : Sh) (n : Int), vs = [v, .int n] ∧ ShAt K H v s ∧ ∀ H', Same H H' → Q (.bl (vpB n s)) H'
/-- no tuple in it is too long -/
def shortS : Sh → Prop
  | .tup [_, .tup es] => es.length ≤ 900
  | _ => True
def spIsGraphA (K : PySem.W.Frag) : Sp := fun vs H Q _ => ∃ (v : V) (s : Sh), vs = [v] ∧ ShAt K H v s ∧ shortS s ∧ ∀ H', Same H H' → Q (.bl (isGr s)) H'
section
variable {P : Program} {w : World} {K : PySem.W.Frag} {mg : Str → Option Value} {base : Heap} {f fW fI fE fG : Addr} {fd dW dI dE dG : FuncData}
theorem ok_whole_from (F : L2.Fun K "is_whole_from" "is_whole_from" sWholeFrom f fd) (mty : mg "type" = none) (mi : mg "int" = none) : FnOk P w K mg base CX0 1 f fd ["value", "low"] (spWholeFromA K) := by
  refine F.ok scWholeFrom (fun vs H Q E h => ?_) (fun cdv A outer s H vs Q E hr h => ?_)
  · obtain ⟨v, s, lo, rfl, _⟩ := h
    rfl
  obtain ⟨v, s, lo, rfl, hv, q⟩ := h
  refine ⟨_, pss_one (ps_ret (pe_and (pe_cmpR op_isTy (pe_callTy call_type1 (by rfl) mty (by decide +kernel) (pa_cons (pv 0) pa_nil)) (pe_bltn (v := .ty "int") (by rfl) mi (by decide +kernel) rfl) (nomark _)) (pe_one (pe_cmpR op_ge (pv 0) (pv 1) (nomark _))))), ?_⟩
  obtain ⟨T, ty, ok⟩ := hv.ty
  refine ⟨_, rfl, v, T, rfl, ty, T, "int", rfl, rfl, _, rfl, iteB (fun c => ?_) (fun c => ?_)⟩
  · have c' : T = "int" := of_decide_eq_true c
    cases hv with
    | int i => exact ⟨_, rfl, _, rfl, _, _, rfl, rfl, q⟩
    | bool b => cases ty; exact absurd c' (by decide)
    | tup h r => rw [show T = "tuple" from ok] at c'; exact absurd c' (by decide)
    | non => exact absurd c' ok.1
    | str x => rw [show T = "str" from ok] at c'; exact absurd c' (by decide)
    | lst h => exact absurd c' ok.1
    | dct h => exact absurd c' ok.1
  · show Q (.bl false) H
    have nc : T ≠ "int" := of_decide_eq_false c
    have e : wholeF lo s = false := by
      cases s with
      | int i => exact absurd ok nc
      | _ => rfl
    rw [e] at q
    exact q
theorem ok_is_whole (F : L2.Fun K "is_whole" "is_whole" sIsWhole f fd) (GW : FnOk P w K mg base CX0 1 fW dW ["value", "low"] (spWholeFromA K)) (bW : L2.Binds K dW ["value", "low"] []) (kW : PySem.W.keepIn K (.ref fW) = true) (mW : mg "is_whole_from" = some (.ref fW)) : FnOk P w K mg base CX0 2 f fd ["value", "low", "high"] (spIsWholeA K) := by
  refine F.ok scIsWhole (fun vs H Q E h => ?_) (fun cdv A outer s H vs Q E hr h => ?_)
  · obtain ⟨v, s, lo, hi, rfl, _⟩ := h
    rfl
  obtain ⟨v, s, lo, hi, rfl, hv, q⟩ := h
  refine ⟨_, pss_one (ps_ret (pe_and (pe_call GW hr (by rfl) mW kW bW .nil pass0 (pa_cons (pv 0) (pa_cons (pv 1) pa_nil))) (pe_one (pe_cmpR op_le (pv 0) (pv 2) (nomark _))))), ?_⟩
  refine ⟨_, rfl, _, rfl, v, s, lo, rfl, hv, _, rfl, iteB (fun c => ?_) (fun c => ?_)⟩
  · cases s with
    | int i =>
      cases hv
      refine ⟨_, rfl, _, rfl, _, _, rfl, rfl, ?_⟩
      have e : wholeR lo hi (.int i) = decide (i ≤ hi) := by
        show (decide (i ≥ lo) && decide (i ≤ hi)) = _
        rw [show decide (i ≥ lo) = true from c]
        rfl
      rw [e] at q
      exact q
    | bool b => cases c
    | tup ss => cases c
    | str x => cases c
    | oth => cases c
  · show Q (.bl false) H
    have c' : wholeF lo s = false := c
    have e : wholeR lo hi s = false := by
      cases s with
      | int i =>
        show (decide (i ≥ lo) && decide (i ≤ hi)) = false
        rw [show decide (i ≥ lo) = false from c']
        rfl
      | _ => rfl
    rw [e] at q
    exact q
theorem ok_is_two (F : L2.Fun K "is_tuple_of_two" "is_tuple_of_two" sIsTwo f fd) (mty : mg "type" = none) (mt : mg "tuple" = none) (ml : mg "len" = none) : FnOk P w K mg base CX0 1 f fd ["value"] (spIsTwoA K) := by
  refine F.ok scIsTwo (fun vs H Q E h => ?_) (fun cdv A outer s H vs Q E hr h => ?_)
  · obtain ⟨v, s, rfl, _⟩ := h
    rfl
  obtain ⟨v, s, rfl, hv, q⟩ := h
  refine ⟨_, pss_one (ps_ret (pe_and (pe_cmpR op_isTy (pe_callTy call_type1 (by rfl) mty (by decide +kernel) (pa_cons (pv 0) pa_nil)) (pe_bltn (v := .ty "tuple") (by rfl) mt (by decide +kernel) rfl) (nomark _)) (pe_one (pe_cmpR op_eq (pe_callB call_len_seq (by rfl) ml PySem.boot_len (pa_cons (pv 0) pa_nil)) pe_int (nomark _))))), ?_⟩
  obtain ⟨T, ty, ok⟩ := hv.ty
  refine ⟨_, rfl, v, T, rfl, ty, T, "tuple", rfl, rfl, _, rfl, iteB (fun c => ?_) (fun c => ?_)⟩
  · have c' : T = "tuple" := of_decide_eq_true c
    cases hv with
    | int i => rw [show T = "int" from ok] at c'; exact absurd c' (by decide)
    | bool b => rw [show T = "bool" from ok] at c'; exact absurd c' (by decide)
    | @tup t xs ss h r =>
      refine ⟨_, rfl, t, xs, rfl, .inr h, rfl, ?_⟩
      have le := r.len
      show Q (.bl (decide (V.int ((xs.length : Nat) : Int) = V.int 2))) H
      have e : isTwo (.tup ss) = decide (V.int ((xs.length : Nat) : Int) = V.int 2) := by
        rw [le]
        rcases ss with _ | ⟨a, _ | ⟨b, _ | ⟨c, r⟩⟩⟩
        · rfl
        · rfl
        · rfl
        · symm
          show decide _ = false
          refine decide_eq_false fun z => ?_
          injection z with z
          simp at z
          omega
      rw [e] at q
      exact q
    | non => exact absurd c' ok.2.2.1
    | str x => rw [show T = "str" from ok] at c'; exact absurd c' (by decide)
    | lst h => exact absurd c' ok.2.2.1
    | dct h => exact absurd c' ok.2.2.1
  · show Q (.bl false) H
    have nc : T ≠ "tuple" := of_decide_eq_false c
    have e : isTwo s = false := by
      cases s with
      | tup ss => exact absurd ok nc
      | _ => rfl
    rw [e] at q
    exact q
theorem ok_asc (F : L2.Fun K "is_ascending" "is_ascending" sAsc f fd) (ma : mg "all" = none) (mz : mg "zip" = none) : FnOk P w K mg base CX0 1 f fd ["row"] (spAscA K) := by
  refine F.ok scAsc (fun vs H Q E h => ?_) (fun cdv A outer s H vs Q E hr h => ?_)
  · obtain ⟨e, xs, ss, rfl, _⟩ := h
    rfl
  obtain ⟨e, xs, ss, rfl, he, hs, cmp, few, q⟩ := h
  refine ⟨_, pss_one (ps_ret (pe_callB (cr_all rfl) (by rfl) ma (by decide +kernel) (pa_cons (pe_lc (own := [("value", 1), ("following", 2)]) (g := gTup K 2 (gCons (gName 1) (gCons (gName 2) gNil))) (tt := tYes) rfl scAsc.nd (pi_zipA (by rfl) mz (pa_cons (pv 0) (pa_cons (pe_slice sl_tupA (pv 0) (po_some pe_int) po_none) pa_nil)))
        (blkOk_by (N := ["row", "value", "following"]) (sc := defScope sAsc) (by decide +kernel)) (fun _ _ _ _ _ => pg_tup (by rfl) (pgs_cons (pg_name (i := 1) scAsc.nd rfl (Or.inl rfl)) (pgs_cons (pg_name (i := 2) scAsc.nd rfl (Or.inl rfl)) pgs_nil))) (fun _ _ _ _ _ => pts_nil)
        (fun _ _ _ _ _ => pe_cmpR (r := fun x y H Q => rI0 (fun i j => .bl (decide (i < j))) x y H Q ∨ rLtT K x y H Q) (opOr op_lt (op_ltT hr.units0)) (pv 1) (pv 2) (nomark _))) pa_nil))), ?_⟩
  have lxs := hs.len
  have lz : (List.zipWith ltS ss (ss.drop 1)).length = ss.length - 1 := by rw [List.length_zipWith, List.length_drop]; omega
  cases xs with
  | nil =>
    cases hs
    refine ⟨_, rfl, _, rfl, 1, rfl, e, [], rfl, he, fun _ => ?_, fun z => absurd ⟨rfl, rfl⟩ z⟩
    refine ⟨e, e, [], [], rfl, .inr ⟨he, he, fun B nB => lc_it (walk_zipT (n := 0) rfl) (fun i H3 => i = 0 ∧ Same H H3 ∧ H3 B = some (.lst [])) ⟨rfl, same_new nB _, upd_same⟩ (fun i H3 _ ⟨_, s3, _⟩ => ⟨Same.tup s3 he, Same.tup s3 he⟩) (fun i x H3 H4 hi => absurd hi (Nat.not_lt_zero _)) ?_⟩⟩
    rintro H3 ⟨_, s3, hB⟩
    exact ⟨B, [], rfl, SqL.of hB, q H3 s3⟩
  | cons x0 xs =>
    have hs3 : ShsAt K H xs (ss.drop 1) := by cases hs; assumption
    have cut : cutV (x0 :: xs) (some 1) none = xs := by
      unfold cutV
      rw [HT.sIx_none, show ((1 : Int)) = ((1 : Nat) : Int) from rfl, HT.sIx_nat, List.length_cons, show min 1 (xs.length + 1) = 1 by omega, List.drop_one, List.tail_cons, Nat.add_sub_cancel, List.take_length]
    refine ⟨_, rfl, _, rfl, 1, rfl, e, x0 :: xs, rfl, he, fun z => ?_, fun _ c nc => ?_⟩
    · exfalso
      have z1 := z.1
      rw [show ((1 : Int)) = ((1 : Nat) : Int) from rfl, HT.sIx_nat, List.length_cons] at z1
      omega
    rw [cut]
    have s3 := same_new nc (.tup xs)
    have l1 : xs.length + 1 = ss.length := by rw [← lxs, List.length_cons]
    refine ⟨e, c, x0 :: xs, xs, rfl, .inr ⟨Same.tup s3 he, SqT.of upd_same, fun B nB => lc_it (walk_zipT (n := xs.length) (by rw [List.length_cons]; omega)) (fun i H3 => Same (upd H c (.tup xs)) H3 ∧ H3 B = some (.lst (((List.zipWith ltS ss (ss.drop 1)).take i).map V.bl))) ⟨same_new nB _, upd_same⟩ (fun i H3 _ ⟨s4, _⟩ => ⟨Same.tup (s3.trans s4) he, Same.tup s4 (SqT.of upd_same)⟩) (fun i x H3 H4 hi ⟨s4, hB⟩ ⟨T, y, z, e1, nT, e2, hy, hz⟩ => ?_) ?_⟩⟩
    · subst e1
      subst e2
      have s5 := same_new nT (.tup [y, z])
      have sA := s3.trans (s4.trans s5)
      obtain ⟨a, ha, sa⟩ := (hs.same sA).get hy
      obtain ⟨b, hb, sb⟩ := (hs3.same sA).get hz
      have hz' : (List.zipWith ltS ss (ss.drop 1))[i]? = some (ltS a b) := by rw [List.getElem?_zipWith, ha, hb]
      have fin : Same (upd H c (.tup xs)) (upd (upd H3 T (.tup [y, z])) B (.lst (((List.zipWith ltS ss (ss.drop 1)).take i).map V.bl ++ [V.bl (ltS a b)]))) ∧ upd (upd H3 T (.tup [y, z])) B (.lst (((List.zipWith ltS ss (ss.drop 1)).take i).map V.bl ++ [V.bl (ltS a b)])) B = some (.lst (((List.zipWith ltS ss (ss.drop 1)).take (i + 1)).map V.bl)) := by
        refine ⟨same_put (s4.trans s5) nB, ?_⟩
        rw [upd_same, take_succ hz', List.map_append]
        rfl
      have ln : (((List.zipWith ltS ss (ss.drop 1)).take i).map V.bl).length < sizeLine := small1000 (by rw [List.length_map, List.length_take]; omega)
      have hB5 := s5 _ _ hB
      refine ⟨T, _, rfl, SqT.of upd_same, rfl, _, _, rfl, _, _, rfl, rfl, rfl, ?_⟩
      refine ⟨_, rfl, _, rfl, ?_⟩
      have ma := List.mem_of_getElem? ha
      have mb := List.mem_of_mem_drop (List.mem_of_getElem? hb)
      rcases cmp with cm | cm
      · obtain ⟨k, rfl⟩ := cm a ma
        obtain ⟨l, rfl⟩ := cm b mb
        cases sa
        cases sb
        exact .inl ⟨_, _, rfl, rfl, _, hB5, ln, fin⟩
      · obtain ⟨k, k2, rfl⟩ := cm a ma
        obtain ⟨l, l2, rfl⟩ := cm b mb
        cases sa with
        | @tup t1 ys1 _ h1 r1 =>
          cases sb with
          | @tup t2 ys2 _ h2 r2 =>
            cases r1 with
            | cons p1 r1 =>
              cases r1 with
              | cons p2 r1 =>
                cases r1
                cases p1
                cases p2
                cases r2 with
                | cons p3 r2 =>
                  cases r2 with
                  | cons p4 r2 =>
                    cases r2
                    cases p3
                    cases p4
                    exact .inr ⟨t1, t2, [k, k2], [l, l2], rfl, rfl, h1, h2, _, hB5, ln, fin⟩
    · rintro H3 ⟨s4, hB⟩
      refine ⟨B, _, rfl, SqL.of hB, ?_⟩
      rw [List.take_of_length_le (by omega), asc_zip]
      exact q H3 (s3.trans s4)
theorem ok_vp (F : L2.Fun K "is_vertex_pair" "is_vertex_pair" sIsVP f fd) (GI : FnOk P w K mg base CX0 1 fI dI ["value"] (spIsTwoA K)) (bI : L2.Binds K dI ["value"] []) (kI : PySem.W.keepIn K (.ref fI) = true) (mI : mg "is_tuple_of_two" = some (.ref fI))
    (GW : FnOk P w K mg base CX0 2 fW dW ["value", "low", "high"] (spIsWholeA K)) (bW : L2.Binds K dW ["value", "low", "high"] []) (kW : PySem.W.keepIn K (.ref fW) = true) (mW : mg "is_whole" = some (.ref fW)) (ma : mg "all" = none) : FnOk P w K mg base CX0 3 f fd ["value", "many"] (spVPA K) := by
  refine F.ok scIsVP (fun vs H Q E h => ?_) (fun cdv A outer s H vs Q E hr h => ?_)
  · obtain ⟨v, s, n, rfl, _⟩ := h
    rfl
  obtain ⟨v, s, n, rfl, hv, q⟩ := h
  refine ⟨_, pss_one (ps_ret (pe_and (pe_call GI (hr.mono (by decide)) (by rfl) mI kI bI .nil pass0 (pa_cons (pv 0) pa_nil)) (pe_one (pe_callB (cr_all rfl) (by rfl) ma (by decide +kernel) (pa_cons (pe_lc (own := [("vertex", 2)]) (g := gName 2) (tt := tYes) rfl scIsVP.nd (pi_tup (pv 0))
        (blkOk_by (N := ["value", "many", "vertex"]) (sc := defScope sIsVP) (by decide +kernel)) (fun _ _ _ _ _ => pg_name (i := 2) scIsVP.nd rfl (Or.inl rfl)) (fun _ _ _ _ _ => pts_nil)
        (fun _ _ _ _ _ => pe_call GW hr (by rfl) mW kW bW .nil pass0 (pa_cons (pv 2) (pa_cons pe_int (pa_cons (pe_op op_sub (pv 1) pe_int) pa_nil))))) pa_nil))))), ?_⟩
  refine ⟨_, rfl, v, s, rfl, hv, _, rfl, iteB (fun c => ?_) (fun c => ?_)⟩
  · obtain ⟨a, b, rfl⟩ : ∃ a b, s = .tup [a, b] := by
      unfold isTwo at c
      split at c
      · exact ⟨_, _, rfl⟩
      · cases c
    cases hv with
    | @tup t xs _ h r =>
      have lx := r.len
      refine ⟨_, rfl, t, rfl, ⟨_, h⟩, fun D nD => lc_tup (K := K) (a := t) (xs := xs) (fun i H2 => Same H H2 ∧ H2 D = some (.lst ((([a, b].take i).map (wholeR 0 (n - 1))).map V.bl))) ⟨same_new nD _, upd_same⟩ (fun i H1 _ ⟨s1, _⟩ => Same.tup s1 h) ?_ ?_⟩
      · rintro i x H2 hi ⟨s2, hD⟩
        obtain ⟨z, hz, sz⟩ := (r.same s2).get hi
        refine ⟨rfl, ?_⟩
        refine ⟨_, rfl, _, rfl, _, _, rfl, rfl, x, z, 0, n - 1, rfl, sz, _, hD, small1000 (by rw [List.length_map, List.length_map, List.length_take]; exact Nat.le_trans (Nat.min_le_right _ _) (by show 2 ≤ 1000; decide)), same_put s2 nD, ?_⟩
        rw [upd_same, take_succ hz, List.map_append, List.map_append]
        rfl
      · rintro H2 ⟨s2, hD⟩
        rw [lx, List.take_length] at hD
        refine ⟨D, _, rfl, SqL.of hD, ?_⟩
        have e : ([a, b].map (wholeR 0 (n - 1))).all id = vpB n (.tup [a, b]) := by
          show (wholeR 0 (n - 1) a && (wholeR 0 (n - 1) b && true)) = _
          rw [Bool.and_true]
          rfl
        rw [e]
        exact q H2 s2
  · have e : vpB n s = false := by
      unfold vpB
      split
      · cases c
      · rfl
    rw [e] at q
    exact q H (L2.Same.refl H)
theorem ok_is_graph (F : L2.Fun K "is_graph" "is_graph" sIsGraph f fd) (GI : FnOk P w K mg base CX0 1 fI dI ["value"] (spIsTwoA K)) (bI : L2.Binds K dI ["value"] []) (kI : PySem.W.keepIn K (.ref fI) = true) (mI : mg "is_tuple_of_two" = some (.ref fI))
    (GW : FnOk P w K mg base CX0 2 fW dW ["value", "low", "high"] (spIsWholeA K)) (bW : L2.Binds K dW ["value", "low", "high"] []) (kW : PySem.W.keepIn K (.ref fW) = true) (mW : mg "is_whole" = some (.ref fW))
    (GE : FnOk P w K mg base CX0 3 fE dE ["value", "many"] (spVPA K)) (bE : L2.Binds K dE ["value", "many"] []) (kE : PySem.W.keepIn K (.ref fE) = true) (mE : mg "is_vertex_pair" = some (.ref fE))
    (GA : FnOk P w K mg base CX0 1 fG dG ["row"] (spAscA K)) (bA : L2.Binds K dG ["row"] []) (kA : PySem.W.keepIn K (.ref fG) = true) (mA : mg "is_ascending" = some (.ref fG))
    (tk : Tok) (mM : mg "MOST_VERTICES" = some (.int 9 tk)) (mty : mg "type" = none) (mt : mg "tuple" = none) (ma : mg "all" = none) : FnOk P w K mg base CX0 4 f fd ["value"] (spIsGraphA K) := by
  refine F.ok scIsGraph (fun vs H Q E h => ?_) (fun cdv A outer s H vs Q E hr h => ?_)
  · obtain ⟨v, s, rfl, _⟩ := h
    rfl
  obtain ⟨v, s, rfl, hv, sh, q⟩ := h
  refine ⟨_, pss_cons (ps_if (pt_not (pt_val (pe_call GI (hr.mono (by decide)) (by rfl) mI kI bI .nil pass0 (pa_cons (pv 0) pa_nil)))) (pss_one (ps_ret pe_bl)) pss_nil)
    (pss_cons (ps_asg (pv 0) (pg_tup (by rfl) (pgs_cons (pg_name (i := 1) scIsGraph.nd rfl (.inr rfl)) (pgs_cons (pg_name (i := 2) scIsGraph.nd rfl (.inl rfl)) pgs_nil))))
    (pss_cons (ps_if (PW.pt (pw_or (pt_not (pt_val (pe_call GW (hr.mono (by decide)) (by rfl) mW kW bW .nil pass0 (pa_cons (pv 1) (pa_cons pe_int (pa_cons (pe_glob (v := .int 9) (by rfl) mM ⟨_, rfl⟩) pa_nil))))))
        (pw_or1 (pt_cmpR op_isNotTy (pe_callTy call_type1 (by rfl) mty (by decide +kernel) (pa_cons (pv 2) pa_nil)) (pe_bltn (v := .ty "tuple") (by rfl) mt (by decide +kernel) rfl) (nomark _))))) (pss_one (ps_ret pe_bl)) pss_nil)
    (pss_one (ps_ret (pe_and (pe_callB (cr_all rfl) (by rfl) ma (by decide +kernel) (pa_cons (pe_lc (own := [("edge", 3)]) (g := gName 3) (tt := tYes) rfl scIsGraph.nd (pi_tup (pv 2))
        (blkOk_by (N := ["value", "many", "edges", "edge"]) (sc := defScope sIsGraph) (by decide +kernel)) (fun _ _ _ _ _ => pg_name (i := 3) scIsGraph.nd rfl (Or.inl rfl)) (fun _ _ _ _ _ => pts_nil)
        (fun _ _ _ _ _ => pe_and (pe_call GE (hr.mono (by decide)) (by rfl) mE kE bE .nil pass0 (pa_cons (pv 3) (pa_cons (pv 1) pa_nil))) (pe_one (pe_cmpR op_lt (pe_ix (r := rIxT K) ix_tup (pv 3) pe_int (fun _ _ => rfl)) (pe_ix (r := rIxT K) ix_tup (pv 3) pe_int (fun _ _ => rfl)) (nomark _))))) pa_nil))
      (pe_one (pe_call GA (hr.mono (by decide)) (by rfl) mA kA bA .nil pass0 (pa_cons (pv 2) pa_nil)))))))), ?_⟩
  have q0 := q H (L2.Same.refl H)
  refine ⟨_, rfl, v, s, rfl, hv, _, rfl, iteB (fun c => ?_) (fun c => ?_)⟩
  · have e : isGr s = false := by
      unfold isGr
      split
      · cases c
      · rfl
    rw [e] at q0
    exact q0
  obtain ⟨m, es, rfl⟩ : ∃ a b, s = .tup [a, b] := by
    unfold isTwo at c
    split at c
    · exact ⟨_, _, rfl⟩
    · cases c
  cases hv with
  | @tup t xs _ ht r =>
  cases r with
  | @cons x _ xs _ hm r =>
  cases r with
  | @cons y _ xs _ hy r =>
  cases r
  refine ⟨_, rfl, t, _, rfl, ht, rfl, _, _, rfl, _, _, rfl, rfl, ?_⟩
  refine ⟨_, rfl, x, m, 0, 9, rfl, hm, _, rfl, iteB (fun c1 => ?_) (fun c1 => ?_)⟩
  · have e : isGr (.tup [m, es]) = false := by
      unfold isGr
      split
      · rename_i n es' e
        injection e with e
        injection e with e1 e2
        subst e1
        have c2 : (decide (n ≥ 0) && decide (n ≤ 9)) = false := (Bool.not_eq_true' _).mp c1
        rw [c2, Bool.false_and]
      · rfl
    rw [e] at q0
    exact q0
  obtain ⟨n, rfl, c2⟩ : ∃ n, m = .int n ∧ (decide (n ≥ 0) && decide (n ≤ 9)) = true := by
    cases m with
    | int n => exact ⟨n, rfl, (Bool.not_eq_false' _).mp c1⟩
    | _ => cases c1
  cases hm
  obtain ⟨T, ty, ok⟩ := hy.ty
  refine ⟨_, rfl, y, T, rfl, ty, T, "tuple", rfl, rfl, _, rfl, iteB (fun c3 => ?_) (fun c3 => ?_)⟩
  · have nt : T ≠ "tuple" := by simpa using c3
    have e : isGr (.tup [.int n, es]) = false := by
      cases es with
      | tup es => exact absurd ok nt
      | _ => rfl
    rw [e] at q0
    exact q0
  have et : T = "tuple" := by simpa using c3
  obtain ⟨es, rfl⟩ : ∃ ss, es = .tup ss := by
    cases es with
    | tup ss => exact ⟨ss, rfl⟩
    | int i => rw [show T = "int" from ok] at et; exact absurd et (by decide)
    | bool b => rw [show T = "bool" from ok] at et; exact absurd et (by decide)
    | str x => rw [show T = "str" from ok] at et; exact absurd et (by decide)
    | oth => exact absurd et ok.2.2.1
  have few : es.length ≤ 900 := sh
  cases hy with
  | @tup e xs _ he r =>
  have lx := r.len
  have eq : isGr (.tup [.int n, .tup es]) = (es.all (edgeB n) && ascB es) := by
    show ((decide (n ≥ 0) && decide (n ≤ 9)) && (es.all (edgeB n) && ascB es)) = _
    rw [c2, Bool.true_and]
  refine ⟨_, rfl, e, rfl, ⟨_, he⟩, fun D nD => lc_tup (K := K) (a := e) (xs := xs) (fun i H2 => Same H H2 ∧ H2 D = some (.lst (((es.take i).map (edgeB n)).map V.bl))) ⟨same_new nD _, upd_same⟩ (fun i H1 _ ⟨s1, _⟩ => Same.tup s1 he) ?_ ?_⟩
  · rintro i x H2 hi ⟨s2, hD⟩
    obtain ⟨z, hz, sz⟩ := (r.same s2).get hi
    have ln : (((es.take i).map (edgeB n)).map V.bl).length < sizeLine := small1000 (by rw [List.length_map, List.length_map, List.length_take]; omega)
    have fin : ∀ H3, Same H2 H3 → ∃ acc, H3 D = some (.lst acc) ∧ acc.length < sizeLine ∧ Same H (upd H3 D (.lst (acc ++ [V.bl (edgeB n z)]))) ∧ upd H3 D (.lst (acc ++ [V.bl (edgeB n z)])) D = some (.lst (((es.take (i + 1)).map (edgeB n)).map V.bl)) := fun H3 s3 => by
      refine ⟨_, s3 _ _ hD, ln, same_put (s2.trans s3) nD, ?_⟩
      rw [upd_same, take_succ hz, List.map_append, List.map_append]
      rfl
    refine ⟨rfl, ?_⟩
    refine ⟨_, rfl, _, rfl, x, z, n, rfl, sz, fun H3 s3 => ⟨_, rfl, iteB (fun c4 => ?_) (fun c4 => ?_)⟩⟩
    · obtain ⟨a, b, rfl⟩ : ∃ a b, z = .tup [.int a, .int b] := by
        unfold vpB at c4
        split at c4
        · rename_i a b
          cases a with
          | int a =>
            cases b with
            | int b => exact ⟨a, b, rfl⟩
            | _ => simp [wholeR] at c4
          | _ => simp [wholeR] at c4
        · cases c4
      have e1 : edgeB n (.tup [.int a, .int b]) = decide (a < b) := by
        show (vpB n (.tup [.int a, .int b]) && decide (a < b)) = _
        rw [show vpB n (.tup [.int a, .int b]) = true from c4, Bool.true_and]
      cases sz with
      | @tup u us _ hu ru =>
      cases ru with
      | cons p1 ru =>
      cases ru with
      | cons p2 ru =>
      cases ru
      cases p1
      cases p2
      have hu3 := Same.tup s3 hu
      refine ⟨_, rfl, u, _, 0, _, rfl, rfl, hu3, rfl, _, rfl, u, _, 1, _, rfl, rfl, hu3, rfl, _, _, rfl, rfl, ?_⟩
      have f := fin H3 s3
      rw [e1] at f
      exact f
    · have e1 : edgeB n z = false := by
        show (vpB n z && lt2 z) = false
        rw [show vpB n z = false from c4, Bool.false_and]
      have f := fin H3 s3
      rw [e1] at f
      exact f
  rintro H2 ⟨s2, hD⟩
  rw [lx, List.take_length] at hD
  refine ⟨D, _, rfl, SqL.of hD, _, rfl, ?_⟩
  have ea : (es.map (edgeB n)).all id = es.all (edgeB n) := by rw [List.all_map]; rfl
  rw [ea]
  refine iteB (fun c4 => ?_) (fun c4 => ?_)
  · refine ⟨_, rfl, e, xs, es, rfl, Same.tup s2 he, r.same s2, .inr fun s hs => ?_, few, fun H3 s3 => ?_⟩
    · have h1 := List.all_eq_true.mp c4 s hs
      unfold edgeB at h1
      rw [Bool.and_eq_true] at h1
      have h2 := h1.2
      unfold lt2 at h2
      split at h2
      · exact ⟨_, _, rfl⟩
      · cases h2
    · have q1 := q H3 (s2.trans s3)
      rw [eq, c4, Bool.true_and] at q1
      exact q1
  · have q1 := q H2 s2
    rw [eq, c4, Bool.false_and] at q1
    exact q1
end
end My

set_option maxHeartbeats 4000000
namespace My
open PySem PySem.Spec PyProof.Rows L2
def graphS (n : Nat) (es : List E2) : Sh := .tup [.int (n : Int), .tup (es.map pairS)]
theorem GraphAt.sh {K : PySem.W.Frag} {H : Hp} {x : V} {n : Nat} {es : List E2} (h : GraphAt K H x n es) : ShAt K H x (graphS n es) := by
  obtain ⟨t, e, xs, rfl, h1, h2, h3⟩ := h
  exact .tup h1 (.cons (.int _) (.cons (.tup h2 h3.sh) .nil))
theorem asc_pairs : ∀ {es : List E2}, es.Pairwise ahead → ascB (es.map pairS) = true
  | [], _ => rfl
  | [_], _ => rfl
  | p :: q :: r, h => by
    have h1 := (List.pairwise_cons.mp h).1 q (List.mem_cons_self ..)
    have ih := asc_pairs (es := q :: r) (List.pairwise_cons.mp h).2
    show (HT.lexLt [(p.1 : Int), (p.2 : Int)] [(q.1 : Int), (q.2 : Int)] && ascB ((q :: r).map pairS)) = true
    rw [ih, Bool.and_true]
    unfold HT.lexLt
    split
    · unfold HT.lexLt
      rcases h1 with h1 | ⟨_, h1⟩
      · omega
      · rw [if_neg (by omega)]
        exact decide_eq_true (by omega)
    · rename_i e
      rcases h1 with h1 | ⟨h1, _⟩
      · exact decide_eq_true (by omega)
      · exact absurd (by omega) e
theorem isGr_good {n : Nat} {es : List E2} (g : Good n es) : isGr (graphS n es) = true := by
  have n9 := g.n9
  show ((decide ((n : Int) ≥ 0) && decide ((n : Int) ≤ 9)) && ((es.map pairS).all (edgeB (n : Int)) && ascB (es.map pairS))) = true
  rw [asc_pairs g.up, decide_eq_true (show (n : Int) ≥ 0 by omega), decide_eq_true (show (n : Int) ≤ 9 by omega)]
  simp only [Bool.and_true, Bool.true_and]
  rw [List.all_eq_true]
  intro s hs
  obtain ⟨p, hp, rfl⟩ := List.mem_map.mp hs
  obtain ⟨l1, l2⟩ := g.lt p hp
  show (((decide ((p.1 : Int) ≥ 0) && decide ((p.1 : Int) ≤ (n : Int) - 1)) && (decide ((p.2 : Int) ≥ 0) && decide ((p.2 : Int) ≤ (n : Int) - 1))) && decide ((p.1 : Int) < (p.2 : Int))) = true
  simp
  omega
/-- a lot -/
def LotAt (K : PySem.W.Frag) (H : Hp) (x : V) (l : List Nat) : Prop := ∃ t, x = .ref t ∧ SqT K H t (l.map fun k => V.int ((k : Nat) : Int))
structure LotOk (n : Nat) (l : List Nat) : Prop where
  lt : ∀ k ∈ l, k < n
  up : l.Pairwise (· < ·)
def lotS (l : List Nat) : Sh := .tup (l.map fun k => Sh.int ((k : Nat) : Int))
theorem LotAt.same {K : PySem.W.Frag} {H H' : Hp} (s : Same H H') {x : V} {l : List Nat} (h : LotAt K H x l) : LotAt K H' x l := by
  obtain ⟨t, rfl, h⟩ := h
  exact ⟨t, rfl, Same.tup s h⟩
theorem ints_sh {K : PySem.W.Frag} {H : Hp} : ∀ l : List Nat, ShsAt K H (l.map fun k => V.int ((k : Nat) : Int)) (l.map fun k => Sh.int ((k : Nat) : Int))
  | [] => .nil
  | _ :: r => .cons (.int _) (ints_sh r)
theorem LotAt.sh {K : PySem.W.Frag} {H : Hp} {x : V} {l : List Nat} (h : LotAt K H x l) : ShAt K H x (lotS l) := by
  obtain ⟨t, rfl, h⟩ := h
  exact .tup h (ints_sh l)
theorem asc_lot : ∀ {l : List Nat}, l.Pairwise (· < ·) → ascB (l.map fun k => Sh.int ((k : Nat) : Int)) = true
  | [], _ => rfl
  | [_], _ => rfl
  | p :: q :: r, h => by
    have h1 := (List.pairwise_cons.mp h).1 q (List.mem_cons_self ..)
    have ih := asc_lot (l := q :: r) (List.pairwise_cons.mp h).2
    show (decide ((p : Int) < (q : Int)) && ascB ((q :: r).map fun k => Sh.int ((k : Nat) : Int))) = true
    rw [ih, Bool.and_true]
    exact decide_eq_true (by omega)
theorem isLot_ok {n : Nat} {l : List Nat} (g : LotOk n l) : isLot n (lotS l) = true := by
  show ((l.map fun k => Sh.int ((k : Nat) : Int)).all (wholeR 0 ((n : Int) - 1)) && ascB (l.map fun k => Sh.int ((k : Nat) : Int))) = true
  rw [asc_lot g.up, Bool.and_true, List.all_eq_true]
  intro s hs
  obtain ⟨k, hk, rfl⟩ := List.mem_map.mp hs
  have l1 := g.lt k hk
  show (decide ((k : Int) ≥ 0) && decide ((k : Int) ≤ (n : Int) - 1)) = true
  simp
  omega
theorem LotOk.few {n : Nat} {l : List Nat} (g : LotOk n l) : l.length ≤ n := by
  have nd : l.Nodup := g.up.imp fun h => Nat.ne_of_lt h
  have z := sub_few nd (m := List.range n) fun k hk => List.mem_range.mpr (g.lt k hk)
  rw [List.length_range] at z
  exact z
def shortL : Sh → Prop
  | .tup ss => ss.length ≤ 900
  | _ => True
def spCheckGraph (K : PySem.W.Frag) : Sp := fun vs H Q _ => ∃ (x : V) (n : Nat) (es : List E2), vs = [x] ∧ GraphAt K H x n es ∧ Good n es ∧ ∀ H', Same H H' → Q .non H'
section
variable {P : Program} {w : World} {K : PySem.W.Frag} {mg : Str → Option Value} {base : Heap} {f fW fA fG fC fL fO : Addr} {fd dW dA dG dC dL dO : FuncData}
theorem ok_check_graph (F : L2.Fun K "check_graph" "check_graph" sCheckGraph f fd) (GG : FnOk P w K mg base CX0 4 fG dG ["value"] (spIsGraphA K)) (bG : L2.Binds K dG ["value"] []) (kG : PySem.W.keepIn K (.ref fG) = true) (mG : mg "is_graph" = some (.ref fG)) : FnOk P w K mg base CX0 5 f fd ["graph"] (spCheckGraph K) := by
  refine F.ok scCheckGraph (fun vs H Q E h => ?_) (fun cdv A outer s H vs Q E hr h => ?_)
  · obtain ⟨x, n, es, rfl, _⟩ := h
    rfl
  obtain ⟨x, n, es, rfl, hx, g, q⟩ := h
  refine ⟨_, pss_one (ps_if (pt_not (pt_val (pe_call GG (hr.mono (by decide)) (by rfl) mG kG bG .nil pass0 (pa_cons (pv 0) pa_nil)))) (pss_one ps_never) pss_nil), ?_⟩
  have few := g.few
  refine ⟨_, rfl, x, graphS n es, rfl, hx.sh, (by show (es.map pairS).length ≤ 900; rw [List.length_map]; omega), fun H' s' => ?_⟩
  rw [isGr_good g]
  exact ⟨_, rfl, iteF (q H' s')⟩
end
end My

set_option maxHeartbeats 4000000
namespace My
open PySem PySem.Spec PyProof.Rows L2
def leftP (n : Nat) (es : List E2) : List E2 := (allP n).filter fun p => decide (p ∉ es)
theorem leftP_eq (n : Nat) (es : List E2) : leftP n es = (List.range n).flatMap fun u => (rowP n u).filter fun p => decide (p ∉ es) := List.filter_flatMap
def spComplement (K : PySem.W.Frag) : Sp := fun vs H Q _ => ∃ (x : V) (n : Nat) (es : List E2), vs = [x] ∧ GraphAt K H x n es ∧ Good n es ∧ ∀ (y : V) H', Same H H' → GraphAt K H' y n (leftP n es) → Q y H'
theorem PairsT.get {H : Hp} : ∀ {xs : List V} {ps : List E2}, PairsT H xs ps → ∀ {i : Nat} {x : V}, xs[i]? = some x → ∃ p, ps[i]? = some p ∧ PairT H x p
  | _, _, .nil, i, x, e => by simp at e
  | _, _, .cons a r, 0, x, e => by simp at e; subst e; exact ⟨_, rfl, a⟩
  | _, _, .cons a r, i + 1, x, e => by
    obtain ⟨s, h1, h2⟩ := PairsT.get r (i := i) (x := x) (by simpa using e)
    exact ⟨s, by simpa using h1, h2⟩
theorem rowP_len : ∀ n, n ≤ 9 → ∀ u, u ≤ 9 → (rowP n u).length ≤ 9 := by decide +kernel
section
variable {P : Program} {w : World} {K : PySem.W.Frag} {mg : Str → Option Value} {base : Heap} {f fC : Addr} {fd dC : FuncData}
end
end My

set_option maxHeartbeats 2000000
/-! Sets of vertices as masks, in plain Lean. -/
namespace My
open PySem PySem.Spec PyProof.Rows L2
theorem and_nn (a b : Nat) : Builtin.bitAnd (a : Int) (b : Int) = ((a &&& b : Nat) : Int) := by
  rw [bitAnd_pp (by omega) (by omega), Int.toNat_natCast, Int.toNat_natCast]
theorem or_nn (a b : Nat) : Builtin.bitOr (a : Int) (b : Int) = ((a ||| b : Nat) : Int) := by
  have n1 : ∀ k : Nat, Builtin.bitNot (Builtin.bitNot (k : Int)) = (k : Int) := fun k => by unfold Builtin.bitNot; omega
  have n2 : ∀ k : Nat, ¬ 0 ≤ Builtin.bitNot (k : Int) := fun k => by unfold Builtin.bitNot; omega
  unfold Builtin.bitOr Builtin.bitAnd
  simp only [n2, decide_false]
  rw [n1, n1, n1, Int.toNat_natCast, Int.toNat_natCast]
def adjB (es : List E2) (u v : Nat) : Bool := decide ((min u v, max u v) ∈ es)
theorem adj_comm (es : List E2) (u v : Nat) : adjB es u v = adjB es v u := by
  unfold adjB
  rw [Nat.min_comm, Nat.max_comm]
theorem adj_ne {n : Nat} {es : List E2} (g : Good n es) {u v : Nat} (h : adjB es u v = true) : u ≠ v ∧ u < n ∧ v < n := by
  have z := g.lt _ (of_decide_eq_true h)
  dsimp only at z
  omega
def NbOk (n : Nat) (es : List E2) (nb : List Nat) : Prop := nb.length = n ∧ ∀ u, u < n → ∀ v, (nb.getD u 0).testBit v = adjB es u v
theorem nb_nil (n : Nat) : NbOk n [] (List.replicate n 0) := by
  refine ⟨List.length_replicate .., fun u hu v => ?_⟩
  rw [List.getD_eq_getElem?_getD, List.getElem?_replicate, if_pos hu]
  simp [adjB]
theorem bit_pow (a v : Nat) : (2 ^ a).testBit v = decide (a = v) := by
  rw [Nat.testBit_two_pow]
theorem nb_step {n : Nat} {l : List E2} {nb : List Nat} {a b : Nat} (h : NbOk n l nb) (ab : a < b) (bn : b < n) :
    NbOk n (l ++ [(a, b)]) ((nb.set a (nb.getD a 0 ||| 2 ^ b)).set b ((nb.set a (nb.getD a 0 ||| 2 ^ b)).getD b 0 ||| 2 ^ a)) := by
  obtain ⟨hl, hb⟩ := h
  refine ⟨by rw [List.length_set, List.length_set, hl], fun u hu v => ?_⟩
  have eb : (nb.set a (nb.getD a 0 ||| 2 ^ b)).getD b 0 = nb.getD b 0 := by
    rw [List.getD_eq_getElem?_getD, List.getElem?_set_ne (by omega), ← List.getD_eq_getElem?_getD]
  rw [eb]
  have ad : adjB (l ++ [(a, b)]) u v = (adjB l u v || (decide (u = a ∧ v = b) || decide (u = b ∧ v = a))) := by
    unfold adjB
    rw [Bool.eq_iff_iff]
    simp only [decide_eq_true_eq, Bool.or_eq_true, List.mem_append, List.mem_singleton, Prod.mk.injEq]
    constructor
    · rintro (z | ⟨z1, z2⟩)
      · exact .inl z
      · right
        omega
    · rintro (z | z | z)
      · exact .inl z
      · right; omega
      · right; omega
  rw [ad]
  by_cases c1 : u = b
  · subst c1
    rw [List.getD_eq_getElem?_getD, List.getElem?_set_self (by rw [List.length_set, hl]; exact hu)]
    show (nb.getD u 0 ||| 2 ^ a).testBit v = _
    rw [Nat.testBit_or, hb u hu, bit_pow]
    congr 1
    rw [Bool.eq_iff_iff, Bool.or_eq_true, decide_eq_true_eq, decide_eq_true_eq, decide_eq_true_eq]
    constructor
    · intro z
      exact .inr ⟨rfl, z.symm⟩
    · rintro (z | z)
      · exact absurd z.1 (by omega)
      · exact z.2.symm
  · rw [List.getD_eq_getElem?_getD, List.getElem?_set_ne (by omega)]
    by_cases c2 : u = a
    · subst c2
      rw [List.getElem?_set_self (by rw [hl]; exact hu)]
      show (nb.getD u 0 ||| 2 ^ b).testBit v = _
      rw [Nat.testBit_or, hb u hu, bit_pow]
      congr 1
      rw [Bool.eq_iff_iff, Bool.or_eq_true, decide_eq_true_eq, decide_eq_true_eq, decide_eq_true_eq]
      constructor
      · intro z
        exact .inl ⟨rfl, z.symm⟩
      · rintro (z | z)
        · exact z.2.symm
        · exact absurd z.1 c1
    · rw [List.getElem?_set_ne (by omega), ← List.getD_eq_getElem?_getD, hb u hu]
      have z : (decide (u = a ∧ v = b) || decide (u = b ∧ v = a)) = false := by
        rw [Bool.or_eq_false_iff]
        exact ⟨decide_eq_false (fun z => c2 z.1), decide_eq_false (fun z => c1 z.1)⟩
      rw [z, Bool.or_false]
/-! cliques -/
def Clq (es : List E2) (m : Nat) : Prop := ∀ u v, m.testBit u = true → m.testBit v = true → u ≠ v → adjB es u v = true
theorem sub_and (a b : Nat) : a &&& b = a ↔ ∀ v, a.testBit v = true → b.testBit v = true := by
  constructor
  · intro h v hv
    have z := congrArg (Nat.testBit · v) h
    simp only [Nat.testBit_and, hv, Bool.true_and] at z
    exact z
  · intro h
    refine Nat.eq_of_testBit_eq fun v => ?_
    rw [Nat.testBit_and]
    cases e : a.testBit v with
    | false => rfl
    | true => rw [h v e]; rfl
def FoundOk (es : List E2) (k : Nat) (found : List Nat) : Prop := found.Nodup ∧ ∀ m, m ∈ found ↔ m < 2 ^ k ∧ Clq es m
theorem found_nil (es : List E2) : FoundOk es 0 [0] := by
  refine ⟨by simp, fun m => ?_⟩
  rw [List.mem_singleton]
  constructor
  · rintro rfl
    exact ⟨by decide, fun u v h => by simp at h⟩
  · intro h
    have := h.1
    omega
def goOn (found : List Nat) (k near : Nat) : List Nat := found ++ (found.filter fun m => m &&& near == m).map (· ||| 2 ^ k)
theorem or_pow_bit {c k v : Nat} : (c ||| 2 ^ k).testBit v = (c.testBit v || decide (k = v)) := by rw [Nat.testBit_or, bit_pow]
theorem high_out {c k v : Nat} (h : c < 2 ^ k) (hv : k ≤ v) : c.testBit v = false := Nat.testBit_lt_two_pow (Nat.lt_of_lt_of_le h (Nat.pow_le_pow_right (by decide) hv))
theorem found_step {n : Nat} {es : List E2} {nb : List Nat} {found : List Nat} {k : Nat} (h : FoundOk es k found) (nk : NbOk n es nb) (kn : k < n) : FoundOk es (k + 1) (goOn found k (nb.getD k 0)) := by
  obtain ⟨nd, mem⟩ := h
  have low : ∀ m ∈ found, m < 2 ^ k := fun m hm => ((mem m).mp hm).1
  constructor
  · unfold goOn
    rw [List.nodup_append]
    refine ⟨nd, ?_, ?_⟩
    · show List.Pairwise _ _
      rw [List.pairwise_map]
      refine List.Pairwise.imp_of_mem ?_ (nd.filter _)
      intro x y hx hy ne e
      refine ne (?_ : x = y)
      refine Nat.eq_of_testBit_eq fun v => ?_
      have lx := low x (List.mem_filter.mp hx).1
      have ly := low y (List.mem_filter.mp hy).1
      have z := congrArg (Nat.testBit · v) e
      simp only [or_pow_bit] at z
      by_cases c : k = v
      · subst c
        rw [high_out lx (Nat.le_refl _), high_out ly (Nat.le_refl _)]
      · rw [decide_eq_false c, Bool.or_false, Bool.or_false] at z
        exact z
    · intro a ha b hb e
      subst e
      obtain ⟨c, hc, e⟩ := List.mem_map.mp hb
      have z := high_out (low a ha) (Nat.le_refl k)
      rw [← e, or_pow_bit, decide_eq_true rfl, Bool.or_true] at z
      cases z
  · intro m
    unfold goOn
    rw [List.mem_append, mem m, List.mem_map]
    constructor
    · rintro (⟨h1, h2⟩ | ⟨c, hc, rfl⟩)
      · exact ⟨Nat.lt_of_lt_of_le h1 (Nat.pow_le_pow_right (by decide) (Nat.le_succ k)), h2⟩
      · obtain ⟨hc, near⟩ := List.mem_filter.mp hc
        obtain ⟨lc, cl⟩ := (mem c).mp hc
        have sub := (sub_and c _).mp (by simpa using near)
        refine ⟨Nat.or_lt_two_pow (Nat.lt_of_lt_of_le lc (Nat.pow_le_pow_right (by decide) (Nat.le_succ k))) (Nat.pow_lt_pow_right (by decide) (Nat.lt_succ_self k)), fun u v hu hv ne => ?_⟩
        rw [or_pow_bit] at hu hv
        simp only [Bool.or_eq_true, decide_eq_true_eq] at hu hv
        rcases hu with hu | rfl
        · rcases hv with hv | rfl
          · exact cl u v hu hv ne
          · rw [adj_comm, ← nk.2 k kn]
            exact sub u hu
        · rcases hv with hv | rfl
          · rw [← nk.2 k kn]
            exact sub v hv
          · exact absurd rfl ne
    · rintro ⟨h1, h2⟩
      by_cases c : m.testBit k = true
      · right
        have le : m % 2 ^ k < 2 ^ k := Nat.mod_lt _ (Nat.two_pow_pos k)
        have bits : ∀ v, (m % 2 ^ k).testBit v = (decide (v < k) && m.testBit v) := fun v => Nat.testBit_mod_two_pow m k v
        refine ⟨m % 2 ^ k, List.mem_filter.mpr ⟨(mem _).mpr ⟨le, fun u v hu hv ne => ?_⟩, ?_⟩, ?_⟩
        · rw [bits, Bool.and_eq_true] at hu hv
          exact h2 u v hu.2 hv.2 ne
        · have s : m % 2 ^ k &&& nb.getD k 0 = m % 2 ^ k := (sub_and _ _).mpr fun v hv => by
            rw [bits, Bool.and_eq_true] at hv
            have lt := of_decide_eq_true hv.1
            rw [nk.2 k kn]
            exact h2 k v c hv.2 (by omega)
          simpa using s
        · refine Nat.eq_of_testBit_eq fun v => ?_
          rw [or_pow_bit, bits]
          by_cases e : k = v
          · subst e; simp [c]
          · by_cases l : v < k
            · simp [l, e]
            · have z : m.testBit v = false := high_out h1 (by omega)
              simp [l, e, z]
      · left
        refine ⟨?_, h2⟩
        refine Nat.lt_pow_two_of_testBit m fun v hv => ?_
        by_cases e : v = k
        · subst e; simpa using c
        · exact high_out h1 (by omega)
/-! lots as masks -/
def maskN (l : List Nat) : Nat := (l.map fun k => 2 ^ k).sum
theorem desc_lt : ∀ {l : List Nat} {k : Nat}, l.Pairwise (· > ·) → (∀ a ∈ l, a < k) → maskN l < 2 ^ k
  | [], k, _, _ => Nat.two_pow_pos k
  | a :: r, k, h, lt => by
    have ak := lt a (List.mem_cons_self ..)
    have ih := desc_lt (l := r) (k := a) (List.pairwise_cons.mp h).2 fun b hb => (List.pairwise_cons.mp h).1 b hb
    have e : maskN (a :: r) = 2 ^ a + maskN r := by unfold maskN; rw [List.map_cons, List.sum_cons]
    have z : 2 ^ (a + 1) ≤ 2 ^ k := Nat.pow_le_pow_right (by decide) ak
    rw [Nat.pow_succ] at z
    omega
theorem desc_bit : ∀ {l : List Nat}, l.Pairwise (· > ·) → ∀ v, (maskN l).testBit v = decide (v ∈ l)
  | [], _, v => by simp [maskN]
  | a :: r, h, v => by
    have lt := desc_lt (l := r) (k := a) (List.pairwise_cons.mp h).2 fun b hb => (List.pairwise_cons.mp h).1 b hb
    have ih := desc_bit (l := r) (List.pairwise_cons.mp h).2 v
    have e : maskN (a :: r) = 2 ^ a + maskN r := by unfold maskN; rw [List.map_cons, List.sum_cons]
    rw [e]
    rcases Nat.lt_trichotomy v a with c | c | c
    · rw [Nat.testBit_two_pow_add_gt c, ih]
      have ne : v ≠ a := by omega
      simp [ne]
    · subst c
      rw [Nat.testBit_two_pow_add_eq, high_out lt (Nat.le_refl _)]
      simp
    · have z : 2 ^ a + maskN r < 2 ^ (a + 1) := by rw [Nat.pow_succ]; omega
      rw [high_out z c]
      have n1 : v ≠ a := by omega
      have n2 : v ∉ r := fun hv => by have := (List.pairwise_cons.mp h).1 v hv; omega
      simp [n1, n2]
theorem mask_rev (l : List Nat) : maskN l.reverse = maskN l := by
  unfold maskN
  rw [List.map_reverse]
  exact List.sum_reverse _
theorem mask_bit {l : List Nat} (h : l.Pairwise (· < ·)) (v : Nat) : (maskN l).testBit v = decide (v ∈ l) := by
  rw [← mask_rev, desc_bit (List.pairwise_reverse.mpr h)]
  simp
/-- the lot of a mask's bits below n -/
def bitsN (n m : Nat) : List Nat := (List.range n).filter fun v => m.testBit v
theorem bits_up (n m : Nat) : (bitsN n m).Pairwise (· < ·) := (List.pairwise_lt_range).filter _
theorem mem_bits {n m v : Nat} : v ∈ bitsN n m ↔ v < n ∧ m.testBit v = true := by
  unfold bitsN
  rw [List.mem_filter, List.mem_range]
theorem mask_bits {n m : Nat} (h : m < 2 ^ n) : maskN (bitsN n m) = m := by
  refine Nat.eq_of_testBit_eq fun v => ?_
  rw [mask_bit (bits_up n m)]
  by_cases c : v < n
  · cases e : m.testBit v with
    | true => exact decide_eq_true (mem_bits.mpr ⟨c, e⟩)
    | false => exact decide_eq_false fun z => by rw [(mem_bits.mp z).2] at e; cases e
  · rw [high_out h (by omega)]
    exact decide_eq_false fun z => c (mem_bits.mp z).1
/-- two ascending lists with the same members -/
theorem eq_of_lt : ∀ {l m : List Nat}, l.Pairwise (· < ·) → m.Pairwise (· < ·) → (∀ k, k ∈ l ↔ k ∈ m) → l = m
  | [], [], _, _, _ => rfl
  | [], b :: m, _, _, h => absurd ((h b).mpr (List.mem_cons_self ..)) (by simp)
  | a :: l, [], _, _, h => absurd ((h a).mp (List.mem_cons_self ..)) (by simp)
  | a :: l, b :: m, hl, hm, h => by
    have l1 := (List.pairwise_cons.mp hl).1
    have m1 := (List.pairwise_cons.mp hm).1
    have e : a = b := by
      rcases List.mem_cons.mp ((h a).mp (List.mem_cons_self ..)) with e | e
      · exact e
      · rcases List.mem_cons.mp ((h b).mpr (List.mem_cons_self ..)) with e2 | e2
        · exact e2.symm
        · have := l1 b e2
          have := m1 a e
          omega
    subst e
    rw [eq_of_lt (List.pairwise_cons.mp hl).2 (List.pairwise_cons.mp hm).2 fun k => ?_]
    constructor
    · intro hk
      have := l1 k hk
      rcases List.mem_cons.mp ((h k).mp (List.mem_cons_of_mem _ hk)) with e | e
      · omega
      · exact e
    · intro hk
      have := m1 k hk
      rcases List.mem_cons.mp ((h k).mpr (List.mem_cons_of_mem _ hk)) with e | e
      · omega
      · exact e
theorem bits_mask {n : Nat} {l : List Nat} (h : l.Pairwise (· < ·)) (lt : ∀ k ∈ l, k < n) : bitsN n (maskN l) = l := by
  refine eq_of_lt (bits_up n _) h fun k => ?_
  rw [mem_bits, mask_bit h, decide_eq_true_eq]
  exact ⟨fun z => z.2, fun z => ⟨lt k z, z⟩⟩
/-- all of a list are adjacent two by two, or no two are -/
def PairB (es : List E2) (tied : Bool) (l : List Nat) : Prop := l.Pairwise fun u v => adjB es u v = tied
instance (es : List E2) (tied : Bool) (l : List Nat) : Decidable (PairB es tied l) := inferInstanceAs (Decidable (List.Pairwise _ l))
theorem pairB_mem {es : List E2} {tied : Bool} {l : List Nat} (nd : l.Nodup) : PairB es tied l ↔ ∀ u ∈ l, ∀ v ∈ l, u ≠ v → adjB es u v = tied := by
  unfold PairB
  constructor
  · intro h
    induction l with
    | nil => intro u hu; cases hu
    | cons a r ih =>
      obtain ⟨h1, h2⟩ := List.pairwise_cons.mp h
      have ih := ih (List.nodup_cons.mp nd).2 h2
      intro u hu v hv ne
      rcases List.mem_cons.mp hu with e1 | hu2
      · rcases List.mem_cons.mp hv with e2 | hv2
        · exact absurd (e1.trans e2.symm) ne
        · rw [e1]; exact h1 v hv2
      · rcases List.mem_cons.mp hv with e2 | hv2
        · rw [adj_comm, e2]; exact h1 u hu2
        · exact ih u hu2 v hv2 ne
  · intro h
    refine List.Pairwise.imp_of_mem (R := fun u v => u ≠ v) ?_ nd
    intro u v hu hv ne
    exact h u hu v hv ne
theorem clq_mask {es : List E2} {l : List Nat} (h : l.Pairwise (· < ·)) : Clq es (maskN l) ↔ PairB es true l := by
  rw [pairB_mem (h.imp fun z => Nat.ne_of_lt z)]
  constructor
  · intro c u hu v hv ne
    exact c u v (by rw [mask_bit h]; exact decide_eq_true hu) (by rw [mask_bit h]; exact decide_eq_true hv) ne
  · intro c u v hu hv ne
    rw [mask_bit h] at hu hv
    exact c u (of_decide_eq_true hu) v (of_decide_eq_true hv) ne
end My

set_option maxHeartbeats 4000000
/-! Tables of who is adjacent to whom: lists of lists of bools. -/
namespace My
open PySem PySem.Spec PyProof.Rows L2
def tabP (n : Nat) (f : Nat → Nat → Bool) : List E2 := (allP n).filter fun p => f p.1 p.2
theorem tab_good {n : Nat} (h : n ≤ 9) (f : Nat → Nat → Bool) : Good n (tabP n f) :=
  ⟨h, fun p hp => mem_allP.mp (List.mem_filter.mp hp).1, (allP_up n h).filter _⟩
theorem tabP_eq (n : Nat) (f : Nat → Nat → Bool) : tabP n f = (List.range n).flatMap fun u => (rowP n u).filter fun p => f p.1 p.2 := List.filter_flatMap
def rowV (n : Nat) (f : Nat → Bool) : List V := (List.range n).map fun j => V.bl (f j)
theorem rowV_len (n : Nat) (f : Nat → Bool) : (rowV n f).length = n := by unfold rowV; rw [List.length_map, List.length_range]
theorem rowV_get {n j : Nat} (f : Nat → Bool) (h : j < n) : (rowV n f)[j]? = some (.bl (f j)) := by
  unfold rowV
  rw [List.getElem?_map, List.getElem?_range h]
  rfl
theorem rowV_set {n : Nat} (f : Nat → Bool) (j : Nat) (b : Bool) : (rowV n f).set j (.bl b) = rowV n fun k => if k = j then b else f k := by
  refine List.ext_getElem? fun k => ?_
  by_cases hk : k < n
  · rw [rowV_get _ hk]
    by_cases e : k = j
    · subst e
      rw [List.getElem?_set_self (by rw [rowV_len]; exact hk), if_pos rfl]
    · rw [List.getElem?_set_ne (Ne.symm e), rowV_get f hk, if_neg e]
  · rw [List.getElem?_eq_none (by rw [List.length_set, rowV_len]; omega), List.getElem?_eq_none (by rw [rowV_len]; omega)]
theorem rowV_succ (n : Nat) (f : Nat → Bool) : rowV (n + 1) f = rowV n f ++ [.bl (f n)] := by
  unfold rowV
  rw [List.range_succ, List.map_append]
  rfl
theorem rowV_congr {n : Nat} {f g : Nat → Bool} (h : ∀ j, j < n → f j = g j) : rowV n f = rowV n g := by
  unfold rowV
  exact List.map_congr_left fun j hj => by rw [h j (List.mem_range.mp hj)]
structure TabR (H : Hp) (D : Addr) (n : Nat) (f : Nat → Nat → Bool) (rs : List Addr) : Prop where
  hd : H D = some (.lst (rs.map V.ref))
  len : rs.length = n
  row : ∀ i r, rs[i]? = some r → H r = some (.lst (rowV n (f i)))
theorem TabR.same {H H' : Hp} (s : Same H H') {D : Addr} {n : Nat} {f : Nat → Nat → Bool} {rs : List Addr} (h : TabR H D n f rs) : TabR H' D n f rs := ⟨s _ _ h.hd, h.len, fun i r hi => s _ _ (h.row i r hi)⟩
theorem TabR.get {H : Hp} {D : Addr} {n : Nat} {f : Nat → Nat → Bool} {rs : List Addr} (h : TabR H D n f rs) {i : Nat} (hi : i < n) : ∃ r, rs[i]? = some r ∧ (rs.map V.ref)[i]? = some (.ref r) ∧ H r = some (.lst (rowV n (f i))) := by
  have l : i < rs.length := by rw [h.len]; exact hi
  refine ⟨rs[i], List.getElem?_eq_getElem l, by rw [List.getElem?_map, List.getElem?_eq_getElem l]; rfl, h.row i _ (List.getElem?_eq_getElem l)⟩
theorem TabR.congr {H : Hp} {D : Addr} {n : Nat} {f g : Nat → Nat → Bool} {rs : List Addr} (h : TabR H D n f rs) (e : ∀ i j, i < n → j < n → f i j = g i j) : TabR H D n g rs :=
  ⟨h.hd, h.len, fun i r hi => by
    rw [h.row i r hi, rowV_congr fun j hj => e i j (by have := (List.getElem?_eq_some_iff.mp hi).1; rw [h.len] at this; exact this) hj]⟩
theorem ixN_of {n j : Nat} (h : j < n) : ixN n (j : Int) = some j := by
  unfold ixN
  rw [if_pos (by omega), if_pos (by omega), Int.toNat_natCast]
def GraphT (H : Hp) (x : V) (n : Nat) (es : List E2) : Prop := ∃ (t e : Addr) (xs : List V), x = .ref t ∧ H t = some (.tup [.int (n : Int), .ref e]) ∧ H e = some (.tup xs) ∧ PairsT H xs es
theorem GraphT.at {K : PySem.W.Frag} {H : Hp} {x : V} {n : Nat} {es : List E2} (h : GraphT H x n es) : GraphAt K H x n es := by
  obtain ⟨t, e, xs, h1, h2, h3, h4⟩ := h
  exact ⟨t, e, xs, h1, SqT.of h2, SqT.of h3, h4.at⟩
theorem GraphT.same {H H' : Hp} (s : Same H H') {x : V} {n : Nat} {es : List E2} (h : GraphT H x n es) : GraphT H' x n es := by
  obtain ⟨t, e, xs, h1, h2, h3, h4⟩ := h
  exact ⟨t, e, xs, h1, s _ _ h2, s _ _ h3, h4.same s⟩
theorem GraphT.but {p : Addr} {H H' : Hp} (b : But p H H') (w : Wl H p) {x : V} {n : Nat} {es : List E2} (h : GraphT H x n es) : GraphT H' x n es := by
  obtain ⟨t, e, xs, h1, h2, h3, h4⟩ := h
  exact ⟨t, e, xs, h1, b _ _ (wl_tup w h2) h2, b _ _ (wl_tup w h3) h3, h4.but b w⟩
theorem GraphAt.same' {K : PySem.W.Frag} {H H' : Hp} (s : Same H H') {x : V} {n : Nat} {es : List E2} (h : GraphAt K H x n es) : GraphAt K H' x n es := h.ts (TS.of s)
theorem pair_at {K : PySem.W.Frag} {H : Hp} {xs : List V} {es : List E2} (h : PairsAt K H xs es) {i : Nat} {p : E2} (hp : es[i]? = some p) : ∃ u, xs[i]? = some (.ref u) ∧ SqT K H u [.int (p.1 : Int), .int (p.2 : Int)] := by
  have le := PairsAt.len h
  have hi : i < xs.length := by rw [le]; exact (List.getElem?_eq_some_iff.mp hp).1
  obtain ⟨q, hq, u, hu, su⟩ := PairsAt.get h (List.getElem?_eq_getElem hi)
  rw [hp] at hq
  cases hq
  exact ⟨u, by rw [List.getElem?_eq_getElem hi, hu], su⟩
theorem adj_nil (u v : Nat) : adjB [] u v = false := by simp [adjB]
theorem adj_snoc {l : List E2} {a b : Nat} (ab : a < b) (u v : Nat) : adjB (l ++ [(a, b)]) u v = (adjB l u v || (decide (u = a ∧ v = b) || decide (u = b ∧ v = a))) := by
  unfold adjB
  have e : decide ((min u v, max u v) ∈ l ++ [(a, b)]) = (decide ((min u v, max u v) ∈ l) || decide ((min u v, max u v) = (a, b))) := by
    rw [Bool.eq_iff_iff]
    simp
  rw [e]
  congr 1
  rw [Bool.eq_iff_iff]
  simp only [Bool.or_eq_true, decide_eq_true_eq, Prod.mk.injEq]
  omega
end My

set_option maxHeartbeats 4000000
/-! The law's graphs, drawn: each is a GRAPH. -/
namespace My
open PySem PySem.Spec PyProof.Rows L2
abbrev sOfPairs : Stmt := top 27
theorem scOfPairs : FnScope ["n", "pairs", "each"] ["n", "pairs"] (defScope sOfPairs) := ⟨rfl, rfl, rfl, by decide +kernel, rfl, by decide +kernel, by decide +kernel⟩
def norm (p : E2) : E2 := (min p.1 p.2, max p.1 p.2)
/-- from the pairs as tuples to what the sets' rules ask -/
theorem pairs_ks {K : PySem.W.Frag} {H : Hp} : ∀ {ys : List V} {qs : List E2}, PairsAt K H ys qs → ∃ ks : List (Addr × List Int), ys = ks.map (fun p => V.ref p.1) ∧ ks.map (·.2) = qs.map (fun q => [(q.1 : Int), (q.2 : Int)]) ∧ ∀ p ∈ ks, SqT K H p.1 (p.2.map V.int)
  | _, _, .nil => ⟨[], rfl, rfl, fun _ z => nomatch z⟩
  | _, _, .cons a b => by
    obtain ⟨t, rfl, h⟩ := a
    obtain ⟨ks, h1, h2, h3⟩ := pairs_ks b
    refine ⟨(t, _) :: ks, by rw [h1]; rfl, by rw [List.map_cons, h2]; rfl, ?_⟩
    intro p hp
    rcases List.mem_cons.mp hp with rfl | hp
    · exact h
    · exact h3 p hp
def toE (ns : List Int) : E2 := ((ns.getD 0 0).toNat, (ns.getD 1 0).toNat)
theorem toE_of (q : E2) : toE [(q.1 : Int), (q.2 : Int)] = q := by
  unfold toE
  simp
theorem ks_pairs {K : PySem.W.Frag} {H : Hp} : ∀ {L : List (Addr × List Int)}, (∀ p ∈ L, SqT K H p.1 (p.2.map V.int)) → (∀ p ∈ L, p.2 = [((toE p.2).1 : Int), ((toE p.2).2 : Int)]) → PairsAt K H (L.map fun q => V.ref q.1) (L.map fun p => toE p.2)
  | [], _, _ => .nil
  | p :: L, h, b => by
    refine .cons ⟨p.1, rfl, ?_⟩ (ks_pairs (fun r hr => h r (List.mem_cons_of_mem _ hr)) fun r hr => b r (List.mem_cons_of_mem _ hr))
    have z := h p (List.mem_cons_self ..)
    rw [b p (List.mem_cons_self ..)] at z
    exact z
theorem pairs_ksOW {H : Hp} : ∀ {ys : List V} {qs : List E2}, PairsT H ys qs → ∃ ks : List (Addr × List Int), ys = ks.map (fun p => V.ref p.1) ∧ ks.map (·.2) = qs.map (fun q => [(q.1 : Int), (q.2 : Int)]) ∧ ∀ p ∈ ks, H p.1 = some (.tup (p.2.map V.int))
  | _, _, .nil => ⟨[], rfl, rfl, fun _ z => nomatch z⟩
  | _, _, .cons a b => by
    obtain ⟨t, rfl, h⟩ := a
    obtain ⟨ks, h1, h2, h3⟩ := pairs_ksOW b
    refine ⟨(t, _) :: ks, by rw [h1]; rfl, by rw [List.map_cons, h2]; rfl, ?_⟩
    intro p hp
    rcases List.mem_cons.mp hp with rfl | hp
    · exact h
    · exact h3 p hp
theorem ks_pairsOW {H : Hp} : ∀ {L : List (Addr × List Int)}, (∀ p ∈ L, H p.1 = some (.tup (p.2.map V.int))) → (∀ p ∈ L, p.2 = [((toE p.2).1 : Int), ((toE p.2).2 : Int)]) → PairsT H (L.map fun q => V.ref q.1) (L.map fun p => toE p.2)
  | [], _, _ => .nil
  | p :: L, h, b => by
    refine .cons ⟨p.1, rfl, ?_⟩ (ks_pairsOW (fun r hr => h r (List.mem_cons_of_mem _ hr)) fun r hr => b r (List.mem_cons_of_mem _ hr))
    have z := h p (List.mem_cons_self ..)
    rw [b p (List.mem_cons_self ..)] at z
    exact z
def spOfPairs (K : PySem.W.Frag) : Sp := fun vs H Q _ => ∃ (n : Nat) (l : Addr) (xs : List V) (ps : List E2), vs = [.int (n : Int), .ref l] ∧ n ≤ 9 ∧ SqL K H l xs ∧ PairsAt K H xs ps ∧ xs.length < 64 ∧ (∀ p ∈ ps, p.1 ≠ p.2 ∧ p.1 < n ∧ p.2 < n) ∧
  ∀ (x : V) (es : List E2) (H' : Hp), Same H H' → GraphT H' x n es → Good n es → (∀ q, q ∈ es ↔ q ∈ ps.map norm) → Q x H'
section
variable {P : Program} {w : World} {K : PySem.W.Frag} {mg : Str → Option Value} {base : Heap} {f : Addr} {fd : FuncData}
theorem ok_of_pairs (F : L2.Fun K "_law_of_pairs" "_law_of_pairs" sOfPairs f fd) (mt : mg "tuple" = none) (msd : mg "sorted" = none) (mst : mg "set" = none) (mn : mg "min" = none) (mx : mg "max" = none) : FnOk P w K mg base CX0 1 f fd ["n", "pairs"] (spOfPairs K) := by
  refine F.ok scOfPairs (fun vs H Q E h => ?_) (fun cdv A outer s H vs Q E hr h => ?_)
  · obtain ⟨n, l, xs, ps, rfl, _⟩ := h
    rfl
  obtain ⟨n, l, xs, ps, rfl, n9, hS, hP, l64, hps, q⟩ := h
  refine ⟨_, pss_one (ps_ret (pe_tup (pa_cons (pv 0) (pa_cons (pe_callTy call_tuple_of (by rfl) mt (by decide +kernel) (pa_cons (pe_callB (cr_sortedT rfl) (by rfl) msd (by decide +kernel) (pa_cons (pe_callTy (cr_setOfT rfl hr.units) (by rfl) mst (by decide +kernel) (pa_cons
      (pe_lc (own := [("each", 2)]) (g := gName 2) (tt := tYes) rfl scOfPairs.nd (pi_list (pv 1)) (blkOk_by (N := ["n", "pairs", "each"]) (sc := defScope sOfPairs) (by decide +kernel)) (fun _ _ _ _ _ => pg_name (i := 2) scOfPairs.nd rfl (Or.inl rfl)) (fun _ _ _ _ _ => pts_nil)
        (fun _ _ _ _ _ => pe_tup (pa_cons (pe_callB (id := "min") (r := rOfPair min K) (call_minPair rfl hr.units) (by rfl) mn (by decide +kernel) (pa_cons (pv 2) pa_nil)) (pa_cons (pe_callB (id := "max") (r := rOfPair max K) (call_maxPair rfl hr.units) (by rfl) mx (by decide +kernel) (pa_cons (pv 2) pa_nil)) pa_nil)))) pa_nil)) pa_nil)) pa_nil)) pa_nil)))), ?_⟩
  refine ⟨_, rfl, _, rfl, l, rfl, ⟨_, hS⟩, fun D nD => lc_list (K := K) (a := l) (xs := xs) (fun i H' => Same H H' ∧ ∃ ys, H' D = some (.lst ys) ∧ ys.length = i ∧ PairsT (hide D H') ys ((ps.take i).map norm)) ⟨same_new nD _, [], upd_same, rfl, .nil⟩ ?_ ?_ ?_⟩
  · rintro i H1 _ ⟨s1, _⟩
    exact L2.Same.seq s1 hS
  · rintro i x H1 hi ⟨s1, ys, hD, ly, py⟩
    obtain ⟨p, hp, t, rfl, ht⟩ := PairsAt.get (hP.same s1) hi
    refine ⟨rfl, ?_⟩
    refine ⟨_, rfl, t, _, _, rfl, ht, _, rfl, t, _, _, rfl, ht, (by show 2 ≤ sizeLine; decide), fun r nr => ?_⟩
    have e1 : min ((p.1 : Nat) : Int) ((p.2 : Nat) : Int) = (((norm p).1 : Nat) : Int) := by show _ = ((min p.1 p.2 : Nat) : Int); omega
    have e2 : max ((p.1 : Nat) : Int) ((p.2 : Nat) : Int) = (((norm p).2 : Nat) : Int) := by show _ = ((max p.1 p.2 : Nat) : Int); omega
    rw [e1, e2]
    have s2 := same_new nr (.tup [.int ((norm p).1 : Int), .int ((norm p).2 : Int)])
    have rD : r ≠ D := fun z => by rw [← z, nr] at hD; cases hD
    have bt : But D H1 (upd (upd H1 r (.tup [.int ((norm p).1 : Int), .int ((norm p).2 : Int)])) D (.lst (ys ++ [.ref r]))) := (But.new nr).trans .put
    refine ⟨ys, s2 _ _ hD, small1000 (by have := (List.getElem?_eq_some_iff.mp hi).1; omega), same_put (s1.trans s2) nD, _, upd_same, by rw [List.length_append, ly]; rfl, ?_⟩
    rw [take_succ hp, List.map_append]
    refine (py.same bt.hide).append (.cons ⟨r, rfl, ?_⟩ .nil)
    rw [hide_ne rD, upd_ne rD]
    exact upd_same
  · rintro H1 ⟨s1, ys, hD, ly, py⟩
    have lps : xs.length = ps.length := PairsAt.len hP
    rw [lps, List.take_length] at py
    obtain ⟨ks, e1, e2, e3⟩ := pairs_ksOW (py.same (hide_sub D H1))
    have lk : ks.length < 64 := by
      have z := congrArg List.length e1
      rw [List.length_map] at z
      omega
    refine ⟨D, ks, rfl, by rw [← e1]; exact SqL.of hD, fun p hp => SqT.of (e3 p hp), lk, fun a L na sub sup => ?_⟩
    have form : ∀ p ∈ ks, ∃ r ∈ ps.map norm, p.2 = [(r.1 : Int), (r.2 : Int)] := fun p hp => by
      have z : p.2 ∈ ks.map (·.2) := List.mem_map.mpr ⟨p, hp, rfl⟩
      rw [e2] at z
      obtain ⟨r, h1, h2⟩ := List.mem_map.mp z
      exact ⟨r, h1, h2.symm⟩
    have small : ∀ r ∈ ps.map norm, r.1 < r.2 ∧ r.2 < n := fun r hr => by
      obtain ⟨p, hp, rfl⟩ := List.mem_map.mp hr
      obtain ⟨h1, h2, h3⟩ := hps p hp
      show min p.1 p.2 < max p.1 p.2 ∧ max p.1 p.2 < n
      omega
    refine ⟨a, L, 2, 9, rfl, upd_same, fun p hp => Same.tup (same_new na _) (SqT.of (e3 p (sub p hp))), by decide, fun p hp => ?_, fun L' p perm nd few up np => ?_⟩
    · obtain ⟨r, hr, e⟩ := form p (sub p hp)
      have z := small r hr
      rw [e]
      refine ⟨rfl, fun m hm => ?_⟩
      rcases List.mem_cons.mp hm with rfl | hm
      · omega
      · have := List.mem_singleton.mp hm
        omega
    refine ⟨p, _, rfl, .inl ⟨SqL.of upd_same, fun e ne => ?_⟩⟩
    refine ⟨(by show 2 ≤ sizeLine; decide), fun t nt => ?_⟩
    have m' : ∀ p ∈ L', p ∈ ks := fun p hp => sub p (perm.mem_iff.mp hp)
    have s3 := s1.trans ((same_new na (SetTO P w a L)).trans ((same_new np (.lst (L'.map fun q => V.ref q.1))).trans ((same_new ne (.tup (L'.map fun q => V.ref q.1))).trans (same_new nt (.tup [.int (n : Int), .ref e])))))
    have s4 : Same H1 _ := (same_new na (SetTO P w a L)).trans ((same_new np (.lst (L'.map fun q => V.ref q.1))).trans ((same_new ne (.tup (L'.map fun q => V.ref q.1))).trans (same_new nt (.tup [.int (n : Int), .ref e]))))
    have back : ∀ p ∈ L', p.2 = [((toE p.2).1 : Int), ((toE p.2).2 : Int)] ∧ toE p.2 ∈ ps.map norm := fun p hp => by
      obtain ⟨r, hr, e⟩ := form p (m' p hp)
      rw [e, toE_of]
      exact ⟨rfl, hr⟩
    refine q (.ref t) (L'.map fun p => toE p.2) _ s3 ⟨t, e, _, rfl, upd_same, (same_new nt _) _ _ upd_same, ?_⟩ ⟨n9, ?_, ?_⟩ ?_
    · exact ks_pairsOW (fun p hp => s4 _ _ (e3 p (m' p hp))) fun p hp => (back p hp).1
    · intro r hr
      obtain ⟨p, hp, rfl⟩ := List.mem_map.mp hr
      exact small _ (back p hp).2
    · rw [List.pairwise_map]
      have nd2 := List.pairwise_map.mp nd
      have both := up.and nd2
      refine both.imp_of_mem ?_
      intro p r hp hr ⟨le, neq⟩
      have b1 := (back p hp).1
      have b2 := (back r hr).1
      have z1 := small _ (back p hp).2
      have z2 := small _ (back r hr).2
      rw [b1, b2] at le neq
      have c1 : TS.code 9 [((toE p.2).1 : Int), ((toE p.2).2 : Int)] = ((toE p.2).1 : Int) * 9 + ((toE p.2).2 : Int) := by simp [TS.code]
      have c2 : TS.code 9 [((toE r.2).1 : Int), ((toE r.2).2 : Int)] = ((toE r.2).1 : Int) * 9 + ((toE r.2).2 : Int) := by simp [TS.code]
      rw [c1, c2] at le
      have ne2 : ¬ ((toE p.2).1 = (toE r.2).1 ∧ (toE p.2).2 = (toE r.2).2) := fun ⟨x, y⟩ => neq (by rw [x, y])
      show (toE p.2).1 < (toE r.2).1 ∨ ((toE p.2).1 = (toE r.2).1 ∧ (toE p.2).2 < (toE r.2).2)
      omega
    · intro r
      constructor
      · intro hr
        obtain ⟨p, hp, rfl⟩ := List.mem_map.mp hr
        exact (back p hp).2
      · intro hr
        have z : [(r.1 : Int), (r.2 : Int)] ∈ ks.map (·.2) := by
          rw [e2]
          exact List.mem_map.mpr ⟨r, hr, rfl⟩
        obtain ⟨p, hp, ep⟩ := List.mem_map.mp z
        have z2 := sup p hp
        obtain ⟨p2, hp2, ep2⟩ := List.mem_map.mp z2
        refine List.mem_map.mpr ⟨p2, perm.mem_iff.mpr hp2, ?_⟩
        show toE p2.2 = r
        rw [show p2.2 = [(r.1 : Int), (r.2 : Int)] from ep2.trans ep, toE_of]
end
end My

set_option maxHeartbeats 4000000
namespace My
open PySem PySem.Spec PyProof.Rows L2
abbrev sTurned : Stmt := top 28
theorem scTurned : FnScope ["graph", "n", "edges", "found", "u", "v"] ["graph"] (defScope sTurned) := ⟨rfl, rfl, rfl, by decide +kernel, rfl, by decide +kernel, by decide +kernel⟩
def spTurned (K : PySem.W.Frag) : Sp := fun vs H Q _ => ∃ (x : V) (n : Nat) (es : List E2), vs = [x] ∧ GraphAt K H x n es ∧ n ≤ 9 ∧ ∀ (y : V) (H' : Hp), Same H H' → GraphT H' y n (leftP n es) → Q y H'
section
variable {P : Program} {w : World} {K : PySem.W.Frag} {mg : Str → Option Value} {base : Heap} {f : Addr} {fd : FuncData}
theorem ok_turned (F : L2.Fun K "_law_turned" "_law_turned" sTurned f fd) (mr : mg "range" = none) (mt : mg "tuple" = none) : FnOk P w K mg base CX0 1 f fd ["graph"] (spTurned K) := by
  refine F.ok scTurned (fun vs H Q E h => ?_) (fun cdv A outer s H vs Q E hr h => ?_)
  · obtain ⟨x, n, es, rfl, _⟩ := h
    rfl
  obtain ⟨x, n, es, rfl, ⟨t, e, xs, rfl, ht, he, hes⟩, n9, q⟩ := h
  refine ⟨_, pss_cons (ps_asg (pv 0) (pg_tup (by rfl) (pgs_cons (pg_name (i := 1) scTurned.nd rfl (.inl rfl)) (pgs_cons (pg_name (i := 2) scTurned.nd rfl (.inr rfl)) pgs_nil))))
    (pss_cons (ps_set (i := 3) scTurned.nd rfl (.inl rfl) (pe_lst pa_nil))
    (pss_cons (ps_for PassesOwn.never rfl (pi_range1 rfl mr (pa_cons (pv 1) pa_nil)) (pg_name (i := 4) scTurned.nd rfl (.inr rfl))
      (pss_one (ps_set (i := 3) scTurned.nd rfl (.inl rfl) (pe_op op_cat (pv 3) (pe_lc (own := [("v", 5)]) (g := gName 5) rfl scTurned.nd (pi_range2 (by rfl) mr (pa_cons (pe_op op_add (pv 4) pe_int) (pa_cons (pv 1) pa_nil)))
        (blkOk_by (N := ["graph", "n", "edges", "found", "u", "v"]) (sc := defScope sTurned) (by decide +kernel)) (fun _ _ _ _ _ => pg_name (i := 5) scTurned.nd rfl (Or.inl rfl))
        (fun _ _ _ _ _ => pts_one (pt_cmpR (r := rInP not K) (op_notInP hr.units) (pe_tup (pa_cons (pv 4) (pa_cons (pv 5) pa_nil))) (pv 2) (by rfl)))
        (fun _ _ _ _ _ => pe_tup (pa_cons (pv 4) (pa_cons (pv 5) pa_nil))))))))
    (pss_one (ps_ret (pe_tup (pa_cons (pv 1) (pa_cons (pe_callTy call_tuple_of (by rfl) mt (by decide +kernel) (pa_cons (pv 3) pa_nil)) pa_nil))))))), ?_⟩
  refine ⟨_, rfl, t, _, rfl, ht, rfl, _, _, rfl, _, _, rfl, rfl, (by show 0 ≤ sizeLine; decide), fun a na => ?_⟩
  refine ⟨_, rfl, (n : Int), rfl, by omega, by omega, for_range (lo := 0) (n := ((n : Nat) : Int).toNat) (fun i σ H' => ∃ (b : Addr) (ys : List V) (s4 : Option V), σ = [some (.ref t), some (.int (n : Int)), some (.ref e), some (.ref b), s4, none] ∧ Same H H' ∧ H' b = some (.lst ys) ∧
      PairsT H' ys ((List.range i).flatMap fun u => (rowP n u).filter fun p => decide (p ∉ es))) ⟨a, [], none, rfl, same_new na _, upd_same, .nil⟩ ?_ ?_⟩
  · rintro u σ H1 lu ⟨b, ys, s4, rfl, s1, hb, py⟩
    rw [Int.zero_add]
    have un : u < n := by omega
    refine ⟨_, rfl, _, rfl, _, _, rfl, rfl, _, rfl, _, _, rfl, ⟨by omega, by omega, by omega, by omega⟩, fun D nD => lc_range (lo := (u : Int) + 1) (n := ((n : Int) - ((u : Int) + 1)).toNat)
      (fun k H2 => Same H1 H2 ∧ ∃ zs, H2 D = some (.lst zs) ∧ zs.length ≤ k ∧ PairsT (hide D H2) zs (((List.range k).map fun j => (u, u + 1 + j)).filter fun p => decide (p ∉ es))) ⟨same_new nD _, [], upd_same, Nat.le_refl _, .nil⟩ ?_ ?_⟩
    · rintro k H2 lk ⟨s2, zs, hD, lz, pz⟩
      rw [show ((u : Int) + 1 + (k : Int)) = ((u + 1 + k : Nat) : Int) by omega]
      refine ⟨rfl, ?_⟩
      refine ⟨_, rfl, _, rfl, (by show 2 ≤ sizeLine; decide), fun r nr => ?_⟩
      have s3 := same_new nr (.tup [.int ((u : Nat) : Int), .int ((u + 1 + k : Nat) : Int)])
      have sH := (s1.trans s2).trans s3
      refine ⟨_, rfl, (u, u + 1 + k), e, xs, es, ⟨r, rfl, SqT.of upd_same⟩, rfl, Same.tup sH he, hes.same sH, _, rfl, iteB (fun c => ?_) (fun c => ?_)⟩
      · have c' : (u, u + 1 + k) ∉ es := by simpa using c
        refine ⟨_, rfl, _, rfl, (by show 2 ≤ sizeLine; decide), fun r2 nr2 => ?_⟩
        have s4 := same_new nr2 (.tup [.int ((u : Nat) : Int), .int ((u + 1 + k : Nat) : Int)])
        have hD4 := s4 _ _ (s3 _ _ hD)
        have ne2 : r2 ≠ D := fun z => by
          rw [z] at nr2
          rw [s3 _ _ hD] at nr2
          cases nr2
        refine ⟨zs, hD4, small1000 (by omega), same_put ((s2.trans s3).trans s4) nD, _, upd_same, by rw [List.length_append]; show zs.length + 1 ≤ k + 1; omega, ?_⟩
        rw [List.range_succ, List.map_append, List.filter_append]
        have bt : But D H2 _ := (But.new nr).trans ((But.new (o := .tup [.int ((u : Nat) : Int), .int ((u + 1 + k : Nat) : Int)]) nr2).trans (.put (o := .lst (zs ++ [.ref r2]))))
        refine (pz.same bt.hide).append ?_
        show PairsT _ [V.ref r2] ([(u, u + 1 + k)].filter fun p => decide (p ∉ es))
        rw [List.filter_cons_of_pos (by simpa using c'), List.filter_nil]
        refine .cons ⟨r2, rfl, ?_⟩ .nil
        rw [hide_ne ne2, upd_ne ne2]
        exact upd_same
      · have c' : (u, u + 1 + k) ∈ es := by simpa using c
        refine ⟨s2.trans s3, zs, s3 _ _ hD, by omega, ?_⟩
        rw [List.range_succ, List.map_append, List.filter_append]
        show PairsT _ zs (_ ++ [(u, u + 1 + k)].filter fun p => decide (p ∉ es))
        rw [List.filter_cons_of_neg (by simpa using c'), List.filter_nil, List.append_nil]
        exact pz.same (But.new nr).hide
    · rintro H2 ⟨s2, zs, hD, lz, pz⟩
      have le1 : ys.length ≤ 81 := by
        rw [PairsT.len py]
        have z := List.length_filter_le (fun p => decide (p ∉ es)) ((List.range u).flatMap (rowP n))
        rw [List.filter_flatMap] at z
        exact Nat.le_trans z (rows_few u (by omega) n n9)
      refine ⟨b, D, ys, zs, rfl, rfl, s2 _ _ hb, hD, small (by omega), fun c nc => ?_⟩
      have s3 := same_new nc (.lst (ys ++ zs))
      refine ⟨c, _, _, rfl, (s1.trans s2).trans s3, upd_same, ?_⟩
      rw [List.range_succ, List.flatMap_append]
      refine (py.same (s2.trans s3)).append ?_
      have ek : ((n : Int) - ((u : Int) + 1)).toNat = n - (u + 1) := by omega
      rw [ek] at pz
      show PairsT _ zs ([u].flatMap fun u => (rowP n u).filter fun p => decide (p ∉ es))
      rw [List.flatMap_cons, List.flatMap_nil, List.append_nil]
      exact (pz.same (hide_sub D H2)).same s3
  · rintro σ H1 ⟨b, ys, s4, rfl, s1, hb, py⟩
    rw [show ((n : Nat) : Int).toNat = n by omega, ← leftP_eq] at py
    refine ⟨_, rfl, _, rfl, b, _, rfl, .inl ⟨SqL.of hb, fun l nl => ⟨(by show 2 ≤ sizeLine; decide), fun r nr => ?_⟩⟩⟩
    have s2 := same_new nl (.tup ys)
    have s3 := same_new nr (.tup [.int (n : Int), .ref l])
    exact q (.ref r) _ ((s1.trans s2).trans s3) ⟨r, l, ys, rfl, upd_same, s3 _ _ upd_same, (py.same s2).same s3⟩
end
end My

set_option maxHeartbeats 4000000
namespace My
open PySem PySem.Spec PyProof.Rows L2
/-- one more pair in a list -/
theorem push_pair {K : PySem.W.Frag} {H : Hp} {D r : Addr} {zs : List V} {ps : List E2} (p : E2) (hD : H D = some (.lst zs)) (nr : H r = none) (h : PairsAt K H zs ps) :
    TS H (upd (upd H r (.tup [.int (p.1 : Int), .int (p.2 : Int)])) D (.lst (zs ++ [.ref r]))) ∧ PairsAt K (upd (upd H r (.tup [.int (p.1 : Int), .int (p.2 : Int)])) D (.lst (zs ++ [.ref r]))) (zs ++ [.ref r]) (ps ++ [p]) := by
  have s1 := same_new nr (.tup [.int (p.1 : Int), .int (p.2 : Int)])
  have s2 : TS (upd H r (.tup [.int (p.1 : Int), .int (p.2 : Int)])) (upd (upd H r (.tup [.int (p.1 : Int), .int (p.2 : Int)])) D (.lst (zs ++ [.ref r]))) := TS.put (s1 _ _ hD)
  exact ⟨(TS.of s1).trans s2, (h.ts ((TS.of s1).trans s2)).append (.cons ⟨r, rfl, s2.tup (SqT.of upd_same)⟩ .nil)⟩
abbrev sRound : Stmt := top 29
abbrev sCalled : Stmt := top 30
abbrev sOrder : Stmt := top 31
theorem scRound : FnScope ["many", "k"] ["many"] (defScope sRound) := ⟨rfl, rfl, rfl, by decide +kernel, rfl, by decide +kernel, by decide +kernel⟩
theorem scCalled : FnScope ["graph", "names", "u", "v"] ["graph", "names"] (defScope sCalled) := ⟨rfl, rfl, rfl, by decide +kernel, rfl, by decide +kernel, by decide +kernel⟩
theorem scOrder : FnScope ["well", "many", "left", "found", "turn"] ["well", "many"] (defScope sOrder) := ⟨rfl, rfl, rfl, by decide +kernel, rfl, by decide +kernel, by decide +kernel⟩
def spRound (K : PySem.W.Frag) : Sp := fun vs H Q _ => ∃ m : Nat, vs = [.int (m : Int)] ∧ 2 ≤ m ∧ m ≤ 9 ∧ ∀ (x : V) (es : List E2) (H' : Hp), Same H H' → GraphT H' x m es → Good m es → Q x H'
def nums (ns : List Nat) : List V := ns.map fun (k : Nat) => V.int ((k : Nat) : Int)
structure Perm (n : Nat) (ns : List Nat) : Prop where
  len : ns.length = n
  nd : ns.Nodup
  lt : ∀ k ∈ ns, k < n
def spCalled (K : PySem.W.Frag) : Sp := fun vs H Q _ => ∃ (x : V) (t : Addr) (n : Nat) (es : List E2) (ns : List Nat), vs = [x, .ref t] ∧ GraphAt K H x n es ∧ Good n es ∧ SqT K H t (nums ns) ∧ Perm n ns ∧ ∀ (y : V) (es' : List E2) (H' : Hp), Same H H' → GraphAt K H' y n es' → Good n es' → Q y H'
def spOrder (K : PySem.W.Frag) : Sp := fun vs H Q _ => ∃ (p : Addr) (n : Nat), vs = [.ref p, .int (n : Int)] ∧ Wl H p ∧ n ≤ 9 ∧ ∀ (t : Addr) (ns : List Nat) (H' : Hp), But p H H' → Wl H' p → SqT K H' t (nums ns) → Perm n ns → Q (.ref t) H'
section
variable {P : Program} {w : World} {K : PySem.W.Frag} {mg : Str → Option Value} {base : Heap} {f fD fP : Addr} {fd dD dP : FuncData}
theorem ok_round (F : L2.Fun K "_law_round" "_law_round" sRound f fd) (GP : FnOk P w K mg base CX0 1 fP dP ["n", "pairs"] (spOfPairs K)) (bP : L2.Binds K dP ["n", "pairs"] []) (kP : PySem.W.keepIn K (.ref fP) = true) (mP : mg "_law_of_pairs" = some (.ref fP)) (mr : mg "range" = none) (mi : mg "int" = none) :
    FnOk P w K mg base CX0 2 f fd ["many"] (spRound K) := by
  refine F.ok scRound (fun vs H Q E h => ?_) (fun cdv A outer s H vs Q E hr h => ?_)
  · obtain ⟨m, rfl, _⟩ := h
    rfl
  obtain ⟨m, rfl, m2, m9, q⟩ := h
  refine ⟨_, pss_one (ps_ret (pe_call GP hr (by rfl) mP kP bP .nil pass0 (pa_cons (pv 0) (pa_cons (pe_lc (own := [("k", 1)]) (g := gName 1) (tt := tYes) rfl scRound.nd (pi_range1 rfl mr (pa_cons (pv 0) pa_nil))
    (blkOk_by (N := ["many", "k"]) (sc := defScope sRound) (by decide +kernel)) (fun _ _ _ _ _ => pg_name (i := 1) scRound.nd rfl (Or.inl rfl)) (fun _ _ _ _ _ => pts_nil)
    (fun _ _ _ _ _ => pe_tup (pa_cons (pv 1) (pa_cons (pe_op op_mod (pe_callTy call_int1 (by rfl) mi (by decide +kernel) (pa_cons (pe_op op_add (pv 1) pe_int) pa_nil)) (pv 0)) pa_nil)))) pa_nil)))), ?_⟩
  refine ⟨_, rfl, _, rfl, (m : Int), rfl, by omega, by omega, fun D nD => lc_range (lo := 0) (n := ((m : Nat) : Int).toNat)
      (fun k H2 => Same H H2 ∧ ∃ zs, H2 D = some (.lst zs) ∧ zs.length = k ∧ PairsAt K H2 zs ((List.range k).map fun j => (j, (j + 1) % m))) ⟨same_new nD _, [], upd_same, rfl, .nil⟩ ?_ ?_⟩
  · rintro k H2 lk ⟨s2, zs, hD, lz, pz⟩
    rw [Int.zero_add]
    have km : k < m := by omega
    refine ⟨rfl, ?_⟩
    refine ⟨_, rfl, _, rfl, _, _, rfl, rfl, .inl ⟨_, rfl, _, rfl, _, _, rfl, rfl, (show (0 : Int) < (m : Int) by omega), (by show 2 ≤ sizeLine; decide), fun r nr => ?_⟩⟩
    have e : ((k : Int) + 1) % (m : Int) = (((k + 1) % m : Nat) : Int) := by
      rw [Int.natCast_emod]
      rfl
    dsimp only
    rw [e]
    obtain ⟨t1, p1⟩ := push_pair (k, (k + 1) % m) hD nr pz
    refine ⟨zs, (same_new nr _) _ _ hD, small1000 (by omega), same_put (s2.trans (same_new nr _)) nD, _, upd_same, by rw [List.length_append]; show zs.length + 1 = k + 1; omega, ?_⟩
    rw [List.range_succ, List.map_append]
    exact p1
  · rintro H2 ⟨s2, zs, hD, lz, pz⟩
    rw [show ((m : Nat) : Int).toNat = m by omega] at lz pz
    refine ⟨m, D, zs, _, rfl, m9, SqL.of hD, pz, by omega, fun p hp => ?_, fun x es H' s g good _ => q x es H' (s2.trans s) g good⟩
    obtain ⟨j, hj, rfl⟩ := List.mem_map.mp hp
    have hj := List.mem_range.mp hj
    show j ≠ (j + 1) % m ∧ j < m ∧ (j + 1) % m < m
    refine ⟨?_, hj, Nat.mod_lt _ (by omega)⟩
    by_cases e : j + 1 = m
    · rw [e, Nat.mod_self]
      omega
    · rw [Nat.mod_eq_of_lt (by omega)]
      omega
theorem perm_at {n : Nat} {ns : List Nat} (h : Perm n ns) {i : Nat} (hi : i < n) : ∃ k, ns[i]? = some k ∧ k < n := by
  have l : i < ns.length := by rw [h.len]; exact hi
  exact ⟨ns[i], List.getElem?_eq_getElem l, h.lt _ (List.getElem_mem l)⟩
theorem perm_ne {n : Nat} {ns : List Nat} (h : Perm n ns) {i j a b : Nat} (hi : ns[i]? = some a) (hj : ns[j]? = some b) (ne : i ≠ j) : a ≠ b := by
  obtain ⟨l1, e1⟩ := List.getElem?_eq_some_iff.mp hi
  obtain ⟨l2, e2⟩ := List.getElem?_eq_some_iff.mp hj
  rcases Nat.lt_or_gt_of_ne ne with l | l
  · have z := List.pairwise_iff_getElem.mp h.nd i j l1 l2 l
    rw [e1, e2] at z
    exact z
  · have z := List.pairwise_iff_getElem.mp h.nd j i l2 l1 l
    rw [e1, e2] at z
    exact Ne.symm z
theorem ok_called (F : L2.Fun K "_law_called" "_law_called" sCalled f fd) (GP : FnOk P w K mg base CX0 1 fP dP ["n", "pairs"] (spOfPairs K)) (bP : L2.Binds K dP ["n", "pairs"] []) (kP : PySem.W.keepIn K (.ref fP) = true) (mP : mg "_law_of_pairs" = some (.ref fP)) :
    FnOk P w K mg base CX0 2 f fd ["graph", "names"] (spCalled K) := by
  refine F.ok scCalled (fun vs H Q E h => ?_) (fun cdv A outer s H vs Q E hr h => ?_)
  · obtain ⟨x, t, n, es, ns, rfl, _⟩ := h
    rfl
  obtain ⟨x, t, n, es, ns, rfl, ⟨g, e, xs, rfl, hg, he, hes⟩, good, ht, hn, q⟩ := h
  refine ⟨_, pss_one (ps_ret (pe_call GP hr (by rfl) mP kP bP .nil pass0 (pa_cons (pe_ix ix_tup (pv 0) pe_int (fun _ _ => rfl)) (pa_cons (pe_lc (own := [("u", 2), ("v", 3)]) (g := gTup K 2 (gCons (gName 2) (gCons (gName 3) gNil))) (tt := tYes) rfl scCalled.nd (pi_tup (pe_ix ix_tup (pv 0) pe_int (fun _ _ => rfl)))
    (blkOk_by (N := ["graph", "names", "u", "v"]) (sc := defScope sCalled) (by decide +kernel)) (fun _ _ _ _ _ => pg_tup (by rfl) (pgs_cons (pg_name (i := 2) scCalled.nd rfl (Or.inl rfl)) (pgs_cons (pg_name (i := 3) scCalled.nd rfl (Or.inl rfl)) pgs_nil))) (fun _ _ _ _ _ => pts_nil)
    (fun _ _ _ _ _ => pe_tup (pa_cons (pe_ix (r := rIxT K) ix_tup (pv 1) (pv 2) (fun _ _ => rfl)) (pa_cons (pe_ix (r := rIxT K) ix_tup (pv 1) (pv 3) (fun _ _ => rfl)) pa_nil)))) pa_nil)))), ?_⟩
  refine ⟨_, rfl, g, _, _, _, rfl, rfl, hg, rfl, ?_⟩
  refine ⟨_, rfl, g, _, _, _, rfl, rfl, hg, rfl, e, rfl, ⟨_, he⟩, fun D nD => lc_tup (K := K) (a := e) (xs := xs)
      (fun i H2 => Same H H2 ∧ ∃ zs ps, H2 D = some (.lst zs) ∧ zs.length = i ∧ PairsAt K H2 zs ps ∧ ∀ p ∈ ps, p.1 ≠ p.2 ∧ p.1 < n ∧ p.2 < n) ⟨same_new nD _, [], [], upd_same, rfl, .nil, fun _ z => nomatch z⟩ ?_ ?_ ?_⟩
  · rintro i H1 _ ⟨s1, _⟩
    exact Same.tup s1 he
  · rintro i x H2 hi ⟨s2, zs, ps, hD, lz, pz, pp⟩
    obtain ⟨p, hp, t1, rfl, ht1⟩ := PairsAt.get (hes.same s2) hi
    obtain ⟨l1, l2⟩ := good.lt p (List.mem_of_getElem? hp)
    obtain ⟨a, ha, an⟩ := perm_at hn (show p.1 < n by omega)
    obtain ⟨b, hb, bn⟩ := perm_at hn l2
    have ab : a ≠ b := perm_ne hn ha hb (by omega)
    refine ⟨t1, _, rfl, ht1, rfl, _, _, rfl, _, _, rfl, rfl, ?_⟩
    refine ⟨rfl, ?_⟩
    have ht2 := Same.tup s2 ht
    refine ⟨_, rfl, _, rfl, t, _, _, .int (a : Int), rfl, rfl, ht2, atI_nat (by unfold nums; rw [List.getElem?_map, ha]; rfl), _, rfl, _, rfl, t, _, _, .int (b : Int), rfl, rfl, ht2, atI_nat (by unfold nums; rw [List.getElem?_map, hb]; rfl), (by show 2 ≤ sizeLine; decide), fun r nr => ?_⟩
    obtain ⟨t1, p1⟩ := push_pair (a, b) hD nr pz
    have li : i < xs.length := (List.getElem?_eq_some_iff.mp hi).1
    have l3 : xs.length ≤ 36 := by rw [PairsAt.len hes]; exact good.few
    refine ⟨zs, (same_new nr _) _ _ hD, small1000 (by omega), same_put (s2.trans (same_new nr _)) nD, _, _, upd_same, by rw [List.length_append]; show zs.length + 1 = i + 1; omega, p1, fun r hr => ?_⟩
    rcases List.mem_append.mp hr with hr | hr
    · exact pp r hr
    · rw [List.mem_singleton.mp hr]
      exact ⟨ab, an, bn⟩
  · rintro H2 ⟨s2, zs, ps, hD, lz, pz, pp⟩
    have l3 : xs.length ≤ 36 := by rw [PairsAt.len hes]; exact good.few
    exact ⟨n, D, zs, ps, rfl, good.n9, SqL.of hD, pz, by omega, pp, fun x es H' s g good _ => q x es H' (s2.trans s) g.at good⟩
theorem nums_len (ns : List Nat) : (nums ns).length = ns.length := List.length_map _
theorem nums_get {ns : List Nat} {k : Nat} (h : k < ns.length) : (nums ns)[k]? = some (.int ((ns[k] : Nat) : Int)) := by
  unfold nums
  rw [List.getElem?_map, List.getElem?_eq_getElem h]
  rfl
theorem nums_erase : ∀ (ns : List Nat) (k : Nat), (nums ns).eraseIdx k = nums (ns.eraseIdx k)
  | [], _ => rfl
  | _ :: _, 0 => rfl
  | a :: ns, k + 1 => congrArg (V.int ((a : Nat) : Int) :: ·) (nums_erase ns k)
theorem rgV_nums (n : Nat) : rgV 0 (n : Int) = nums (List.range n) := by
  unfold rgV nums
  rw [show ((n : Int) - 0).toNat = n by omega]
  refine List.map_congr_left fun i _ => ?_
  rw [Int.zero_add]
theorem moved {fs ls : List Nat} {k : Nat} (h : k < ls.length) : (fs ++ [ls[k]] ++ ls.eraseIdx k).Perm (fs ++ ls) := by
  rw [List.append_assoc]
  refine List.Perm.append_left fs ?_
  have e : ls = ls.take k ++ ls[k] :: ls.drop (k + 1) := by
    rw [List.getElem_cons_drop, List.take_append_drop]
  have e2 : ls.eraseIdx k = ls.take k ++ ls.drop (k + 1) := List.eraseIdx_eq_take_drop_succ ..
  rw [e2]
  refine (List.perm_middle (a := ls[k]) (l₁ := ls.take k) (l₂ := ls.drop (k + 1))).symm.trans ?_
  rw [← e]
theorem ok_order (F : L2.Fun K "_law_order" "_law_order" sOrder f fd) (GD : FnOk P w K mg base CX0 1 fD dD ["well", "many"] spDraw) (bD : L2.Binds K dD ["well", "many"] []) (kD : PySem.W.keepIn K (.ref fD) = true) (mD : mg "_law_draw" = some (.ref fD)) (ml : mg "len" = none) (mr : mg "range" = none) (mli : mg "list" = none) (mt : mg "tuple" = none) :
    FnOk P w K mg base CX0 2 f fd ["well", "many"] (spOrder K) := by
  refine F.ok scOrder (fun vs H Q E h => ?_) (fun cdv A outer s H vs Q E hr h => ?_)
  · obtain ⟨p, n, rfl, _⟩ := h
    rfl
  obtain ⟨p, n, rfl, hW, n9, q⟩ := h
  refine ⟨_, pss_cons (ps_par (by rfl) scOrder.nd (i := 2) (j := 3) rfl rfl (by decide) rfl rfl (pa_cons (pe_listRg rfl rfl mli (prg_1 rfl mr (pv 1))) (pa_cons (pe_lst pa_nil) pa_nil)) (by rfl))
    (pss_cons (ps_for PassesOwn.never rfl (pi_range1 rfl mr (pa_cons (pv 1) pa_nil)) (pg_name (i := 4) scOrder.nd rfl (.inl rfl))
      (pss_one (ps_expr (pe_bm PySem.F.plainAttrs_list PySem.F.slot_list_append PySem.F.type_list_append mt_append (pv 3) (pa_cons
        (pe_bm PySem.F.plainAttrs_list PySem.F.slot_list_pop PySem.F.type_list_pop mt_popAt (pv 2) (pa_cons (pe_call GD hr (by rfl) mD kD bD .nil pass0 (pa_cons (pv 0) (pa_cons (pe_callB call_len_seq (by rfl) ml PySem.boot_len (pa_cons (pv 2) pa_nil)) pa_nil))) pa_nil)) pa_nil)))))
    (pss_one (ps_ret (pe_callTy call_tuple_of (by rfl) mt (by decide +kernel) (pa_cons (pv 3) pa_nil))))), ?_⟩
  refine ⟨_, rfl, _, rfl, RgOk.of_le (by omega) (by omega) (by omega) (by omega), fun l nl => ?_⟩
  rw [rgV_nums]
  refine ⟨(by show 0 ≤ sizeLine; decide), fun b nb => ?_⟩
  have s1 := (same_new nl (.lst (nums (List.range n)))).trans (same_new nb (.lst []))
  have lp : l ≠ p := hW.ne nl
  have nb0 : H b = none := (same_new nl _).free nb
  have bp : b ≠ p := hW.ne nb0
  have bl : b ≠ l := fun e => by
    rw [e, upd_same] at nb
    cases nb
  refine ⟨_, _, rfl, ?_⟩
  refine ⟨_, rfl, (n : Int), rfl, by omega, by omega, for_range (lo := 0) (n := ((n : Nat) : Int).toNat) (fun i σ H' => ∃ (ls fs : List Nat) (s4 : Option V), σ = [some (.ref p), some (.int (n : Int)), some (.ref l), some (.ref b), s4] ∧ But p H H' ∧ Wl H' p ∧ H' l = some (.lst (nums ls)) ∧ H' b = some (.lst (nums fs)) ∧
      fs.length = i ∧ List.Perm (fs ++ ls) (List.range n)) ⟨List.range n, [], none, rfl, But.of s1, hW.same s1, (same_new nb _) _ _ upd_same, upd_same, rfl, .refl _⟩ ?_ ?_⟩
  · rintro i σ H1 li ⟨ls, fs, s4, rfl, b1, w1, hl, hb, lf, pm⟩
    have ll : fs.length + ls.length = n := by
      have := pm.length_eq
      rw [List.length_append, List.length_range] at this
      exact this
    refine ⟨_, rfl, .inl ⟨rfl, _, SqL.of hb⟩, ?_⟩
    refine ⟨_, rfl, .inl ⟨rfl, _, SqL.of hl⟩, ?_⟩
    have e1 : (nums ls).length = ls.length := nums_len ls
    refine ⟨_, rfl, _, rfl, l, _, rfl, .inl (SqL.of hl), p, _, rfl, w1, by omega, by omega, fun r H2 r0 r1 b2 w2 => ?_⟩
    obtain ⟨k, rfl⟩ : ∃ k : Nat, r = (k : Int) := ⟨r.toNat, by omega⟩
    have hk : k < ls.length := by omega
    have hl2 := b2 _ _ lp hl
    have hb2 := b2 _ _ bp hb
    refine ⟨l, nums ls, _, k, _, rfl, rfl, hl2, by omega, by omega, ?_, nums_get hk, ?_⟩
    · rw [show seqIndex? (k : Int) (nums ls).length = some ((k : Int)).toNat by unfold seqIndex?; rw [if_neg (show ¬ (k : Int) < 0 by omega)]; rw [if_pos (by simp; omega)]]
      rfl
    rw [nums_erase]
    refine ⟨b, nums fs, _, rfl, rfl, by rw [upd_ne bl]; exact hb2, small1000 (by rw [nums_len]; omega), ?_⟩
    have e2 : nums fs ++ [V.int ((ls[k] : Nat) : Int)] = nums (fs ++ [ls[k]]) := by
      unfold nums
      rw [List.map_append]
      rfl
    rw [e2]
    refine ⟨ls.eraseIdx k, fs ++ [ls[k]], _, rfl, but_put (but_put (b1.trans b2) nl) nb0, (w2.put lp).put bp, by rw [upd_ne (Ne.symm bl)]; exact upd_same, upd_same, by rw [List.length_append]; show fs.length + 1 = i + 1; omega, (moved hk).trans pm⟩
  · rintro σ H1 ⟨ls, fs, s4, rfl, b1, w1, hl, hb, lf, pm⟩
    rw [show ((n : Nat) : Int).toNat = n by omega] at lf
    have ll : fs.length + ls.length = n := by
      have := pm.length_eq
      rw [List.length_append, List.length_range] at this
      exact this
    have l0 : ls = [] := List.eq_nil_of_length_eq_zero (by omega)
    rw [l0, List.append_nil] at pm
    refine ⟨_, rfl, b, _, rfl, .inl ⟨SqL.of hb, fun t nt => ?_⟩⟩
    exact q t fs _ (b1.trans (But.new nt)) (w1.same (same_new nt _)) (SqT.of upd_same) ⟨lf, pm.nodup_iff.mpr List.nodup_range, fun k hk => List.mem_range.mp (pm.mem_iff.mp hk)⟩
end
end My

set_option maxHeartbeats 4000000
namespace My
open PySem PySem.Spec PyProof.Rows L2
abbrev sRandom : Stmt := top 32
abbrev sSides : Stmt := top 33
abbrev sBeside : Stmt := top 34
abbrev sFolded : Stmt := top 35
theorem scRandom : FnScope ["well", "n", "rare", "is_dense", "found", "u", "v"] ["well", "n"] (defScope sRandom) := ⟨rfl, rfl, rfl, by decide +kernel, rfl, by decide +kernel, by decide +kernel⟩
theorem scSides : FnScope ["well", "n", "found", "half", "u", "v"] ["well", "n"] (defScope sSides) := ⟨rfl, rfl, rfl, by decide +kernel, rfl, by decide +kernel, by decide +kernel⟩
theorem scBeside : FnScope ["one", "two", "is_joined", "u", "n", "far", "v"] ["one", "two", "is_joined"] (defScope sBeside) := ⟨rfl, rfl, rfl, by decide +kernel, rfl, by decide +kernel, by decide +kernel⟩
theorem scFolded : FnScope ["well", "n", "found", "turn"] ["well", "n"] (defScope sFolded) := ⟨rfl, rfl, rfl, by decide +kernel, rfl, by decide +kernel, by decide +kernel⟩
/-- what a drawn graph of n vertices is -/
def spGr (K : PySem.W.Frag) (n : Nat) (p : Addr) (H : Hp) (Q : VK) : Prop := ∀ (x : V) (es : List E2) (H' : Hp), But p H H' → Wl H' p → GraphAt K H' x n es → Good n es → Q x H'
def spRandom (K : PySem.W.Frag) : Sp := fun vs H Q _ => ∃ (p : Addr) (n : Nat), vs = [.ref p, .int (n : Int)] ∧ Wl H p ∧ n ≤ 9 ∧ spGr K n p H Q
def spBeside (K : PySem.W.Frag) : Sp := fun vs H Q _ => ∃ (x y : V) (n m : Nat) (es fs : List E2) (j : Bool), vs = [x, y, .bl j] ∧ GraphAt K H x n es ∧ Good n es ∧ GraphAt K H y m fs ∧ Good m fs ∧ n + m ≤ 9 ∧ fs.length + n * m ≤ 27 ∧
  ∀ (z : V) (gs : List E2) (H' : Hp), Same H H' → GraphAt K H' z (n + m) gs → Good (n + m) gs → Q z H'
def spFolded (K : PySem.W.Frag) : Sp := fun vs H Q _ => ∃ (p : Addr) (n : Nat), vs = [.ref p, .int (n : Int)] ∧ Wl H p ∧ 1 ≤ n ∧ n ≤ 9 ∧ spGr K n p H Q
theorem upto_pairs {n : Nat} {ps : List E2} {u k : Nat} (hu : u < n) (hk : k ≤ n - (u + 1)) (h : ps.Sublist ((List.range u).flatMap (rowP n) ++ (List.range k).map fun j => (u, u + 1 + j))) : ps.Sublist (allP n) := by
  refine h.trans ?_
  have e1 : allP n = (List.range u).flatMap (rowP n) ++ ((List.range (n - u)).map (u + ·)).flatMap (rowP n) := by
    unfold allP
    rw [← List.flatMap_append]
    congr 1
    have := List.range_add (n := u) (m := n - u)
    rw [show u + (n - u) = n by omega] at this
    exact this
  rw [e1]
  refine List.Sublist.append_left ?_ _
  rw [show n - u = (n - (u + 1)) + 1 by omega, List.range_succ_eq_map, List.map_cons, List.flatMap_cons]
  refine List.Sublist.trans ?_ (List.sublist_append_left ..)
  show ((List.range k).map fun j => (u, u + 1 + j)).Sublist ((List.range (n - (u + 0 + 1))).map fun j => (u + 0, u + 0 + 1 + j))
  rw [Nat.add_zero]
  exact (List.range_sublist.mpr hk).map _
theorem sub_all {n : Nat} {ps : List E2} (n9 : n ≤ 9) (h : ps.Sublist (allP n)) : ps.length ≤ 36 ∧ ∀ q ∈ ps, q.1 ≠ q.2 ∧ q.1 < n ∧ q.2 < n := by
  refine ⟨Nat.le_trans h.length_le (allP_few n n9), fun q hq => ?_⟩
  have z := mem_allP.mp (h.subset hq)
  omega
section
variable {P : Program} {w : World} {K : PySem.W.Frag} {mg : Str → Option Value} {base : Heap} {f fD fP fK fB fU : Addr} {fd dD dP dK dB dU : FuncData}
theorem ok_random (F : L2.Fun K "_law_random" "_law_random" sRandom f fd) (GD : FnOk P w K mg base CX0 1 fD dD ["well", "many"] spDraw) (bD : L2.Binds K dD ["well", "many"] []) (kD : PySem.W.keepIn K (.ref fD) = true) (mD : mg "_law_draw" = some (.ref fD))
    (GP : FnOk P w K mg base CX0 1 fP dP ["n", "pairs"] (spOfPairs K)) (bP : L2.Binds K dP ["n", "pairs"] []) (kP : PySem.W.keepIn K (.ref fP) = true) (mP : mg "_law_of_pairs" = some (.ref fP))
    (GK : FnOk P w K mg base CX0 2 fK dK ["well", "some"] (spPick K)) (bK : L2.Binds K dK ["well", "some"] []) (kK : PySem.W.keepIn K (.ref fK) = true) (mK : mg "_law_pick" = some (.ref fK)) (mr : mg "range" = none) :
    FnOk P w K mg base CX0 3 f fd ["well", "n"] (spRandom K) := by
  refine F.ok scRandom (fun vs H Q E h => ?_) (fun cdv A outer s H vs Q E hr h => ?_)
  · obtain ⟨p, n, rfl, _⟩ := h
    rfl
  obtain ⟨p, n, rfl, hW, n9, q⟩ := h
  refine ⟨_, pss_cons (ps_par3 (by rfl) scRandom.nd (i := 2) (j := 3) (l := 4) rfl rfl rfl (by decide) (by decide) (by decide) rfl rfl rfl (pa_cons (pe_call GK hr (by rfl) mK kK bK .nil pass0 (pa_cons (pv 0) (pa_cons (pe_tup (pa_cons pe_int (pa_cons pe_int (pa_cons pe_int (pa_cons pe_int pa_nil))))) pa_nil)))
        (pa_cons (pe_cmpR op_eq (pe_call GD (hr.mono (by decide)) (by rfl) mD kD bD .nil pass0 (pa_cons (pv 0) (pa_cons pe_int pa_nil))) pe_int (nomark _)) (pa_cons (pe_lst pa_nil) pa_nil))) (by rfl))
    (pss_cons (ps_for PassesOwn.never rfl (pi_range1 rfl mr (pa_cons (pv 1) pa_nil)) (pg_name (i := 5) scRandom.nd rfl (.inl rfl))
      (pss_one (ps_for PassesOwn.never rfl (pi_range2 (by rfl) mr (pa_cons (pe_op op_add (pv 5) pe_int) (pa_cons (pv 1) pa_nil))) (pg_name (i := 6) scRandom.nd rfl (.inl rfl))
        (pss_one (ps_if (pt_cmpR op_ne (pe_cmpR op_eq (pe_call GD (hr.mono (by decide)) (by rfl) mD kD bD .nil pass0 (pa_cons (pv 0) (pa_cons (pv 2) pa_nil))) pe_int (nomark _)) (pv 3) (nomark _))
          (pss_one (ps_expr (pe_bm PySem.F.plainAttrs_list PySem.F.slot_list_append PySem.F.type_list_append mt_append (pv 4) (pa_cons (pe_tup (pa_cons (pv 5) (pa_cons (pv 6) pa_nil))) pa_nil)))) pss_nil)))))
    (pss_one (ps_ret (pe_call GP (hr.mono (by decide)) (by rfl) mP kP bP .nil pass0 (pa_cons (pv 1) (pa_cons (pv 4) pa_nil)))))), ?_⟩
  refine ⟨_, rfl, (by show 4 ≤ sizeLine; decide), fun t nt => ?_⟩
  have s1 := same_new nt (.tup [.int 2, .int 2, .int 3, .int 4])
  have w1 := hW.same s1
  refine ⟨p, t, _, rfl, w1, w1.off (SqT.of upd_same), by decide, by decide, fun i v H2 hi b2 w2 => ?_⟩
  obtain ⟨rare, rfl, r1, r2⟩ : ∃ rare : Int, v = .int rare ∧ 0 < rare ∧ rare < 5 := by
    have m := List.mem_of_getElem? hi
    simp only [List.mem_cons, List.mem_nil_iff, or_false] at m
    rcases m with rfl | rfl | rfl | rfl <;> exact ⟨_, rfl, by decide, by decide⟩
  refine ⟨_, rfl, p, _, rfl, w2, by decide, by decide, fun d H3 _ _ b3 w3 => ?_⟩
  refine ⟨rfl, (by show 0 ≤ sizeLine; decide), fun D nD => ?_⟩
  have b4 : But p H _ := ((But.of s1).trans b2).trans (b3.trans (But.new (o := .lst []) nD))
  have w4 := w3.same (same_new nD (.lst []))
  have Dp : D ≠ p := w3.ne nD
  have nD0 : H D = none := by
    have z : (upd H t (.tup [.int 2, .int 2, .int 3, .int 4])) D = none := by
      cases e : (upd H t (.tup [.int 2, .int 2, .int 3, .int 4])) D with
      | none => rfl
      | some o => rw [b3 _ _ Dp (b2 _ _ Dp e)] at nD; cases nD
    exact s1.free z
  generalize hd : (decide (V.int d = V.int 0)) = dense
  refine ⟨_, _, _, rfl, ?_⟩
  refine ⟨_, rfl, (n : Int), rfl, by omega, by omega, for_range (lo := 0) (n := ((n : Nat) : Int).toNat) (fun u σ H' => ∃ (zs : List V) (ps : List E2) (s5 s6 : Option V), σ = [some (.ref p), some (.int (n : Int)), some (.int rare), some (.bl dense), some (.ref D), s5, s6] ∧ But p H H' ∧ Wl H' p ∧ H' D = some (.lst zs) ∧
      PairsAt K H' zs ps ∧ ps.Sublist ((List.range u).flatMap (rowP n))) ⟨[], [], none, none, rfl, b4, w4, upd_same, .nil, .slnil⟩ ?_ ?_⟩
  · rintro u σ H1 lu ⟨zs, ps, s5, s6, rfl, b1, w1, hD, hP, hS⟩
    rw [Int.zero_add]
    have un : u < n := by omega
    refine ⟨_, rfl, _, _, rfl, rfl, _, rfl, _, _, rfl, ⟨by omega, by omega, by omega, by omega⟩, for_range (lo := (u : Int) + 1) (n := ((n : Int) - ((u : Int) + 1)).toNat)
      (fun k σ H' => ∃ (zs : List V) (ps : List E2) (s6 : Option V), σ = [some (.ref p), some (.int (n : Int)), some (.int rare), some (.bl dense), some (.ref D), some (.int (u : Int)), s6] ∧ But p H H' ∧ Wl H' p ∧ H' D = some (.lst zs) ∧
      PairsAt K H' zs ps ∧ ps.Sublist ((List.range u).flatMap (rowP n) ++ (List.range k).map fun j => (u, u + 1 + j))) ⟨zs, ps, s6, rfl, b1, w1, hD, hP, by rw [List.range_zero, List.map_nil, List.append_nil]; exact hS⟩ ?_ ?_⟩
    · rintro k σ H2 lk ⟨zs, ps, s6, rfl, b2, w2, hD, hP, hS⟩
      rw [show ((u : Int) + 1 + (k : Int)) = ((u + 1 + k : Nat) : Int) by omega]
      refine ⟨_, rfl, _, rfl, p, _, rfl, w2, r1, by omega, fun d2 H3 _ _ b3 w3 => ?_⟩
      have hP3 := hP.ts (TS.but b3 w2)
      have hD3 := b3 _ _ Dp hD
      refine ⟨rfl, _, rfl, rfl, _, rfl, iteB (fun _ => ?_) (fun _ => ?_)⟩
      · refine ⟨_, rfl, .inl ⟨rfl, _, SqL.of hD3⟩, _, rfl, _, rfl, (by show 2 ≤ sizeLine; decide), fun r nr => ?_⟩
        obtain ⟨t1, p1⟩ := push_pair (u, u + 1 + k) hD3 nr hP3
        have l1 : zs.length ≤ 36 := by rw [PairsAt.len hP]; exact (sub_all n9 (upto_pairs un (by omega) hS)).1
        refine ⟨D, zs, _, rfl, rfl, (same_new nr _) _ _ hD3, small1000 (by omega), zs ++ [.ref r], ps ++ [(u, u + 1 + k)], _, rfl, but_put ((b2.trans b3).trans (But.new nr)) nD0, (w3.same (same_new nr _)).put Dp, upd_same, p1, ?_⟩
        rw [List.range_succ, List.map_append, ← List.append_assoc]
        exact hS.append (List.Sublist.refl _)
      · refine ⟨zs, ps, _, rfl, b2.trans b3, w3, hD3, hP3, ?_⟩
        rw [List.range_succ, List.map_append, ← List.append_assoc]
        exact hS.trans (List.sublist_append_left ..)
    · rintro σ H2 ⟨zs, ps, s6, rfl, b2, w2, hD, hP, hS⟩
      refine ⟨zs, ps, _, _, rfl, b2, w2, hD, hP, ?_⟩
      rw [show ((n : Int) - ((u : Int) + 1)).toNat = n - (u + 1) by omega] at hS
      rw [List.range_succ, List.flatMap_append, List.flatMap_cons, List.flatMap_nil, List.append_nil]
      exact hS
  · rintro σ H1 ⟨zs, ps, s5, s6, rfl, b1, w1, hD, hP, hS⟩
    rw [show ((n : Nat) : Int).toNat = n by omega] at hS
    obtain ⟨l1, l2⟩ := sub_all n9 hS
    refine ⟨_, rfl, _, rfl, n, D, zs, ps, rfl, n9, SqL.of hD, hP, by rw [PairsAt.len hP]; omega, l2, fun x es H' s' g good _ => ?_⟩
    exact q x es H' (b1.trans (But.of s')) (w1.same s') g.at good
theorem ok_sides (F : L2.Fun K "_law_sides" "_law_sides" sSides f fd) (GD : FnOk P w K mg base CX0 1 fD dD ["well", "many"] spDraw) (bD : L2.Binds K dD ["well", "many"] []) (kD : PySem.W.keepIn K (.ref fD) = true) (mD : mg "_law_draw" = some (.ref fD))
    (GP : FnOk P w K mg base CX0 1 fP dP ["n", "pairs"] (spOfPairs K)) (bP : L2.Binds K dP ["n", "pairs"] []) (kP : PySem.W.keepIn K (.ref fP) = true) (mP : mg "_law_of_pairs" = some (.ref fP)) (mr : mg "range" = none) :
    FnOk P w K mg base CX0 2 f fd ["well", "n"] (spRandom K) := by
  refine F.ok scSides (fun vs H Q E h => ?_) (fun cdv A outer s H vs Q E hr h => ?_)
  · obtain ⟨p, n, rfl, _⟩ := h
    rfl
  obtain ⟨p, n, rfl, hW, n9, q⟩ := h
  refine ⟨_, pss_cons (ps_par (by rfl) scSides.nd (i := 2) (j := 3) rfl rfl (by decide) rfl rfl (pa_cons (pe_lst pa_nil) (pa_cons (pe_op op_fdiv (pv 1) pe_int) pa_nil)) (by rfl))
    (pss_cons (ps_for PassesOwn.never rfl (pi_range1 rfl mr (pa_cons (pv 3) pa_nil)) (pg_name (i := 4) scSides.nd rfl (.inl rfl))
      (pss_one (ps_for PassesOwn.never rfl (pi_range2 (by rfl) mr (pa_cons (pv 3) (pa_cons (pv 1) pa_nil))) (pg_name (i := 5) scSides.nd rfl (.inl rfl))
        (pss_one (ps_if (pt_cmpR op_gt (pe_call GD hr (by rfl) mD kD bD .nil pass0 (pa_cons (pv 0) (pa_cons pe_int pa_nil))) pe_int (nomark _))
          (pss_one (ps_expr (pe_bm PySem.F.plainAttrs_list PySem.F.slot_list_append PySem.F.type_list_append mt_append (pv 2) (pa_cons (pe_tup (pa_cons (pv 4) (pa_cons (pv 5) pa_nil))) pa_nil)))) pss_nil)))))
    (pss_one (ps_ret (pe_call GP hr (by rfl) mP kP bP .nil pass0 (pa_cons (pv 1) (pa_cons (pv 2) pa_nil)))))), ?_⟩
  refine ⟨(by show 0 ≤ sizeLine; decide), fun D nD => ?_⟩
  have w1 := hW.same (same_new nD (.lst []))
  have Dp : D ≠ p := hW.ne nD
  refine ⟨_, rfl, _, _, rfl, rfl, ⟨by decide, by decide⟩, _, _, rfl, ?_⟩
  obtain ⟨m, hm⟩ : ∃ m : Nat, m = n / 2 := ⟨_, rfl⟩
  refine ⟨_, rfl, (n : Int) / 2, rfl, by omega, by omega, for_range (lo := 0) (n := ((n : Int) / 2).toNat) (fun u σ H' => ∃ (zs : List V) (ps : List E2) (s5 s6 : Option V), σ = [some (.ref p), some (.int (n : Int)), some (.ref D), some (.int ((n : Int) / 2)), s5, s6] ∧ But p H H' ∧ Wl H' p ∧ H' D = some (.lst zs) ∧
      PairsAt K H' zs ps ∧ (∀ q ∈ ps, q.1 ≠ q.2 ∧ q.1 < n ∧ q.2 < n) ∧ ps.length ≤ 5 * u) ⟨[], [], none, none, rfl, But.new nD, w1, upd_same, .nil, (fun _ z => nomatch z), (by show 0 ≤ 5 * 0; omega)⟩ ?_ ?_⟩
  · rintro u σ H1 lu ⟨zs, ps, s5, s6, rfl, b1, w1, hD, hP, hS, hL⟩
    rw [Int.zero_add]
    have un : u < m := by omega
    refine ⟨_, rfl, _, rfl, _, _, rfl, ⟨by omega, by omega, by omega, by omega⟩, for_range (lo := (n : Int) / 2) (n := ((n : Int) - (n : Int) / 2).toNat)
      (fun k σ H' => ∃ (zs : List V) (ps : List E2) (s6 : Option V), σ = [some (.ref p), some (.int (n : Int)), some (.ref D), some (.int ((n : Int) / 2)), some (.int (u : Int)), s6] ∧ But p H H' ∧ Wl H' p ∧ H' D = some (.lst zs) ∧
      PairsAt K H' zs ps ∧ (∀ q ∈ ps, q.1 ≠ q.2 ∧ q.1 < n ∧ q.2 < n) ∧ ps.length ≤ 5 * u + k) ⟨zs, ps, s6, rfl, b1, w1, hD, hP, hS, hL⟩ ?_ ?_⟩
    · rintro k σ H2 lk ⟨zs, ps, s6, rfl, b2, w2, hD, hP, hS, hL⟩
      rw [show ((n : Int) / 2 + (k : Int)) = ((m + k : Nat) : Int) by omega]
      refine ⟨_, rfl, p, _, rfl, w2, by decide, by decide, fun d2 H3 _ _ b3 w3 => ?_⟩
      have hP3 := hP.ts (TS.but b3 w2)
      have hD3 := b3 _ _ Dp hD
      refine ⟨_, _, rfl, rfl, _, rfl, iteB (fun _ => ?_) (fun _ => ?_)⟩
      · refine ⟨_, rfl, .inl ⟨rfl, _, SqL.of hD3⟩, _, rfl, _, rfl, (by show 2 ≤ sizeLine; decide), fun r nr => ?_⟩
        obtain ⟨t1, p1⟩ := push_pair (u, m + k) hD3 nr hP3
        have l0 := PairsAt.len hP
        refine ⟨D, zs, _, rfl, rfl, (same_new nr _) _ _ hD3, small1000 (by omega), zs ++ [.ref r], ps ++ [(u, m + k)], _, rfl, but_put ((b2.trans b3).trans (But.new nr)) nD, (w3.same (same_new nr _)).put Dp, upd_same, p1, fun q hq => ?_, by rw [List.length_append]; show ps.length + 1 ≤ 5 * u + (k + 1); omega⟩
        rcases List.mem_append.mp hq with hq | hq
        · exact hS q hq
        · rw [List.mem_singleton.mp hq]
          show u ≠ m + k ∧ u < n ∧ m + k < n
          omega
      · exact ⟨zs, ps, _, rfl, b2.trans b3, w3, hD3, hP3, hS, by omega⟩
    · rintro σ H2 ⟨zs, ps, s6, rfl, b2, w2, hD, hP, hS, hL⟩
      exact ⟨zs, ps, _, _, rfl, b2, w2, hD, hP, hS, by omega⟩
  · rintro σ H1 ⟨zs, ps, s5, s6, rfl, b1, w1, hD, hP, hS, hL⟩
    refine ⟨_, rfl, _, rfl, n, D, zs, ps, rfl, n9, SqL.of hD, hP, by rw [PairsAt.len hP]; omega, hS, fun x es H' s' g good _ => ?_⟩
    exact q x es H' (b1.trans (But.of s')) (w1.same s') g.at good
theorem off_pairs {K : PySem.W.Frag} {H : Hp} : ∀ {xs : List V} {ps : List E2}, PairsAt K H xs ps → ∀ x ∈ xs, ∃ p ∈ ps, PairAt K H x p
  | _, _, .nil => fun _ z => nomatch z
  | _, _, .cons a b => fun x hx => by
    rcases List.mem_cons.mp hx with rfl | hx
    · exact ⟨_, List.mem_cons_self .., a⟩
    · obtain ⟨p, h1, h2⟩ := off_pairs b x hx
      exact ⟨p, List.mem_cons_of_mem _ h1, h2⟩
theorem ok_beside (F : L2.Fun K "_law_beside" "_law_beside" sBeside f fd) (GP : FnOk P w K mg base CX0 1 fP dP ["n", "pairs"] (spOfPairs K)) (bP : L2.Binds K dP ["n", "pairs"] []) (kP : PySem.W.keepIn K (.ref fP) = true) (mP : mg "_law_of_pairs" = some (.ref fP)) (mr : mg "range" = none) (mli : mg "list" = none) :
    FnOk P w K mg base CX0 2 f fd ["one", "two", "is_joined"] (spBeside K) := by
  refine F.ok scBeside (fun vs H Q E h => ?_) (fun cdv A outer s H vs Q E hr h => ?_)
  · obtain ⟨x, y, n, m, es, fs, j, rfl, _⟩ := h
    rfl
  obtain ⟨x, y, n, m, es, fs, j, rfl, ⟨g1, e1, xs1, rfl, hg1, he1, hes⟩, good1, ⟨g2, e2, xs2, rfl, hg2, he2, hfs⟩, good2, nm, few, q⟩ := h
  refine ⟨_, pss_cons (ps_asg (pe_tup (pa_cons (pe_ix ix_tup (pv 0) pe_int (fun _ _ => rfl)) (pa_cons (pe_lc (own := [("u", 3), ("v", 6)]) (g := gTup K 2 (gCons (gName 3) (gCons (gName 6) gNil))) (tt := tYes) rfl scBeside.nd (pi_tup (pe_ix ix_tup (pv 1) pe_int (fun _ _ => rfl)))
      (blkOk_by (N := ["one", "two", "is_joined", "u", "n", "far", "v"]) (sc := defScope sBeside) (by decide +kernel)) (fun _ _ _ _ _ => pg_tup (by rfl) (pgs_cons (pg_name (i := 3) scBeside.nd rfl (Or.inl rfl)) (pgs_cons (pg_name (i := 6) scBeside.nd rfl (Or.inl rfl)) pgs_nil))) (fun _ _ _ _ _ => pts_nil)
      (fun _ _ _ _ _ => pe_tup (pa_cons (pe_op op_add (pe_ix (r := rIxT K) ix_tup (pv 0) pe_int (fun _ _ => rfl)) (pv 3)) (pa_cons (pe_op op_add (pe_ix (r := rIxT K) ix_tup (pv 0) pe_int (fun _ _ => rfl)) (pv 6)) pa_nil)))) pa_nil)))
      (pg_tup (by rfl) (pgs_cons (pg_name (i := 4) scBeside.nd rfl (.inr rfl)) (pgs_cons (pg_name (i := 5) scBeside.nd rfl (.inl rfl)) pgs_nil))))
    (pss_cons (ps_if (pt_val (pv 2)) (pss_one (ps_for PassesOwn.never rfl (pi_range1 rfl mr (pa_cons (pv 4) pa_nil)) (pg_name (i := 3) scBeside.nd rfl (.inr rfl))
        (pss_one (ps_set (i := 5) scBeside.nd rfl (.inl rfl) (pe_op op_cat (pv 5) (pe_lc (own := [("v", 6)]) (g := gName 6) (tt := tYes) rfl scBeside.nd (pi_range1 rfl mr (pa_cons (pe_ix ix_tup (pv 1) pe_int (fun _ _ => rfl)) pa_nil))
          (blkOk_by (N := ["one", "two", "is_joined", "u", "n", "far", "v"]) (sc := defScope sBeside) (by decide +kernel)) (fun _ _ _ _ _ => pg_name (i := 6) scBeside.nd rfl (Or.inl rfl)) (fun _ _ _ _ _ => pts_nil)
          (fun _ _ _ _ _ => pe_tup (pa_cons (pv 3) (pa_cons (pe_op op_add (pv 4) (pv 6)) pa_nil))))))))) pss_nil)
    (pss_one (ps_ret (pe_call GP hr (by rfl) mP kP bP .nil pass0 (pa_cons (pe_op op_add (pv 4) (pe_ix ix_tup (pv 1) pe_int (fun _ _ => rfl))) (pa_cons (pe_op op_cat (pe_callTy call_list_of (by rfl) mli (by decide +kernel) (pa_cons (pe_ix ix_tup (pv 0) pe_int (fun _ _ => rfl)) pa_nil)) (pv 5)) pa_nil)))))), ?_⟩
  refine ⟨_, rfl, g1, _, _, _, rfl, rfl, hg1, rfl, ?_⟩
  refine ⟨_, rfl, g2, _, _, _, rfl, rfl, hg2, rfl, e2, rfl, ⟨_, he2⟩, fun D nD => lc_tup (K := K) (a := e2) (xs := xs2)
      (fun i H2 => Same H H2 ∧ ∃ zs ps, H2 D = some (.lst zs) ∧ zs.length = i ∧ PairsAt K H2 zs ps ∧ ∀ p ∈ ps, p.1 ≠ p.2 ∧ p.1 < n + m ∧ p.2 < n + m) ⟨same_new nD _, [], [], upd_same, rfl, .nil, fun _ z => nomatch z⟩ ?_ ?_ ?_⟩
  · rintro i H1 _ ⟨s1, _⟩
    exact Same.tup s1 he2
  · rintro i x H2 hi ⟨s2, zs, ps, hD, lz, pz, pp⟩
    obtain ⟨p, hp, t1, rfl, ht1⟩ := PairsAt.get (hfs.same s2) hi
    obtain ⟨l1, l2⟩ := good2.lt p (List.mem_of_getElem? hp)
    have hg3 := Same.tup s2 hg1
    refine ⟨t1, _, rfl, ht1, rfl, _, _, rfl, _, _, rfl, rfl, ?_⟩
    refine ⟨rfl, ?_⟩
    refine ⟨_, rfl, g1, _, _, _, rfl, rfl, hg3, rfl, _, rfl, _, _, rfl, rfl, _, rfl, g1, _, _, _, rfl, rfl, hg3, rfl, _, rfl, _, _, rfl, rfl, (by show 2 ≤ sizeLine; decide), fun r nr => ?_⟩
    obtain ⟨t1, p1⟩ := push_pair (n + p.1, n + p.2) hD nr pz
    have li : i < xs2.length := (List.getElem?_eq_some_iff.mp hi).1
    have l3 : xs2.length ≤ 36 := by rw [PairsAt.len hfs]; exact good2.few
    refine ⟨zs, (same_new nr _) _ _ hD, small1000 (by omega), same_put (s2.trans (same_new nr _)) nD, _, _, upd_same, by rw [List.length_append]; show zs.length + 1 = i + 1; omega, p1, fun r hr => ?_⟩
    rcases List.mem_append.mp hr with hr | hr
    · exact pp r hr
    · rw [List.mem_singleton.mp hr]
      show n + p.1 ≠ n + p.2 ∧ n + p.1 < n + m ∧ n + p.2 < n + m
      omega
  rintro H2 ⟨s2, zs, ps, hD, lz, pz, pp⟩
  refine ⟨(by show 2 ≤ sizeLine; decide), fun r nr => ?_⟩
  have s3 := s2.trans (same_new nr (.tup [.int (n : Int), .ref D]))
  refine ⟨r, _, rfl, SqT.of upd_same, rfl, _, _, rfl, _, _, rfl, rfl, ?_⟩
  have lf : xs2.length = fs.length := PairsAt.len hfs
  have le : xs1.length ≤ 36 := by rw [PairsAt.len hes]; exact good1.few
  have n9 : n ≤ 9 := by omega
  have fin : ∀ (B : Addr) (ys : List V) (ps : List E2) (H3 : Hp) (xs1' : List V), Same H H3 → H3 B = some (.lst ys) → PairsAt K H3 ys ps → (∀ p ∈ ps, p.1 ≠ p.2 ∧ p.1 < n + m ∧ p.2 < n + m) → ps.length ≤ 27 →
      ∀ l, H3 l = none → (upd H3 l (.lst xs1)) B = some (.lst ys) ∧ xs1.length + ys.length ≤ sizeLine ∧ ∀ c, (upd H3 l (.lst xs1)) c = none → spOfPairs K [.int ((n + m : Nat) : Int), .ref c] (upd (upd H3 l (.lst xs1)) c (.lst (xs1 ++ ys))) Q E0 := by
    intro B ys ps H3 _ s4 hB hP pp few l nl
    have l2 := PairsAt.len hP
    have l1 := PairsAt.len hes
    have s5 := same_new nl (.lst xs1)
    refine ⟨s5 _ _ hB, small (by omega), fun c nc => ?_⟩
    have s6 := same_new nc (.lst (xs1 ++ ys))
    refine ⟨n + m, c, xs1 ++ ys, es ++ ps, rfl, nm, SqL.of upd_same, (hes.same (s4.trans (s5.trans s6))).append (hP.same (s5.trans s6)), by rw [List.length_append]; omega, fun p hp => ?_, fun x gs H' s7 g good _ => q x gs H' (s4.trans ((s5.trans s6).trans s7)) g.at good⟩
    rcases List.mem_append.mp hp with hp | hp
    · have z := good1.lt p hp
      omega
    · exact pp p hp
  refine ⟨_, rfl, _, rfl, iteB (fun _ => ?_) (fun _ => ?_)⟩
  · refine ⟨_, rfl, (n : Int), rfl, by omega, by omega, for_range (lo := 0) (n := ((n : Nat) : Int).toNat) (fun u σ H' => ∃ (B : Addr) (ys : List V) (ps : List E2) (s3 s6 : Option V), σ = [some (.ref g1), some (.ref g2), some (.bl j), s3, some (.int (n : Int)), some (.ref B), s6] ∧ Same H H' ∧ H' B = some (.lst ys) ∧
      PairsAt K H' ys ps ∧ (∀ p ∈ ps, p.1 ≠ p.2 ∧ p.1 < n + m ∧ p.2 < n + m) ∧ ps.length = fs.length + u * m) ⟨D, zs, ps, none, none, rfl, s3, (same_new nr _) _ _ hD, pz.same (same_new nr _), pp, by rw [← PairsAt.len pz, lz, lf, Nat.zero_mul, Nat.add_zero]⟩ ?_ ?_⟩
    · rintro u σ H3 lu ⟨B, ys, ps, s3, s6, rfl, s4, hB, hP, pp, lp⟩
      rw [Int.zero_add]
      have un : u < n := by omega
      have hg3 := Same.tup s4 hg2
      have um : u * m + m ≤ n * m := by
        rw [← Nat.succ_mul]
        exact Nat.mul_le_mul_right m (by omega)
      refine ⟨_, rfl, _, rfl, g2, _, _, _, rfl, rfl, hg3, rfl, (m : Int), rfl, by omega, by omega, fun D nD => lc_range (lo := 0) (n := ((m : Nat) : Int).toNat)
        (fun k H2 => Same H3 H2 ∧ ∃ zs ps, H2 D = some (.lst zs) ∧ ps.length = k ∧ PairsAt K H2 zs ps ∧ ∀ p ∈ ps, p.1 ≠ p.2 ∧ p.1 < n + m ∧ p.2 < n + m) ⟨same_new nD _, [], [], upd_same, rfl, .nil, fun _ z => nomatch z⟩ ?_ ?_⟩
      · rintro k H4 lk ⟨s5, zs, ps, hD, lz, pz, pp⟩
        rw [Int.zero_add]
        refine ⟨rfl, ?_⟩
        refine ⟨_, rfl, _, rfl, _, rfl, _, _, rfl, rfl, (by show 2 ≤ sizeLine; decide), fun r nr => ?_⟩
        obtain ⟨t1, p1⟩ := push_pair (u, n + k) hD nr pz
        have l0 := PairsAt.len pz
        refine ⟨zs, (same_new nr _) _ _ hD, small1000 (by omega), same_put (s5.trans (same_new nr _)) nD, _, _, upd_same, by rw [List.length_append]; show ps.length + 1 = k + 1; omega, p1, fun r hr => ?_⟩
        rcases List.mem_append.mp hr with hr | hr
        · exact pp r hr
        · rw [List.mem_singleton.mp hr]
          show u ≠ n + k ∧ u < n + m ∧ n + k < n + m
          omega
      · rintro H4 ⟨s5, zs, ps2, hD, lz, pz, pp2⟩
        have l0 := PairsAt.len pz
        have l1 := PairsAt.len hP
        refine ⟨B, D, ys, zs, rfl, rfl, s5 _ _ hB, hD, small (by omega), fun c nc => ?_⟩
        have s7 := same_new nc (.lst (ys ++ zs))
        refine ⟨c, _, ps ++ ps2, _, _, rfl, s4.trans (s5.trans s7), upd_same, (hP.same (s5.trans s7)).append (pz.same s7), fun p hp => ?_, ?_⟩
        · rcases List.mem_append.mp hp with hp | hp
          · exact pp p hp
          · exact pp2 p hp
        · rw [List.length_append, lp, lz, Nat.succ_mul]
          omega
    · rintro σ H3 ⟨B, ys, ps, s3, s6, rfl, s4, hB, hP, pp, lp⟩
      rw [show ((n : Nat) : Int).toNat = n by omega] at lp
      refine ⟨_, rfl, _, rfl, g2, _, _, _, rfl, rfl, Same.tup s4 hg2, rfl, _, _, rfl, rfl, _, rfl, g1, _, _, _, rfl, rfl, Same.tup s4 hg1, rfl, e1, _, rfl, .inr (Same.tup s4 he1), fun l nl => ?_⟩
      obtain ⟨x1, x2, x3⟩ := fin B ys ps H3 ys s4 hB hP pp (by omega) l nl
      exact ⟨_, rfl, l, B, _, _, rfl, rfl, upd_same, x1, x2, x3⟩
  · refine ⟨_, rfl, _, rfl, g2, _, _, _, rfl, rfl, Same.tup s3 hg2, rfl, _, _, rfl, rfl, _, rfl, g1, _, _, _, rfl, rfl, Same.tup s3 hg1, rfl, e1, _, rfl, .inr (Same.tup s3 he1), fun l nl => ?_⟩
    obtain ⟨x1, x2, x3⟩ := fin D zs ps _ zs s3 ((same_new nr _) _ _ hD) (pz.same (same_new nr _)) pp (by rw [← PairsAt.len pz]; omega) l nl
    exact ⟨_, rfl, l, D, _, _, rfl, rfl, upd_same, x1, x2, x3⟩
end
end My

set_option maxHeartbeats 4000000
namespace My
open PySem PySem.Spec PyProof.Rows L2
abbrev sGrown : Stmt := top 36
abbrev sGraph : Stmt := top 37
theorem scGrown : FnScope ["well", "graph", "n", "v", "twin", "is_twin", "u", "pairs"] ["well", "graph", "n"] (defScope sGrown) := ⟨rfl, rfl, rfl, by decide +kernel, rfl, by decide +kernel, by decide +kernel⟩
theorem scGraph : FnScope ["well", "most", "n", "way", "found"] ["well", "most"] (defScope sGraph) := ⟨rfl, rfl, rfl, by decide +kernel, rfl, by decide +kernel, by decide +kernel⟩
def spGrown (K : PySem.W.Frag) : Sp := fun vs H Q _ => ∃ (p : Addr) (x : V) (m n : Nat) (es : List E2), vs = [.ref p, x, .int (n : Int)] ∧ Wl H p ∧ GraphAt K H x m es ∧ Good m es ∧ 1 ≤ m ∧ m ≤ n ∧ n ≤ 9 ∧ spGr K n p H Q
def spGraph (K : PySem.W.Frag) : Sp := fun vs H Q _ => ∃ (p : Addr) (most : Nat), vs = [.ref p, .int (most : Int)] ∧ Wl H p ∧ most ≤ 9 ∧ ∀ (x : V) (n : Nat) (es : List E2) (H' : Hp), n ≤ most → But p H H' → Wl H' p → GraphAt K H' x n es → Good n es → Q x H'
theorem good_left {n : Nat} (n9 : n ≤ 9) (es : List E2) : Good n (leftP n es) := Good.filter n9 _
theorem But.none {p D : Addr} {H H1 : Hp} (b : But p H H1) (w : Wl H1 p) (n : H1 D = none) : H D = none := by
  cases e : H D with
  | none => rfl
  | some o =>
    rw [b _ _ (w.ne n) e] at n
    cases n
section
variable {P : Program} {w : World} {K : PySem.W.Frag} {mg : Str → Option Value} {base : Heap} {f fD fP fK fB fU fR fS fF fG fO fA fC : Addr} {fd dD dP dK dB dU dR dS dF dG dO dA dC : FuncData}
theorem ok_folded (F : L2.Fun K "_law_folded" "_law_folded" sFolded f fd) (GD : FnOk P w K mg base CX0 1 fD dD ["well", "many"] spDraw) (bD : L2.Binds K dD ["well", "many"] []) (kD : PySem.W.keepIn K (.ref fD) = true) (mD : mg "_law_draw" = some (.ref fD))
    (GB : FnOk P w K mg base CX0 2 fB dB ["one", "two", "is_joined"] (spBeside K)) (bB : L2.Binds K dB ["one", "two", "is_joined"] []) (kB : PySem.W.keepIn K (.ref fB) = true) (mB : mg "_law_beside" = some (.ref fB))
    (GU : FnOk P w K mg base CX0 1 fU dU ["graph"] (spTurned K)) (bU : L2.Binds K dU ["graph"] []) (kU : PySem.W.keepIn K (.ref fU) = true) (mU : mg "_law_turned" = some (.ref fU)) (mr : mg "range" = none) :
    FnOk P w K mg base CX0 3 f fd ["well", "n"] (spFolded K) := by
  refine F.ok scFolded (fun vs H Q E h => ?_) (fun cdv A outer s H vs Q E hr h => ?_)
  · obtain ⟨p, n, rfl, _⟩ := h
    rfl
  obtain ⟨p, n, rfl, hW, n1, n9, q⟩ := h
  refine ⟨_, pss_cons (ps_set (i := 2) scFolded.nd rfl (.inl rfl) (pe_tup (pa_cons pe_int (pa_cons (pe_tup pa_nil) pa_nil))))
    (pss_cons (ps_for PassesOwn.never rfl (pi_range1 rfl mr (pa_cons (pe_op op_sub (pv 1) pe_int) pa_nil)) (pg_name (i := 3) scFolded.nd rfl (.inl rfl))
      (pss_cons (ps_set (i := 2) scFolded.nd rfl (.inl rfl) (pe_call GB hr (by rfl) mB kB bB .nil pass0 (pa_cons (pv 2) (pa_cons (pe_tup (pa_cons pe_int (pa_cons (pe_tup pa_nil) pa_nil))) (pa_cons (pe_cmpR op_eq (pe_call GD (hr.mono (by decide)) (by rfl) mD kD bD .nil pass0 (pa_cons (pv 0) (pa_cons pe_int pa_nil))) pe_int (nomark _)) pa_nil)))))
      (pss_one (ps_if (PW.pt (pw_and (pt_cmpR op_gt (pe_ix ix_tup (pv 2) pe_int (fun _ _ => rfl)) pe_int (nomark _)) (pw_and1 (pt_cmpR op_eq (pe_call GD (hr.mono (by decide)) (by rfl) mD kD bD .nil pass0 (pa_cons (pv 0) (pa_cons pe_int pa_nil))) pe_int (nomark _)))))
        (pss_one (ps_set (i := 2) scFolded.nd rfl (.inl rfl) (pe_call GU (hr.mono (by decide)) (by rfl) mU kU bU .nil pass0 (pa_cons (pv 2) pa_nil)))) pss_nil))))
    (pss_one (ps_ret (pv 2)))), ?_⟩
  have one : ∀ (H1 : Hp) (e : Addr) (t : Addr), H1 e = none → (upd H1 e (.tup [])) t = none → GraphAt K (upd (upd H1 e (.tup [])) t (.tup [.int 1, .ref e])) (.ref t) 1 [] := fun H1 e t ne nt =>
    ⟨t, e, [], rfl, SqT.of upd_same, SqT.of ((same_new nt _) _ _ upd_same), .nil⟩
  have g1 : Good 1 [] := Good.nil (by decide)
  refine ⟨(by show 0 ≤ sizeLine; decide), fun e ne => ?_⟩
  refine ⟨(by show 2 ≤ sizeLine; decide), fun t nt => ?_⟩
  have s1 := (same_new ne (.tup [])).trans (same_new nt (.tup [.int 1, .ref e]))
  refine ⟨_, rfl, _, _, rfl, rfl, ((n : Int) - 1), rfl, by omega, by omega, for_range (lo := 0) (n := ((n : Int) - 1).toNat) (fun i σ H' => ∃ (x : V) (es : List E2) (s3 : Option V), σ = [some (.ref p), some (.int (n : Int)), some x, s3] ∧ But p H H' ∧ Wl H' p ∧ GraphAt K H' x (i + 1) es ∧ Good (i + 1) es)
    ⟨_, [], none, rfl, But.of s1, hW.same s1, one H e t ne nt, g1⟩ ?_ ?_⟩
  · rintro i σ H1 li ⟨x, es, s3, rfl, b1, w1, hx, gx⟩
    refine ⟨_, rfl, (by show 0 ≤ sizeLine; decide), fun e ne => ?_⟩
    refine ⟨(by show 2 ≤ sizeLine; decide), fun t nt => ?_⟩
    have s2 := (same_new ne (.tup [])).trans (same_new nt (.tup [.int 1, .ref e]))
    have w2 := w1.same s2
    refine ⟨_, rfl, p, _, rfl, w2, by decide, by decide, fun d H2 _ _ b2 w3 => ?_⟩
    have t2 := TS.but b2 w2
    refine ⟨rfl, x, .ref t, i + 1, 1, es, [], _, rfl, (hx.same s2).ts t2, gx, (one H1 e t ne nt).ts t2, g1, by omega, by show 0 + (i + 1) * 1 ≤ 27; omega, fun z gs H3 s3 hz gz => ?_⟩
    have b3 := b1.trans ((But.of s2).trans (b2.trans (But.of s3)))
    have w4 := w3.same s3
    have hz0 := hz
    obtain ⟨tz, ez, xz, rfl, hz1, hz2, hz3⟩ := hz
    refine ⟨_, rfl, tz, _, _, _, rfl, rfl, hz1, rfl, _, _, rfl, rfl, _, rfl, iteB (fun _ => ?_) (fun _ => iteF ?_)⟩
    · refine ⟨_, rfl, p, _, rfl, w4, by decide, by decide, fun d2 H4 _ _ b4 w5 => ?_⟩
      have t4 := TS.but b4 w4
      refine ⟨rfl, _, rfl, iteB (fun _ => ?_) (fun _ => ?_)⟩
      · refine ⟨_, rfl, .ref tz, i + 1 + 1, gs, rfl, hz0.ts t4, gz.n9, fun y H5 s5 hy => ?_⟩
        exact ⟨y, _, _, rfl, b3.trans (b4.trans (But.of s5)), w5.same s5, hy.at, good_left gz.n9 gs⟩
      · exact ⟨_, _, _, rfl, b3.trans b4, w5, hz0.ts t4, gz⟩
    · exact ⟨_, _, _, rfl, b3, w4, hz0, gz⟩
  · rintro σ H1 ⟨x, es, s3, rfl, b1, w1, hx, gx⟩
    rw [show ((n : Int) - 1).toNat + 1 = n by omega] at hx gx
    exact ⟨_, rfl, q x es H1 b1 w1 hx gx⟩
theorem ok_grown (F : L2.Fun K "_law_grown" "_law_grown" sGrown f fd) (GD : FnOk P w K mg base CX0 1 fD dD ["well", "many"] spDraw) (bD : L2.Binds K dD ["well", "many"] []) (kD : PySem.W.keepIn K (.ref fD) = true) (mD : mg "_law_draw" = some (.ref fD))
    (GP : FnOk P w K mg base CX0 1 fP dP ["n", "pairs"] (spOfPairs K)) (bP : L2.Binds K dP ["n", "pairs"] []) (kP : PySem.W.keepIn K (.ref fP) = true) (mP : mg "_law_of_pairs" = some (.ref fP)) (mr : mg "range" = none) (mli : mg "list" = none) (mn : mg "min" = none) (mx : mg "max" = none) :
    FnOk P w K mg base CX0 2 f fd ["well", "graph", "n"] (spGrown K) := by
  refine F.ok scGrown (fun vs H Q E h => ?_) (fun cdv A outer s H vs Q E hr h => ?_)
  · obtain ⟨p, x, m, n, es, rfl, _⟩ := h
    rfl
  obtain ⟨p, x, m, n, es, rfl, hW, hx, gx, m1, mn', n9, q⟩ := h
  refine ⟨_, pss_cons (ps_for PassesOwn.never rfl (pi_range2 (by rfl) mr (pa_cons (pe_ix ix_tup (pv 1) pe_int (fun _ _ => rfl)) (pa_cons (pv 2) pa_nil))) (pg_name (i := 3) scGrown.nd rfl (.inr rfl))
      (pss_cons (ps_asg (pe_tup (pa_cons (pe_call GD hr (by rfl) mD kD bD .nil pass0 (pa_cons (pv 0) (pa_cons (pv 3) pa_nil))) (pa_cons (pe_cmpR op_eq (pe_call GD hr (by rfl) mD kD bD .nil pass0 (pa_cons (pv 0) (pa_cons pe_int pa_nil))) pe_int (nomark _)) pa_nil)))
          (pg_tup (by rfl) (pgs_cons (pg_name (i := 4) scGrown.nd rfl (.inr rfl)) (pgs_cons (pg_name (i := 5) scGrown.nd rfl (.inl rfl)) pgs_nil))))
      (pss_cons (ps_set (i := 7) scGrown.nd rfl (.inl rfl) (pe_ifExp (pt_val (pv 5)) (pe_lc (own := [("u", 6)]) (g := gName 6) rfl scGrown.nd (pi_range1 rfl mr (pa_cons (pv 3) pa_nil))
          (blkOk_by (N := ["well", "graph", "n", "v", "twin", "is_twin", "u", "pairs"]) (sc := defScope sGrown) (by decide +kernel)) (fun _ _ _ _ _ => pg_name (i := 6) scGrown.nd rfl (Or.inl rfl))
          (fun _ _ _ _ _ => pts_one (pt_cmpR (r := rInP id K) (op_inP hr.units) (pe_tup (pa_cons (pe_callB (id := "min") (r := fun xs H Q => ∃ i j, xs = [.int i, .int j] ∧ Q (.int (if j < i then j else i)) H) (call_min2 rfl) (by rfl) mn (by decide +kernel) (pa_cons (pv 6) (pa_cons (pv 4) pa_nil)))
              (pa_cons (pe_callB (id := "max") (r := fun xs H Q => ∃ i j, xs = [.int i, .int j] ∧ Q (.int (if j > i then j else i)) H) (call_max2 rfl) (by rfl) mx (by decide +kernel) (pa_cons (pv 6) (pa_cons (pv 4) pa_nil))) pa_nil))) (pe_ix (r := rIxT K) ix_tup (pv 1) pe_int (fun _ _ => rfl)) (by rfl)))
          (fun _ _ _ _ _ => pe_tup (pa_cons (pv 6) (pa_cons (pv 3) pa_nil)))) (pe_lst pa_nil)))
      (pss_cons (ps_for PassesOwn.never rfl (pi_range1 rfl mr (pa_cons (pv 3) pa_nil)) (pg_name (i := 6) scGrown.nd rfl (.inl rfl))
        (pss_one (ps_if (PW.pt (pw_and (pt_not (pt_val (pv 5))) (pw_and1 (pt_cmpR op_eq (pe_call GD hr (by rfl) mD kD bD .nil pass0 (pa_cons (pv 0) (pa_cons pe_int pa_nil))) pe_int (nomark _)))))
          (pss_one (ps_expr (pe_bm PySem.F.plainAttrs_list PySem.F.slot_list_append PySem.F.type_list_append mt_append (pv 7) (pa_cons (pe_tup (pa_cons (pv 6) (pa_cons (pv 3) pa_nil))) pa_nil)))) pss_nil)))
      (pss_one (ps_set (i := 1) scGrown.nd rfl (.inr rfl) (pe_call GP hr (by rfl) mP kP bP .nil pass0 (pa_cons (pe_op op_add (pv 3) pe_int) (pa_cons (pe_op op_cat (pe_callTy call_list_of (by rfl) mli (by decide +kernel) (pa_cons (pe_ix ix_tup (pv 1) pe_int (fun _ _ => rfl)) pa_nil)) (pv 7)) pa_nil)))))))))
    (pss_one (ps_ret (pv 1))), ?_⟩
  have hx0 := hx
  obtain ⟨g0, e0, xs0, rfl, hg0, he0, hes0⟩ := hx
  refine ⟨_, rfl, g0, _, _, _, rfl, rfl, hg0, rfl, _, rfl, (m : Int), (n : Int), rfl, ⟨by omega, by omega, by omega, by omega⟩, for_range (lo := (m : Int)) (n := ((n : Int) - (m : Int)).toNat)
    (fun i σ H' => ∃ (x : V) (es : List E2) (s3 s4 s5 s6 s7 : Option V), σ = [some (.ref p), some x, some (.int (n : Int)), s3, s4, s5, s6, s7] ∧ But p H H' ∧ Wl H' p ∧ GraphAt K H' x (m + i) es ∧ Good (m + i) es)
    ⟨_, es, none, none, none, none, none, rfl, But.refl _ _, hW, hx0, gx⟩ ?_ ?_⟩
  · rintro i σ H1 li ⟨x, es, s3, s4, s5, s6, s7, rfl, b1, w1, hx, gx⟩
    rw [show ((m : Int) + (i : Int)) = ((m + i : Nat) : Int) by omega]
    obtain ⟨v, hv⟩ : ∃ v, v = m + i := ⟨_, rfl⟩
    rw [← hv] at hx gx ⊢
    have v0 : 0 < v := by omega
    have vn : v < n := by omega
    refine ⟨_, rfl, _, rfl, p, _, rfl, w1, by omega, by omega, fun tw H2 tw0 tw1 b2 w2 => ?_⟩
    have t2 := TS.but b2 w1
    refine ⟨_, rfl, p, _, rfl, w2, by decide, by decide, fun d H3 _ _ b3 w3 => ?_⟩
    have t3 := TS.but b3 w2
    obtain ⟨tn, rfl⟩ : ∃ tn : Nat, tw = (tn : Int) := ⟨tw.toNat, by omega⟩
    refine ⟨rfl, (by show 2 ≤ sizeLine; decide), fun r nr => ?_⟩
    refine ⟨r, _, rfl, SqT.of upd_same, rfl, _, _, rfl, _, _, rfl, rfl, ?_⟩
    generalize hd : (decide (V.int d = V.int 0)) = istw
    have s4 := same_new nr (.tup [.int (tn : Int), .bl istw])
    generalize he4 : upd H3 r (.tup [.int (tn : Int), .bl istw]) = H4 at s4 ⊢
    have b4 : But p H H4 := (b1.trans b2).trans (b3.trans (But.of s4))
    have w4 : Wl H4 p := w3.same s4
    have hx4 : GraphAt K H4 x v es := ((hx.ts t2).ts t3).same s4
    refine' joinS (i := 7) (R := fun y H5 => ∃ (D : Addr) (zs : List V) (ps : List E2), y = .ref D ∧ H5 D = some (.lst zs) ∧ zs.length ≤ v ∧ PairsAt K H5 zs ps ∧ (∀ q ∈ ps, q.1 ≠ q.2 ∧ q.1 < v + 1 ∧ q.2 < v + 1) ∧ Same H4 H5 ∧ H4 D = none) (fun go => ?_) ?_
    rotate_left 2
    · refine ⟨_, rfl, _, rfl, iteB (fun _ => ?_) (fun _ => ?_)⟩
      · refine ⟨_, rfl, (v : Int), rfl, by omega, by omega, fun D nD => lc_range (lo := 0) (n := ((v : Nat) : Int).toNat)
          (fun k H2 => Same H4 H2 ∧ ∃ zs ps, H2 D = some (.lst zs) ∧ zs.length ≤ k ∧ PairsAt K H2 zs ps ∧ ∀ p ∈ ps, p.1 ≠ p.2 ∧ p.1 < v + 1 ∧ p.2 < v + 1) ⟨same_new nD _, [], [], upd_same, Nat.le_refl _, .nil, fun _ z => nomatch z⟩ ?_ ?_⟩
        · rintro k H5 lk ⟨s5, zs, ps, hD, lz, pz, pp⟩
          rw [Int.zero_add]
          refine ⟨rfl, ?_⟩
          refine ⟨_, rfl, _, rfl, _, _, rfl, _, rfl, _, rfl, _, _, rfl, (by show 2 ≤ sizeLine; decide), fun r2 nr2 => ?_⟩
          have e1 : (if ((tn : Nat) : Int) < ((k : Nat) : Int) then ((tn : Nat) : Int) else ((k : Nat) : Int)) = ((min k tn : Nat) : Int) := by split <;> omega
          have e2 : (if ((tn : Nat) : Int) > ((k : Nat) : Int) then ((tn : Nat) : Int) else ((k : Nat) : Int)) = ((max k tn : Nat) : Int) := by split <;> omega
          rw [e1, e2] at *
          have s6 := same_new nr2 (.tup [.int ((min k tn : Nat) : Int), .int ((max k tn : Nat) : Int)])
          obtain ⟨g, e, xs, rfl, hg, he, hes⟩ := hx4.same (s5.trans s6)
          refine ⟨_, rfl, g, _, _, _, rfl, rfl, hg, rfl, (min k tn, max k tn), e, xs, es, ⟨r2, rfl, SqT.of upd_same⟩, rfl, he, hes, _, rfl, iteB (fun _ => ?_) (fun _ => ?_)⟩
          · refine ⟨_, rfl, _, rfl, (by show 2 ≤ sizeLine; decide), fun r3 nr3 => ?_⟩
            have hD6 := s6 _ _ hD
            obtain ⟨t1, p1⟩ := push_pair (k, v) hD6 nr3 (pz.same s6)
            refine ⟨zs, (same_new nr3 _) _ _ hD6, small1000 (by omega), same_put (s5.trans (s6.trans (same_new nr3 _))) nD, _, _, upd_same, by rw [List.length_append]; show zs.length + 1 ≤ k + 1; omega, p1, fun q hq => ?_⟩
            rcases List.mem_append.mp hq with hq | hq
            · exact pp q hq
            · rw [List.mem_singleton.mp hq]
              show k ≠ v ∧ k < v + 1 ∧ v < v + 1
              omega
          · exact ⟨s5.trans s6, zs, ps, s6 _ _ hD, by omega, pz.same s6, pp⟩
        · rintro H5 ⟨s5, zs, ps, hD, lz, pz, pp⟩
          exact go _ _ ⟨D, zs, ps, rfl, hD, by omega, pz, pp, s5, nD⟩
      · refine ⟨(by show 0 ≤ sizeLine; decide), fun D nD => ?_⟩
        exact go _ _ ⟨D, [], [], rfl, upd_same, by show 0 ≤ v; omega, .nil, (fun _ z => nomatch z), same_new nD _, nD⟩
    rintro _ H5 ⟨D, zs, ps, rfl, hD, lz, pz, pp, s5, nD⟩
    have nD0 : H D = none := b4.none w4 nD
    have Dp : D ≠ p := w4.ne nD
    refine ⟨_, rfl, (v : Int), rfl, by omega, by omega, for_range (lo := 0) (n := ((v : Nat) : Int).toNat)
      (fun k σ H' => ∃ (zs : List V) (ps : List E2) (s6 : Option V), σ = [some (.ref p), some x, some (.int (n : Int)), some (.int (v : Int)), some (.int (tn : Int)), some (.bl istw), s6, some (.ref D)] ∧ But p H H' ∧ Wl H' p ∧ H' D = some (.lst zs) ∧ zs.length ≤ v + k ∧ GraphAt K H' x v es ∧
        PairsAt K H' zs ps ∧ (∀ q ∈ ps, q.1 ≠ q.2 ∧ q.1 < v + 1 ∧ q.2 < v + 1)) ⟨zs, ps, s6, rfl, b4.trans (But.of s5), w4.same s5, hD, by omega, hx4.same s5, pz, pp⟩ ?_ ?_⟩
    · rintro k σ H6 lk ⟨zs, ps, s6, rfl, b6, w6, hD, lz, hx6, pz, pp⟩
      rw [Int.zero_add]
      refine ⟨_, rfl, _, rfl, iteB (fun _ => ?_) (fun _ => iteF ?_)⟩
      · refine ⟨_, rfl, p, _, rfl, w6, by decide, by decide, fun d2 H7 _ _ b7 w7 => ?_⟩
        have t7 := TS.but b7 w6
        have hD7 := b7 _ _ Dp hD
        refine ⟨rfl, _, rfl, iteB (fun _ => ?_) (fun _ => ?_)⟩
        · refine ⟨_, rfl, .inl ⟨rfl, _, SqL.of hD7⟩, _, rfl, _, rfl, (by show 2 ≤ sizeLine; decide), fun r nr => ?_⟩
          obtain ⟨t1, p1⟩ := push_pair (k, v) hD7 nr (pz.ts t7)
          refine ⟨D, zs, _, rfl, rfl, (same_new nr _) _ _ hD7, small1000 (by omega), zs ++ [.ref r], ps ++ [(k, v)], _, rfl, but_put ((b6.trans b7).trans (But.new nr)) nD0, (w7.same (same_new nr _)).put Dp, upd_same, by rw [List.length_append]; show zs.length + 1 ≤ v + (k + 1); omega, (hx6.ts t7).ts t1, p1, fun q hq => ?_⟩
          rcases List.mem_append.mp hq with hq | hq
          · exact pp q hq
          · rw [List.mem_singleton.mp hq]
            show k ≠ v ∧ k < v + 1 ∧ v < v + 1
            omega
        · exact ⟨zs, ps, _, rfl, b6.trans b7, w7, hD7, by omega, hx6.ts t7, pz.ts t7, pp⟩
      · exact ⟨zs, ps, _, rfl, b6, w6, hD, by omega, hx6, pz, pp⟩
    · rintro σ H6 ⟨zs, ps, s6, rfl, b6, w6, hD, lz, hx6, pz, pp⟩
      rw [show ((v : Nat) : Int).toNat = v by omega] at lz
      obtain ⟨g, e, xs, rfl, hg, he, hes⟩ := hx6
      have l1 := PairsAt.len hes
      have l2 := gx.few
      have l3 := PairsAt.len pz
      refine ⟨_, rfl, _, _, rfl, rfl, _, rfl, g, _, _, _, rfl, rfl, hg, rfl, e, _, rfl, .inr he, fun l nl => ?_⟩
      have s7 := same_new nl (.lst xs)
      refine ⟨_, rfl, l, D, _, _, rfl, rfl, upd_same, s7 _ _ hD, small (by omega), fun c nc => ?_⟩
      have s8 := same_new nc (.lst (xs ++ zs))
      refine ⟨v + 1, c, xs ++ zs, es ++ ps, rfl, by omega, SqL.of upd_same, (hes.same (s7.trans s8)).append (pz.same (s7.trans s8)), by rw [List.length_append]; omega, fun q hq => ?_, fun y gs H' s9 hy gy _ => ?_⟩
      · rcases List.mem_append.mp hq with hq | hq
        · have z := gx.lt q hq
          omega
        · exact pp q hq
      · have s10 := (s7.trans s8).trans s9
        exact ⟨y, gs, _, _, _, _, _, rfl, b6.trans (But.of s10), w6.same s10, by rw [show m + (i + 1) = v + 1 by omega]; exact hy.at, by rw [show m + (i + 1) = v + 1 by omega]; exact gy⟩
  · rintro σ H1 ⟨x, es, s3, s4, s5, s6, s7, rfl, b1, w1, hx, gx⟩
    rw [show m + ((n : Int) - (m : Int)).toNat = n by omega] at hx gx
    exact ⟨_, rfl, q x es H1 b1 w1 hx gx⟩
theorem ok_graph (F : L2.Fun K "_law_graph" "_law_graph" sGraph f fd) (GD : FnOk P w K mg base CX0 1 fD dD ["well", "many"] spDraw) (bD : L2.Binds K dD ["well", "many"] []) (kD : PySem.W.keepIn K (.ref fD) = true) (mD : mg "_law_draw" = some (.ref fD))
    (GA : FnOk P w K mg base CX0 3 fA dA ["well", "n"] (spRandom K)) (bA : L2.Binds K dA ["well", "n"] []) (kA : PySem.W.keepIn K (.ref fA) = true) (mA : mg "_law_random" = some (.ref fA))
    (GS : FnOk P w K mg base CX0 2 fS dS ["well", "n"] (spRandom K)) (bS : L2.Binds K dS ["well", "n"] []) (kS : PySem.W.keepIn K (.ref fS) = true) (mS : mg "_law_sides" = some (.ref fS))
    (GF : FnOk P w K mg base CX0 3 fF dF ["well", "n"] (spFolded K)) (bF : L2.Binds K dF ["well", "n"] []) (kF : PySem.W.keepIn K (.ref fF) = true) (mF : mg "_law_folded" = some (.ref fF))
    (GG : FnOk P w K mg base CX0 2 fG dG ["well", "graph", "n"] (spGrown K)) (bG : L2.Binds K dG ["well", "graph", "n"] []) (kG : PySem.W.keepIn K (.ref fG) = true) (mG : mg "_law_grown" = some (.ref fG))
    (GR : FnOk P w K mg base CX0 2 fR dR ["many"] (spRound K)) (bR : L2.Binds K dR ["many"] []) (kR : PySem.W.keepIn K (.ref fR) = true) (mR : mg "_law_round" = some (.ref fR))
    (GK : FnOk P w K mg base CX0 2 fK dK ["well", "some"] (spPick K)) (bK : L2.Binds K dK ["well", "some"] []) (kK : PySem.W.keepIn K (.ref fK) = true) (mK : mg "_law_pick" = some (.ref fK))
    (GU : FnOk P w K mg base CX0 1 fU dU ["graph"] (spTurned K)) (bU : L2.Binds K dU ["graph"] []) (kU : PySem.W.keepIn K (.ref fU) = true) (mU : mg "_law_turned" = some (.ref fU))
    (GC : FnOk P w K mg base CX0 2 fC dC ["graph", "names"] (spCalled K)) (bC : L2.Binds K dC ["graph", "names"] []) (kC : PySem.W.keepIn K (.ref fC) = true) (mC : mg "_law_called" = some (.ref fC))
    (GO : FnOk P w K mg base CX0 2 fO dO ["well", "many"] (spOrder K)) (bO : L2.Binds K dO ["well", "many"] []) (kO : PySem.W.keepIn K (.ref fO) = true) (mO : mg "_law_order" = some (.ref fO))
    (mx : mg "max" = none) : FnOk P w K mg base CX0 4 f fd ["well", "most"] (spGraph K) := by
  refine F.ok scGraph (fun vs H Q E h => ?_) (fun cdv A outer s H vs Q E hr h => ?_)
  · obtain ⟨p, n, rfl, _⟩ := h
    rfl
  obtain ⟨p, most, rfl, hW, m9, q⟩ := h
  refine ⟨_, (pss_cons (ps_par (by rfl) scGraph.nd (i := 2) (j := 3) rfl rfl (by decide) rfl rfl (pa_cons (pe_call GD (hr.mono (by decide)) (by rfl) mD kD bD .nil pass0 (pa_cons (pv 0) (pa_cons (pe_op op_add (pv 1) pe_int) pa_nil))) (pa_cons (pe_call GD (hr.mono (by decide)) (by rfl) mD kD bD .nil pass0 (pa_cons (pv 0) (pa_cons pe_int pa_nil))) pa_nil)) (by rfl))
    (pss_cons (ps_set (i := 2) scGraph.nd rfl (.inl rfl) (pe_ifExp (pt_cmpR op_eq (pe_call GD (hr.mono (by decide)) (by rfl) mD kD bD .nil pass0 (pa_cons (pv 0) (pa_cons pe_int pa_nil))) pe_int (nomark _)) (pv 2) (pe_callB (call_max2 rfl) (by rfl) mx (by decide +kernel) (pa_cons (pv 2) (pa_cons (pe_op op_sub (pv 1) (pe_call GD (hr.mono (by decide)) (by rfl) mD kD bD .nil pass0 (pa_cons (pv 0) (pa_cons pe_int pa_nil)))) pa_nil)))))
    (pss_cons (ps_set (i := 4) scGraph.nd rfl (.inl rfl) (pe_call GA (hr.mono (by decide)) (by rfl) mA kA bA .nil pass0 (pa_cons (pv 0) (pa_cons (pv 2) pa_nil))))
    (pss_cons (ps_if (pt_cmpR op_eq (pv 3) pe_int (nomark _)) (pss_one (ps_set (i := 4) scGraph.nd rfl (.inl rfl) (pe_call GS (hr.mono (by decide)) (by rfl) mS kS bS .nil pass0 (pa_cons (pv 0) (pa_cons (pv 2) pa_nil))))) pss_nil)
    (pss_cons (ps_if (PW.pt (pw_and (pt_cmpR op_eq (pv 3) pe_int (nomark _)) (pw_and1 (pt_cmpR op_gt (pv 2) pe_int (nomark _))))) (pss_one (ps_set (i := 4) scGraph.nd rfl (.inl rfl) (pe_call GF (hr.mono (by decide)) (by rfl) mF kF bF .nil pass0 (pa_cons (pv 0) (pa_cons (pv 2) pa_nil))))) pss_nil)
    (pss_cons (ps_if (PW.pt (pw_and (pt_cmpR op_in_seq (pv 3) (pe_tup (pa_cons pe_int (pa_cons pe_int (pa_cons pe_int pa_nil)))) (by rfl)) (pw_and1 (pt_cmpR op_gt (pv 1) pe_int (nomark _))))) (pss_one (ps_set (i := 4) scGraph.nd rfl (.inl rfl) (pe_call GG (hr.mono (by decide)) (by rfl) mG kG bG .nil pass0 (pa_cons (pv 0) (pa_cons (pe_call GR (hr.mono (by decide)) (by rfl) mR kR bR .nil pass0 (pa_cons pe_int pa_nil)) (pa_cons (pe_op op_add pe_int (pe_call GD (hr.mono (by decide)) (by rfl) mD kD bD .nil pass0 (pa_cons (pv 0) (pa_cons (pe_op op_sub (pv 1) pe_int) pa_nil)))) pa_nil)))))) pss_nil)
    (pss_cons (ps_if (PW.pt (pw_and (pt_cmpR op_eq (pv 3) pe_int (nomark _)) (pw_and1 (pt_cmpR op_gt (pv 1) pe_int (nomark _))))) (pss_one (ps_set (i := 4) scGraph.nd rfl (.inl rfl) (pe_call GG (hr.mono (by decide)) (by rfl) mG kG bG .nil pass0 (pa_cons (pv 0) (pa_cons (pe_call GR (hr.mono (by decide)) (by rfl) mR kR bR .nil pass0 (pa_cons (pe_call GK (hr.mono (by decide)) (by rfl) mK kK bK .nil pass0 (pa_cons (pv 0) (pa_cons (pe_tup (pa_cons pe_int (pa_cons pe_int (pa_cons pe_int pa_nil)))) pa_nil))) pa_nil)) (pa_cons (pv 1) pa_nil)))))) pss_nil)
    (pss_cons (ps_if (PW.pt (pw_and (pt_cmpR op_eq (pv 3) pe_int (nomark _)) (pw_and1 (pt_cmpR op_gt (pv 1) pe_int (nomark _))))) (pss_one (ps_set (i := 4) scGraph.nd rfl (.inl rfl) (pe_call GG (hr.mono (by decide)) (by rfl) mG kG bG .nil pass0 (pa_cons (pv 0) (pa_cons (pe_call GR (hr.mono (by decide)) (by rfl) mR kR bR .nil pass0 (pa_cons pe_int pa_nil)) (pa_cons (pe_op op_add pe_int (pe_call GD (hr.mono (by decide)) (by rfl) mD kD bD .nil pass0 (pa_cons (pv 0) (pa_cons (pe_op op_sub (pv 1) pe_int) pa_nil)))) pa_nil)))))) pss_nil)
    (pss_cons (ps_if (pt_cmpR op_eq (pe_call GD (hr.mono (by decide)) (by rfl) mD kD bD .nil pass0 (pa_cons (pv 0) (pa_cons pe_int pa_nil))) pe_int (nomark _)) (pss_one (ps_set (i := 4) scGraph.nd rfl (.inl rfl) (pe_call GU (hr.mono (by decide)) (by rfl) mU kU bU .nil pass0 (pa_cons (pv 4) pa_nil)))) pss_nil)
    (pss_one (ps_ret (pe_call GC (hr.mono (by decide)) (by rfl) mC kC bC .nil pass0 (pa_cons (pv 4) (pa_cons (pe_call GO (hr.mono (by decide)) (by rfl) mO kO bO .nil pass0 (pa_cons (pv 0) (pa_cons (pe_ix ix_tup (pv 4) pe_int (fun _ _ => rfl)) pa_nil))) pa_nil)))))))))))))), ?_⟩
  refine ⟨_, rfl, _, rfl, _, _, rfl, rfl, p, _, rfl, hW, by omega, by omega, fun n0 H1 l0 u0 b1 w1 => ?_⟩
  refine ⟨_, rfl, p, _, rfl, w1, by decide, by decide, fun way H2 l1 u1 b2 w2 => ?_⟩
  refine ⟨_, _, rfl, ?_⟩
  refine ⟨_, rfl, p, _, rfl, w2, by decide, by decide, fun d H3 _ _ b3 w3 => ?_⟩
  have b03 : But p H H3 := b1.trans (b2.trans b3)
  refine ⟨rfl, _, rfl, ?_⟩
  obtain ⟨n1, rfl⟩ : ∃ n1 : Nat, n0 = (n1 : Int) := ⟨n0.toNat, by omega⟩
  refine' joinS (i := 2) (R := fun y H' => ∃ n : Nat, y = .int (n : Int) ∧ n ≤ most ∧ But p H H' ∧ Wl H' p) (fun go => ?_) ?_
  rotate_left 2
  · refine iteB (fun _ => ?_) (fun _ => ?_)
    · exact ⟨_, rfl, go _ _ ⟨n1, rfl, by omega, b03, w3⟩⟩
    · refine ⟨_, rfl, _, rfl, _, rfl, p, _, rfl, w3, by decide, by decide, fun d2 H4 l4 u4 b4 w4 => ?_⟩
      refine ⟨_, _, rfl, rfl, _, _, rfl, go _ _ ⟨(max n1 (((most : Int) - d2).toNat)), ?_, by omega, b03.trans b4, w4⟩⟩
      congr 1
      split <;> omega
  rintro _ H4 ⟨n, rfl, nm, b4, w4⟩
  have n9 : n ≤ 9 := by omega
  refine ⟨_, rfl, _, rfl, p, n, rfl, w4, n9, fun x5 es5 H5 b45 w5 h5 g5 => ?_⟩
  have b5 := b4.trans b45
  have m5 := nm
  refine' joinT (R := fun σ H' => ∃ (y : V) (m : Nat) (es : List E2), σ = [some (.ref p), some (.int (most : Int)), some (.int (n : Int)), some (.int way), some y] ∧ m ≤ most ∧ But p H H' ∧ Wl H' p ∧ GraphAt K H' y m es ∧ Good m es) (fun go => ?_) ?_
  rotate_left 1
  · refine ⟨_, rfl, rfl, _, rfl, iteB (fun _ => ?tt1) (fun _ => ?ff1)⟩
    case ff1 => exact go _ _ ⟨x5, n, es5, rfl, m5, b5, w5, h5, g5⟩
    case tt1 => exact ⟨_, rfl, _, rfl, p, n, rfl, w5, n9, fun x es H' b w' hx gx => go _ _ ⟨x, n, es, rfl, nm, b5.trans b, w', hx, gx⟩⟩
  rintro _ H6 ⟨x6, m6, es6, rfl, n6, b6, w6, h6, g6⟩
  refine' joinT (R := fun σ H' => ∃ (y : V) (m : Nat) (es : List E2), σ = [some (.ref p), some (.int (most : Int)), some (.int (n : Int)), some (.int way), some y] ∧ m ≤ most ∧ But p H H' ∧ Wl H' p ∧ GraphAt K H' y m es ∧ Good m es) (fun go => ?_) ?_
  rotate_left 1
  · refine ⟨_, rfl, rfl, _, rfl, iteB (fun _ => ?tt2) (fun _ => iteF ?ff2)⟩
    case ff2 => exact go _ _ ⟨x6, m6, es6, rfl, n6, b6, w6, h6, g6⟩
    refine ⟨_, rfl, _, _, rfl, rfl, _, rfl, iteB (fun c => ?_) (fun _ => go _ _ ⟨x6, m6, es6, rfl, n6, b6, w6, h6, g6⟩)⟩
    have c1 : (0 : Int) < (n : Int) := of_decide_eq_true c
    exact ⟨_, rfl, _, rfl, p, n, rfl, w6, by omega, n9, fun x es H' b w' hx gx => go _ _ ⟨x, n, es, rfl, nm, b6.trans b, w', hx, gx⟩⟩
  rintro _ H7 ⟨x7, m7, es7, rfl, n7, b7, w7, h7, g7⟩
  refine' joinT (R := fun σ H' => ∃ (y : V) (m : Nat) (es : List E2), σ = [some (.ref p), some (.int (most : Int)), some (.int (n : Int)), some (.int way), some y] ∧ m ≤ most ∧ But p H H' ∧ Wl H' p ∧ GraphAt K H' y m es ∧ Good m es) (fun go => ?_) ?_
  rotate_left 1
  · refine ⟨_, rfl, (by show 3 ≤ sizeLine; decide), fun t nt => ?_⟩
    have s1 := same_new nt (.tup [.int 2, .int 3, .int 4])
    have w8 := w7.same s1
    have b8 := b7.trans (But.of s1)
    have h8 := h7.same s1
    refine ⟨t, _, rfl, .inr (SqT.of upd_same), rfl, rfl, _, rfl, iteB (fun _ => ?tt3) (fun _ => iteF ?ff3)⟩
    case ff3 => exact go _ _ ⟨x7, m7, es7, rfl, n7, b8, w8, h8, g7⟩
    refine ⟨_, rfl, _, _, rfl, rfl, _, rfl, iteB (fun c => ?_) (fun _ => go _ _ ⟨x7, m7, es7, rfl, n7, b8, w8, h8, g7⟩)⟩
    have c1 : (4 : Int) < (most : Int) := of_decide_eq_true c
    refine ⟨_, rfl, 5, rfl, by decide, by decide, fun x es H' s' hxT gx => ?_⟩
    have hx := hxT.at (K := K)
    refine ⟨_, rfl, _, rfl, _, _, rfl, rfl, p, _, rfl, w8.same s', by omega, by omega, fun d H2 d0 d1 b2 w2 => ?_⟩
    obtain ⟨dn, rfl⟩ : ∃ dn : Nat, d = (dn : Int) := ⟨d.toNat, by omega⟩
    exact ⟨_, _, rfl, rfl, p, x, 5, 5 + dn, es, rfl, w2, hx.ts (TS.but b2 (w8.same s')), gx, by decide, by omega, by omega, fun y fs H3 b3 w3 hy gy => go _ _ ⟨y, 5 + dn, fs, rfl, by omega, b8.trans ((But.of s').trans (b2.trans b3)), w3, hy, gy⟩⟩
  rintro _ H9 ⟨x9, m9, es9, rfl, n9, b9, w9, h9, g9⟩
  refine' joinT (R := fun σ H' => ∃ (y : V) (m : Nat) (es : List E2), σ = [some (.ref p), some (.int (most : Int)), some (.int (n : Int)), some (.int way), some y] ∧ m ≤ most ∧ But p H H' ∧ Wl H' p ∧ GraphAt K H' y m es ∧ Good m es) (fun go => ?_) ?_
  rotate_left 1
  · refine ⟨_, rfl, rfl, _, rfl, iteB (fun _ => ?tt4) (fun _ => iteF ?ff4)⟩
    case ff4 => exact go _ _ ⟨x9, m9, es9, rfl, n9, b9, w9, h9, g9⟩
    refine ⟨_, rfl, _, _, rfl, rfl, _, rfl, iteB (fun c => ?_) (fun _ => go _ _ ⟨x9, m9, es9, rfl, n9, b9, w9, h9, g9⟩)⟩
    have c1 : (6 : Int) < (most : Int) := of_decide_eq_true c
    refine ⟨_, rfl, _, rfl, (by show 3 ≤ sizeLine; decide), fun t nt => ?_⟩
    have s1 := same_new nt (.tup [.int 6, .int 7, .int 7])
    have w8 := w9.same s1
    refine ⟨p, t, _, rfl, w8, w8.off (SqT.of upd_same), by decide, by decide, fun i v H2 hi b2 w2 => ?_⟩
    obtain ⟨c, rfl, c2, c3⟩ : ∃ c : Nat, v = .int (c : Int) ∧ 6 ≤ c ∧ c ≤ 7 := by
      have m := List.mem_of_getElem? hi
      simp only [List.mem_cons, List.mem_nil_iff, or_false] at m
      rcases m with rfl | rfl | rfl
      · exact ⟨6, rfl, by decide, by decide⟩
      · exact ⟨7, rfl, by decide, by decide⟩
      · exact ⟨7, rfl, by decide, by decide⟩
    refine ⟨c, rfl, by omega, by omega, fun x es H' s' hxT gx => ?_⟩
    have hx := hxT.at (K := K)
    exact ⟨_, rfl, p, x, c, most, es, rfl, w2.same s', hx, gx, by omega, by omega, by omega, fun y fs H3 b3 w3 hy gy => go _ _ ⟨y, most, fs, rfl, Nat.le_refl _, b9.trans ((But.of s1).trans (b2.trans ((But.of s').trans b3))), w3, hy, gy⟩⟩
  rintro _ H10 ⟨x10, m10, es10, rfl, n10, b10, w10, h10, g10⟩
  refine' joinT (R := fun σ H' => ∃ (y : V) (m : Nat) (es : List E2), σ = [some (.ref p), some (.int (most : Int)), some (.int (n : Int)), some (.int way), some y] ∧ m ≤ most ∧ But p H H' ∧ Wl H' p ∧ GraphAt K H' y m es ∧ Good m es) (fun go => ?_) ?_
  rotate_left 1
  · refine ⟨_, rfl, rfl, _, rfl, iteB (fun _ => ?tt5) (fun _ => iteF ?ff5)⟩
    case ff5 => exact go _ _ ⟨x10, m10, es10, rfl, n10, b10, w10, h10, g10⟩
    refine ⟨_, rfl, _, _, rfl, rfl, _, rfl, iteB (fun c => ?_) (fun _ => go _ _ ⟨x10, m10, es10, rfl, n10, b10, w10, h10, g10⟩)⟩
    have c1 : (3 : Int) < (most : Int) := of_decide_eq_true c
    refine ⟨_, rfl, 4, rfl, by decide, by decide, fun x es H' s' hxT gx => ?_⟩
    have hx := hxT.at (K := K)
    refine ⟨_, rfl, _, rfl, _, _, rfl, rfl, p, _, rfl, w10.same s', by omega, by omega, fun d H2 d0 d1 b2 w2 => ?_⟩
    obtain ⟨dn, rfl⟩ : ∃ dn : Nat, d = (dn : Int) := ⟨d.toNat, by omega⟩
    exact ⟨_, _, rfl, rfl, p, x, 4, 4 + dn, es, rfl, w2, hx.ts (TS.but b2 (w10.same s')), gx, by decide, by omega, by omega, fun y fs H3 b3 w3 hy gy => go _ _ ⟨y, 4 + dn, fs, rfl, by omega, b10.trans ((But.of s').trans (b2.trans b3)), w3, hy, gy⟩⟩
  rintro _ H11 ⟨x11, m11, es11, rfl, n11, b11, w11, h11, g11⟩
  refine' joinT (R := fun σ H' => ∃ (y : V) (m : Nat) (es : List E2), σ = [some (.ref p), some (.int (most : Int)), some (.int (n : Int)), some (.int way), some y] ∧ m ≤ most ∧ But p H H' ∧ Wl H' p ∧ GraphAt K H' y m es ∧ Good m es) (fun go => ?_) ?_
  rotate_left 1
  · refine ⟨_, rfl, p, _, rfl, w11, by decide, by decide, fun d H' _ _ b12 w12 => ?_⟩
    have h12 := h11.ts (TS.but b12 w11)
    refine ⟨rfl, _, rfl, iteB (fun _ => ?tt6) (fun _ => ?ff6)⟩
    case ff6 => exact go _ _ ⟨x11, m11, es11, rfl, n11, b11.trans b12, w12, h12, g11⟩
    exact ⟨_, rfl, x11, m11, es11, rfl, h12, g11.n9, fun y H2 s2 hy => go _ _ ⟨y, m11, _, rfl, n11, b11.trans (b12.trans (But.of s2)), w12.same s2, hy.at, good_left g11.n9 es11⟩⟩
  rintro _ H13 ⟨x13, m13, es13, rfl, n13, b13, w13, h13, g13⟩
  have h14 := h13
  obtain ⟨t, e, xs, rfl, ht, he, hes⟩ := h13
  refine ⟨_, rfl, _, rfl, _, rfl, t, _, _, _, rfl, rfl, ht, rfl, p, m13, rfl, w13, g13.n9, fun a ns H' b w' ha pm => ?_⟩
  exact ⟨.ref t, a, m13, es13, ns, rfl, h14.ts (TS.but b w13), g13, ha, pm, fun z fs H2 s2 hz gz => q z m13 fs H2 n13 (b13.trans (b.trans (But.of s2))) (w'.same s2) hz gz⟩
end
end My

set_option maxHeartbeats 4000000
/-! sorted of a list of tuples of ints of any lengths: all of them other than (), or the first one (). -/
namespace My
open PySem PySem.W PySem.Calls PyProof.Rows Builtin
section
variable {prog : Program} {w : World} {A : Around} {E : Value → Shared → Prop} {s : Shared}
theorem kat_ints {b fin : Bool} {Q : Bool → Shared → Prop} : ∀ {ps qs : List Value} {ns ms : List Int} (i : Nat), IntsAre ps ns → IntsAre qs ms → fin = decide (ps.length < qs.length) → Q (HT.lexLt ns ms) s → KatLex prog w A b fin Q (ps.zip qs) i s
  | _, _, _, _, i, .nil, .nil, hf, h => by
    have e : fin = false := by rw [hf]; rfl
    subst e
    exact kat_nil h
  | _, _, _, _, i, .nil, .cons c u t, hf, h => by
    have e : fin = true := by rw [hf]; exact decide_eq_true (by simp)
    subst e
    exact kat_nil h
  | _, _, _, _, i, .cons c u t, .nil, hf, h => by
    have e : fin = false := by rw [hf]; exact decide_eq_false (by simp)
    subst e
    exact kat_nil h
  | _, _, _, _, i, .cons a t r, .cons c u r', hf, h => by
    rw [HT.lexLt_cons] at h
    refine kat_cons (SeqAt.EqAt.int_int a t c u prog w _ _ ?_)
    refine kat_go (fun e1 => ?_) (fun e1 => ?_)
    · have ex : a = c := by simpa using e1
      rw [if_pos ex] at h
      refine kat_yes (kat_ints (i + 1) r r' ?_ h)
      rw [hf]
      simp
    · have ex : ¬ a = c := by simpa using e1
      rw [if_neg ex] at h
      refine kat_no ?_
      cases hb : (b && i == 0) with
      | true => exact oneLt_int h
      | false => exact kat_one _ _ (PyProof.Rows.lt_int h)
theorem tups_cmp {vs : List Value} {k : Value → List Int} (hp : ∀ v ∈ vs, TS.TupInts s.heap v (k v)) : SrtO.Cmp prog w A s (tuples' true) (fun p => p.1 ∈ vs) (SrtO.lt2 fun v u => HT.lexLt (k v) (k u)) := by
  intro p q hm hm'
  obtain ⟨a, xs, e, ⟨o, ho, hc, n, hd⟩, hi⟩ := hp _ hm
  obtain ⟨a', xs', e', ⟨o', ho', hc', n', hd'⟩, hi'⟩ := hp _ hm'
  show wpAny (model prog w) A (keyLt' (tuples' true) p.1 q.1) (fun r s' => s' = s ∧ r = HT.lexLt (k p.1) (k q.1)) (fun _ _ => False) s
  generalize k p.1 = kp at hi ⊢
  generalize k q.1 = kq at hi' ⊢
  rw [e, e']
  refine kat_lt ho hd ho' hd' ?_
  exact kat_ints 0 hi hi' (by rw [Array.length_toList, Array.length_toList]) ⟨rfl, rfl⟩
theorem tup_lt_call {a b : Addr} {dd dd2 : Option Addr} {items items2 : Array Value} {n n2 : Nat} {sl sl2 : Array (Option Value)} {ns ms : List Int} {Q : Value → Shared → Prop} (ga : s.heap.get? a = some { cls := .type "tuple", dict := dd, data := .seq items n, slots := sl })
    (gb : s.heap.get? b = some { cls := .type "tuple", dict := dd2, data := .seq items2 n2, slots := sl2 }) (ia : IntsAre items.toList ns) (ib : IntsAre items2.toList ms) (h : Q (.bool (HT.lexLt ns ms)) s) : wpAny (model prog w) A (call (.builtin "tuple.__lt__") [.ref a, .ref b]) Q E s := by
  have tp : s.TypeIs (.ref a) "tuple" := ⟨_, ga, rfl⟩
  refine wpAny_call (codeAny_call_builtin PySem.F.slot_tuple_lt.plain PySem.F.entry_tuple_lt (PySem.F.slot_tuple_lt.check _ _ _ _ _ _ _ _ tp (PySem.F.args_tuple_lt_2 _ _) ?_))
  refine wpAny_mono (HT.tuple_lt_ints a b items items2 n n2 dd dd2 sl sl2 ns ms ia ib prog w _ (wants Q E) s ⟨ga, gb, h⟩) (fun fin s' q => ?_) fun _ _ z => z
  cases fin with
  | done f => exact q
  | again c => exact q
theorem tups_lt {v u : Value} {ns ms : List Int} {Q : Bool → Shared → Prop} (hu : A.units < cLine) (hv : TS.TupInts s.heap v ns) (hw : TS.TupInts s.heap u ms) (h : Q (HT.lexLt ns ms) s) : wpAny (model prog w) A (keyLt' oneType' v u) Q E s := by
  obtain ⟨a, xs, rfl, hl, hi⟩ := hv
  obtain ⟨b, ys, rfl, hb, hj⟩ := hw
  obtain ⟨⟨cls, dd, data, sl⟩, ho, hc, n, hd⟩ := id hl
  obtain ⟨⟨cls2, dd2, data2, sl2⟩, ho2, hc2, n2, hd2⟩ := id hb
  simp only at hc hd hc2 hd2
  subst hc hd hc2 hd2
  rw [keyLt'_oneType, oneLt'_eq]
  simp only [if_true]
  refine wpAny_bind (wpAny_cRoomFor hu ?_)
  have tp : s.TypeIs (.ref a) "tuple" := ⟨_, ho, rfl⟩
  refine wpAny_bind (wpAny_callSpecialIfBound?_slot tp PySem.F.slot_tuple_lt (tup_lt_call ho ho2 hi hj ?_))
  exact wpAny_truthy_bool h
theorem tups_cmp1 {vs : List Value} {k : Value → List Int} (hu : A.units < cLine) (hp : ∀ v ∈ vs, TS.TupInts s.heap v (k v)) : SrtO.Cmp prog w A s oneType' (fun p => p.1 ∈ vs) (SrtO.lt2 fun v u => HT.lexLt (k v) (k u)) := by
  intro p q hm hm'
  exact tups_lt (Q := fun r s' => s' = s ∧ r = HT.lexLt (k p.1) (k q.1)) (E := fun _ _ => False) hu (hp _ hm) (hp _ hm') ⟨rfl, rfl⟩
end
section
variable {M : Model} {A : Around} {E : Value → Shared → Prop} {s : Shared}
theorem tup_type {v : Value} {ns : List Int} (h : TS.TupInts s.heap v ns) : Looks M s.heap (typeOf v) (.type "tuple") := by
  obtain ⟨a, xs, rfl, ⟨o, ho, hc, n, hd⟩, hi⟩ := h
  have z : Looks M s.heap (typeOf (.ref a)) o.cls := (Looks.ld ho).andThen .now
  rw [hc] at z
  exact z
theorem tup_firsts : ∀ (vs : List Value) (k : Value → List Int) {Q : List (Option Value) → Shared → Prop}, (∀ v ∈ vs, TS.TupInts s.heap v (k v)) → (∀ fs : List (Option Value), (∀ v r, vs = v :: r → k v = [] → ∃ t, fs = none :: t) → Q fs s) → wpAny M A (vs.mapM firstOfTuple') Q E s
  | [], k, Q, _, h => by
    rw [List.mapM_nil]
    exact wpAny_pure (h [] fun v r e => by cases e)
  | v :: vs, k, Q, hp, h => by
    have tv := tup_type (M := M) (hp v (List.mem_cons_self ..))
    obtain ⟨a, xs, rfl, ⟨o, ho, hc, n, hd⟩, hi⟩ := hp v (List.mem_cons_self ..)
    rw [List.mapM_cons]
    refine wpAny_bind ?_
    rw [kas_first_eq]
    refine wpAny_bind (tv.here ?_)
    rw [if_neg (by first | decide | simp)]
    refine wpAny_bind (listItems_at ho hd (wpAny_pure ?_))
    refine wpAny_bind (tup_firsts vs k (fun u hu => hp u (List.mem_cons_of_mem _ hu)) fun fs _ => wpAny_pure (h _ fun v r e en => ?_))
    cases e
    rw [en] at hi
    refine ⟨fs, ?_⟩
    have e0 : xs.toList = [] := by
      cases xs with
      | mk l => cases hi; rfl
    have e1 : xs = #[] := by
      cases xs with
      | mk l => exact congrArg Array.mk e0
    rw [e1]
    rfl
theorem tups_kind1 {vs : List Value} {k : Value → List Int} {v0 : Value} {r : List Value} {Q : SortKind → Shared → Prop} (e0 : vs = v0 :: r) (k0 : k v0 = []) (hp : ∀ v ∈ vs, TS.TupInts s.heap v (k v)) (h : Q oneType' s) : wpAny M A (keyKind' vs.toArray) Q E s := by
  subst e0
  rw [keyKind'_eq, List.mapM_toArray, map_eq_pure_bind]
  refine wpAny_bind (wpAny_bind (tup_firsts _ k hp fun fs hf => wpAny_pure ?_))
  obtain ⟨t, rfl⟩ := hf v0 r rfl k0
  rw [if_neg (by simp), if_neg (by simp)]
  rw [oneTypeOnly'_eq, List.mapM_toArray, map_eq_pure_bind]
  refine wpAny_bind (wpAny_bind (wpAny_bind (kas_mapM (r := Value.type "tuple") _ (fun v hv Q' hq => (tup_type (hp v hv)).here hq) (wpAny_pure ?_))))
  have hall : ((List.map (fun _ => Value.type "tuple") (v0 :: r)).toArray.all fun x => x == Value.type "tuple") = true := by
    simp only [List.all_toArray, List.all_map, List.all_eq_true]
    intro _ _
    rfl
  have h0 : (List.map (fun _ => Value.type "tuple") (v0 :: r)).toArray[0]? = some (Value.type "tuple") := by simp
  rw [h0]
  simp only [hall, if_true]
  exact wpAny_pure (wpAny_pure h)
theorem tups_heads {h : Heap} : ∀ {vs : List Value} {k : Value → List Int}, (∀ v ∈ vs, TS.TupInts h v (k v)) → (∀ v ∈ vs, k v ≠ []) → ∃ fs : List Value, KatTups h vs fs ∧ fs.length = vs.length ∧ ∀ f ∈ fs, ∃ x t, f = Value.int x t
  | [], _, _, _ => ⟨[], KatTups.nil, rfl, fun _ hm => by simp at hm⟩
  | v :: vs, k, hp, ne => by
    obtain ⟨fs, h1, h2, h3⟩ := tups_heads (vs := vs) (k := k) (fun v' hm => hp v' (List.mem_cons_of_mem _ hm)) fun v' hm => ne v' (List.mem_cons_of_mem _ hm)
    obtain ⟨a, xs, rfl, ⟨o, ho, hc, n, hd⟩, hi⟩ := hp v (List.mem_cons_self ..)
    have nv := ne _ (List.mem_cons_self ..)
    generalize k (Value.ref a) = kv at hi nv
    cases xs with
    | mk l =>
      cases hi with
      | nil => exact absurd rfl nv
      | cons x t ht =>
        rename_i vs' ns'
        refine ⟨.int x t :: fs, KatTups.cons ho hc hd rfl h1, by rw [List.length_cons, List.length_cons, h2], fun f hm => ?_⟩
        rcases List.mem_cons.mp hm with rfl | hm
        · exact ⟨x, t, rfl⟩
        · exact h3 f hm
end
section
variable {prog : Program} {w : World} {A : Around} {E : Value → Shared → Prop} {s : Shared}
/-- none of them (), or the first one () -/
def Sortish (ks : List (List Int)) : Prop := (∀ k ∈ ks, k ≠ []) ∨ ∃ r, ks = [] :: r
theorem tups_sortable {a : Addr} {vs : List Value} {k : Value → List Int} (hu : A.units < cLine) (h2 : 2 ≤ vs.length) (hp : ∀ v ∈ vs, TS.TupInts s.heap v (k v)) (si : Sortish (vs.map k)) (ha : ∀ v ∈ vs, v ≠ .ref a) :
    SrtO.SortableO prog w A s a vs fun v u => HT.lexLt (k v) (k u) := by
  intro h' keep
  have hp' : ∀ v ∈ vs, TS.TupInts h' v (k v) := fun v hm => by
    obtain ⟨b, xs, e, ⟨o, ho, hc⟩, hi⟩ := hp v hm
    exact ⟨b, xs, e, ⟨o, keep b o (fun z => ha v hm (by rw [e, z])) ho, hc⟩, hi⟩
  rcases si with ne | ⟨r, e⟩
  · obtain ⟨fs, h1, h3, h4⟩ := tups_heads hp' fun v hm => ne _ (List.mem_map.mpr ⟨v, hm, rfl⟩)
    refine ⟨tuples' true, fun Q E hq => ?_, tups_cmp (s := { s with heap := h' }) hp'⟩
    refine kat_kind (s := { s with heap := h' }) (T := .type "int") h1 (by omega) (fun f hm => ?_) (by rfl) ?_
    · obtain ⟨x, t, rfl⟩ := h4 f hm
      exact Looks.now
    · have e : (Value.type "int" != Value.type "tuple") = true := by first | decide +kernel | rfl | decide
      rw [e]
      exact hq
  · refine ⟨oneType', fun Q E hq => ?_, tups_cmp1 (s := { s with heap := h' }) hu hp'⟩
    cases vs with
    | nil => cases e
    | cons v0 vr =>
      rw [List.map_cons] at e
      exact tups_kind1 (s := { s with heap := h' }) rfl (List.cons.inj e).1 hp' hq
end
end My
namespace L2
open PySem PySem.Spec PyProof.Rows
/-- sorted(xs), xs a list of tuples of ints (k says which): a new list, sorted, equal ones in their order -/
def rSortTI (K : PySem.W.Frag) : List V → Hp → VK → Prop := fun vs H Q => ∃ (a : Addr) (xs : List V) (k : V → List Int), vs = [V.ref a] ∧ SqL K H a xs ∧ (∀ x ∈ xs, ∃ t, x = V.ref t ∧ SqT K H t ((k x).map V.int)) ∧ (xs.length < 2 ∨ My.Sortish (xs.map k)) ∧
  ∀ ys p, SrtO.Srtd (fun x y => HT.lexLt (k x) (k y)) ys → SrtO.Stb (fun x y => HT.lexLt (k x) (k y)) ys xs → H p = none → Q (.ref p) (upd H p (.lst ys))
section
variable {X : Cx}
theorem cr_sortTI (hu : X.A.units + 64 < cLine) : CallR X (.builtin "sorted") (rSortTI X.K) := by
  intro pins s σ H vs us Q I r h
  obtain ⟨a, xs, k, rfl, hs, hx, si, q⟩ := h
  obtain ⟨its, rv, hl, hz⟩ := I.list hs
  rw [Vals.ref1 r]
  obtain ⟨e1, e2⟩ := bkV_refs rv fun x m => by
    obtain ⟨t, e, _⟩ := hx x m
    exact ⟨t, e⟩
  have hp : ∀ v ∈ its, TS.TupInts s.heap v (k (bkV v)) := fun v hv => by
    obtain ⟨t, rfl⟩ := e2 v hv
    have hm : V.ref t ∈ xs := by rw [e1]; exact List.mem_map.mpr ⟨_, hv, rfl⟩
    obtain ⟨t', e, ht⟩ := hx _ hm
    cases e
    exact tupI_raw I ht
  refine SrtO.sorted_ord (NtL.swo_lexL fun u => k (bkV u)) hl.isList (by rw [← rv.length]; exact hz) (fun h2 h₁ b hb kp => ?_) fun out h1 h2 => ?_
  · refine My.tups_sortable (s := { s with heap := h₁ }) (k := fun u => k (bkV u)) ?_ h2 (fun v hv => ?_) ?_ fun v hv e => ?_
    · show X.A.units + _ + _ < cLine
      omega
    · obtain ⟨c, ys, e, ⟨o, ho, hc⟩, hi⟩ := hp v hv
      exact ⟨c, ys, e, ⟨o, (kp c o ho).2, hc⟩, hi⟩
    · rcases si with l2 | si
      · rw [rv.length] at l2
        omega
      · rw [e1, List.map_map] at si
        exact si
    · obtain ⟨c, ys, e', ⟨o, ho, hc⟩, hi⟩ := hp v hv
      rw [e'] at e
      cases e
      exact (kp _ o ho).1 rfl
  · obtain ⟨ep, he'⟩ := PyProof.Rows.sortedAll_at s.heap its out.toArray
    have h3 : ∀ u ∈ out, ∃ a, u = Value.ref a := fun u hu => e2 u (h2.perm.mem_iff.mp hu)
    have hb : SrtO.Stb (fun x y => HT.lexLt (k x) (k y)) (out.map bkV) xs := by
      rw [e1]
      exact SrtO.Stb.map (NtL.swo_lexL k) bkV h2
    have hlen : (out.map bkV).length ≤ sizeLine := by
      rw [hb.perm.length_eq]
      exact hz
    exact ⟨.ref _, upd H (s.heap.objs.size + 1) (.lst (out.map bkV)), I.laid (t' := s.toks) (fun _ _ => PyProof.Rows.sortedAll_old) (Nat.le_succ _) ⟨hlen, out, ep, bkV_vals h3, he'⟩, rfl, q _ _ (SrtO.srtd_map h1) hb (I.hok.fresh (Nat.le_succ _))⟩
end
end L2

set_option maxHeartbeats 4000000
/-! Lists of lots in the heap, sorted ones. -/
namespace My
open PySem PySem.Spec PyProof.Rows L2
def natV (l : List Nat) : List V := l.map fun k => V.int ((k : Nat) : Int)
def natI (l : List Nat) : List Int := l.map fun k => ((k : Nat) : Int)
theorem natV_eq (l : List Nat) : (natI l).map V.int = natV l := by unfold natI natV; rw [List.map_map]; rfl
theorem natI_inj : ∀ {l m : List Nat}, natI l = natI m → l = m
  | [], [], _ => rfl
  | [], _ :: _, h => by cases h
  | _ :: _, [], h => by cases h
  | a :: l, b :: m, h => by
    obtain ⟨h1, h2⟩ := List.cons.inj (show ((a : Nat) : Int) :: natI l = ((b : Nat) : Int) :: natI m from h)
    rw [Int.ofNat.inj h1, natI_inj h2]
theorem natV_inj : ∀ {l m : List Nat}, natV l = natV m → l = m
  | [], [], _ => rfl
  | [], _ :: _, h => by cases h
  | _ :: _, [], h => by cases h
  | a :: l, b :: m, h => by
    obtain ⟨h1, h2⟩ := List.cons.inj (show V.int ((a : Nat) : Int) :: natV l = V.int ((b : Nat) : Int) :: natV m from h)
    injection h1 with h1
    rw [Int.ofNat.inj h1, natV_inj h2]
/-- a tuple of this lot -/
def LotT (H : Hp) (x : V) (l : List Nat) : Prop := ∃ t, x = .ref t ∧ H t = some (.tup (natV l))
theorem LotT.same {H H' : Hp} (s : Same H H') {x : V} {l : List Nat} (h : LotT H x l) : LotT H' x l := by
  obtain ⟨t, e, h⟩ := h
  exact ⟨t, e, s _ _ h⟩
theorem LotT.uniq {H : Hp} {x : V} {l m : List Nat} (h : LotT H x l) (h' : LotT H x m) : l = m := by
  obtain ⟨t, rfl, h⟩ := h
  obtain ⟨t', e, h'⟩ := h'
  cases e
  rw [h] at h'
  injection h' with h'
  injection h' with h'
  exact natV_inj h'
inductive LotsT (H : Hp) : List V → List (List Nat) → Prop
  | nil : LotsT H [] []
  | cons {x : V} {l : List Nat} {xs : List V} {ls : List (List Nat)} : LotT H x l → LotsT H xs ls → LotsT H (x :: xs) (l :: ls)
theorem LotsT.same {H H' : Hp} (s : Same H H') {xs : List V} {ls : List (List Nat)} (h : LotsT H xs ls) : LotsT H' xs ls := by
  induction h with
  | nil => exact .nil
  | cons a _ ih => exact .cons (a.same s) ih
theorem LotsT.len {H : Hp} {xs : List V} {ls : List (List Nat)} (h : LotsT H xs ls) : xs.length = ls.length := by
  induction h with
  | nil => rfl
  | cons _ _ ih => rw [List.length_cons, List.length_cons, ih]
theorem LotsT.snoc {H : Hp} {xs : List V} {ls : List (List Nat)} {x : V} {l : List Nat} (h : LotsT H xs ls) (hx : LotT H x l) : LotsT H (xs ++ [x]) (ls ++ [l]) := by
  induction h with
  | nil => exact .cons hx .nil
  | cons a _ ih => exact .cons a ih
theorem LotsT.app {H : Hp} {xs ys : List V} {ls ms : List (List Nat)} (h : LotsT H xs ls) (h' : LotsT H ys ms) : LotsT H (xs ++ ys) (ls ++ ms) := by
  induction h with
  | nil => exact h'
  | cons a _ ih => exact .cons a ih
theorem LotsT.get {H : Hp} {xs : List V} {ls : List (List Nat)} (h : LotsT H xs ls) {i : Nat} {x : V} (hi : xs[i]? = some x) : ∃ l, ls[i]? = some l ∧ LotT H x l := by
  induction h generalizing i with
  | nil => simp at hi
  | cons a _ ih =>
    cases i with
    | zero =>
      cases hi
      exact ⟨_, rfl, a⟩
    | succ i => exact ih hi
theorem LotT.put {H : Hp} {B : Addr} {ys : List V} {o : HO} (hB : H B = some (.lst ys)) {x : V} {l : List Nat} (h : LotT H x l) : LotT (upd H B o) x l := by
  obtain ⟨t, e, h⟩ := h
  have ne : t ≠ B := fun z => by
    rw [z, hB] at h
    cases h
  exact ⟨t, e, by rw [upd_ne ne]; exact h⟩
theorem LotsT.put {H : Hp} {B : Addr} {ys : List V} {o : HO} (hB : H B = some (.lst ys)) {xs : List V} {ls : List (List Nat)} (h : LotsT H xs ls) : LotsT (upd H B o) xs ls := by
  induction h with
  | nil => exact .nil
  | cons a _ ih => exact .cons (a.put hB) ih
open Classical in
noncomputable def kN (H : Hp) (x : V) : List Nat := if h : ∃ l, LotT H x l then h.choose else []
theorem kN_at {H : Hp} {x : V} {l : List Nat} (h : LotT H x l) : kN H x = l := by
  unfold kN
  rw [dif_pos ⟨l, h⟩]
  exact (Classical.choose_spec (⟨l, h⟩ : ∃ l, LotT H x l)).uniq h
theorem LotsT.mem {H : Hp} {xs : List V} {ls : List (List Nat)} (h : LotsT H xs ls) : ∀ x ∈ xs, LotT H x (kN H x) := by
  induction h with
  | nil => intro x hx; cases hx
  | cons a _ ih =>
    intro x hx
    rcases List.mem_cons.mp hx with rfl | hx
    · rw [kN_at a]; exact a
    · exact ih x hx
theorem LotsT.map {H : Hp} {xs : List V} {ls : List (List Nat)} (h : LotsT H xs ls) : xs.map (kN H) = ls := by
  induction h with
  | nil => rfl
  | cons a _ ih => rw [List.map_cons, kN_at a, ih]
theorem LotsT.of_mem {H : Hp} : ∀ {ys : List V}, (∀ y ∈ ys, LotT H y (kN H y)) → LotsT H ys (ys.map (kN H))
  | [], _ => .nil
  | y :: ys, h => .cons (h y (List.mem_cons_self ..)) (LotsT.of_mem fun z hz => h z (List.mem_cons_of_mem _ hz))
/-- ahead of, as tuples are compared -/
def ltL (a b : List Nat) : Prop := HT.lexLt (natI a) (natI b) = true
theorem ltL_asym {a b : List Nat} (h : ltL a b) : ¬ ltL b a := fun h' => by
  have z := NtL.lex_asym _ _ h
  unfold ltL at h'
  rw [z] at h'
  cases h'
theorem lex_same : ∀ {a b : List Int}, HT.lexLt a b = false → HT.lexLt b a = false → a = b
  | [], [], _, _ => rfl
  | [], b :: bs, h, _ => by rw [HT.lexLt_nil_cons] at h; cases h
  | a :: as, [], _, h => by rw [HT.lexLt_nil_cons] at h; cases h
  | a :: as, b :: bs, h, h' => by
    rw [HT.lexLt_cons] at h h'
    by_cases e : a = b
    · rw [if_pos e] at h
      rw [if_pos e.symm] at h'
      rw [e, lex_same h h']
    · rw [if_neg e] at h
      rw [if_neg (Ne.symm e)] at h'
      have := of_decide_eq_false h
      have := of_decide_eq_false h'
      omega
/-- two lists that ascend, with the same members -/
theorem eq_of_ltL : ∀ {l m : List (List Nat)}, l.Pairwise ltL → m.Pairwise ltL → (∀ k, k ∈ l ↔ k ∈ m) → l = m
  | [], [], _, _, _ => rfl
  | [], b :: m, _, _, h => absurd ((h b).mpr (List.mem_cons_self ..)) (by simp)
  | a :: l, [], _, _, h => absurd ((h a).mp (List.mem_cons_self ..)) (by simp)
  | a :: l, b :: m, hl, hm, h => by
    have l1 := (List.pairwise_cons.mp hl).1
    have m1 := (List.pairwise_cons.mp hm).1
    have irr : ∀ k : List Nat, ¬ ltL k k := fun k z => ltL_asym z z
    have e : a = b := by
      rcases List.mem_cons.mp ((h a).mp (List.mem_cons_self ..)) with e | e
      · exact e
      · rcases List.mem_cons.mp ((h b).mpr (List.mem_cons_self ..)) with e2 | e2
        · exact e2.symm
        · exact absurd (m1 a e) (ltL_asym (l1 b e2))
    subst e
    rw [eq_of_ltL (List.pairwise_cons.mp hl).2 (List.pairwise_cons.mp hm).2 fun k => ?_]
    constructor
    · intro hk
      rcases List.mem_cons.mp ((h k).mp (List.mem_cons_of_mem _ hk)) with e | e
      · rw [e] at hk
        exact absurd (l1 a hk) (irr a)
      · exact e
    · intro hk
      rcases List.mem_cons.mp ((h k).mpr (List.mem_cons_of_mem _ hk)) with e | e
      · rw [e] at hk
        exact absurd (m1 a hk) (irr a)
      · exact e
/-- sorted lots, none twice, ascend -/
theorem sorted_lots {H : Hp} {xs ys : List V} {ls : List (List Nat)} (h : LotsT H xs ls) (nd : ls.Nodup) (so : SrtO.Srtd (fun x y => HT.lexLt (natI (kN H x)) (natI (kN H y))) ys) (st : SrtO.Stb (fun x y => HT.lexLt (natI (kN H x)) (natI (kN H y))) ys xs) :
    LotsT H ys (ys.map (kN H)) ∧ (ys.map (kN H)).Pairwise ltL ∧ (ys.map (kN H)).Perm ls := by
  have pm : (ys.map (kN H)).Perm ls := by
    have z := st.perm.map (kN H)
    rw [h.map] at z
    exact z
  refine ⟨LotsT.of_mem fun y hy => h.mem y (st.perm.mem_iff.mp hy), ?_, pm⟩
  have nd2 : (ys.map (kN H)).Nodup := pm.nodup_iff.mpr nd
  rw [List.pairwise_map]
  refine (so.and (List.pairwise_map.mp nd2)).imp ?_
  intro a b ⟨le, ne⟩
  have le2 : HT.lexLt (natI (kN H b)) (natI (kN H a)) = false := le
  unfold ltL
  cases e : HT.lexLt (natI (kN H a)) (natI (kN H b)) with
  | true => rfl
  | false => exact absurd (natI_inj (lex_same e le2)) ne
theorem sortish_ne {ls : List (List Nat)} (h : ∀ l ∈ ls, l ≠ []) : Sortish (ls.map natI) := .inl fun k hk => by
  obtain ⟨l, hl, rfl⟩ := List.mem_map.mp hk
  intro z
  exact h l hl (natI_inj (m := []) z)
theorem sortish_nil (r : List (List Nat)) : Sortish (([] :: r).map natI) := .inr ⟨r.map natI, rfl⟩
/-- what sorted asks of lots -/
theorem lots_sort {K : PySem.W.Frag} {H : Hp} {xs : List V} {ls : List (List Nat)} (h : LotsT H xs ls) (si : Sortish (ls.map natI) ∨ ls.length < 2) :
    (∀ x ∈ xs, ∃ t, x = V.ref t ∧ SqT K H t ((natI (kN H x)).map V.int)) ∧ (xs.length < 2 ∨ Sortish (xs.map fun x => natI (kN H x))) := by
  refine ⟨fun x hx => ?_, ?_⟩
  · obtain ⟨t, e, ht⟩ := h.mem x hx
    refine ⟨t, e, SqT.of ?_⟩
    rw [natV_eq]
    exact ht
  · rcases si with ne | l2
    · right
      have e : xs.map (fun x => natI (kN H x)) = ls.map natI := by
        rw [← h.map, List.map_map]
        rfl
      rw [e]
      exact ne
    · left
      rw [h.len]
      exact l2
end My

set_option maxHeartbeats 4000000
namespace My
open PySem PySem.Spec PyProof.Rows L2
abbrev sTied : Stmt := top 39
theorem scTied : FnScope ["graph", "u", "v"] ["graph", "u", "v"] (defScope sTied) := ⟨rfl, rfl, rfl, by decide +kernel, rfl, by decide +kernel, by decide +kernel⟩
def spTied (K : PySem.W.Frag) : Sp := fun vs H Q _ => ∃ (x : V) (n : Nat) (es : List E2) (u v : Nat), vs = [x, .int (u : Int), .int (v : Int)] ∧ GraphAt K H x n es ∧ ∀ H', Same H H' → Q (.bl (adjB es u v)) H'
section
variable {P : Program} {w : World} {K : PySem.W.Frag} {mg : Str → Option Value} {base : Heap} {f : Addr} {fd : FuncData}
theorem ok_tied (F : L2.Fun K "_law_is_tied" "_law_is_tied" sTied f fd) (mn : mg "min" = none) (mx : mg "max" = none) : FnOk P w K mg base CX0 1 f fd ["graph", "u", "v"] (spTied K) := by
  refine F.ok scTied (fun vs H Q E h => ?_) (fun cdv A outer s H vs Q E hr h => ?_)
  · obtain ⟨x, n, es, u, v, rfl, _⟩ := h
    rfl
  obtain ⟨x, n, es, a, b, rfl, hx, q⟩ := h
  refine ⟨_, pss_one (ps_ret (pe_cmpR (r := rInP id K) (op_inP hr.units) (pe_tup (pa_cons (pe_callB (call_min2 rfl) (by rfl) mn (by decide +kernel) (pa_cons (pv 1) (pa_cons (pv 2) pa_nil))) (pa_cons (pe_callB (call_max2 rfl) (by rfl) mx (by decide +kernel) (pa_cons (pv 1) (pa_cons (pv 2) pa_nil))) pa_nil))) (pe_ix (r := rIxT K) ix_tup (pv 0) pe_int (fun _ _ => rfl)) (by rfl))), ?_⟩
  refine ⟨_, rfl, _, rfl, _, _, rfl, _, rfl, _, rfl, _, _, rfl, (by show 2 ≤ sizeLine; decide), fun t nt => ?_⟩
  have e1 : (if (b : Int) < (a : Int) then (b : Int) else (a : Int)) = ((min a b : Nat) : Int) := by split <;> omega
  have e2 : (if (b : Int) > (a : Int) then (b : Int) else (a : Int)) = ((max a b : Nat) : Int) := by split <;> omega
  rw [e1, e2]
  have s1 := same_new nt (.tup [.int ((min a b : Nat) : Int), .int ((max a b : Nat) : Int)])
  obtain ⟨t', e, ys, rfl, ht, he, hes⟩ := hx.same s1
  have a1 : atI [V.int (n : Int), V.ref e] 1 = some (.ref e) := atI_nat (j := 1) rfl
  exact ⟨_, rfl, t', _, 1, _, rfl, rfl, ht, a1, (min a b, max a b), e, ys, es, ⟨t, rfl, SqT.of upd_same⟩, rfl, he, hes, q _ s1⟩
end
end My

set_option maxHeartbeats 4000000
namespace My
open PySem PySem.Spec PyProof.Rows L2
abbrev sGreat : Stmt := top 40
theorem scGreat : FnScope ["graph", "lot", "is_tied", "first", "rest", "near", "found", "v"] ["graph", "lot", "is_tied"] (defScope sGreat) := ⟨rfl, rfl, rfl, by decide +kernel, rfl, by decide +kernel, by decide +kernel⟩
def GreatOk (es : List E2) (t : Bool) (l : List Nat) (v : Nat) : Prop := (∃ s, s.Sublist l ∧ PairB es t s ∧ s.length = v) ∧ ∀ s, s.Sublist l → PairB es t s → s.length ≤ v
theorem great_nil (es : List E2) (t : Bool) : GreatOk es t [] 0 := ⟨⟨[], .slnil, .nil, rfl⟩, fun s h _ => by rw [List.sublist_nil.mp h]; exact Nat.le_refl _⟩
theorem great_cons {es : List E2} {t : Bool} {a : Nat} {r : List Nat} {v1 v2 : Nat} (h1 : GreatOk es t (r.filter fun v => adjB es a v == t) v1) (h2 : GreatOk es t r v2) : GreatOk es t (a :: r) (max (1 + v1) v2) := by
  obtain ⟨⟨s1, a1, b1, c1⟩, u1⟩ := h1
  obtain ⟨⟨s2, a2, b2, c2⟩, u2⟩ := h2
  constructor
  · by_cases c : v2 ≤ 1 + v1
    · refine ⟨a :: s1, (a1.trans List.filter_sublist).cons_cons a, List.pairwise_cons.mpr ⟨fun b hb => ?_, b1⟩, by rw [List.length_cons]; omega⟩
      have z := (List.mem_filter.mp (a1.subset hb)).2
      exact beq_iff_eq.mp z
    · exact ⟨s2, a2.cons a, b2, by omega⟩
  · intro s hs pb
    cases hs with
    | cons _ h =>
      have := u2 s h pb
      omega
    | cons_cons _ h =>
      rename_i s'
      obtain ⟨p1, p2⟩ := List.pairwise_cons.mp pb
      have z : s'.filter (fun v => adjB es a v == t) = s' := List.filter_eq_self.mpr fun b hb => beq_iff_eq.mpr (p1 b hb)
      have := u1 s' (by rw [← z]; exact h.filter _) p2
      rw [List.length_cons]
      omega
theorem great_le {es : List E2} {t : Bool} {l : List Nat} {v : Nat} (h : GreatOk es t l v) : v ≤ l.length := by
  obtain ⟨⟨s, a, _, c⟩, _⟩ := h
  rw [← c]
  exact a.length_le
theorem great_has (es : List E2) (t : Bool) : ∀ l : List Nat, ∃ v, GreatOk es t l v := by
  intro l
  generalize e : l.length = k
  induction k using Nat.strongRecOn generalizing l with
  | _ k ih =>
    cases l with
    | nil => exact ⟨0, great_nil es t⟩
    | cons a r =>
      rw [List.length_cons] at e
      have lf := List.length_filter_le (fun v => adjB es a v == t) r
      obtain ⟨v1, g1⟩ := ih _ (by omega) (r.filter fun v => adjB es a v == t) rfl
      obtain ⟨v2, g2⟩ := ih _ (by omega) r rfl
      exact ⟨_, great_cons g1 g2⟩
def tupD (l : List Nat) : PyData := .tuple (l.map fun k => .int ((k : Nat) : Int))
theorem nums_shapedT (l : List Nat) : SeqAt.shaped (tupD l) = true := by
  have z : ∀ m : List Nat, PyData.canLayAll0 (m.map fun k => PyData.int ((k : Nat) : Int)) = true ∧ PyData.depthAll (m.map fun k => PyData.int ((k : Nat) : Int)) ≤ 1 := fun m => by
    induction m with
    | nil => rw [List.map_nil]; constructor <;> simp [PyData.canLayAll0, PyData.depthAll]
    | cons a r ih =>
      rw [List.map_cons]
      constructor
      · simp only [PyData.canLayAll0, PyData.canLay0, ih.1, Bool.and_true]
      · have := ih.2
        simp only [PyData.depthAll, PyData.depth]
        omega
  obtain ⟨h1, h2⟩ := z l
  unfold SeqAt.shaped tupD
  rw [Bool.and_eq_true, decide_eq_true_eq]
  refine ⟨?_, ?_⟩
  · simp only [PyData.canLay0, h1]
  · simp only [PyData.depth]
    omega
theorem tup_nilB (l : List Nat) : PyData.eqv (tupD l) (.tuple []) = l.isEmpty := by
  cases l with
  | nil => simp [tupD, PyData.eqv, PyData.eqvAll]
  | cons a r => simp [tupD, PyData.eqv, PyData.eqvAll]
theorem nums_dpT {K : PySem.W.Frag} {H : Hp} : ∀ l : List Nat, DpAll K H (natV l) (l.map fun k => PyData.int ((k : Nat) : Int))
  | [] => .nil
  | a :: r => .cons (.int _) (nums_dpT r)
def spGreat (K : PySem.W.Frag) (k : Nat) : Sp := fun vs H Q _ => ∃ (x : V) (n : Nat) (es : List E2) (y : V) (l : List Nat) (t : Bool), vs = [x, y, .bl t] ∧ GraphAt K H x n es ∧ LotT H y l ∧ l.length < k ∧ l.length ≤ 9 ∧ ∀ (v : Nat) H', Same H H' → GreatOk es t l v → Q (.int (v : Int)) H'
section
variable {P : Program} {w : World} {K : PySem.W.Frag} {mg : Str → Option Value} {base : Heap} {f fT : Addr} {fd dT : FuncData}
theorem ok_great (F : L2.Fun K "_law_greatest" "_law_greatest" sGreat f fd) (B : L2.Binds K fd ["graph", "lot", "is_tied"] []) (kF : PySem.W.keepIn K (.ref f) = true) (mF : mg "_law_greatest" = some (.ref f))
    (GT : FnOk P w K mg base CX0 1 fT dT ["graph", "u", "v"] (spTied K)) (bT : L2.Binds K dT ["graph", "u", "v"] []) (kT : PySem.W.keepIn K (.ref fT) = true) (mT : mg "_law_is_tied" = some (.ref fT)) (ml : mg "len" = none) (mt : mg "tuple" = none) (mx : mg "max" = none) : ∀ k, FnOk P w K mg base CX0 (k + 2) f fd ["graph", "lot", "is_tied"] (spGreat K k)
  | 0 => by
    refine F.ok scGreat (fun vs H Q E h => ?_) (fun cdv A outer s H vs Q E hr h => ?_)
    · obtain ⟨x, n, es, y, l, t, rfl, _⟩ := h
      rfl
    · obtain ⟨x, n, es, y, l, t, rfl, _, _, no, _⟩ := h
      omega
  | k + 1 => by
    have G := ok_great F B kF mF GT bT kT mT ml mt mx k
    refine F.ok scGreat (fun vs H Q E h => ?_) (fun cdv A outer s H vs Q E hr h => ?_)
    · obtain ⟨x, n, es, y, l, t, rfl, _⟩ := h
      rfl
    obtain ⟨x, n, es, y, l, t, rfl, hx, hy, lk, l9, q⟩ := h
    have h1 := hr.mono (show 1 ≤ k + 2 by omega)
    refine ⟨_, pss_cons (ps_if (pt_cmpR (op_eqD hr.units) (pv 1) (pe_tup pa_nil) (nomark _)) (pss_one (ps_ret pe_int)) pss_nil)
      (pss_cons (ps_asg (pe_tup (pa_cons (pe_ix (r := rIxT K) ix_tup (pv 1) pe_int (fun _ _ => rfl)) (pa_cons (pe_slice sl_tupA (pv 1) (po_some pe_int) po_none) pa_nil))) (pg_tup (by rfl) (pgs_cons (pg_name (i := 3) scGreat.nd rfl (.inr rfl)) (pgs_cons (pg_name (i := 4) scGreat.nd rfl (.inl rfl)) pgs_nil))))
      (pss_cons (ps_set (i := 5) scGreat.nd rfl (.inl rfl) (pe_callTy call_tuple_of (by rfl) mt (by decide +kernel) (pa_cons (pe_lc (own := [("v", 7)]) (g := gName 7) (tt := tTest (tOp rEq (tCall (spTied K) [] E0 (tCons (tVar 0) (tCons (tVar 3) (tCons (tVar 7) tNil)))) (tVar 2))) rfl scGreat.nd (pi_tup (pv 4))
          (blkOk_by (N := ["graph", "lot", "is_tied", "first", "rest", "near", "found", "v"]) (sc := defScope sGreat) (by decide +kernel)) (fun _ _ _ _ _ => pg_name (i := 7) scGreat.nd rfl (Or.inl rfl))
          (fun _ _ _ _ _ => pts_one (pt_cmpR (r := rEq) op_eq (pe_call GT h1 (by rfl) mT kT bT .nil pass0 (pa_cons (pv 0) (pa_cons (pv 3) (pa_cons (pv 7) pa_nil)))) (pv 2) (nomark _)))
          (fun _ _ _ _ _ => pv 7)) pa_nil)))
      (pss_cons (ps_set (i := 6) scGreat.nd rfl (.inl rfl) (pe_op op_add pe_int (pe_call G hr (by rfl) mF kF B .nil pass0 (pa_cons (pv 0) (pa_cons (pv 5) (pa_cons (pv 2) pa_nil))))))
      (pss_one (ps_ret (pe_ifExp (pt_cmpR op_gt (pv 6) (pe_callB call_len_seq (by rfl) ml PySem.boot_len (pa_cons (pv 4) pa_nil)) (nomark _)) (pv 6) (pe_callB (call_max2 rfl) (by rfl) mx (by decide +kernel) (pa_cons (pv 6) (pa_cons (pe_call G hr (by rfl) mF kF B .nil pass0 (pa_cons (pv 0) (pa_cons (pv 4) (pa_cons (pv 2) pa_nil)))) pa_nil))))))))), ?_⟩
    obtain ⟨ty, rfl, hty⟩ := hy
    refine ⟨_, rfl, (by show 0 ≤ sizeLine; decide), fun z nz => ?_⟩
    have sz := same_new nz (.tup [])
    have hz := upd_same (H := H) (a := z) (o := .tup [])
    generalize upd H z (.tup []) = H0 at sz hz ⊢
    have hty := sz _ _ hty
    have hx := hx.same sz
    refine ⟨tupD l, .tuple [], .tup (SqT.of hty) (nums_dpT l), .tup (SqT.of hz) .nil, nums_shapedT l, nums_shapedT [], _, rfl, ?_⟩
    rw [tup_nilB]
    cases l with
    | nil => exact iteT (q 0 H0 sz (great_nil es t))
    | cons a r =>
      refine iteF ?_
      have rk : r.length < k := by
        rw [List.length_cons] at lk
        omega
      have r9 : r.length ≤ 8 := by
        rw [List.length_cons] at l9
        omega
      have nl : (natV (a :: r)).length = r.length + 1 := by unfold natV; rw [List.length_map, List.length_cons]
      refine ⟨_, rfl, ty, _, 0, _, rfl, rfl, SqT.of hty, atI_nat (j := 0) rfl, _, rfl, (1 : Int), rfl, ty, natV (a :: r), rfl, SqT.of hty, fun w => ?_, fun _ p np => ?_⟩
      · have w2 := w.1
        rw [show (1 : Int) = ((1 : Nat) : Int) from rfl, HT.sIx_nat] at w2
        omega
      have ec : cutV (natV (a :: r)) (some 1) none = natV r := by
        unfold cutV
        rw [HT.sIx_none, show (1 : Int) = ((1 : Nat) : Int) from rfl, HT.sIx_nat, nl, Nat.min_eq_left (by omega)]
        unfold natV
        rw [List.map_cons, List.drop_one, List.tail_cons, List.take_of_length_le (by rw [List.length_map]; omega)]
      rw [ec]
      have sp := same_new np (.tup (natV r))
      have hp := upd_same (H := H0) (a := p) (o := .tup (natV r))
      generalize upd H0 p (.tup (natV r)) = H1 at sp hp ⊢
      refine ⟨(by show 2 ≤ sizeLine; decide), fun u nu => ?_⟩
      have su := same_new nu (.tup [.int (a : Int), .ref p])
      have hu := upd_same (H := H1) (a := u) (o := .tup [.int (a : Int), .ref p])
      have hp2 := su _ _ hp
      have s02 := sp.trans su
      generalize upd H1 u (.tup [.int (a : Int), .ref p]) = H2 at hu hp2 s02 ⊢
      refine ⟨u, _, rfl, SqT.of hu, rfl, _, _, rfl, _, _, rfl, rfl, ?_⟩
      have hx2 := hx.same s02
      refine ⟨_, rfl, p, rfl, ⟨_, SqT.of hp2⟩, fun Bl nB => lo_it (walk_tup (xs := natV r)) (fun j H4 => Same H2 H4 ∧ H4 Bl = some (.lst (natV ((r.take j).filter fun v => adjB es a v == t)))) ⟨same_new nB _, upd_same⟩ (fun j H4 _ ⟨s4, _⟩ => SqT.of (s4 _ _ hp2)) ?_ ?_⟩
      · rintro j y _ H4 lj ⟨s4, hB⟩ ⟨rfl, hj⟩
        unfold natV at hj
        rw [List.getElem?_map] at hj
        cases e : r[j]? with
        | none => rw [e] at hj; cases hj
        | some b =>
          rw [e] at hj
          cases hj
          have tk := take_succ e
          refine ⟨rfl, ?_⟩
          refine ⟨_, rfl, _, rfl, _, rfl, x, n, es, a, b, rfl, hx2.same s4, fun H5 s5 => ?_⟩
          have hB5 := s5 _ _ hB
          have fl : (natV ((r.take j).filter fun v => adjB es a v == t)).length ≤ 10 := by
            unfold natV
            rw [List.length_map]
            refine Nat.le_trans (List.length_filter_le _ _) ?_
            rw [List.length_take]
            omega
          refine ⟨_, rfl, rfl, _, rfl, ?_⟩
          have ev : decide (V.bl (adjB es a b) = V.bl t) = (adjB es a b == t) := by
            cases adjB es a b <;> cases t <;> rfl
          rw [ev]
          refine iteB (fun c => ?_) (fun c => ?_)
          · refine ⟨_, rfl, _, hB5, small1000 (by omega), same_put (s4.trans s5) nB, ?_⟩
            rw [upd_same, tk, List.filter_append, List.filter_cons_of_pos (p := fun v => adjB es a v == t) c]
            unfold natV
            rw [List.map_append]
            rfl
          · refine ⟨s4.trans s5, ?_⟩
            rw [hB5, tk, List.filter_append, List.filter_cons_of_neg (p := fun v => adjB es a v == t) (by rw [c]; decide), List.filter_nil, List.append_nil]
      · rintro H4 ⟨s4, hB⟩
        have e5 : r.take (natV r).length = r := by
          unfold natV
          rw [List.length_map, List.take_length]
        rw [e5] at hB
        refine ⟨Bl, _, rfl, .inl ⟨SqL.of hB, fun tn ntn => ?_⟩⟩
        have st := same_new ntn (.tup (natV (r.filter fun v => adjB es a v == t)))
        have htn := upd_same (H := H4) (a := tn) (o := .tup (natV (r.filter fun v => adjB es a v == t)))
        have s25 := s4.trans st
        have hp5 := s25 _ _ hp2
        generalize upd H4 tn (.tup (natV (r.filter fun v => adjB es a v == t))) = H5 at htn s25 hp5 ⊢
        have lfl := List.length_filter_le (fun v => adjB es a v == t) r
        refine ⟨_, rfl, _, rfl, _, rfl, x, n, es, .ref tn, _, t, rfl, hx2.same s25, ⟨tn, rfl, htn⟩, by omega, by omega, fun v1 H6 s6 g1 => ?_⟩
        refine ⟨_, _, rfl, rfl, ?_⟩
        have hp6 := s6 _ _ hp5
        have s06 := sz.trans (s02.trans (s25.trans s6))
        have nr : (natV r).length = r.length := List.length_map _
        refine ⟨_, rfl, _, rfl, p, _, rfl, .inr (SqT.of hp6), _, _, rfl, rfl, _, rfl, ?_⟩
        refine iteB (fun c => ?_) (fun _ => ?_)
        · have c' := of_decide_eq_true c
          have e1 : (1 : Int) + (v1 : Int) = ((1 + v1 : Nat) : Int) := by omega
          refine ⟨_, rfl, ?_⟩
          show Q (V.int ((1 : Int) + (v1 : Int))) H6
          rw [e1]
          -- the rest is too short to do better
          obtain ⟨v2, g2⟩ := great_has es t r
          have l2 := great_le g2
          have gc := great_cons (a := a) g1 g2
          rw [nr] at c'
          rw [show max (1 + v1) v2 = 1 + v1 by omega] at gc
          exact q _ H6 s06 gc
        · refine ⟨_, rfl, _, rfl, _, rfl, _, rfl, x, n, es, .ref p, r, t, rfl, hx2.same (s25.trans s6), ⟨p, rfl, hp6⟩, by omega, by omega, fun v2 H7 s7 g2 => ?_⟩
          refine ⟨_, _, rfl, ?_⟩
          have e1 : (if (v2 : Int) > (1 : Int) + (v1 : Int) then (v2 : Int) else (1 : Int) + (v1 : Int)) = ((max (1 + v1) v2 : Nat) : Int) := by split <;> omega
          show Q (V.int (if (v2 : Int) > (1 : Int) + (v1 : Int) then (v2 : Int) else (1 : Int) + (v1 : Int))) H7
          rw [e1]
          exact q _ H7 (s06.trans s7) (great_cons g1 g2)
end
end My

set_option maxHeartbeats 8000000
namespace My
open PySem PySem.Spec PyProof.Rows L2
abbrev sCold : Stmt := top 41
theorem scCold : FnScope ["graph", "lot", "told", "many", "v", "bad", "colour", "k"] ["graph", "lot", "told", "many"] (defScope sCold) := ⟨rfl, rfl, rfl, by decide +kernel, rfl, by decide +kernel, by decide +kernel⟩
/-- adjacency by places -/
def adL (es : List E2) (l : List Nat) (u v : Nat) : Bool := adjB es (l.getD u 0) (l.getD v 0)
theorem adL_comm (es : List E2) (l : List Nat) (u v : Nat) : adL es l u v = adL es l v u := adj_comm es _ _
/-- told colours below k, unlike at adjacent vertices -/
structure PropC (es : List E2) (l cs : List Nat) (k : Nat) : Prop where
  few : ∀ u, u < cs.length → cs.getD u 0 < k
  ok : ∀ u v, u < cs.length → v < cs.length → adL es l u v = true → cs.getD u 0 ≠ cs.getD v 0
/-- they can be gone on with -/
def ExtB (es : List E2) (l cs : List Nat) (k : Nat) : Prop := ∃ f : Nat → Nat, (∀ u, u < cs.length → f u = cs.getD u 0) ∧ (∀ u, u < l.length → f u < k) ∧ ∀ u v, u < l.length → v < l.length → adL es l u v = true → f u ≠ f v
theorem ext_full {es : List E2} {l cs : List Nat} {k : Nat} (h : PropC es l cs k) (e : cs.length = l.length) : ExtB es l cs k := by
  rw [ExtB, ← e]
  exact ⟨fun u => cs.getD u 0, fun _ _ => rfl, h.few, h.ok⟩
theorem getD_app {cs : List Nat} {c u : Nat} (h : u < cs.length) : (cs ++ [c]).getD u 0 = cs.getD u 0 := by
  rw [List.getD_eq_getElem?_getD, List.getElem?_append_left h, ← List.getD_eq_getElem?_getD]
theorem getD_last {cs : List Nat} {c : Nat} : (cs ++ [c]).getD cs.length 0 = c := by
  rw [List.getD_eq_getElem?_getD, List.getElem?_append_right (Nat.le_refl _), Nat.sub_self]
  rfl
theorem ext_less {es : List E2} {l cs : List Nat} {c k : Nat} (h : ExtB es l (cs ++ [c]) k) : ExtB es l cs k := by
  obtain ⟨f, h1, h2, h3⟩ := h
  refine ⟨f, fun u hu => ?_, h2, h3⟩
  rw [h1 u (by rw [List.length_append]; omega), getD_app hu]
theorem prop_more {es : List E2} {l cs : List Nat} {c k : Nat} (ir : ∀ u, adL es l u u = false) (h : PropC es l cs k) (ck : c < k) (nb : ∀ u, u < cs.length → adL es l u cs.length = true → cs.getD u 0 ≠ c) : PropC es l (cs ++ [c]) k := by
  have sp : ∀ u, u < (cs ++ [c]).length → u < cs.length ∨ u = cs.length := fun u hu => by
    rw [List.length_append, List.length_singleton] at hu
    omega
  refine ⟨fun u hu => ?_, fun u v hu hv ad => ?_⟩
  · rcases sp u hu with hu | rfl
    · rw [getD_app hu]; exact h.few u hu
    · rw [getD_last]; exact ck
  · rcases sp u hu with hu | rfl
    · rcases sp v hv with hv | rfl
      · rw [getD_app hu, getD_app hv]; exact h.ok u v hu hv ad
      · rw [getD_app hu, getD_last]; exact nb u hu ad
    · rcases sp v hv with hv | rfl
      · rw [getD_app hv, getD_last]
        rw [adL_comm] at ad
        exact fun z => nb v hv ad z.symm
      · rw [ir] at ad; cases ad
/-- colours above those told are alike -/
theorem ext_some {es : List E2} {l cs : List Nat} {k M : Nat} (ln : cs.length < l.length) (hM : ∀ u, u < cs.length → cs.getD u 0 < M) (h : ExtB es l cs k) : ∃ c, c < k ∧ c ≤ M ∧ (∀ u, u < cs.length → adL es l u cs.length = true → cs.getD u 0 ≠ c) ∧ ExtB es l (cs ++ [c]) k := by
  obtain ⟨f, h1, h2, h3⟩ := h
  have mk : ∀ g : Nat → Nat, (∀ u, u < cs.length → g u = cs.getD u 0) → (∀ u, u < l.length → g u < k) → (∀ u v, u < l.length → v < l.length → adL es l u v = true → g u ≠ g v) → g cs.length ≤ M → ∃ c, c < k ∧ c ≤ M ∧ (∀ u, u < cs.length → adL es l u cs.length = true → cs.getD u 0 ≠ c) ∧ ExtB es l (cs ++ [c]) k := fun g g1 g2 g3 gM => by
    refine ⟨g cs.length, g2 _ ln, gM, fun u hu ad => ?_, g, fun u hu => ?_, g2, g3⟩
    · rw [← g1 u hu]
      exact g3 u _ (by omega) ln ad
    · rw [List.length_append, List.length_singleton] at hu
      by_cases e : u = cs.length
      · subst e; rw [getD_last]
      · rw [getD_app (by omega), g1 u (by omega)]
  by_cases c : f cs.length ≤ M
  · exact mk f h1 h2 h3 c
  · have fk := h2 _ ln
    refine mk (fun u => if f u = f cs.length then M else if f u = M then f cs.length else f u) (fun u hu => ?_) (fun u hu => ?_) (fun u v hu hv ad => ?_) ?_
    · have := hM u hu
      rw [← h1 u hu] at this ⊢
      rw [if_neg (by omega), if_neg (by omega)]
    · have := h2 u hu
      split
      · omega
      · split <;> omega
    · have := h3 u v hu hv ad
      split <;> split <;> (try split) <;> (try split) <;> omega
    · rw [if_pos rfl]
      exact Nat.le_refl M
theorem great_notin (k : Nat) : ∀ l : List Nat, inV (V.int (k : Int)) (natV l) = decide (k ∈ l)
  | [] => rfl
  | a :: l => by
    have ih := great_notin k l
    unfold inV natV at ih ⊢
    rw [List.map_cons, List.any_cons, ih]
    have e : eqV (V.int (k : Int)) (V.int (a : Int)) = decide (k = a) := by
      show ((k : Int) == (a : Int)) = _
      by_cases h : k = a
      · subst h; simp
      · have : ((k : Int) == (a : Int)) = false := beq_eq_false_iff_ne.mpr (by omega)
        rw [this, decide_eq_false h]
    first
      | rw [e]
      | rw [show eqV (V.int (a : Int)) (V.int (k : Int)) = decide (k = a) by rw [← e]; show ((a : Int) == (k : Int)) = ((k : Int) == (a : Int)); exact BEq.comm]
    simp [List.mem_cons]
theorem flat_nats : ∀ l : List Nat, (natV l).all flatV = true
  | [] => rfl
  | _ :: l => flat_nats l
def spCold (K : PySem.W.Frag) (k : Nat) : Sp := fun vs H Q _ => ∃ (x : V) (n : Nat) (es : List E2) (y : V) (T : Addr) (l cs : List Nat) (m : Nat), vs = [x, y, .ref T, .int (m : Int)] ∧ GraphAt K H x n es ∧ Good n es ∧ LotT H y l ∧ l.length ≤ 9 ∧ H T = some (.lst (natV cs)) ∧ cs.length ≤ l.length ∧ l.length - cs.length < k ∧ m ≤ 9 ∧ PropC es l cs m ∧ ∀ (b : Bool) H', Same H H' → (b = true ↔ ExtB es l cs m) → Q (.bl b) H'
section
variable {P : Program} {w : World} {K : PySem.W.Frag} {mg : Str → Option Value} {base : Heap} {f fT : Addr} {fd dT : FuncData}
theorem ok_cold (F : L2.Fun K "_law_is_coloured" "_law_is_coloured" sCold f fd) (B : L2.Binds K fd ["graph", "lot", "told", "many"] []) (kF : PySem.W.keepIn K (.ref f) = true) (mF : mg "_law_is_coloured" = some (.ref f))
    (GT : FnOk P w K mg base CX0 1 fT dT ["graph", "u", "v"] (spTied K)) (bT : L2.Binds K dT ["graph", "u", "v"] []) (kT : PySem.W.keepIn K (.ref fT) = true) (mT : mg "_law_is_tied" = some (.ref fT)) (mr : mg "range" = none) (ml : mg "len" = none) (mn : mg "min" = none) (mx : mg "max" = none) : ∀ k, FnOk P w K mg base CX0 (k + 2) f fd ["graph", "lot", "told", "many"] (spCold K k)
  | 0 => by
    refine F.ok scCold (fun vs H Q E h => ?_) (fun cdv A outer s H vs Q E hr h => ?_)
    · obtain ⟨x, n, es, y, T, l, cs, m, rfl, _⟩ := h
      rfl
    · obtain ⟨x, n, es, y, T, l, cs, m, rfl, _, _, _, _, _, _, no, _⟩ := h
      omega
  | k + 1 => by
    have G := ok_cold F B kF mF GT bT kT mT mr ml mn mx k
    refine F.ok scCold (fun vs H Q E h => ?_) (fun cdv A outer s H vs Q E hr h => ?_)
    · obtain ⟨x, n, es, y, T, l, cs, m, rfl, _⟩ := h
      rfl
    obtain ⟨x, n, es, y, T, l, cs, m, rfl, hx, g, hy, l9, hT, le, lk, m9, pc, q⟩ := h
    have h1 := hr.mono (show 1 ≤ k + 2 by omega)
    refine ⟨_, pss_cons (ps_if (pt_cmpR op_eq (pe_callB call_len_seq (by rfl) ml PySem.boot_len (pa_cons (pv 2) pa_nil)) (pe_callB call_len_seq (by rfl) ml PySem.boot_len (pa_cons (pv 1) pa_nil)) (nomark _)) (pss_one (ps_ret pe_bl)) pss_nil)
      (pss_cons (ps_set (i := 4) scCold.nd rfl (.inr rfl) (pe_ix (r := rIxT K) ix_tup (pv 1) (pe_callB call_len_seq (by rfl) ml PySem.boot_len (pa_cons (pv 2) pa_nil)) (fun _ _ => rfl)))
      (pss_cons (ps_setLc (i := 5) (own := [("k", 7)]) (g := gName 7) (tt := tB (tCall (spTied K) [] E0 (tCons (tVar 0) (tCons (tOp (rIxT K) (tVar 1) (tVar 7)) (tCons (tVar 4) tNil))))) rfl scCold.nd rfl rfl (sw_true rfl rfl rfl (by decide +kernel)) (pi_range1 rfl mr (pa_cons (pe_callB call_len_seq (by rfl) ml PySem.boot_len (pa_cons (pv 2) pa_nil)) pa_nil))
          (blkOk_by (N := ["graph", "lot", "told", "many", "v", "bad", "colour", "k"]) (sc := defScope sCold) (by decide +kernel)) (fun _ _ _ _ _ => pg_name (i := 7) scCold.nd rfl (Or.inl rfl))
          (fun _ _ _ _ _ => pts_one (pt_val (pe_call GT h1 (by rfl) mT kT bT .nil pass0 (pa_cons (pv 0) (pa_cons (pe_ix (r := rIxT K) ix_tup (pv 1) (pv 7) (fun _ _ => rfl)) (pa_cons (pv 4) pa_nil))))))
          (fun _ _ _ _ _ => pe_ix (r := rIxL K) ix_list (pv 2) (pv 7) (fun _ _ => rfl)))
      (pss_cons (ps_for PassesOwn.never rfl (pi_range1 rfl mr (pa_cons (pe_callB (call_min2 rfl) (by rfl) mn (by decide +kernel) (pa_cons (pv 3) (pa_cons (pe_op op_add (pe_callB (cr_max rfl) (by rfl) mx (by decide +kernel) (pa_cons (pe_op op_cat (pv 2) (pe_lst (pa_cons (pe_un un_neg pe_int) pa_nil))) pa_nil)) pe_int) pa_nil))) pa_nil)) (pg_name (i := 6) scCold.nd rfl (.inl rfl))
        (pss_one (ps_if (PW.pt (pw_and (pt_cmpR op_notIn_seq (pv 6) (pv 5) (by rfl)) (pw_and1 (pt_val (pe_call G hr (by rfl) mF kF B .nil pass0 (pa_cons (pv 0) (pa_cons (pv 1) (pa_cons (pe_op op_cat (pv 2) (pe_lst (pa_cons (pv 6) pa_nil))) (pa_cons (pv 3) pa_nil))))))))) (pss_one (ps_ret pe_bl)) pss_nil)))
      (pss_one (ps_ret pe_bl))))), ?_⟩
    have n9 := g.n9
    have ir : ∀ u, adL es l u u = false := fun u => by
      unfold adL
      cases e : adjB es (l.getD u 0) (l.getD u 0) with
      | false => rfl
      | true => exact absurd rfl (adj_ne g e).1
    obtain ⟨ty, rfl, hty⟩ := hy
    have lc : (natV cs).length = cs.length := List.length_map _
    have lr : (natV l).length = l.length := List.length_map _
    refine ⟨_, rfl, T, _, rfl, .inl (SqL.of hT), _, rfl, ty, _, rfl, .inr (SqT.of hty), rfl, _, rfl, ?_⟩
    rw [lc, lr]
    refine iteB (fun c => ?_) (fun c => ?_)
    · have e : cs.length = l.length := by
        have z := of_decide_eq_true c
        injection z with z
        omega
      exact q true H (Same.refl H) ⟨fun _ => ext_full pc e, fun _ => rfl⟩
    have ln : cs.length < l.length := by
      have z := of_decide_eq_false c
      have : cs.length ≠ l.length := fun e => z (by rw [e])
      omega
    have rg : ∀ u, u < l.length → (natV l)[u]? = some (V.int ((l.getD u 0 : Nat) : Int)) := fun u hu => by
      unfold natV
      rw [List.getElem?_map, List.getD_eq_getElem?_getD, List.getElem?_eq_getElem hu]
      rfl
    have cg : ∀ u, u < cs.length → (natV cs)[u]? = some (V.int ((cs.getD u 0 : Nat) : Int)) := fun u hu => by
      unfold natV
      rw [List.getElem?_map, List.getD_eq_getElem?_getD, List.getElem?_eq_getElem hu]
      rfl
    refine ⟨_, rfl, _, rfl, T, _, rfl, .inl (SqL.of hT), ty, _, _, _, rfl, rfl, SqT.of hty, by rw [lc]; exact atI_nat (rg _ ln), ?_⟩
    refine ⟨_, rfl, T, _, rfl, .inl (SqL.of hT), _, rfl, by omega, by omega, fun Bd nB => lo_it (walk_range (lo := 0) (n := (((natV cs).length : Nat) : Int).toNat)) (fun j H4 => Same H H4 ∧ H4 Bd = some (.lst (natV (((List.range j).filter fun u => adL es l u cs.length).map fun u => cs.getD u 0)))) ⟨same_new nB _, upd_same⟩ (fun _ _ _ _ => trivial) ?_ ?_⟩
    · rintro j y _ H4 lj ⟨s4, hB⟩ ⟨rfl, ex⟩
      obtain rfl : y = V.int ((j : Nat) : Int) := ex.trans (congrArg V.int (Int.zero_add _))
      have jl : j < cs.length := by omega
      refine ⟨rfl, ?_⟩
      refine ⟨_, rfl, _, rfl, _, rfl, ty, _, _, _, rfl, rfl, SqT.of (s4 _ _ hty), atI_nat (rg j (by omega)), _, rfl, x, n, es, l.getD j 0, l.getD cs.length 0, rfl, hx.same s4, fun H5 s5 => ⟨_, rfl, ?_⟩⟩
      have hB5 := s5 _ _ hB
      have fl : (natV (((List.range j).filter fun u => adL es l u cs.length).map fun u => cs.getD u 0)).length ≤ 10 := by
        unfold natV
        rw [List.length_map, List.length_map]
        refine Nat.le_trans (List.length_filter_le _ _) ?_
        rw [List.length_range]
        omega
      refine iteB (fun cc => ?_) (fun cc => ?_)
      · refine ⟨_, rfl, _, rfl, T, _, _, _, rfl, rfl, SqL.of (s5 _ _ (s4 _ _ hT)), atI_nat (cg j jl), _, hB5, small1000 (by omega), same_put (s4.trans s5) nB, ?_⟩
        rw [upd_same, List.range_succ, List.filter_append, List.filter_cons_of_pos (p := fun u => adL es l u cs.length) cc, List.map_append]
        unfold natV
        rw [List.map_append]
        rfl
      · refine ⟨s4.trans s5, ?_⟩
        rw [hB5, List.range_succ, List.filter_append, List.filter_cons_of_neg (p := fun u => adL es l u cs.length) (by rw [show adL es l j cs.length = false from cc]; decide), List.filter_nil, List.append_nil]
    · rintro H4 ⟨s4, hB⟩
      rw [Int.toNat_natCast, lc] at hB
      have badm : ∀ c, c ∈ (((List.range cs.length).filter fun u => adL es l u cs.length).map fun u => cs.getD u 0) ↔ ∃ u, u < cs.length ∧ adL es l u cs.length = true ∧ cs.getD u 0 = c := fun c => by
        rw [List.mem_map]
        constructor
        · rintro ⟨u, hu, e⟩
          obtain ⟨h1, h2⟩ := List.mem_filter.mp hu
          exact ⟨u, List.mem_range.mp h1, h2, e⟩
        · rintro ⟨u, h1, h2, h3⟩
          exact ⟨u, List.mem_filter.mpr ⟨List.mem_range.mpr h1, h2⟩, h3⟩
      generalize (((List.range cs.length).filter fun u => adL es l u cs.length).map fun u => cs.getD u 0) = bad at hB badm
      have hT4 := s4 _ _ hT
      refine ⟨_, rfl, _, rfl, _, rfl, (by show 1 ≤ sizeLine; rw [sizeLine_eq]; decide), fun Z nZ => ?_⟩
      have sZ := same_new nZ (.lst [V.int (-1)])
      have hZ := upd_same (H := H4) (a := Z) (o := .lst [V.int (-1)])
      have hT5 := sZ _ _ hT4
      refine ⟨T, Z, _, _, rfl, rfl, hT5, hZ, Nat.le_trans (by rw [lc, List.length_singleton]; omega : _ ≤ 1024) (by rw [sizeLine_eq]; decide), fun C nC => ?_⟩
      have sC := same_new nC (.lst (natV cs ++ [V.int (-1)]))
      have hC := upd_same (H := upd H4 Z (.lst [V.int (-1)])) (a := C) (o := .lst (natV cs ++ [V.int (-1)]))
      have s46 := sZ.trans sC
      generalize upd (upd H4 Z (.lst [V.int (-1)])) C (.lst (natV cs ++ [V.int (-1)])) = H6 at hC s46 ⊢
      have eC : natV cs ++ [V.int (-1)] = ((cs.map fun k => ((k : Nat) : Int)) ++ [(-1 : Int)]).map V.int := by
        unfold natV
        rw [List.map_append, List.map_map]
        rfl
      rw [eC] at hC
      refine ⟨C, _, rfl, SqL.of hC, by simp, fun M hM hu => ?_⟩
      have Mlo : -1 ≤ M := hu (-1) (by simp)
      have Mall : ∀ u, u < cs.length → ((cs.getD u 0 : Nat) : Int) ≤ M := fun u hul => hu _ (by
        rw [List.mem_append, List.mem_map]
        refine .inl ⟨cs.getD u 0, ?_, rfl⟩
        rw [List.getD_eq_getElem?_getD, List.getElem?_eq_getElem hul]
        exact List.getElem_mem hul)
      have Mhi : M < 9 := by
        rcases List.mem_append.mp hM with z | z
        · obtain ⟨a, ha, rfl⟩ := List.mem_map.mp z
          obtain ⟨u, hul, e⟩ := List.mem_iff_getElem.mp ha
          have z2 := pc.few u hul
          rw [List.getD_eq_getElem?_getD, List.getElem?_eq_getElem hul, e] at z2
          have z3 : a < m := z2
          omega
        · have := List.mem_singleton.mp z
          omega
      refine ⟨_, _, rfl, rfl, _, _, rfl, ?_⟩
      generalize eN : (if M + 2 < (m : Int) then M + 2 else (m : Int)) = N
      have N0 : 0 ≤ N := by
        rw [← eN]
        split <;> omega
      have Nm : N ≤ m := by
        rw [← eN]
        split <;> omega
      have nT : H T ≠ none := by rw [hT]; simp
      have s06 := s4.trans s46
      have hB6 := s46 _ _ hB
      refine ⟨N, rfl, by omega, by omega, for_range (lo := 0) (n := N.toNat) (fun i σ H' => ∃ (s6 : Option V), σ = [some x, some (.ref ty), some (.ref T), some (.int (m : Int)), some (.int ((l.getD cs.length 0 : Nat) : Int)), some (.ref Bd), s6, none] ∧ Same H6 H' ∧ ∀ c, c < i → c ∉ bad → ¬ ExtB es l (cs ++ [c]) m)
        ⟨none, rfl, Same.refl H6, fun c hc => absurd hc (by omega)⟩ ?_ ?_⟩
      · rintro i σ H7 li ⟨s6', rfl, s7, no⟩
        rw [show (0 : Int) + (i : Int) = (i : Int) by omega]
        have im : i < m := by omega
        refine ⟨_, rfl, _, rfl, Bd, natV bad, rfl, .inl (SqL.of (s7 _ _ hB6)), rfl, flat_nats bad, _, rfl, ?_⟩
        have c1 : (if true = true then !inV (V.int (i : Int)) (natV bad) else inV (V.int (i : Int)) (natV bad)) = decide (i ∉ bad) := by
          rw [if_pos rfl, great_notin]
          by_cases c : i ∈ bad <;> simp [c]
        rw [c1]
        have hT7 := s7 _ _ (s46 _ _ hT4)
        refine iteB (fun cb => ?_) (fun cb => ?_)
        · have nb := of_decide_eq_true cb
          refine ⟨_, rfl, _, rfl, _, rfl, _, rfl, (by show 1 ≤ sizeLine; rw [sizeLine_eq]; decide), fun Z2 nZ2 => ?_⟩
          have sZ2 := same_new nZ2 (.lst [V.int (i : Int)])
          have hZ2 := upd_same (H := H7) (a := Z2) (o := .lst [V.int (i : Int)])
          have hT8 := sZ2 _ _ hT7
          generalize upd H7 Z2 (.lst [V.int (i : Int)]) = H8 at sZ2 hZ2 hT8 ⊢
          refine ⟨T, Z2, _, _, rfl, rfl, hT8, hZ2, Nat.le_trans (by rw [lc, List.length_singleton]; omega : _ ≤ 1024) (by rw [sizeLine_eq]; decide), fun C2 nC2 => ?_⟩
          have sC2 := same_new nC2 (.lst (natV cs ++ [V.int (i : Int)]))
          have hC2 := upd_same (H := H8) (a := C2) (o := .lst (natV cs ++ [V.int (i : Int)]))
          have s79 := sZ2.trans sC2
          generalize upd H8 C2 (.lst (natV cs ++ [V.int (i : Int)])) = H9 at s79 hC2 ⊢
          have eC2 : natV cs ++ [V.int (i : Int)] = natV (cs ++ [i]) := by
            unfold natV
            rw [List.map_append]
            rfl
          rw [eC2] at hC2
          have s09 := s06.trans (s7.trans s79)
          refine ⟨_, rfl, x, n, es, .ref ty, C2, l, cs ++ [i], m, rfl, hx.same s09, g, ⟨ty, rfl, s09 _ _ hty⟩, l9, hC2, by rw [List.length_append, List.length_singleton]; omega, by rw [List.length_append, List.length_singleton]; omega, m9, prop_more ir pc im (fun u hul ad z => nb ((badm i).mpr ⟨u, hul, ad, z⟩)), fun b H10 s10 hb => ⟨_, rfl, ?_⟩⟩
          refine iteB (fun cbb => ?_) (fun cbb => ?_)
          · exact q true H10 (s09.trans s10) ⟨fun _ => ext_less (hb.mp cbb), fun _ => rfl⟩
          · refine ⟨_, rfl, s7.trans (s79.trans s10), fun c hc nc => ?_⟩
            by_cases e : c = i
            · subst e
              intro z
              rw [hb.mpr z] at cbb
              cases cbb
            · exact no c (by omega) nc
        · have ib : i ∈ bad := by simpa using cb
          refine ⟨_, rfl, s7, fun c hc nc => ?_⟩
          by_cases e : c = i
          · subst e
            exact absurd ib nc
          · exact no c (by omega) nc
      · rintro σ H7 ⟨s6', rfl, s7, no⟩
        refine q false H7 (s06.trans s7) ⟨fun (z : false = true) => absurd z (by decide), fun z => ?_⟩
        exfalso
        obtain ⟨c, cm, cM, cb, ce⟩ := ext_some (M := (M + 1).toNat) ln (fun u hul => by have := Mall u hul; omega) z
        refine no c ?_ (fun hc => ?_) ce
        · rw [← eN]
          split <;> omega
        · obtain ⟨u, h1, h2, h3⟩ := (badm c).mp hc
          exact cb u h1 h2 h3
end
end My

set_option maxHeartbeats 4000000
namespace My
open PySem PySem.Spec PyProof.Rows L2
abbrev sLots : Stmt := top 38
theorem scLots : FnScope ["n", "found", "v", "lot"] ["n"] (defScope sLots) := ⟨rfl, rfl, rfl, by decide +kernel, rfl, by decide +kernel, by decide +kernel⟩
def lotsN : Nat → List (List Nat)
  | 0 => [[]]
  | i + 1 => lotsN i ++ (lotsN i).map (· ++ [i])
theorem lotsN_len : ∀ i, (lotsN i).length = 2 ^ i
  | 0 => rfl
  | i + 1 => by
    show (lotsN i ++ (lotsN i).map (· ++ [i])).length = _
    rw [List.length_append, List.length_map, lotsN_len i, Nat.pow_succ]
    omega
theorem lotsN_head : ∀ i, ∃ r, lotsN i = [] :: r
  | 0 => ⟨[], rfl⟩
  | i + 1 => by
    obtain ⟨r, e⟩ := lotsN_head i
    exact ⟨r ++ (lotsN i).map (· ++ [i]), by show lotsN i ++ _ = _; rw [e]; rfl⟩
theorem mem_lotsN : ∀ {i : Nat} {l : List Nat}, l ∈ lotsN i ↔ LotOk i l
  | 0, l => by
    show l ∈ [[]] ↔ _
    rw [List.mem_singleton]
    constructor
    · rintro rfl
      exact ⟨fun k (hk : k ∈ []) => absurd hk (by simp), List.Pairwise.nil⟩
    · intro h
      cases l with
      | nil => rfl
      | cons a r => exact absurd (h.lt a (List.mem_cons_self ..)) (by omega)
  | i + 1, l => by
    show l ∈ lotsN i ++ (lotsN i).map (· ++ [i]) ↔ _
    rw [List.mem_append, List.mem_map]
    constructor
    · rintro (h | ⟨m, hm, rfl⟩)
      · have z := mem_lotsN.mp h
        exact ⟨fun k hk => Nat.lt_succ_of_lt (z.lt k hk), z.up⟩
      · have z := mem_lotsN.mp hm
        refine ⟨fun k hk => ?_, ?_⟩
        · rcases List.mem_append.mp hk with hk | hk
          · exact Nat.lt_succ_of_lt (z.lt k hk)
          · rw [List.mem_singleton.mp hk]
            exact Nat.lt_succ_self i
        · rw [List.pairwise_append]
          refine ⟨z.up, List.pairwise_singleton _ _, fun a ha b hb => ?_⟩
          rw [List.mem_singleton.mp hb]
          exact z.lt a ha
    · intro h
      by_cases c : i ∈ l
      · right
        have hl : l ≠ [] := fun e => by rw [e] at c; cases c
        have e := List.dropLast_concat_getLast hl
        have up := h.up
        rw [← e, List.pairwise_append] at up
        have last : l.getLast hl = i := by
          rw [← e] at c
          rcases List.mem_append.mp c with c | c
          · have y := up.2.2 i c _ (List.mem_singleton.mpr rfl)
            have := h.lt _ (List.getLast_mem hl)
            omega
          · exact (List.mem_singleton.mp c).symm
        rw [last] at e up
        refine ⟨l.dropLast, mem_lotsN.mpr ⟨fun k hk => up.2.2 k hk i (by simp), up.1⟩, e⟩
      · left
        exact mem_lotsN.mpr ⟨fun k hk => by
          have := h.lt k hk
          have : k ≠ i := fun z => c (z ▸ hk)
          omega, h.up⟩
theorem lotsN_nodup : ∀ i, (lotsN i).Nodup
  | 0 => by show ([[]] : List (List Nat)).Nodup; simp
  | i + 1 => by
    show (lotsN i ++ (lotsN i).map (· ++ [i])).Nodup
    rw [List.nodup_append]
    refine ⟨lotsN_nodup i, ?_, ?_⟩
    · show List.Pairwise _ _
      rw [List.pairwise_map]
      exact (lotsN_nodup i).imp fun ne e => ne (List.append_cancel_right e)
    · intro a ha b hb e
      obtain ⟨m, _, rfl⟩ := List.mem_map.mp hb
      have z := (mem_lotsN.mp ha).lt i (by rw [e]; simp)
      omega
/-- all lots, ascending -/
def AllLots (n : Nat) (L : List (List Nat)) : Prop := L.Pairwise ltL ∧ ∀ l, l ∈ L ↔ LotOk n l
def spLots (K : PySem.W.Frag) : Sp := fun vs H Q _ => ∃ (n : Nat), vs = [.int (n : Int)] ∧ n ≤ 9 ∧ ∀ (F : Addr) (xs : List V) (L : List (List Nat)) H', Same H H' → H' F = some (.lst xs) → LotsT H' xs L → AllLots n L → L.length = 2 ^ n → Q (.ref F) H'
section
variable {P : Program} {w : World} {K : PySem.W.Frag} {mg : Str → Option Value} {base : Heap} {f : Addr} {fd : FuncData}
theorem ok_lots (F : L2.Fun K "_law_lots" "_law_lots" sLots f fd) (mr : mg "range" = none) (mso : mg "sorted" = none) : FnOk P w K mg base CX0 1 f fd ["n"] (spLots K) := by
  refine F.ok scLots (fun vs H Q E h => ?_) (fun cdv A outer s H vs Q E hr h => ?_)
  · obtain ⟨n, rfl, _⟩ := h
    rfl
  obtain ⟨n, rfl, n9, q⟩ := h
  refine ⟨_, pss_cons (ps_set (i := 1) scLots.nd rfl (.inl rfl) (pe_lst (pa_cons (pe_tup pa_nil) pa_nil)))
    (pss_cons (ps_for PassesOwn.never rfl (pi_range1 rfl mr (pa_cons (pv 0) pa_nil)) (pg_name (i := 2) scLots.nd rfl (.inr rfl))
      (pss_one (ps_set (i := 1) scLots.nd rfl (.inl rfl) (pe_op op_cat (pv 1) (pe_lc (own := [("lot", 3)]) (g := gName 3) (tt := tYes) rfl scLots.nd (pi_list (pv 1))
        (blkOk_by (N := ["n", "found", "v", "lot"]) (sc := defScope sLots) (by decide +kernel)) (fun _ _ _ _ _ => pg_name (i := 3) scLots.nd rfl (Or.inl rfl)) (fun _ _ _ _ _ => pts_nil)
        (fun _ _ _ _ _ => pe_op (r := rCatA K) op_catA (pv 3) (pe_tup (pa_cons (pv 2) pa_nil))))))))
    (pss_one (ps_ret (pe_callB (cr_sortTI hr.units) (by rfl) mso (by decide +kernel) (pa_cons (pv 1) pa_nil))))), ?_⟩
  refine ⟨(by show 0 ≤ sizeLine; decide), fun t0 nt0 => ⟨(by show 1 ≤ sizeLine; rw [sizeLine_eq]; decide), fun F0 nF0 => ?_⟩⟩
  have s1 := same_new nt0 (.tup [])
  have s2 := same_new nF0 (.lst [V.ref t0])
  have h0 := upd_same (H := upd H t0 (.tup [])) (a := F0) (o := .lst [V.ref t0])
  have x0 : LotT (upd (upd H t0 (.tup [])) F0 (.lst [V.ref t0])) (.ref t0) [] := ⟨t0, rfl, s2 _ _ upd_same⟩
  have s0 := s1.trans s2
  generalize upd (upd H t0 (.tup [])) F0 (.lst [V.ref t0]) = H0 at s0 h0 x0 ⊢
  refine ⟨_, rfl, (n : Int), rfl, by omega, by omega, for_range (lo := 0) (n := ((n : Nat) : Int).toNat) (fun i σ H' => ∃ (F : Addr) (xs : List V) (s2 : Option V), σ = [some (.int (n : Int)), some (.ref F), s2, none] ∧ Same H H' ∧ H' F = some (.lst xs) ∧ LotsT H' xs (lotsN i))
    ⟨F0, [.ref t0], none, rfl, s0, h0, .cons x0 .nil⟩ ?_ ?_⟩
  · rintro i σ H2 li ⟨F, xs, s2', rfl, s2, hF, hl⟩
    have ll := lotsN_len i
    have p8 : 2 ^ i ≤ 2 ^ 8 := Nat.pow_le_pow_right (by decide) (by omega)
    have lx := hl.len
    rw [show (0 : Int) + (i : Int) = (i : Int) by omega]
    refine ⟨_, rfl, _, rfl, F, rfl, ⟨_, SqL.of hF⟩, fun B nB => lo_it (walk_list (xs := xs)) (fun j H4 => Same H2 H4 ∧ ∃ ys, H4 B = some (.lst ys) ∧ LotsT H4 ys (((lotsN i).take j).map (· ++ [i]))) ⟨same_new nB _, [], upd_same, .nil⟩ (fun j H4 _ ⟨s4, _⟩ => SqL.of (s4 _ _ hF)) ?_ ?_⟩
    · rintro j x _ H4 lj ⟨s4, ys, hB, hy⟩ ⟨rfl, hj⟩
      obtain ⟨l, e, hx⟩ := hl.get hj
      have hx4 := hx.same s4
      obtain ⟨t, rfl, ht⟩ := hx4
      refine ⟨rfl, ?_⟩
      refine ⟨_, rfl, _, rfl, (by show 1 ≤ sizeLine; rw [sizeLine_eq]; decide), fun u nu => ?_⟩
      have su := same_new nu (.tup [.int (i : Int)])
      have lm : l.length ≤ 9 := by
        have := (mem_lotsN.mp (List.mem_of_getElem? e)).few
        omega
      have lt : ys.length < 1000 := by rw [hy.len, List.length_map, List.length_take]; omega
      refine ⟨t, u, natV l, _, rfl, rfl, SqT.of (su _ _ ht), SqT.of upd_same, Nat.le_trans (by rw [List.length_cons, List.length_nil]; unfold natV; rw [List.length_map]; omega : _ ≤ 10) (by rw [sizeLine_eq]; decide), fun en => ?_, fun _ en => absurd en (by simp), fun en _ p np => ?_⟩
      · have el : l = [] := by
          cases l with
          | nil => rfl
          | cons a r => cases en
        subst el
        have hB2 := su _ _ hB
        refine ⟨ys, hB2, small1000 (by omega), same_put (s4.trans su) nB, _, upd_same, ?_⟩
        rw [take_succ e, List.map_append]
        have xu : LotT (upd H4 u (.tup [.int (i : Int)])) (.ref u) ([] ++ [i]) := ⟨u, rfl, upd_same⟩
        exact ((hy.same su).put hB2).snoc (xu.put hB2)
      · have sp := same_new np (.tup (natV l ++ [.int (i : Int)]))
        have hB2 := (su.trans sp) _ _ hB
        refine ⟨ys, hB2, small1000 (by omega), same_put (s4.trans (su.trans sp)) nB, _, upd_same, ?_⟩
        rw [take_succ e, List.map_append]
        have xu : LotT (upd (upd H4 u (.tup [.int (i : Int)])) p (.tup (natV l ++ [.int (i : Int)]))) (.ref p) (l ++ [i]) := ⟨p, rfl, by rw [upd_same]; unfold natV; rw [List.map_append]; rfl⟩
        exact ((hy.same (su.trans sp)).put hB2).snoc (xu.put hB2)
    · rintro H4 ⟨s4, ys, hB, hy⟩
      rw [lx, List.take_length] at hy
      refine ⟨F, B, _, _, rfl, rfl, s4 _ _ hF, hB, Nat.le_trans (by rw [hy.len, hl.len, List.length_map]; omega : _ ≤ 1024) (by rw [sizeLine_eq]; decide), fun c nc => ?_⟩
      have sc := same_new nc (.lst (xs ++ ys))
      exact ⟨c, _, _, rfl, s2.trans (s4.trans sc), upd_same, ((hl.same s4).app hy).same sc⟩
  · rintro σ H2 ⟨F, xs, s2', rfl, s2, hF, hl⟩
    rw [Int.toNat_natCast] at hl
    obtain ⟨r, er⟩ := lotsN_head n
    obtain ⟨p1, p2⟩ := lots_sort (K := K) hl (.inl (by rw [er]; exact sortish_nil r))
    refine ⟨_, rfl, F, xs, fun x => natI (kN H2 x), rfl, SqL.of hF, p1, p2, fun ys p so st np => ?_⟩
    obtain ⟨h1, h2, h3⟩ := sorted_lots hl (lotsN_nodup n) so st
    have sp := same_new np (.lst ys)
    exact q p ys _ _ (s2.trans sp) upd_same (h1.same sp) ⟨h2, fun l => h3.mem_iff.trans mem_lotsN⟩ (by rw [h3.length_eq, lotsN_len])
end
end My

set_option maxHeartbeats 4000000
/-! t.index(k), t a tuple that was made from a list and is known whole. -/
namespace My
open PySem PySem.Spec PyProof.Rows L2
theorem flat_ints (ns : List Int) : (ns.map V.int).all flatV = true := by
  rw [List.all_map]
  exact List.all_eq_true.mpr fun _ _ => rfl
/-- a tuple without attributes of its own -/
def TupF (H : Hp) (p : Addr) (xs : List V) : Prop := ∃ ob : Obj, H p = some (.frz ob (.tup xs)) ∧ ob.dict = none ∧ ob.cls = .type "tuple"
theorem TupF.sq {K : PySem.W.Frag} {H : Hp} {p : Addr} {xs : List V} (h : TupF H p xs) : SqT K H p xs := by
  obtain ⟨ob, h, _⟩ := h
  exact .inl (.inr ⟨ob, h⟩)
theorem TupF.same {H H' : Hp} (s : Same H H') {p : Addr} {xs : List V} (h : TupF H p xs) : TupF H' p xs := by
  obtain ⟨ob, h, d⟩ := h
  exact ⟨ob, s _ _ h, d⟩
section
variable {X : Cx}
def rTupF (K : PySem.W.Frag) : List V → Hp → VK → Prop := fun xs H Q => ∃ p ys, xs = [V.ref p] ∧ SqL K H p ys ∧ ∀ l H', Same H H' → TupF H' l ys → Q (.ref l) H'
theorem call_tupF : CallR X (.type "tuple") (rTupF X.K) := by
  intro pins s σ H xs us Q I r h
  obtain ⟨p, ys, rfl, hq, q⟩ := h
  obtain ⟨u, rfl, rx⟩ := vals1 r
  cases rx
  obtain ⟨its, r', pl, hz⟩ := I.list hq
  have len := r'.length
  refine call_tuple_list pl.isList (fun h' kp => ?_) (by simp only [List.size_toArray] <;> omega)
  have I1 : L2.Inv X pins σ H { s with heap := h' } := I.kept (t' := s.toks) kp
  have nn : H h'.objs.size = none := I1.hok.fresh (Nat.le_refl _)
  let ob : Obj := { cls := .type "tuple", data := .seq its.toArray }
  have I2 : L2.Inv X pins σ (upd H h'.objs.size (.frz ob (.tup ys))) { s with heap := h'.push ob } :=
    I1.laid (t' := s.toks) (fun b o e => Heap.get?_push_of_some _ e) (Nat.le_refl _) (show ObjOk X.prog X.w _ _ _ (.frz ob (.tup ys)) from ⟨Heap.get?_push_size _ rfl, hz, its, r', IsTup.new _ _⟩)
  exact ⟨.ref h'.objs.size, _, I2, rfl, q _ _ (same_new nn _) ⟨ob, upd_same, rfl, rfl⟩⟩
def rTixF : V → List V → Hp → VK → Prop := fun x xs H Q => ∃ (p : Addr) (ns : List Int) (z : Int) (j : Nat), x = .ref p ∧ xs = [.int z] ∧ TupF H p (ns.map V.int) ∧ ns[j]? = some z ∧ (∀ m, m < j → ns[m]? ≠ some z) ∧ Q (.int (j : Nat)) H
theorem mt_tixF : MtR X "tuple.index" rTixF := by
  intro pins s σ H x xs v us Q I rx rs h
  obtain ⟨p, ns, z, j, rfl, rfl, hf, hy, hno, q⟩ := h
  cases rx
  obtain ⟨u, rfl, t, rfl⟩ := vals1 rs
  obtain ⟨its, r, pl, hz⟩ := I.tuple (hf.sq (K := X.K))
  obtain ⟨⟨cls, dd, dt, sl⟩, ho, hc, n, hd⟩ := pl
  simp only at hc hd
  subst hc
  subst hd
  have hl : its.toArray.size = ns.length := by rw [List.size_toArray, ← r.length, List.length_map]
  have hj : j < its.toArray.size := by rw [hl]; exact (List.getElem?_eq_some_iff.mp hy).1
  have each : ∀ (m : Nat) (hm : m < its.toArray.size), ∃ y t', ns[m]? = some y ∧ its.toArray[m] = Value.int y t' := fun m hm => by
    have hm' : m < ns.length := by rw [← hl]; exact hm
    obtain ⟨w, hw, t', hw'⟩ := r.get (i := m) (x := .int ns[m]) (by simp [hm'])
    refine ⟨ns[m], t', List.getElem?_eq_getElem hm', ?_⟩
    have e := (List.getElem?_eq_some_iff.mp hw).2
    rw [← hw', ← e]
    simp
  refine call_meets PySem.F.slot_tuple_index ⟨_, ho, rfl⟩ PySem.F.entry_tuple_index (PySem.F.args_tuple_index_2 _ _) (TI.tuple_indexAt p its.toArray n dd sl (.int z t) (eqU (.int z)) j hj ?_ ?_)
    ⟨ho, fun w hw => mem_eqAt (x := .int z) ⟨t, rfl⟩ rfl r (flat_ints ns) w (by simpa using hw), ⟨.int (j : Nat), H, I.tok _, ⟨_, rfl⟩, q⟩⟩
  · obtain ⟨y, t', h1, h2⟩ := each j hj
    rw [hy] at h1
    cases h1
    rw [h2]
    show (z == z) = true
    exact beq_self_eq_true z
  · intro m hm hmj
    obtain ⟨y, t', h1, h2⟩ := each m hm
    rw [h2]
    show (y == z) = false
    exact beq_eq_false_iff_ne.mpr fun e => hno m hmj (e ▸ h1)
def tBF (r : V → List V → Hp → VK → Prop) (to : TE) (t : TA) : TE := fun σ H Q => to σ H fun x H1 => (∃ p xs, x = .ref p ∧ TupF H1 p xs) ∧ t σ H1 fun xs H2 => r x xs H2 Q
variable {o e : Expr} {es : List Expr} {to : TE} {t : TA} {name : Str} {apos cpos : Pos} {id : String} {r : V → List V → Hp → VK → Prop}
/-- t.m(..), t such a tuple -/
theorem pe_bmF (pa : PlainAttrs "tuple") (slot : Slot "tuple" name id) (hty : typeOf (.builtin id) = pure (.type "method_descriptor")) (hm : MtR X id r) (ho : PE X o to) (ha : PA X (e :: es) t)
    (k1 : attributeBase o name X.env (eval o X.env) = eval o X.env := by rfl)
    (k2 : ((backTo cpos (starEach (e :: es) X.env)).all (fun x => !x.1) && (backToKw cpos (keywordEach [] X.env)).all (fun x => x.1.isSome) && decide ((e :: es).length + ([] : List Keyword).length + (if ([] : List Keyword).isEmpty then 0 else 1) < 30)) = true := by rfl)
    (k3 : (apos.endLine == cpos.line) = true := by rfl) (hs : starEach (e :: es) X.env = (false, eval e X.env) :: starEach es X.env := by rfl) (k4 : (backTo cpos (starEach es X.env)).any (·.1) = false := by rfl) :
    PE X (.Call (.Attribute o name apos) (e :: es) [] cpos) (tBF r to t) := by
  refine ⟨fun pins s σ H Q I h => ?_⟩
  refine wpAny_Call_method_late k1 k2 k3 rfl (thn (ho.run pins s σ H _ I h) fun v s1 ⟨x, H1, I1, r1, ⟨p, xs, ex, ob, hp, hd, hc⟩, q1⟩ => ?_)
  subst ex
  cases r1
  have hob := (I1.hok p _ hp).1
  refine ⟨"tuple", id, pa, slot, hty, ⟨ob, hob, hc⟩, fun a ea => ?_, ?_⟩
  · cases ea
    exact ⟨ob, hob, hd⟩
  have hA := ha.run cpos pins s1 σ H1 _ I1 q1
  rw [hs] at hA ⊢
  refine Calls.callWith_builtin (by show (false || (backTo cpos (starEach es X.env)).any (·.1)) = false; rw [k4] <;> rfl) (Calls.evalArgs_plain ?_)
  exact thn hA fun us s2 ⟨vs, H2, I2, r2, q2⟩ => hm pins s2 σ H2 (.ref p) vs (.ref p) us Q I2 rfl r2 q2
end
end My

set_option maxHeartbeats 4000000
/-! Lots as tuples that are known whole: made by writing them and by +. -/
namespace My
open PySem PySem.Spec PyProof.Rows L2
section
variable {X : Cx} {pos : Pos} {es : List Expr} {t : TA}
def tTupF (t : TA) : TE := fun σ H Q => t σ H fun xs H1 => xs.length ≤ sizeLine ∧ ∀ p H', Same H1 H' → H1 p = none → TupF H' p xs → Q (.ref p) H'
theorem pe_tupF {x1} (h : PA X es t) : PE X (.Tuple es x1 pos) (tTupF t) := by
  refine ⟨fun pins s σ H Q I hq => ?_⟩
  refine wpAny_Tuple_spliced (thn (h.run pos pins s σ H _ I hq) fun us s1 ⟨xs, H1, I1, r, z, q⟩ => ⟨by rw [← r.length]; exact z, ?_⟩)
  have hf : H1 s1.heap.objs.size = none := I1.hok.fresh (Nat.le_refl _)
  let ob : Obj := { cls := .type "tuple", data := .seq us.toArray }
  refine ⟨.ref s1.heap.objs.size, upd H1 s1.heap.objs.size (.frz ob (.tup xs)), I1.laid (t' := s1.toks) (fun b u e => Heap.get?_push_of_some _ e) (Nat.le_refl _) ?_, rfl, q _ _ (same_new hf _) hf ⟨ob, upd_same, rfl, rfl⟩⟩
  exact ⟨Heap.get?_push_size _ rfl, z, us, r, ⟨_, Heap.get?_push_size _ rfl, rfl, _, rfl⟩⟩
/-- t + u, both known whole -/
def rCatF : R2 := fun x y H Q => ∃ a b xs ys, x = .ref a ∧ y = .ref b ∧ TupF H a xs ∧ TupF H b ys ∧ xs.length + ys.length ≤ sizeLine ∧ ∀ p H', Same H H' → TupF H' p (xs ++ ys) → Q (.ref p) H'
theorem op_catF : OpR X (binaryOp .Add) rCatF := by
  intro pins s σ H x y v u Q I rx ry h
  obtain ⟨a, b, xs, ys, rfl, rfl, ha, hb, hz, q⟩ := h
  cases rx
  cases ry
  obtain ⟨its, r1, p1, _⟩ := I.tuple (ha.sq (K := X.K))
  obtain ⟨its2, r2, p2, _⟩ := I.tuple (hb.sq (K := X.K))
  by_cases hx : xs = []
  · subst hx
    cases r1
    exact cat_tup0 p1 p2 ⟨.ref b, H, I, rfl, q b H (Same.refl H) hb⟩
  · refine HT.cat_tup p1 p2 (fun z => hx (r1.nil_iff.mp z)) (fun z => ⟨.ref a, H, I, rfl, q a H (Same.refl H) (by rw [r2.nil_iff.mp z, List.append_nil]; exact ha)⟩) (fun z => ?_) (by rw [← r1.length, ← r2.length]; exact hz)
    have nn : H s.heap.objs.size = none := I.hok.fresh (Nat.le_refl _)
    let ob : Obj := { cls := .type "tuple", data := .seq (its ++ its2).toArray }
    refine ⟨.ref s.heap.objs.size, _, I.laid (t' := s.toks) (o := .frz ob (.tup (xs ++ ys))) (fun b ob q => Heap.get?_push_of_some _ q) (Nat.le_refl _) ?_, rfl, q _ _ (same_new nn _) ⟨ob, upd_same, rfl, rfl⟩⟩
    exact ⟨Heap.get?_push_size _ rfl, by rw [List.length_append]; exact hz, _, r1.append r2, IsTup.new _ _⟩
end
/-- a tuple of this lot -/
def LotF (H : Hp) (x : V) (l : List Nat) : Prop := ∃ t, x = .ref t ∧ TupF H t (natV l)
theorem LotF.same {H H' : Hp} (s : Same H H') {x : V} {l : List Nat} (h : LotF H x l) : LotF H' x l := by
  obtain ⟨t, e, h⟩ := h
  exact ⟨t, e, h.same s⟩
theorem LotF.uniq {H : Hp} {x : V} {l m : List Nat} (h : LotF H x l) (h' : LotF H x m) : l = m := by
  obtain ⟨t, rfl, h⟩ := h
  obtain ⟨t', e, h'⟩ := h'
  cases e
  obtain ⟨o, h, _⟩ := h
  obtain ⟨o', h', _⟩ := h'
  rw [h] at h'
  injection h' with h'
  injection h' with h0 h'
  injection h' with h'
  exact natV_inj h'
inductive LotsF (H : Hp) : List V → List (List Nat) → Prop
  | nil : LotsF H [] []
  | cons {x : V} {l : List Nat} {xs : List V} {ls : List (List Nat)} : LotF H x l → LotsF H xs ls → LotsF H (x :: xs) (l :: ls)
theorem LotsF.same {H H' : Hp} (s : Same H H') {xs : List V} {ls : List (List Nat)} (h : LotsF H xs ls) : LotsF H' xs ls := by
  induction h with
  | nil => exact .nil
  | cons a _ ih => exact .cons (a.same s) ih
theorem LotsF.len {H : Hp} {xs : List V} {ls : List (List Nat)} (h : LotsF H xs ls) : xs.length = ls.length := by
  induction h with
  | nil => rfl
  | cons _ _ ih => rw [List.length_cons, List.length_cons, ih]
theorem LotsF.snoc {H : Hp} {xs : List V} {ls : List (List Nat)} {x : V} {l : List Nat} (h : LotsF H xs ls) (hx : LotF H x l) : LotsF H (xs ++ [x]) (ls ++ [l]) := by
  induction h with
  | nil => exact .cons hx .nil
  | cons a _ ih => exact .cons a ih
theorem LotsF.app {H : Hp} {xs ys : List V} {ls ms : List (List Nat)} (h : LotsF H xs ls) (h' : LotsF H ys ms) : LotsF H (xs ++ ys) (ls ++ ms) := by
  induction h with
  | nil => exact h'
  | cons a _ ih => exact .cons a ih
theorem LotsF.get {H : Hp} {xs : List V} {ls : List (List Nat)} (h : LotsF H xs ls) {i : Nat} {x : V} (hi : xs[i]? = some x) : ∃ l, ls[i]? = some l ∧ LotF H x l := by
  induction h generalizing i with
  | nil => simp at hi
  | cons a _ ih =>
    cases i with
    | zero =>
      cases hi
      exact ⟨_, rfl, a⟩
    | succ i => exact ih hi
theorem LotF.put {H : Hp} {B : Addr} {ys : List V} {o : HO} (hB : H B = some (.lst ys)) {x : V} {l : List Nat} (h : LotF H x l) : LotF (upd H B o) x l := by
  obtain ⟨t, e, ob, h, d⟩ := h
  have ne : t ≠ B := fun z => by
    rw [z, hB] at h
    cases h
  exact ⟨t, e, ob, by rw [upd_ne ne]; exact h, d⟩
theorem LotsF.put {H : Hp} {B : Addr} {ys : List V} {o : HO} (hB : H B = some (.lst ys)) {xs : List V} {ls : List (List Nat)} (h : LotsF H xs ls) : LotsF (upd H B o) xs ls := by
  induction h with
  | nil => exact .nil
  | cons a _ ih => exact .cons (a.put hB) ih
open Classical in
noncomputable def kF (H : Hp) (x : V) : List Nat := if h : ∃ l, LotF H x l then h.choose else []
theorem kF_at {H : Hp} {x : V} {l : List Nat} (h : LotF H x l) : kF H x = l := by
  unfold kF
  rw [dif_pos ⟨l, h⟩]
  exact (Classical.choose_spec (⟨l, h⟩ : ∃ l, LotF H x l)).uniq h
theorem LotsF.mem {H : Hp} {xs : List V} {ls : List (List Nat)} (h : LotsF H xs ls) : ∀ x ∈ xs, LotF H x (kF H x) := by
  induction h with
  | nil => intro x hx; cases hx
  | cons a _ ih =>
    intro x hx
    rcases List.mem_cons.mp hx with rfl | hx
    · rw [kF_at a]; exact a
    · exact ih x hx
theorem LotsF.map {H : Hp} {xs : List V} {ls : List (List Nat)} (h : LotsF H xs ls) : xs.map (kF H) = ls := by
  induction h with
  | nil => rfl
  | cons a _ ih => rw [List.map_cons, kF_at a, ih]
theorem LotsF.of_mem {H : Hp} : ∀ {ys : List V}, (∀ y ∈ ys, LotF H y (kF H y)) → LotsF H ys (ys.map (kF H))
  | [], _ => .nil
  | y :: ys, h => .cons (h y (List.mem_cons_self ..)) (LotsF.of_mem fun z hz => h z (List.mem_cons_of_mem _ hz))
/-- sorted lots, none twice, ascend -/
theorem sorted_lotsF {H : Hp} {xs ys : List V} {ls : List (List Nat)} (h : LotsF H xs ls) (nd : ls.Nodup) (so : SrtO.Srtd (fun x y => HT.lexLt (natI (kF H x)) (natI (kF H y))) ys) (st : SrtO.Stb (fun x y => HT.lexLt (natI (kF H x)) (natI (kF H y))) ys xs) :
    LotsF H ys (ys.map (kF H)) ∧ (ys.map (kF H)).Pairwise ltL ∧ (ys.map (kF H)).Perm ls := by
  have pm : (ys.map (kF H)).Perm ls := by
    have z := st.perm.map (kF H)
    rw [h.map] at z
    exact z
  refine ⟨LotsF.of_mem fun y hy => h.mem y (st.perm.mem_iff.mp hy), ?_, pm⟩
  have nd2 : (ys.map (kF H)).Nodup := pm.nodup_iff.mpr nd
  rw [List.pairwise_map]
  refine (so.and (List.pairwise_map.mp nd2)).imp ?_
  intro a b ⟨le, ne⟩
  have le2 : HT.lexLt (natI (kF H b)) (natI (kF H a)) = false := le
  unfold ltL
  cases e : HT.lexLt (natI (kF H a)) (natI (kF H b)) with
  | true => rfl
  | false => exact absurd (natI_inj (lex_same e le2)) ne
/-- what sorted asks of lots -/
theorem lots_sortF {K : PySem.W.Frag} {H : Hp} {xs : List V} {ls : List (List Nat)} (h : LotsF H xs ls) (si : Sortish (ls.map natI) ∨ ls.length < 2) :
    (∀ x ∈ xs, ∃ t, x = V.ref t ∧ SqT K H t ((natI (kF H x)).map V.int)) ∧ (xs.length < 2 ∨ Sortish (xs.map fun x => natI (kF H x))) := by
  refine ⟨fun x hx => ?_, ?_⟩
  · obtain ⟨t, e, ht⟩ := h.mem x hx
    refine ⟨t, e, ?_⟩
    rw [natV_eq]
    exact ht.sq
  · rcases si with ne | l2
    · right
      have e : xs.map (fun x => natI (kF H x)) = ls.map natI := by
        rw [← h.map, List.map_map]
        rfl
      rw [e]
      exact ne
    · left
      rw [h.len]
      exact l2
end My

set_option maxHeartbeats 4000000
/-! The law's lots, as tuples that are known whole. -/
namespace My
open PySem PySem.Spec PyProof.Rows L2
def spLotsF (K : PySem.W.Frag) : Sp := fun vs H Q _ => ∃ (n : Nat), vs = [.int (n : Int)] ∧ n ≤ 9 ∧ ∀ (F : Addr) (xs : List V) (L : List (List Nat)) H', Same H H' → H' F = some (.lst xs) → LotsF H' xs L → AllLots n L → L.length = 2 ^ n → Q (.ref F) H'
section
variable {P : Program} {w : World} {K : PySem.W.Frag} {mg : Str → Option Value} {base : Heap} {f : Addr} {fd : FuncData}
theorem ok_lotsF (F : L2.Fun K "_law_lots" "_law_lots" sLots f fd) (mr : mg "range" = none) (mso : mg "sorted" = none) : FnOk P w K mg base CX0 1 f fd ["n"] (spLotsF K) := by
  refine F.ok scLots (fun vs H Q E h => ?_) (fun cdv A outer s H vs Q E hr h => ?_)
  · obtain ⟨n, rfl, _⟩ := h
    rfl
  obtain ⟨n, rfl, n9, q⟩ := h
  refine ⟨_, pss_cons (ps_set (i := 1) scLots.nd rfl (.inl rfl) (pe_lst (pa_cons (pe_tupF pa_nil) pa_nil)))
    (pss_cons (ps_for PassesOwn.never rfl (pi_range1 rfl mr (pa_cons (pv 0) pa_nil)) (pg_name (i := 2) scLots.nd rfl (.inr rfl))
      (pss_one (ps_set (i := 1) scLots.nd rfl (.inl rfl) (pe_op op_cat (pv 1) (pe_lc (own := [("lot", 3)]) (g := gName 3) (tt := tYes) rfl scLots.nd (pi_list (pv 1))
        (blkOk_by (N := ["n", "found", "v", "lot"]) (sc := defScope sLots) (by decide +kernel)) (fun _ _ _ _ _ => pg_name (i := 3) scLots.nd rfl (Or.inl rfl)) (fun _ _ _ _ _ => pts_nil)
        (fun _ _ _ _ _ => pe_op (r := rCatF) op_catF (pv 3) (pe_tupF (pa_cons (pv 2) pa_nil))))))))
    (pss_one (ps_ret (pe_callB (cr_sortTI hr.units) (by rfl) mso (by decide +kernel) (pa_cons (pv 1) pa_nil))))), ?_⟩
  refine ⟨(by show 0 ≤ sizeLine; decide), fun t0 H0' s1 _ ht0 => ⟨(by show 1 ≤ sizeLine; rw [sizeLine_eq]; decide), fun F0 nF0 => ?_⟩⟩
  have s2 := same_new nF0 (.lst [V.ref t0])
  have h0 := upd_same (H := H0') (a := F0) (o := .lst [V.ref t0])
  have x0 : LotF (upd H0' F0 (.lst [V.ref t0])) (.ref t0) [] := ⟨t0, rfl, ht0.same s2⟩
  have s0 := s1.trans s2
  generalize upd H0' F0 (.lst [V.ref t0]) = H0 at s0 h0 x0 ⊢
  refine ⟨_, rfl, (n : Int), rfl, by omega, by omega, for_range (lo := 0) (n := ((n : Nat) : Int).toNat) (fun i σ H' => ∃ (F : Addr) (xs : List V) (s2 : Option V), σ = [some (.int (n : Int)), some (.ref F), s2, none] ∧ Same H H' ∧ H' F = some (.lst xs) ∧ LotsF H' xs (lotsN i))
    ⟨F0, [.ref t0], none, rfl, s0, h0, .cons x0 .nil⟩ ?_ ?_⟩
  · rintro i σ H2 li ⟨F, xs, s2', rfl, s2, hF, hl⟩
    have ll := lotsN_len i
    have p8 : 2 ^ i ≤ 2 ^ 8 := Nat.pow_le_pow_right (by decide) (by omega)
    have lx := hl.len
    rw [show (0 : Int) + (i : Int) = (i : Int) by omega]
    refine ⟨_, rfl, _, rfl, F, rfl, ⟨_, SqL.of hF⟩, fun B nB => lo_it (walk_list (xs := xs)) (fun j H4 => Same H2 H4 ∧ ∃ ys, H4 B = some (.lst ys) ∧ LotsF H4 ys (((lotsN i).take j).map (· ++ [i]))) ⟨same_new nB _, [], upd_same, .nil⟩ (fun j H4 _ ⟨s4, _⟩ => SqL.of (s4 _ _ hF)) ?_ ?_⟩
    · rintro j x _ H4 lj ⟨s4, ys, hB, hy⟩ ⟨rfl, hj⟩
      obtain ⟨l, e, hx⟩ := hl.get hj
      have hx4 := hx.same s4
      obtain ⟨t, rfl, ht⟩ := hx4
      refine ⟨rfl, ?_⟩
      refine ⟨_, rfl, _, rfl, (by show 1 ≤ sizeLine; rw [sizeLine_eq]; decide), fun u H5 su _ hu => ?_⟩
      have lm : l.length ≤ 9 := by
        have := (mem_lotsN.mp (List.mem_of_getElem? e)).few
        omega
      have lt : ys.length < 1000 := by rw [hy.len, List.length_map, List.length_take]; omega
      refine ⟨t, u, natV l, _, rfl, rfl, ht.same su, hu, Nat.le_trans (by rw [List.length_cons, List.length_nil]; unfold natV; rw [List.length_map]; omega : _ ≤ 10) (by rw [sizeLine_eq]; decide), fun p H6 sp hp => ?_⟩
      have hB2 := (su.trans sp) _ _ hB
      refine ⟨ys, hB2, small1000 (by omega), same_put (s4.trans (su.trans sp)) nB, _, upd_same, ?_⟩
      rw [take_succ e, List.map_append]
      have xu : LotF H6 (.ref p) (l ++ [i]) := ⟨p, rfl, by unfold natV at hp ⊢; rw [List.map_append]; exact hp⟩
      exact ((hy.same (su.trans sp)).put hB2).snoc (xu.put hB2)
    · rintro H4 ⟨s4, ys, hB, hy⟩
      rw [lx, List.take_length] at hy
      refine ⟨F, B, _, _, rfl, rfl, s4 _ _ hF, hB, Nat.le_trans (by rw [hy.len, hl.len, List.length_map]; omega : _ ≤ 1024) (by rw [sizeLine_eq]; decide), fun c nc => ?_⟩
      have sc := same_new nc (.lst (xs ++ ys))
      exact ⟨c, _, _, rfl, s2.trans (s4.trans sc), upd_same, ((hl.same s4).app hy).same sc⟩
  · rintro σ H2 ⟨F, xs, s2', rfl, s2, hF, hl⟩
    rw [Int.toNat_natCast] at hl
    obtain ⟨r, er⟩ := lotsN_head n
    obtain ⟨p1, p2⟩ := lots_sortF (K := K) hl (.inl (by rw [er]; exact sortish_nil r))
    refine ⟨_, rfl, F, xs, fun x => natI (kF H2 x), rfl, SqL.of hF, p1, p2, fun ys p so st np => ?_⟩
    obtain ⟨h1, h2, h3⟩ := sorted_lotsF hl (lotsN_nodup n) so st
    have sp := same_new np (.lst ys)
    exact q p ys _ _ (s2.trans sp) upd_same (h1.same sp) ⟨h2, fun l => h3.mem_iff.trans mem_lotsN⟩ (by rw [h3.length_eq, lotsN_len])
end
end My

set_option maxHeartbeats 4000000
namespace My
open PySem PySem.Spec PyProof.Rows L2
abbrev sMasks : Stmt := top 12
abbrev sLotOf : Stmt := top 13
theorem scMasks : FnScope ["graph", "many", "edges", "masks", "one", "other"] ["graph"] (defScope sMasks) := ⟨rfl, rfl, rfl, by decide +kernel, rfl, by decide +kernel, by decide +kernel⟩
theorem scLotOf : FnScope ["mask", "vertex"] ["mask"] (defScope sLotOf) := ⟨rfl, rfl, rfl, by decide +kernel, rfl, by decide +kernel, by decide +kernel⟩
theorem numsN_set (l : List Nat) (j k : Nat) : (numsN l).set j (V.int ((k : Nat) : Int)) = numsN (l.set j k) := by
  unfold numsN
  rw [List.map_set]
theorem numsN_getD {l : List Nat} {j : Nat} (h : j < l.length) : (numsN l)[j]? = some (V.int ((l.getD j 0 : Nat) : Int)) := by
  unfold numsN
  rw [List.getElem?_map, List.getElem?_eq_getElem h, List.getD_eq_getElem?_getD, List.getElem?_eq_getElem h]
  rfl
theorem shl_one (b : Nat) : (1 : Int) * 2 ^ ((b : Nat) : Int).toNat = ((2 ^ b : Nat) : Int) := by
  rw [Int.toNat_natCast, Int.one_mul, Int.natCast_pow]
  rfl
theorem or_shl (a b : Nat) : Builtin.bitOr ((a : Nat) : Int) ((1 : Int) * 2 ^ ((b : Nat) : Int).toNat) = ((a ||| 2 ^ b : Nat) : Int) := by
  rw [shl_one, or_nn]
def rGetN (K : PySem.W.Frag) : V → V → Hp → VK → Prop := fun x y H Q => ∃ (p : Addr) (xs : List V) (j : Nat) (v : V), x = .ref p ∧ y = .int (j : Int) ∧ SqL K H p xs ∧ xs[j]? = some v ∧ Q v H
section
variable {X : Cx}
theorem pget_list : PGet X (rGetN X.K) := by
  intro pins s σ H x y ov iv Q I rx ry h
  obtain ⟨p, xs, j, v, rfl, rfl, hq, he, q⟩ := h
  cases rx
  obtain ⟨t, rfl⟩ := ry
  obtain ⟨its, r, pl, hz⟩ := I.list hq
  obtain ⟨w, ew, rw'⟩ := r.get he
  have hn := line63
  have hj : j < xs.length := (List.getElem?_eq_some_iff.mp he).1
  exact wpAny_getItem_list pl.isList (by omega) (by omega) (by rw [Int.toNat_natCast]; simpa using ew) ⟨v, H, I, rw', q⟩
theorem ip_or : PIp X .BitOr (ipI fun i j => Builtin.bitOr i j) := by
  intro pins s σ H x y v u Q I r1 r2 h
  obtain ⟨i, j, e1, e2, q⟩ := h
  subst e1; subst e2
  obtain ⟨t, rfl⟩ := r1
  obtain ⟨t', rfl⟩ := r2
  exact ior_int ⟨.int _, H, I.tok _, ⟨_, rfl⟩, q⟩
end
def spMasks (K : PySem.W.Frag) : Sp := fun vs H Q _ => ∃ (x : V) (n : Nat) (es : List E2), vs = [x] ∧ GraphAt K H x n es ∧ Good n es ∧ ∀ (D : Addr) (nb : List Nat) H', H D = none → Same H H' → H' D = some (.lst (numsN nb)) → NbOk n es nb → Q (.ref D) H'
section
variable {P : Program} {w : World} {K : PySem.W.Frag} {mg : Str → Option Value} {base : Heap} {f : Addr} {fd : FuncData}
theorem ok_masks (F : L2.Fun K "neighbour_masks" "neighbour_masks" sMasks f fd) : FnOk P w K mg base CX0 1 f fd ["graph"] (spMasks K) := by
  refine F.ok scMasks (fun vs H Q E h => ?_) (fun cdv A outer s H vs Q E hr h => ?_)
  · obtain ⟨x, n, es, rfl, _⟩ := h
    rfl
  obtain ⟨x, n, es, rfl, ⟨t, e, xs, rfl, ht, he, hes⟩, g, q⟩ := h
  refine ⟨_, pss_cons (ps_asg (pv 0) (pg_tup (by rfl) (pgs_cons (pg_name (i := 1) scMasks.nd rfl (.inl rfl)) (pgs_cons (pg_name (i := 2) scMasks.nd rfl (.inl rfl)) pgs_nil))))
    (pss_cons (ps_set (i := 3) scMasks.nd rfl (.inl rfl) (pe_op op_rep (pe_lst (pa_cons pe_int pa_nil)) (pv 1)))
    (pss_cons (ps_for PassesOwn.never rfl (pi_tup (pv 2)) (pg_tup (by rfl) (pgs_cons (pg_name (i := 4) scMasks.nd rfl (.inl rfl)) (pgs_cons (pg_name (i := 5) scMasks.nd rfl (.inl rfl)) pgs_nil)))
      (pss_cons (ps_augS (pv 3) (pv 4) pget_list (pe_op op_shl pe_int (pv 5)) ip_or set_list)
      (pss_one (ps_augS (pv 3) (pv 5) pget_list (pe_op op_shl pe_int (pv 4)) ip_or set_list))))
    (pss_one (ps_ret (pv 3))))), ?_⟩
  have n9 := g.n9
  have few := g.few
  have le := PairsAt.len hes
  refine ⟨_, rfl, t, _, rfl, ht, rfl, _, _, rfl, _, _, rfl, rfl, ?_⟩
  refine ⟨(by show 1 ≤ sizeLine; rw [sizeLine_eq]; decide), fun z nz => ?_⟩
  have hz := upd_same (H := H) (a := z) (o := .lst [V.int 0])
  have sz := same_new nz (.lst [V.int 0])
  refine ⟨_, rfl, z, (n : Int), [.int 0], rfl, rfl, hz, by omega, by omega, small (by rw [Int.toNat_natCast, List.length_singleton]; omega), fun D nD => ?_⟩
  have e0 : (List.replicate ((n : Nat) : Int).toNat [V.int 0]).flatten = numsN (List.replicate n 0) := by
    rw [Int.toNat_natCast]
    unfold numsN
    rw [List.map_replicate, List.flatten_replicate_singleton]
    rfl
  rw [e0]
  have sD := same_new nD (.lst (numsN (List.replicate n 0)))
  have nD0 : H D = none := sz.free nD
  have s0 := sz.trans sD
  have hD := upd_same (H := upd H z (.lst [V.int 0])) (a := D) (o := .lst (numsN (List.replicate n 0)))
  generalize upd (upd H z (.lst [V.int 0])) D (.lst (numsN (List.replicate n 0))) = H0 at s0 hD sD ⊢
  refine ⟨_, rfl, e, rfl, ⟨_, Same.tup s0 he⟩, for_it (walk_tup (xs := xs)) (fun i σ H' => ∃ (nb : List Nat) (s4 s5 : Option V), σ = [some (.ref t), some (.int (n : Int)), some (.ref e), some (.ref D), s4, s5] ∧ Same H H' ∧ H' D = some (.lst (numsN nb)) ∧ NbOk n (es.take i) nb)
    ⟨_, none, none, rfl, s0, hD, nb_nil n⟩ (fun i σ H' _ ⟨_, _, _, _, s, _⟩ => Same.tup s he) ?_ ?_⟩
  · rintro i x σ H2 H3 li ⟨nb, s4, s5, rfl, s2, hD2, ok⟩ ⟨rfl, hi⟩
    obtain ⟨p, hp, u, rfl, hu⟩ := PairsAt.get (hes.same s2) hi
    obtain ⟨l1, l2⟩ := g.lt p (List.mem_of_getElem? hp)
    have ln := ok.1
    have ln2 : (nb.set p.1 (nb.getD p.1 0 ||| 2 ^ p.2)).length = n := by rw [List.length_set]; exact ln
    refine ⟨u, _, rfl, hu, rfl, _, _, rfl, _, _, rfl, rfl, ?_⟩
    refine ⟨_, rfl, _, rfl, D, _, p.1, _, rfl, rfl, SqL.of hD2, numsN_getD (by omega), _, rfl, _, _, rfl, rfl, ⟨by omega, by omega, by decide⟩, _, _, rfl, rfl, D, _, _, p.1, rfl, rfl, hD2, by rw [numsN_len]; exact ixN_of (by omega), ?_⟩
    simp only [or_shl, numsN_set]
    have hD3 := upd_same (H := H3) (a := D) (o := .lst (numsN (nb.set p.1 (nb.getD p.1 0 ||| 2 ^ p.2))))
    have s3 := same_put (o := .lst (numsN (nb.set p.1 (nb.getD p.1 0 ||| 2 ^ p.2)))) s2 nD0
    generalize upd H3 D (.lst (numsN (nb.set p.1 (nb.getD p.1 0 ||| 2 ^ p.2)))) = H4 at hD3 s3 ⊢
    refine ⟨_, rfl, _, rfl, D, _, p.2, _, rfl, rfl, SqL.of hD3, numsN_getD (by omega), _, rfl, _, _, rfl, rfl, ⟨by omega, by omega, by decide⟩, _, _, rfl, rfl, D, _, _, p.2, rfl, rfl, hD3, by rw [numsN_len]; exact ixN_of (by omega), ?_⟩
    simp only [or_shl, numsN_set]
    refine ⟨_, _, _, rfl, same_put s3 nD0, upd_same, ?_⟩
    rw [take_succ hp]
    exact nb_step ok l1 l2
  · rintro σ H2 ⟨nb, s4, s5, rfl, s2, hD2, ok⟩
    rw [le, List.take_length] at ok
    exact ⟨_, rfl, q D nb H2 nD0 s2 hD2 ok⟩
end
end My

set_option maxHeartbeats 4000000
namespace My
open PySem PySem.Spec PyProof.Rows L2
def spMaskOf (K : PySem.W.Frag) : Sp := fun vs H Q _ => ∃ (v : V) (l : List Nat), vs = [v] ∧ LotAt K H v l ∧ l.length ≤ 100 ∧ (∀ k ∈ l, k ≤ 100) ∧ ∀ H', Same H H' → Q (.int ((maskN l : Nat) : Int)) H'
def spLotOf (K : PySem.W.Frag) : Sp := fun vs H Q _ => ∃ (m n : Nat), vs = [.int (m : Int)] ∧ m < 2 ^ n ∧ n ≤ 9 ∧ ∀ (t : Addr) H', H t = none → Same H H' → H' t = some (.tup ((bitsN n m).map fun k => V.int ((k : Nat) : Int))) → Q (.ref t) H'
theorem sum_cast : ∀ l : List Nat, ((l.map fun k => ((2 ^ k : Nat) : Int)).sum) = ((maskN l : Nat) : Int)
  | [] => rfl
  | a :: r => by
    have ih := sum_cast r
    unfold maskN at ih ⊢
    rw [List.map_cons, List.sum_cons, ih, List.map_cons, List.sum_cons]
    omega
theorem bits_len_eq : ∀ n, n ≤ 9 → ∀ m : Nat, m < 2 ^ n → (List.range (Builtin.Int.intBits ((m : Nat) : Int))).filter (fun v => m.testBit v) = bitsN n m := by decide +kernel
theorem intBits_le : ∀ m : Nat, m < 512 → Builtin.Int.intBits ((m : Nat) : Int) ≤ 9 := by decide +kernel
theorem shr_bit (m v : Nat) : Builtin.bitAnd (((m : Nat) : Int) / 2 ^ ((v : Nat) : Int).toNat) 1 = if m.testBit v then 1 else 0 := by
  rw [Int.toNat_natCast]
  have e : ((m : Nat) : Int) / 2 ^ v = ((m / 2 ^ v : Nat) : Int) := by
    rw [Int.natCast_ediv, Int.natCast_pow]
    rfl
  rw [e, show (1 : Int) = ((1 : Nat) : Int) from rfl, and_nn]
  rw [Nat.testBit_eq_decide_div_mod_eq, Nat.and_one_is_mod]
  have z := Nat.mod_lt (m / 2 ^ v) (show 2 > 0 by decide)
  by_cases c : m / 2 ^ v % 2 = 1
  · rw [c]; simp
  · have : m / 2 ^ v % 2 = 0 := by omega
    rw [this]; simp
def tTruM (K : PySem.W.Frag) (te : TE) : TT := fun σ H Q => te σ H fun x H' => ∃ k, TruV K x H' k ∧ Q k H'
section
variable {P : Program} {w : World} {K : PySem.W.Frag} {mg : Str → Option Value} {base : Heap} {f : Addr} {fd : FuncData}
theorem ok_lot_of (F : L2.Fun K "lot_of" "lot_of" sLotOf f fd) (mr : mg "range" = none) (mt : mg "tuple" = none) : FnOk P w K mg base CX0 1 f fd ["mask"] (spLotOf K) := by
  refine F.ok scLotOf (fun vs H Q E h => ?_) (fun cdv A outer s H vs Q E hr h => ?_)
  · obtain ⟨m, n, rfl, _⟩ := h
    rfl
  obtain ⟨m, n, rfl, lt, n9, q⟩ := h
  refine ⟨_, pss_one (ps_ret (pe_callTy call_tuple_of (by rfl) mt (by decide +kernel) (pa_cons (pe_lc (own := [("vertex", 1)]) (g := gName 1) (tt := tTruM K (tOp (rI0 fun i j => .int (Builtin.bitAnd i j)) (tOp (rI (fun _ j => 0 ≤ j) fun i j => .int (i / 2 ^ j.toNat)) (tVar 0) (tVar 1)) (tC (.int 1)))) rfl scLotOf.nd (pi_range1 rfl mr (pa_cons (pe_bits (pv 0)) pa_nil))
        (blkOk_by (N := ["mask", "vertex"]) (sc := defScope sLotOf) (by decide +kernel)) (fun _ _ _ _ _ => pg_name (i := 1) scLotOf.nd rfl (Or.inl rfl)) (fun _ _ _ _ _ => pts_one (pt_truth (pe_op op_and (pe_op op_shr (pv 0) (pv 1)) pe_int) (by intro _; rfl))) (fun _ _ _ _ _ => pv 1)) pa_nil))), ?_⟩
  have l9 : m < 512 := Nat.lt_of_lt_of_le lt (Nat.pow_le_pow_right (by decide) n9)
  have b9 := intBits_le m l9
  refine ⟨_, rfl, _, rfl, _, rfl, by omega, by omega, fun D nD => lo_it (walk_range (lo := 0) (n := ((Builtin.Int.intBits ((m : Nat) : Int) : Nat) : Int).toNat)) (fun i H2 => Same H H2 ∧ H2 D = some (.lst (((List.range i).filter fun v => m.testBit v).map fun k => V.int ((k : Nat) : Int)))) ⟨same_new nD _, upd_same⟩ (fun _ _ _ _ => trivial) ?_ ?_⟩
  · rintro i x H2 _ li ⟨s2, hD⟩ ⟨rfl, ex⟩
    obtain rfl : x = V.int ((i : Nat) : Int) := ex.trans (congrArg V.int (Int.zero_add _))
    have few : ((List.range i).filter fun v => m.testBit v).length ≤ i := Nat.le_trans (List.length_filter_le _ _) (by rw [List.length_range]; exact Nat.le_refl _)
    refine ⟨rfl, ?_⟩
    refine ⟨_, rfl, _, rfl, _, _, rfl, rfl, by omega, _, _, rfl, rfl, _, rfl, ?_⟩
    simp only [shr_bit]
    cases e : m.testBit i with
    | true =>
      refine iteT ⟨_, rfl, _, hD, small1000 (by rw [List.length_map]; omega), same_put s2 nD, ?_⟩
      rw [upd_same, List.range_succ, List.filter_append, List.map_append, List.filter_cons_of_pos e]
      rfl
    | false =>
      refine iteF ⟨s2, ?_⟩
      rw [hD, List.range_succ, List.filter_append, List.filter_cons_of_neg (by rw [e]; decide), List.filter_nil, List.append_nil]
  · rintro H2 ⟨s2, hD⟩
    rw [Int.toNat_natCast, bits_len_eq n n9 m lt] at hD
    refine ⟨D, _, rfl, .inl ⟨SqL.of hD, fun l nl => ?_⟩⟩
    exact q l _ (s2.free nl) (s2.trans (same_new nl _)) upd_same
end
end My

set_option maxHeartbeats 4000000
/-! Clique numbers of masks, in plain Lean. -/
namespace My
open PySem PySem.Spec PyProof.Rows L2
def sizeN (c : Nat) : Nat := (bitsN 9 c).length
theorem size_flip : ∀ c : Nat, c < 512 → ∀ g : Nat, g < 9 → c.testBit g = true → sizeN (c ^^^ 2 ^ g) + 1 = sizeN c := by decide +kernel
/-- the number of the greatest bit -/
def topN (m : Nat) : Nat := Builtin.Int.intBits ((m : Nat) : Int) - 1
theorem top_ok : ∀ m : Nat, m < 512 → 1 ≤ m → Builtin.Int.intBits ((m : Nat) : Int) = topN m + 1 ∧ topN m < 9 ∧ m.testBit (topN m) = true ∧ m < 2 ^ (topN m + 1) ∧ 2 ^ topN m ≤ m := by decide +kernel
def SubN (c m : Nat) : Prop := ∀ u, c.testBit u = true → m.testBit u = true
theorem SubN.le {c m : Nat} (h : SubN c m) : c ≤ m := by
  rw [← (sub_and c m).mpr h]
  exact Nat.and_le_right
def CnOk (es : List E2) (m v : Nat) : Prop := (∃ c, SubN c m ∧ Clq es c ∧ sizeN c = v) ∧ ∀ c, SubN c m → Clq es c → sizeN c ≤ v
theorem cn_zero (es : List E2) : CnOk es 0 0 := by
  refine ⟨⟨0, fun u h => h, fun u v h => by simp at h, rfl⟩, fun c h _ => ?_⟩
  have := h.le
  have : c = 0 := by omega
  rw [this]
  exact Nat.le_of_eq rfl
theorem xor_bit (m g u : Nat) : (m ^^^ 2 ^ g).testBit u = (m.testBit u ^^ decide (g = u)) := by rw [Nat.testBit_xor, bit_pow]
theorem cn_step {n : Nat} {es : List E2} {nb : List Nat} {m v1 v2 : Nat} (gd : Good n es) (ok : NbOk n es nb) (lt : m < 2 ^ n) (m1 : 1 ≤ m) (h1 : CnOk es (m ^^^ 2 ^ topN m) v1) (h2 : CnOk es (m &&& nb.getD (topN m) 0) v2) : CnOk es m (max v1 (1 + v2)) := by
  have n9 := gd.n9
  have m9 : m < 512 := Nat.lt_of_lt_of_le lt (Nat.pow_le_pow_right (by decide) n9)
  obtain ⟨_, t9, tb, _, _⟩ := top_ok m m9 m1
  generalize topN m = g at h1 h2 t9 tb
  have gn : g < n := by
    by_cases c : g < n
    · exact c
    · rw [high_out lt (by omega)] at tb
      cases tb
  have gg : adjB es g g = false := by
    cases e : adjB es g g with
    | false => rfl
    | true => exact absurd rfl (adj_ne gd e).1
  obtain ⟨⟨c1, s1, q1, e1⟩, u1⟩ := h1
  obtain ⟨⟨c2, s2, q2, e2⟩, u2⟩ := h2
  have lift1 : ∀ c, SubN c (m ^^^ 2 ^ g) → SubN c m := fun c s u hu => by
    have z := s u hu
    rw [xor_bit] at z
    by_cases e : g = u
    · rw [← e]; exact tb
    · rw [decide_eq_false e, Bool.xor_false] at z
      exact z
  have in2 : ∀ u, (m &&& nb.getD g 0).testBit u = true → m.testBit u = true ∧ adjB es g u = true := fun u hu => by
    rw [Nat.testBit_and, Bool.and_eq_true, ok.2 g gn] at hu
    exact hu
  have no2 : c2.testBit g = false := by
    cases e : c2.testBit g with
    | false => rfl
    | true =>
      have z := (in2 g (s2 g e)).2
      rw [gg] at z
      cases z
  have big : SubN (c2 ^^^ 2 ^ g) m ∧ Clq es (c2 ^^^ 2 ^ g) ∧ sizeN (c2 ^^^ 2 ^ g) = 1 + v2 := by
    have bits : ∀ u, (c2 ^^^ 2 ^ g).testBit u = true → u = g ∨ c2.testBit u = true := fun u hu => by
      rw [xor_bit] at hu
      by_cases e : g = u
      · exact .inl e.symm
      · rw [decide_eq_false e, Bool.xor_false] at hu
        exact .inr hu
    have sb : SubN (c2 ^^^ 2 ^ g) m := fun u hu => by
      rcases bits u hu with rfl | z
      · exact tb
      · exact (in2 u (s2 u z)).1
    refine ⟨sb, fun u v hu hv ne => ?_, ?_⟩
    · rcases bits u hu with rfl | zu
      · rcases bits v hv with rfl | zv
        · exact absurd rfl ne
        · exact (in2 v (s2 v zv)).2
      · rcases bits v hv with rfl | zv
        · rw [adj_comm]
          exact (in2 u (s2 u zu)).2
        · exact q2 u v zu zv ne
    · have tg : (c2 ^^^ 2 ^ g).testBit g = true := by
        rw [xor_bit, no2, decide_eq_true rfl]
        rfl
      have z := size_flip _ (Nat.lt_of_le_of_lt sb.le m9) g t9 tg
      have e : c2 ^^^ 2 ^ g ^^^ 2 ^ g = c2 := by
        refine Nat.eq_of_testBit_eq fun u => ?_
        rw [xor_bit, xor_bit]
        cases c2.testBit u <;> cases decide (g = u) <;> rfl
      rw [e, e2] at z
      omega
  constructor
  · by_cases c : v1 ≤ 1 + v2
    · refine ⟨c2 ^^^ 2 ^ g, big.1, big.2.1, ?_⟩
      rw [big.2.2]
      omega
    · exact ⟨c1, lift1 c1 s1, q1, by omega⟩
  · intro c sc cc
    cases e : c.testBit g with
    | false =>
      have z := u1 c (fun u hu => by
        rw [xor_bit, sc u hu]
        by_cases e3 : g = u
        · rw [← e3, e] at hu
          cases hu
        · rw [decide_eq_false e3]
          rfl) cc
      omega
    | true =>
      have bits : ∀ u, (c ^^^ 2 ^ g).testBit u = true → g ≠ u ∧ c.testBit u = true := fun u hu => by
        rw [xor_bit] at hu
        by_cases e3 : g = u
        · rw [← e3, e, decide_eq_true rfl] at hu
          cases hu
        · rw [decide_eq_false e3, Bool.xor_false] at hu
          exact ⟨e3, hu⟩
      have z := u2 (c ^^^ 2 ^ g) (fun u hu => by
        obtain ⟨ne, cu⟩ := bits u hu
        rw [Nat.testBit_and, sc u cu, ok.2 g gn, cc g u e cu ne]
        rfl) (fun u v hu hv ne => cc u v (bits u hu).2 (bits v hv).2 ne)
      have y := size_flip c (Nat.lt_of_le_of_lt sc.le m9) g t9 e
      omega
theorem xor_less {m : Nat} (m9 : m < 512) (m1 : 1 ≤ m) : m ^^^ 2 ^ topN m < m := by
  obtain ⟨_, _, tb, tl, tg⟩ := top_ok m m9 m1
  refine Nat.lt_of_lt_of_le (Nat.lt_pow_two_of_testBit _ fun v hv => ?_) tg
  rw [xor_bit]
  by_cases e : topN m = v
  · rw [← e, tb, decide_eq_true rfl]
    rfl
  · rw [decide_eq_false e, Bool.xor_false]
    exact high_out tl (by omega)
theorem and_less {n : Nat} {es : List E2} {nb : List Nat} {m : Nat} (gd : Good n es) (ok : NbOk n es nb) (lt : m < 2 ^ n) (m1 : 1 ≤ m) : topN m < n ∧ m &&& nb.getD (topN m) 0 < m := by
  have m9 : m < 512 := Nat.lt_of_lt_of_le lt (Nat.pow_le_pow_right (by decide) gd.n9)
  obtain ⟨_, _, tb, tl, tg⟩ := top_ok m m9 m1
  have gn : topN m < n := by
    by_cases c : topN m < n
    · exact c
    · rw [high_out lt (by omega)] at tb
      cases tb
  refine ⟨gn, Nat.lt_of_lt_of_le (Nat.lt_pow_two_of_testBit _ fun v hv => ?_) tg⟩
  rw [Nat.testBit_and]
  by_cases e : topN m = v
  · subst e
    rw [ok.2 _ gn]
    cases e : adjB es (topN m) (topN m) with
    | false => exact Bool.and_false _
    | true => exact absurd rfl (adj_ne gd e).1
  · rw [high_out tl (by omega)]
    rfl
end My

set_option maxHeartbeats 4000000
namespace My
open PySem PySem.Spec PyProof.Rows L2
abbrev sCNums : Stmt := top 15
theorem scCNums : FnScope ["neighbours", "numbers", "mask", "greatest", "without_it", "with_it"] ["neighbours"] (defScope sCNums) := ⟨rfl, rfl, rfl, by decide +kernel, rfl, by decide +kernel, by decide +kernel⟩
/-- the greatest number of vertices of a lot that is tied so -/
def BestOk (n : Nat) (es : List E2) (tied : Bool) (v : Nat) : Prop := (∃ l, LotOk n l ∧ PairB es tied l ∧ l.length = v) ∧ ∀ l, LotOk n l → PairB es tied l → l.length ≤ v
theorem cn_best {n : Nat} {es : List E2} {v : Nat} (n9 : n ≤ 9) (h : CnOk es (2 ^ n - 1) v) : BestOk n es true v := by
  have full : ∀ u, (2 ^ n - 1).testBit u = decide (u < n) := fun u => Nat.testBit_two_pow_sub_one n u
  constructor
  · obtain ⟨c, sc, cc, ec⟩ := h.1
    have lt : c < 2 ^ n := Nat.lt_of_le_of_lt sc.le (by have := Nat.two_pow_pos n; omega)
    refine ⟨bitsN n c, ⟨fun k hk => (mem_bits.mp hk).1, bits_up n c⟩, (clq_mask (bits_up n c)).mp (by rw [mask_bits lt]; exact cc), ?_⟩
    rw [← ec]
    unfold sizeN
    have z := bits_mask (n := 9) (bits_up n c) fun k hk => Nat.lt_of_lt_of_le (mem_bits.mp hk).1 n9
    rw [mask_bits lt] at z
    rw [z]
  · intro l lo pb
    have z := h.2 (maskN l) (fun u hu => by
      rw [mask_bit lo.up] at hu
      rw [full]
      exact decide_eq_true (lo.lt u (of_decide_eq_true hu))) ((clq_mask lo.up).mpr pb)
    unfold sizeN at z
    rw [bits_mask (n := 9) lo.up fun k hk => Nat.lt_of_lt_of_le (lo.lt k hk) n9] at z
    exact z
theorem best_uniq {n : Nat} {es : List E2} {t : Bool} {v u : Nat} (h : BestOk n es t v) (h' : BestOk n es t u) : v = u := by
  obtain ⟨⟨l, l1, l2, l3⟩, hl⟩ := h
  obtain ⟨⟨m, m1, m2, m3⟩, hm⟩ := h'
  have := hl m m1 m2
  have := hm l l1 l2
  omega
def spCNums (K : PySem.W.Frag) : Sp := fun vs H Q _ => ∃ (D : Addr) (nb : List Nat) (n : Nat) (es : List E2), vs = [.ref D] ∧ SqL K H D (numsN nb) ∧ NbOk n es nb ∧ Good n es ∧ ∀ (F : Addr) (ns : List Nat) H', Same H H' → H' F = some (.lst (numsN ns)) → ns.length = 2 ^ n → (∀ k, k < 2 ^ n → CnOk es k (ns.getD k 0)) → Q (.ref F) H'
def spNum (K : PySem.W.Frag) (tied : Bool) : Sp := fun vs H Q _ => ∃ (x : V) (n : Nat) (es : List E2), vs = [x] ∧ GraphAt K H x n es ∧ Good n es ∧ ∀ (v : Nat) H', Same H H' → BestOk n es tied v → Q (.int (v : Int)) H'
theorem xor_shl (a b : Nat) : Builtin.bitXor ((a : Nat) : Int) ((1 : Int) * 2 ^ ((b : Nat) : Int).toNat) = ((a ^^^ 2 ^ b : Nat) : Int) := by
  rw [shl_one, Bits.bitXor_pp (Int.natCast_nonneg _) (Int.natCast_nonneg _), Int.toNat_natCast, Int.toNat_natCast]
theorem at_end {ns : List Nat} {m : Nat} (h : ns.length = m) (m1 : 1 ≤ m) : atI (numsN ns) (-1) = some (V.int ((ns.getD (m - 1) 0 : Nat) : Int)) := by
  have ne : ns ≠ [] := fun z => by
    rw [z, List.length_nil] at h
    omega
  have l : ns.getD (m - 1) 0 = ns.getLast ne := by
    rw [List.getLast_eq_getElem, List.getD_eq_getElem?_getD, List.getElem?_eq_getElem (by omega)]
    simp [h]
  have e : numsN ns = numsN ns.dropLast ++ [V.int ((ns.getLast ne : Nat) : Int)] := by
    conv => lhs; rw [← List.dropLast_concat_getLast ne]
    unfold numsN
    rw [List.map_append]
    rfl
  rw [e, l]
  exact atI_last _ _
section
variable {P : Program} {w : World} {K : PySem.W.Frag} {mg : Str → Option Value} {base : Heap} {f fC fN fM : Addr} {fd dC dN dM : FuncData}
theorem ok_clique_numbers (F : L2.Fun K "clique_numbers" "clique_numbers" sCNums f fd) (mr : mg "range" = none) (ml : mg "len" = none) (mx : mg "max" = none) : FnOk P w K mg base CX0 1 f fd ["neighbours"] (spCNums K) := by
  refine F.ok scCNums (fun vs H Q E h => ?_) (fun cdv A outer s H vs Q E hr h => ?_)
  · obtain ⟨D, nb, n, es, rfl, _⟩ := h
    rfl
  obtain ⟨D, nb, n, es, rfl, hD, ok, g, q⟩ := h
  refine ⟨_, pss_cons (ps_set (i := 1) scCNums.nd rfl (.inl rfl) (pe_lst (pa_cons pe_int pa_nil)))
    (pss_cons (ps_for PassesOwn.never rfl (pi_range2 (by rfl) mr (pa_cons pe_int (pa_cons (pe_op op_shl pe_int (pe_callB call_len_seq (by rfl) ml PySem.boot_len (pa_cons (pv 0) pa_nil))) pa_nil))) (pg_name (i := 2) scCNums.nd rfl (.inl rfl))
      (pss_cons (ps_set (i := 3) scCNums.nd rfl (.inl rfl) (pe_op op_sub (pe_bits (pv 2)) pe_int))
      (pss_cons (ps_set (i := 4) scCNums.nd rfl (.inl rfl) (pe_ix (r := rIxL K) ix_list (pv 1) (pe_op op_xor (pv 2) (pe_op op_shl pe_int (pv 3))) (fun _ _ => rfl)))
      (pss_cons (ps_set (i := 5) scCNums.nd rfl (.inl rfl) (pe_op op_add pe_int (pe_ix (r := rIxL K) ix_list (pv 1) (pe_op op_and (pv 2) (pe_ix (r := rIxL K) ix_list (pv 0) (pv 3) (fun _ _ => rfl))) (fun _ _ => rfl))))
      (pss_one (ps_expr (pe_bm PySem.F.plainAttrs_list PySem.F.slot_list_append PySem.F.type_list_append mt_append (pv 1) (pa_cons (pe_callB (call_max2 rfl) (by rfl) mx (by decide +kernel) (pa_cons (pv 4) (pa_cons (pv 5) pa_nil))) pa_nil))))))))
    (pss_one (ps_ret (pv 1)))), ?_⟩
  have n9 := g.n9
  have ln := ok.1
  have p9 : 2 ^ n ≤ 512 := Nat.pow_le_pow_right (by decide) n9
  have p1 := Nat.two_pow_pos n
  refine ⟨(by show 1 ≤ sizeLine; rw [sizeLine_eq]; decide), fun F0 nF0 => ?_⟩
  have s0 := same_new nF0 (.lst [V.int 0])
  have e2 : (1 : Int) * 2 ^ (((numsN nb).length : Nat) : Int).toNat = ((2 ^ n : Nat) : Int) := by
    rw [Int.toNat_natCast, numsN_len, ln, Int.one_mul, Int.natCast_pow]
    rfl
  have h0 := upd_same (H := H) (a := F0) (o := .lst [V.int 0])
  generalize upd H F0 (.lst [V.int 0]) = H0 at s0 h0 ⊢
  refine ⟨_, rfl, D, _, rfl, .inl (Same.seq s0 hD), _, _, rfl, rfl, ⟨by rw [numsN_len]; omega, by rw [numsN_len]; omega, by decide⟩, 1, ((2 ^ n : Nat) : Int), congrArg (fun z : Int => [V.int 1, V.int z]) e2, ⟨by decide, by decide, by omega, by omega⟩, for_range (lo := 1) (n := (((2 ^ n : Nat) : Int) - 1).toNat) (fun i σ H' => ∃ (ns : List Nat) (s2 s3 s4 s5 : Option V), σ = [some (.ref D), some (.ref F0), s2, s3, s4, s5] ∧ Same H H' ∧ H' F0 = some (.lst (numsN ns)) ∧ ns.length = i + 1 ∧ ∀ k, k < i + 1 → CnOk es k (ns.getD k 0))
    ⟨[0], none, none, none, none, rfl, s0, h0, rfl, fun k hk => ?_⟩ ?_ ?_⟩
  · obtain rfl : k = 0 := by omega
    exact cn_zero es
  · rintro i σ H2 li ⟨ns, s2', s3', s4', s5', rfl, s2, hF, nl, cn⟩
    have lm : i + 1 < 2 ^ n := by omega
    have m9 : i + 1 < 512 := by omega
    obtain ⟨ib, t9, tb, tl, tg⟩ := top_ok (i + 1) m9 (by omega)
    obtain ⟨tn, al⟩ := and_less g ok lm (by omega)
    have xl := xor_less m9 (show 1 ≤ i + 1 by omega)
    have em : (1 : Int) + (i : Int) = ((i + 1 : Nat) : Int) := by omega
    rw [em]
    have eb : ((Builtin.Int.intBits ((i + 1 : Nat) : Int) : Nat) : Int) - 1 = ((topN (i + 1) : Nat) : Int) := by
      rw [ib]
      omega
    refine ⟨_, rfl, _, rfl, _, _, rfl, rfl, ?_⟩
    simp only [eb]
    refine ⟨_, rfl, _, rfl, _, rfl, _, _, rfl, rfl, ⟨by omega, by omega, by decide⟩, _, _, rfl, rfl, ?_⟩
    simp only [xor_shl]
    refine ⟨F0, _, _, _, rfl, rfl, SqL.of hF, atI_nat (numsN_getD (by omega)), _, rfl, _, rfl, _, rfl, _, rfl, D, _, _, _, rfl, rfl, Same.seq s2 hD, atI_nat (numsN_getD (by omega)), _, _, rfl, rfl, ?_⟩
    simp only [and_nn]
    refine ⟨F0, _, _, _, rfl, rfl, SqL.of hF, atI_nat (numsN_getD (by omega)), _, _, rfl, rfl, ?_⟩
    refine ⟨_, rfl, .inl ⟨rfl, _, SqL.of hF⟩, _, rfl, _, rfl, _, _, rfl, F0, _, _, rfl, rfl, hF, small1000 (by rw [numsN_len]; omega), ?_⟩
    have eM : (if (1 : Int) + ((ns.getD (i + 1 &&& nb.getD (topN (i + 1)) 0) 0 : Nat) : Int) > ((ns.getD (i + 1 ^^^ 2 ^ topN (i + 1)) 0 : Nat) : Int) then (1 : Int) + ((ns.getD (i + 1 &&& nb.getD (topN (i + 1)) 0) 0 : Nat) : Int) else ((ns.getD (i + 1 ^^^ 2 ^ topN (i + 1)) 0 : Nat) : Int)) = ((max (ns.getD (i + 1 ^^^ 2 ^ topN (i + 1)) 0) (1 + ns.getD (i + 1 &&& nb.getD (topN (i + 1)) 0) 0) : Nat) : Int) := by
      split <;> omega
    refine ⟨ns ++ [max (ns.getD (i + 1 ^^^ 2 ^ topN (i + 1)) 0) (1 + ns.getD (i + 1 &&& nb.getD (topN (i + 1)) 0) 0)], _, _, _, _, rfl, same_put s2 nF0, ?_, by rw [List.length_append, nl]; rfl, fun k hk => ?_⟩
    · rw [upd_same, eM]
      unfold numsN
      rw [List.map_append]
      rfl
    · by_cases c : k < i + 1
      · rw [List.getD_eq_getElem?_getD, List.getElem?_append_left (by omega), ← List.getD_eq_getElem?_getD]
        exact cn k c
      · obtain rfl : k = i + 1 := by omega
        rw [List.getD_eq_getElem?_getD, List.getElem?_append_right (by omega), nl, Nat.sub_self]
        exact cn_step g ok lm (by omega) (cn _ xl) (cn _ al)
  · rintro σ H2 ⟨ns, s2', s3', s4', s5', rfl, s2, hF, nl, cn⟩
    have e3 : (((2 ^ n : Nat) : Int) - 1).toNat + 1 = 2 ^ n := by omega
    rw [e3] at nl cn
    exact ⟨_, rfl, q F0 ns H2 s2 hF nl cn⟩
end
end My

set_option maxHeartbeats 4000000
/-! Chromatic numbers of masks, in plain Lean. -/
namespace My
open PySem PySem.Spec PyProof.Rows L2
/-- no two of them adjacent -/
def Stb (es : List E2) (m : Nat) : Prop := ∀ u v, m.testBit u = true → m.testBit v = true → u ≠ v → adjB es u v = false
/-- a mask's vertices can have colours below k -/
def ColB (es : List E2) (m k : Nat) : Prop := ∃ f : Nat → Nat, (∀ u, m.testBit u = true → f u < k) ∧ ∀ u v, m.testBit u = true → m.testBit v = true → adjB es u v = true → f u ≠ f v
def ChOk (es : List E2) (m v : Nat) : Prop := ColB es m v ∧ ∀ k, ColB es m k → v ≤ k
theorem ch_zero (es : List E2) : ChOk es 0 0 := ⟨⟨fun _ => 0, fun u h => by simp at h, fun u v h => by simp at h⟩, fun k _ => Nat.zero_le k⟩
theorem xor_sub {m c : Nat} (h : SubN c m) (u : Nat) : (m ^^^ c).testBit u = (m.testBit u && !c.testBit u) := by
  rw [Nat.testBit_xor]
  have z := h u
  cases e : c.testBit u with
  | false => cases m.testBit u <;> rfl
  | true => rw [z e]; rfl
/-- a class of a colouring -/
theorem class_mask (n : Nat) {m : Nat} (lt : m < 2 ^ n) (f : Nat → Nat) (a : Nat) : ∃ c, SubN c m ∧ ∀ u, c.testBit u = true ↔ m.testBit u = true ∧ f u = a := by
  have up : ((List.range n).filter fun u => m.testBit u && f u == a).Pairwise (· < ·) := (List.pairwise_lt_range).filter _
  have key : ∀ u, (maskN ((List.range n).filter fun u => m.testBit u && f u == a)).testBit u = true ↔ m.testBit u = true ∧ f u = a := fun u => by
    rw [mask_bit up, decide_eq_true_eq, List.mem_filter, List.mem_range, Bool.and_eq_true, beq_iff_eq]
    refine ⟨fun z => z.2, fun z => ⟨?_, z⟩⟩
    by_cases c : u < n
    · exact c
    · rw [high_out lt (by omega)] at z
      cases z.1
  exact ⟨_, fun u hu => ((key u).mp hu).1, key⟩
/-- the colour of a vertex is a class that it is in; the rest needs one less -/
theorem ch_low {n : Nat} {es : List E2} {m t k : Nat} (lt : m < 2 ^ n) (ht : m.testBit t = true) (h : ColB es m k) : ∃ c, SubN c m ∧ c.testBit t = true ∧ Stb es c ∧ 1 ≤ k ∧ ColB es (m ^^^ c) (k - 1) := by
  obtain ⟨f, hf, hp⟩ := h
  obtain ⟨c, sc, hc⟩ := class_mask n lt f (f t)
  have ft := hf t ht
  refine ⟨c, sc, (hc t).mpr ⟨ht, rfl⟩, fun u v hu hv ne => ?_, by omega, fun u => if f u = k - 1 then f t else f u, fun u hu => ?_, fun u v hu hv ad => ?_⟩
  · obtain ⟨mu, eu⟩ := (hc u).mp hu
    obtain ⟨mv, ev⟩ := (hc v).mp hv
    cases e : adjB es u v with
    | false => rfl
    | true => exact absurd (eu.trans ev.symm) (hp u v mu mv e)
  · rw [xor_sub sc, Bool.and_eq_true, Bool.not_eq_true'] at hu
    have nu : f u ≠ f t := fun z => by
      rw [(hc u).mpr ⟨hu.1, z⟩] at hu
      cases hu.2
    have := hf u hu.1
    dsimp only
    split <;> omega
  · rw [xor_sub sc, Bool.and_eq_true, Bool.not_eq_true'] at hu hv
    have nu : f u ≠ f t := fun z => by
      rw [(hc u).mpr ⟨hu.1, z⟩] at hu
      cases hu.2
    have nv : f v ≠ f t := fun z => by
      rw [(hc v).mpr ⟨hv.1, z⟩] at hv
      cases hv.2
    have ne := hp u v hu.1 hv.1 ad
    dsimp only
    split <;> split <;> omega
theorem ch_high {es : List E2} {m c k : Nat} (sc : SubN c m) (st : Stb es c) (ir : ∀ u, adjB es u u = false) (h : ColB es (m ^^^ c) k) : ColB es m (k + 1) := by
  obtain ⟨f, hf, hp⟩ := h
  have rest : ∀ u, m.testBit u = true → c.testBit u = false → (m ^^^ c).testBit u = true := fun u hu hc => by rw [xor_sub sc, hu, hc]; rfl
  refine ⟨fun u => if c.testBit u then k else f u, fun u hu => ?_, fun u v hu hv ad => ?_⟩
  · dsimp only
    cases e : c.testBit u with
    | true => simp
    | false =>
      have := hf u (rest u hu e)
      simp
      omega
  · dsimp only
    cases eu : c.testBit u with
    | true =>
      cases ev : c.testBit v with
      | true =>
        by_cases ne : u = v
        · subst ne
          rw [ir] at ad
          cases ad
        · rw [st u v eu ev ne] at ad
          cases ad
      | false =>
        have := hf v (rest v hv ev)
        simp
        omega
    | false =>
      cases ev : c.testBit v with
      | true =>
        have := hf u (rest u hu eu)
        simp
        omega
      | false =>
        simp
        exact hp u v (rest u hu eu) (rest v hv ev) ad
/-- the stable masks of a greatest vertex -/
def RowOk (es : List E2) (t : Nat) (row : List Nat) : Prop := ∀ c, c ∈ row ↔ c < 2 ^ (t + 1) ∧ c.testBit t = true ∧ Stb es c
theorem ch_step {n : Nat} {es : List E2} {m v : Nat} {row : List Nat} (gd : Good n es) (lt : m < 2 ^ n) (m1 : 1 ≤ m) (ro : RowOk es (topN m) row) (num : Nat → Nat) (ok : ∀ k, k < m → ChOk es k (num k))
    (hv : v ∈ (row.filter fun c => c &&& m == c).map fun c => num (m ^^^ c)) (hm : ∀ y ∈ (row.filter fun c => c &&& m == c).map fun c => num (m ^^^ c), v ≤ y) : ChOk es m (1 + v) := by
  have m9 : m < 512 := Nat.lt_of_lt_of_le lt (Nat.pow_le_pow_right (by decide) gd.n9)
  obtain ⟨_, t9, tb, tl, tg⟩ := top_ok m m9 m1
  have ir : ∀ u, adjB es u u = false := fun u => by
    cases e : adjB es u u with
    | false => rfl
    | true => exact absurd rfl (adj_ne gd e).1
  have less : ∀ c, SubN c m → c.testBit (topN m) = true → m ^^^ c < m := fun c sc tc => by
    refine Nat.lt_of_lt_of_le (Nat.lt_pow_two_of_testBit _ fun u hu => ?_) tg
    rw [xor_sub sc]
    by_cases e : topN m = u
    · rw [← e, tc]
      exact Bool.and_false _
    · rw [high_out tl (by omega)]
      rfl
  constructor
  · obtain ⟨c, hc, rfl⟩ := List.mem_map.mp hv
    obtain ⟨hc, sb⟩ := List.mem_filter.mp hc
    obtain ⟨c1, c2, c3⟩ := (ro c).mp hc
    have sc : SubN c m := (sub_and c m).mp (beq_iff_eq.mp sb)
    rw [Nat.add_comm]
    exact ch_high sc c3 ir (ok _ (less c sc c2)).1
  · intro k hk
    obtain ⟨c, sc, c2, c3, k1, ck⟩ := ch_low lt tb hk
    have mem : num (m ^^^ c) ∈ (row.filter fun c => c &&& m == c).map fun c => num (m ^^^ c) := List.mem_map.mpr ⟨c, List.mem_filter.mpr ⟨(ro c).mpr ⟨Nat.lt_of_le_of_lt sc.le tl, c2, c3⟩, beq_iff_eq.mpr ((sub_and c m).mpr sc)⟩, rfl⟩
    have := hm _ mem
    have := (ok _ (less c sc c2)).2 _ ck
    omega
/-- the row is not empty where a mask needs it -/
theorem row_some {n : Nat} {es : List E2} {m : Nat} {row : List Nat} (gd : Good n es) (lt : m < 2 ^ n) (m1 : 1 ≤ m) (ro : RowOk es (topN m) row) : 0 < (row.filter fun c => c &&& m == c).length := by
  have m9 : m < 512 := Nat.lt_of_lt_of_le lt (Nat.pow_le_pow_right (by decide) gd.n9)
  obtain ⟨_, t9, tb, tl, tg⟩ := top_ok m m9 m1
  refine List.length_pos_of_mem (a := 2 ^ topN m) (List.mem_filter.mpr ⟨(ro _).mpr ⟨Nat.pow_lt_pow_right (by decide) (Nat.lt_succ_self _), by rw [bit_pow]; exact decide_eq_true rfl, fun u v hu hv ne => ?_⟩, beq_iff_eq.mpr ((sub_and _ _).mpr fun v hv => ?_)⟩)
  · rw [bit_pow] at hu hv
    exact absurd ((of_decide_eq_true hu).symm.trans (of_decide_eq_true hv)) ne
  · rw [bit_pow] at hv
    rw [← of_decide_eq_true hv]
    exact tb
/-- the stable masks of vertices below k -/
def StbOk (es : List E2) (k : Nat) (found : List Nat) : Prop := ∀ m, m ∈ found ↔ m < 2 ^ k ∧ Stb es m
theorem stb_nil (es : List E2) : StbOk es 0 [0] := fun m => by
  rw [List.mem_singleton]
  constructor
  · rintro rfl
    exact ⟨by decide, fun u v h => by simp at h⟩
  · intro h
    have := h.1
    omega
def rowN (found : List Nat) (k near : Nat) : List Nat := (found.filter fun m => m &&& near == 0).map (· ||| 2 ^ k)
theorem and_zero (a b : Nat) : a &&& b = 0 ↔ ∀ v, a.testBit v = true → b.testBit v = false := by
  constructor
  · intro h v hv
    have z := congrArg (Nat.testBit · v) h
    simp only [Nat.testBit_and, hv, Bool.true_and, Nat.zero_testBit] at z
    exact z
  · intro h
    refine Nat.eq_of_testBit_eq fun v => ?_
    rw [Nat.testBit_and, Nat.zero_testBit]
    cases e : a.testBit v with
    | false => rfl
    | true => rw [h v e]; rfl
theorem row_step {n : Nat} {es : List E2} {nb found : List Nat} {k : Nat} (h : StbOk es k found) (ok : NbOk n es nb) (kn : k < n) : RowOk es k (rowN found k (nb.getD k 0)) ∧ StbOk es (k + 1) (found ++ rowN found k (nb.getD k 0)) := by
  have ro : RowOk es k (rowN found k (nb.getD k 0)) := fun c => by
    unfold rowN
    rw [List.mem_map]
    constructor
    · rintro ⟨m, hm, rfl⟩
      obtain ⟨hm, nr⟩ := List.mem_filter.mp hm
      obtain ⟨lm, sm⟩ := (h m).mp hm
      have far := (and_zero _ _).mp (beq_iff_eq.mp nr)
      refine ⟨Nat.or_lt_two_pow (Nat.lt_of_lt_of_le lm (Nat.pow_le_pow_right (by decide) (Nat.le_succ k))) (Nat.pow_lt_pow_right (by decide) (Nat.lt_succ_self k)), by rw [or_pow_bit, decide_eq_true rfl, Bool.or_true], fun u v hu hv ne => ?_⟩
      rw [or_pow_bit] at hu hv
      simp only [Bool.or_eq_true, decide_eq_true_eq] at hu hv
      rcases hu with hu | rfl
      · rcases hv with hv | rfl
        · exact sm u v hu hv ne
        · rw [adj_comm, ← ok.2 k kn]
          exact far u hu
      · rcases hv with hv | rfl
        · rw [← ok.2 k kn]
          exact far v hv
        · exact absurd rfl ne
    · rintro ⟨c1, c2, c3⟩
      have bits : ∀ v, (c % 2 ^ k).testBit v = (decide (v < k) && c.testBit v) := fun v => Nat.testBit_mod_two_pow c k v
      refine ⟨c % 2 ^ k, List.mem_filter.mpr ⟨(h _).mpr ⟨Nat.mod_lt _ (Nat.two_pow_pos k), fun u v hu hv ne => ?_⟩, beq_iff_eq.mpr ((and_zero _ _).mpr fun v hv => ?_)⟩, ?_⟩
      · rw [bits, Bool.and_eq_true] at hu hv
        exact c3 u v hu.2 hv.2 ne
      · rw [bits, Bool.and_eq_true] at hv
        have lt := of_decide_eq_true hv.1
        rw [ok.2 k kn]
        exact c3 k v c2 hv.2 (by omega)
      · refine Nat.eq_of_testBit_eq fun v => ?_
        rw [or_pow_bit, bits]
        by_cases e : k = v
        · subst e; simp [c2]
        · by_cases l : v < k
          · simp [l, e]
          · have z : c.testBit v = false := high_out c1 (by omega)
            simp [l, e, z]
  refine ⟨ro, fun m => ?_⟩
  rw [List.mem_append, ro m, h m]
  constructor
  · rintro (⟨h1, h2⟩ | ⟨h1, _, h3⟩)
    · exact ⟨Nat.lt_of_lt_of_le h1 (Nat.pow_le_pow_right (by decide) (Nat.le_succ k)), h2⟩
    · exact ⟨h1, h3⟩
  · rintro ⟨h1, h2⟩
    cases e : m.testBit k with
    | true => exact .inr ⟨h1, rfl, h2⟩
    | false =>
      left
      refine ⟨Nat.lt_pow_two_of_testBit m fun v hv => ?_, h2⟩
      by_cases c : v = k
      · rw [c]; exact e
      · exact high_out h1 (by omega)
end My

set_option maxHeartbeats 4000000
namespace My
open PySem PySem.Spec PyProof.Rows L2
abbrev sChNums : Stmt := top 16
abbrev sStbRows : Stmt := top 17
theorem scChNums : FnScope ["neighbours", "colours", "numbers", "mask", "fitting", "colour"] ["neighbours"] (defScope sChNums) := ⟨rfl, rfl, rfl, by decide +kernel, rfl, by decide +kernel, by decide +kernel⟩
theorem scStbRows : FnScope ["neighbours", "found", "rows", "vertex", "near", "row", "mask"] ["neighbours"] (defScope sStbRows) := ⟨rfl, rfl, rfl, by decide +kernel, rfl, by decide +kernel, by decide +kernel⟩
/-- lists of masks that stand apart from the list at R -/
inductive RowsT (H : Hp) (R : Addr) : List V → List (List Nat) → Prop
  | nil : RowsT H R [] []
  | cons {r : Addr} {l : List Nat} {xs : List V} {ls : List (List Nat)} : r ≠ R → H r = some (.lst (numsN l)) → RowsT H R xs ls → RowsT H R (.ref r :: xs) (l :: ls)
theorem RowsT.same {H H' : Hp} {R : Addr} (s : Same H H') {xs : List V} {ls : List (List Nat)} (h : RowsT H R xs ls) : RowsT H' R xs ls := by
  induction h with
  | nil => exact .nil
  | cons a b _ ih => exact .cons a (s _ _ b) ih
theorem RowsT.put {H : Hp} {R : Addr} {o : HO} {xs : List V} {ls : List (List Nat)} (h : RowsT H R xs ls) : RowsT (upd H R o) R xs ls := by
  induction h with
  | nil => exact .nil
  | cons a b _ ih => exact .cons a (by rw [upd_ne a]; exact b) ih
theorem RowsT.snoc {H : Hp} {R r : Addr} {xs : List V} {ls : List (List Nat)} {l : List Nat} (h : RowsT H R xs ls) (ne : r ≠ R) (hr : H r = some (.lst (numsN l))) : RowsT H R (xs ++ [.ref r]) (ls ++ [l]) := by
  induction h with
  | nil => exact .cons ne hr .nil
  | cons a b _ ih => exact .cons a b ih
theorem RowsT.len {H : Hp} {R : Addr} {xs : List V} {ls : List (List Nat)} (h : RowsT H R xs ls) : xs.length = ls.length := by
  induction h with
  | nil => rfl
  | cons _ _ _ ih => rw [List.length_cons, List.length_cons, ih]
theorem RowsT.get {H : Hp} {R : Addr} {xs : List V} {ls : List (List Nat)} (h : RowsT H R xs ls) {i : Nat} (hi : i < ls.length) : ∃ r, xs[i]? = some (.ref r) ∧ H r = some (.lst (numsN (ls.getD i []))) := by
  induction h generalizing i with
  | nil => simp at hi
  | cons a b _ ih =>
    cases i with
    | zero => exact ⟨_, rfl, b⟩
    | succ i => exact ih (by simpa using hi)
def AllRows (es : List E2) (rows : List (List Nat)) : Prop := ∀ t, t < rows.length → RowOk es t (rows.getD t []) ∧ (rows.getD t []).length ≤ 512
def spRows (K : PySem.W.Frag) : Sp := fun vs H Q _ => ∃ (D : Addr) (nb : List Nat) (n : Nat) (es : List E2), vs = [.ref D] ∧ SqL K H D (numsN nb) ∧ NbOk n es nb ∧ n ≤ 9 ∧ ∀ (R : Addr) (xs : List V) (rows : List (List Nat)) H', Same H H' → H' R = some (.lst xs) → RowsT H' R xs rows → rows.length = n → AllRows es rows → Q (.ref R) H'
theorem stb_few {es : List E2} {k n : Nat} {found : List Nat} (nd : found.Nodup) (h : StbOk es k found) (kn : k ≤ n) (n9 : n ≤ 9) : found.length ≤ 512 := by
  have z := sub_few nd (m := List.range (2 ^ k)) fun m hm => List.mem_range.mpr ((h m).mp hm).1
  rw [List.length_range] at z
  have p : 2 ^ k ≤ 2 ^ 9 := Nat.pow_le_pow_right (by decide) (by omega)
  omega
theorem row_nodup {es : List E2} {found : List Nat} {k near : Nat} (nd : found.Nodup) (h : StbOk es k found) : (found ++ rowN found k near).Nodup := by
  have low : ∀ m ∈ found, m < 2 ^ k := fun m hm => ((h m).mp hm).1
  unfold rowN
  rw [List.nodup_append]
  refine ⟨nd, ?_, ?_⟩
  · show List.Pairwise _ _
    rw [List.pairwise_map]
    refine List.Pairwise.imp_of_mem ?_ (nd.filter _)
    intro x y hx hy ne e
    refine ne (?_ : x = y)
    refine Nat.eq_of_testBit_eq fun v => ?_
    have lx := low x (List.mem_filter.mp hx).1
    have ly := low y (List.mem_filter.mp hy).1
    have z := congrArg (Nat.testBit · v) e
    simp only [or_pow_bit] at z
    by_cases c : k = v
    · subst c
      rw [high_out lx (Nat.le_refl _), high_out ly (Nat.le_refl _)]
    · rw [decide_eq_false c, Bool.or_false, Bool.or_false] at z
      exact z
  · intro a ha b hb e
    subst e
    obtain ⟨c, hc, e⟩ := List.mem_map.mp hb
    have z := high_out (low a ha) (Nat.le_refl k)
    rw [← e, or_pow_bit, decide_eq_true rfl, Bool.or_true] at z
    cases z
section
variable {P : Program} {w : World} {K : PySem.W.Frag} {mg : Str → Option Value} {base : Heap} {f fC fN fM : Addr} {fd dC dN dM : FuncData}
theorem ok_stb_rows (F : L2.Fun K "_stable_masks_by_greatest" "_stable_masks_by_greatest" sStbRows f fd) (me : mg "enumerate" = none) : FnOk P w K mg base CX0 1 f fd ["neighbours"] (spRows K) := by
  refine F.ok scStbRows (fun vs H Q E h => ?_) (fun cdv A outer s H vs Q E hr h => ?_)
  · obtain ⟨D, nb, n, es, rfl, _⟩ := h
    rfl
  obtain ⟨D, nb, n, es, rfl, hD, ok, n9, q⟩ := h
  refine ⟨_, pss_cons (ps_set (i := 1) scStbRows.nd rfl (.inl rfl) (pe_lst (pa_cons pe_int pa_nil)))
    (pss_cons (ps_set (i := 2) scStbRows.nd rfl (.inl rfl) (pe_lst pa_nil))
    (pss_cons (ps_for PassesOwn.never rfl (pi_enum (by rfl) me (pa_cons (pv 0) pa_nil)) (pg_tup (by rfl) (pgs_cons (pg_name (i := 3) scStbRows.nd rfl (.inr rfl)) (pgs_cons (pg_name (i := 4) scStbRows.nd rfl (.inr rfl)) pgs_nil)))
      (pss_cons (ps_setLc (i := 5) (own := [("mask", 6)]) (g := gName 6) (tt := tTest (tOp rEq (tOp (rI0 fun i j => .int (Builtin.bitAnd i j)) (tVar 6) (tVar 4)) (tC (.int 0)))) rfl scStbRows.nd rfl rfl (sw_true rfl rfl rfl (by decide +kernel)) (pi_list (pv 1))
          (blkOk_by (N := ["neighbours", "found", "rows", "vertex", "near", "row", "mask"]) (sc := defScope sStbRows) (by decide +kernel)) (fun _ _ _ _ _ => pg_name (i := 6) scStbRows.nd rfl (Or.inl rfl))
          (fun _ _ _ _ _ => pts_one (pt_cmpR (r := rEq) op_eq (pe_op op_and (pv 6) (pv 4)) pe_int (nomark _)))
          (fun _ _ _ _ _ => pe_op op_or (pv 6) (pe_op op_shl pe_int (pv 3))))
      (pss_cons (ps_expr (pe_bm PySem.F.plainAttrs_list PySem.F.slot_list_append PySem.F.type_list_append mt_append (pv 2) (pa_cons (pv 5) pa_nil)))
      (pss_one (ps_set (i := 1) scStbRows.nd rfl (.inl rfl) (pe_op op_cat (pv 1) (pv 5)))))))
    (pss_one (ps_ret (pv 2))))), ?_⟩
  have ln := ok.1
  refine ⟨(by show 1 ≤ sizeLine; rw [sizeLine_eq]; decide), fun F0 nF0 => ?_⟩
  have s0 := same_new nF0 (.lst [V.int 0])
  have h0 := upd_same (H := H) (a := F0) (o := .lst [V.int 0])
  generalize upd H F0 (.lst [V.int 0]) = H0 at s0 h0 ⊢
  refine ⟨(by show 0 ≤ sizeLine; decide), fun R nR => ?_⟩
  have sR := same_new nR (.lst [])
  have hR := upd_same (H := H0) (a := R) (o := .lst [])
  refine ⟨_, rfl, D, _, rfl, Same.seq (s0.trans sR) hD, for_it walk_enum (fun i σ H' => ∃ (F1 : Addr) (found : List Nat) (xs : List V) (rows : List (List Nat)) (s3 s4 s5 : Option V), σ = [some (.ref D), some (.ref F1), some (.ref R), s3, s4, s5, none] ∧ Same H0 H' ∧ H' F1 = some (.lst (numsN found)) ∧ F1 ≠ R ∧ H' R = some (.lst xs) ∧ RowsT H' R xs rows ∧ rows.length = i ∧ AllRows es rows ∧ StbOk es i found ∧ found.Nodup)
    ⟨F0, [0], [], [], none, none, none, rfl, sR, sR _ _ h0, ne_of_none h0 nR, hR, .nil, rfl, fun t ht => absurd ht (by simp), stb_nil es, by simp⟩ (fun i σ H' _ ⟨_, _, _, _, _, _, _, _, s, _⟩ => Same.seq (s0.trans s) hD) ?_ ?_⟩
  · rintro i x σ H2 H3 li ⟨F1, found, xs, rows, s3', s4', s5', rfl, s2, hF, FR, hR2, hro, rl, ar, so, nd⟩ ⟨T, y, v, rfl, nT, rfl, e1, e2⟩
    obtain rfl : V.int ((i : Nat) : Int) = y := Option.some.inj e1
    rw [numsN_len] at li
    have e2' : (numsN nb)[i]? = some v := e2
    rw [numsN_getD li] at e2'
    obtain rfl := Option.some.inj e2'
    have sT := same_new nT (.tup [.int ((i : Nat) : Int), .int ((nb.getD i 0 : Nat) : Int)])
    have hF3 := sT _ _ hF
    have few := stb_few nd so (show i ≤ n by omega) n9
    refine ⟨T, _, rfl, SqT.of upd_same, rfl, _, _, rfl, _, _, rfl, rfl, ?_⟩
    have hR3 := sT _ _ hR2
    have hro3 := hro.same sT
    have s23 := s2.trans sT
    generalize upd H2 T (.tup [.int ((i : Nat) : Int), .int ((nb.getD i 0 : Nat) : Int)]) = H3 at hF3 hR3 hro3 s23 ⊢
    refine ⟨_, rfl, F1, rfl, ⟨_, SqL.of hF3⟩, fun B nB => lo_it (walk_list (xs := numsN found)) (fun j H4 => Same H3 H4 ∧ H4 B = some (.lst (numsN (((found.take j).filter fun m => m &&& nb.getD i 0 == 0).map (· ||| 2 ^ i))))) ⟨same_new nB _, upd_same⟩ (fun j H4 _ ⟨s4, _⟩ => SqL.of (s4 _ _ hF3)) ?_ ?_⟩
    · rintro j x _ H4 lj ⟨s4, hB⟩ ⟨rfl, hj⟩
      unfold numsN at hj
      rw [List.getElem?_map] at hj
      cases e : found[j]? with
      | none => rw [e] at hj; cases hj
      | some m =>
        rw [e] at hj
        cases hj
        have tk := take_succ e
        refine ⟨rfl, ?_⟩
        refine ⟨_, rfl, _, rfl, _, _, rfl, rfl, rfl, _, rfl, ?_⟩
        simp only [and_nn]
        have ev : decide (V.int ((m &&& nb.getD i 0 : Nat) : Int) = V.int 0) = (m &&& nb.getD i 0 == 0) := by
          rw [Bool.eq_iff_iff, decide_eq_true_eq, beq_iff_eq]
          refine ⟨fun z => ?_, fun z => by rw [z]; rfl⟩
          injection z with z
          exact Int.ofNat.inj z
        rw [ev]
        have fl : (((found.take j).filter fun m => m &&& nb.getD i 0 == 0).map (· ||| 2 ^ i)).length ≤ 512 := by
          rw [List.length_map]
          refine Nat.le_trans (List.length_filter_le _ _) ?_
          rw [List.length_take]
          omega
        refine iteB (fun c => ?_) (fun c => ?_)
        · refine ⟨_, rfl, _, rfl, _, _, rfl, rfl, ⟨by omega, by omega, by decide⟩, _, _, rfl, rfl, ?_⟩
          simp only [or_shl]
          refine ⟨_, hB, small1000 (by rw [numsN_len]; omega), same_put s4 nB, ?_⟩
          rw [upd_same, tk, List.filter_append, List.filter_cons_of_pos (p := fun m => m &&& nb.getD i 0 == 0) c, List.map_append]
          unfold numsN
          rw [List.map_append]
          rfl
        · refine ⟨s4, ?_⟩
          rw [hB, tk, List.filter_append, List.filter_cons_of_neg (p := fun m => m &&& nb.getD i 0 == 0) (by rw [c]; decide), List.filter_nil, List.append_nil]
    · rintro H4 ⟨s4, hB⟩
      rw [numsN_len, List.take_length] at hB
      have fl : (rowN found i (nb.getD i 0)).length ≤ 512 := by
        unfold rowN
        rw [List.length_map]
        exact Nat.le_trans (List.length_filter_le _ _) few
      obtain ⟨ro, so2⟩ := row_step so ok (show i < n by omega)
      have hB' : H4 B = some (.lst (numsN (rowN found i (nb.getD i 0)))) := hB
      have BR : B ≠ R := fun z => by rw [z, hR3] at nB; cases nB
      have hR4 := s4 _ _ hR3
      have xl := hro.len
      refine ⟨_, rfl, .inl ⟨rfl, _, SqL.of hR4⟩, _, rfl, R, xs, _, rfl, rfl, hR4, small1000 (by omega), ?_⟩
      have hF4 : (upd H4 R (.lst (xs ++ [.ref B]))) F1 = some (.lst (numsN found)) := by rw [upd_ne FR]; exact s4 _ _ hF3
      have hB4 : (upd H4 R (.lst (xs ++ [.ref B]))) B = some (.lst (numsN (rowN found i (nb.getD i 0)))) := by rw [upd_ne BR]; exact hB'
      have hR5 := upd_same (H := H4) (a := R) (o := .lst (xs ++ [.ref B]))
      have ro5 : RowsT (upd H4 R (.lst (xs ++ [.ref B]))) R (xs ++ [.ref B]) (rows ++ [rowN found i (nb.getD i 0)]) := (hro3.same s4).put.snoc BR hB4
      have s5 : Same H0 (upd H4 R (.lst (xs ++ [.ref B]))) := same_put (s23.trans s4) nR
      generalize upd H4 R (.lst (xs ++ [.ref B])) = H5 at hF4 hB4 hR5 ro5 s5 ⊢
      refine ⟨_, rfl, _, rfl, F1, B, _, _, rfl, rfl, hF4, hB4, Nat.le_trans (by rw [numsN_len, numsN_len]; omega : _ ≤ 1024) (by rw [sizeLine_eq]; decide), fun c nc => ?_⟩
      have sc := same_new nc (.lst (numsN found ++ numsN (rowN found i (nb.getD i 0))))
      have e3 : numsN found ++ numsN (rowN found i (nb.getD i 0)) = numsN (found ++ rowN found i (nb.getD i 0)) := by
        unfold numsN
        rw [List.map_append]
      rw [e3] at sc ⊢
      have cR : c ≠ R := fun z => by rw [z, hR5] at nc; cases nc
      refine ⟨c, _, _, _, _, _, _, rfl, s5.trans sc, upd_same, cR, sc _ _ hR5, ro5.same sc, by rw [List.length_append, rl]; rfl, fun t ht => ?_, so2, row_nodup nd so⟩
      by_cases ct : t < rows.length
      · rw [List.getD_eq_getElem?_getD, List.getElem?_append_left ct, ← List.getD_eq_getElem?_getD]
        exact ar t ct
      · have : t = i := by
          rw [List.length_append, List.length_singleton] at ht
          omega
        subst this
        rw [List.getD_eq_getElem?_getD, List.getElem?_append_right (by omega), rl, Nat.sub_self]
        exact ⟨ro, fl⟩
  · rintro σ H2 ⟨F1, found, xs, rows, s3', s4', s5', rfl, s2, hF, FR, hR2, hro, rl, ar, so, nd⟩
    rw [numsN_len, ln] at rl
    exact ⟨_, rfl, q R xs rows H2 (s0.trans s2) hR2 hro rl ar⟩
def spChNums (K : PySem.W.Frag) : Sp := fun vs H Q _ => ∃ (D : Addr) (nb : List Nat) (n : Nat) (es : List E2), vs = [.ref D] ∧ SqL K H D (numsN nb) ∧ NbOk n es nb ∧ Good n es ∧ ∀ (F : Addr) (ns : List Nat) H', Same H H' → H' F = some (.lst (numsN ns)) → ns.length = 2 ^ n → (∀ k, k < 2 ^ n → ChOk es k (ns.getD k 0)) → Q (.ref F) H'
theorem min_nat {l : List Nat} (pos : 0 < l.length) {m : Int} (hm : m ∈ l.map fun k => ((k : Nat) : Int)) (hu : ∀ y, y ∈ (l.map fun k => ((k : Nat) : Int)) → m ≤ y) : ∃ v : Nat, m = (v : Int) ∧ v ∈ l ∧ ∀ y ∈ l, v ≤ y := by
  obtain ⟨v, hv, rfl⟩ := List.mem_map.mp hm
  refine ⟨v, rfl, hv, fun y hy => ?_⟩
  have z := hu ((y : Nat) : Int) (List.mem_map.mpr ⟨y, hy, rfl⟩)
  omega
theorem xor_nn (a b : Nat) : Builtin.bitXor ((a : Nat) : Int) ((b : Nat) : Int) = ((a ^^^ b : Nat) : Int) := by
  rw [Bits.bitXor_pp (Int.natCast_nonneg _) (Int.natCast_nonneg _), Int.toNat_natCast, Int.toNat_natCast]
theorem ev_masks (a m : Nat) : decide (V.int ((a : Nat) : Int) = V.int ((m : Nat) : Int)) = (a == m) := by
  rw [Bool.eq_iff_iff, decide_eq_true_eq, beq_iff_eq]
  refine ⟨fun z => ?_, fun z => by rw [z]⟩
  injection z with z
  exact Int.ofNat.inj z
theorem sub_less {m c : Nat} (m9 : m < 512) (m1 : 1 ≤ m) (sc : SubN c m) (tc : c.testBit (topN m) = true) : m ^^^ c < m := by
  obtain ⟨_, t9, tb, tl, tg⟩ := top_ok m m9 m1
  refine Nat.lt_of_lt_of_le (Nat.lt_pow_two_of_testBit _ fun u hu => ?_) tg
  rw [xor_sub sc]
  by_cases e : topN m = u
  · rw [← e, tc]
    exact Bool.and_false _
  · rw [high_out tl (by omega)]
    rfl
theorem ok_chrom_numbers (F : L2.Fun K "chromatic_numbers" "chromatic_numbers" sChNums f fd) (GR : FnOk P w K mg base CX0 1 fM dM ["neighbours"] (spRows K)) (bR : L2.Binds K dM ["neighbours"] []) (kR : PySem.W.keepIn K (.ref fM) = true) (mR : mg "_stable_masks_by_greatest" = some (.ref fM))
    (mr : mg "range" = none) (ml : mg "len" = none) (mn : mg "min" = none) : FnOk P w K mg base CX0 2 f fd ["neighbours"] (spChNums K) := by
  refine F.ok scChNums (fun vs H Q E h => ?_) (fun cdv A outer s H vs Q E hr h => ?_)
  · obtain ⟨D, nb, n, es, rfl, _⟩ := h
    rfl
  obtain ⟨D, nb, n, es, rfl, hD, ok, g, q⟩ := h
  refine ⟨_, pss_cons (ps_set (i := 1) scChNums.nd rfl (.inl rfl) (pe_call GR hr (by rfl) mR kR bR .nil pass0 (pa_cons (pv 0) pa_nil)))
    (pss_cons (ps_set (i := 2) scChNums.nd rfl (.inr rfl) (pe_lst (pa_cons pe_int pa_nil)))
    (pss_cons (ps_for PassesOwn.never rfl (pi_range2 (by rfl) mr (pa_cons pe_int (pa_cons (pe_op op_shl pe_int (pe_callB call_len_seq (by rfl) ml PySem.boot_len (pa_cons (pv 0) pa_nil))) pa_nil))) (pg_name (i := 3) scChNums.nd rfl (.inr rfl))
      (pss_cons (ps_setLc (i := 4) (own := [("colour", 5)]) (g := gName 5) (tt := tTest (tOp rEq (tOp (rI0 fun i j => .int (Builtin.bitAnd i j)) (tVar 5) (tVar 3)) (tVar 5))) rfl scChNums.nd rfl rfl (sw_true rfl rfl rfl (by decide +kernel)) (pi_list (pe_ix (r := rIxL K) ix_list (pv 1) (pe_op op_sub (pe_bits (pv 3)) pe_int) (fun _ _ => rfl)))
          (blkOk_by (N := ["neighbours", "colours", "numbers", "mask", "fitting", "colour"]) (sc := defScope sChNums) (by decide +kernel)) (fun _ _ _ _ _ => pg_name (i := 5) scChNums.nd rfl (Or.inl rfl))
          (fun _ _ _ _ _ => pts_one (pt_cmpR (r := rEq) op_eq (pe_op op_and (pv 5) (pv 3)) (pv 5) (nomark _)))
          (fun _ _ _ _ _ => pv 5))
      (pss_one (ps_expr (pe_bm PySem.F.plainAttrs_list PySem.F.slot_list_append PySem.F.type_list_append mt_append (pv 2) (pa_cons (pe_op op_add pe_int (pe_callB (cr_min rfl) (by rfl) mn (by decide +kernel) (pa_cons (pe_lc (own := [("colour", 5)]) (g := gName 5) (tt := tYes) rfl scChNums.nd (pi_list (pv 4))
          (blkOk_by (N := ["neighbours", "colours", "numbers", "mask", "fitting", "colour"]) (sc := defScope sChNums) (by decide +kernel)) (fun _ _ _ _ _ => pg_name (i := 5) scChNums.nd rfl (Or.inl rfl)) (fun _ _ _ _ _ => pts_nil)
          (fun _ _ _ _ _ => pe_ix (r := rIxL K) ix_list (pv 2) (pe_op op_xor (pv 3) (pv 5)) (fun _ _ => rfl))) pa_nil))) pa_nil))))))
    (pss_one (ps_ret (pv 2))))), ?_⟩
  have n9 := g.n9
  have ln := ok.1
  have p9 : 2 ^ n ≤ 512 := Nat.pow_le_pow_right (by decide) n9
  have p1 := Nat.two_pow_pos n
  refine ⟨_, rfl, D, nb, n, es, rfl, hD, ok, n9, fun R xs rows H0 s0 hR hro rl ar => ?_⟩
  have xl := hro.len
  refine ⟨(by show 1 ≤ sizeLine; rw [sizeLine_eq]; decide), fun F0 nF0 => ?_⟩
  have sF := same_new nF0 (.lst [V.int 0])
  have e2 : (1 : Int) * 2 ^ (((numsN nb).length : Nat) : Int).toNat = ((2 ^ n : Nat) : Int) := by
    rw [Int.toNat_natCast, numsN_len, ln, Int.one_mul, Int.natCast_pow]
    rfl
  have h0 := upd_same (H := H0) (a := F0) (o := .lst [V.int 0])
  refine ⟨_, rfl, D, _, rfl, .inl (Same.seq (s0.trans sF) hD), _, _, rfl, rfl, ⟨by rw [numsN_len]; omega, by rw [numsN_len]; omega, by decide⟩, 1, ((2 ^ n : Nat) : Int), congrArg (fun z : Int => [V.int 1, V.int z]) e2, ⟨by decide, by decide, by omega, by omega⟩, for_range (lo := 1) (n := (((2 ^ n : Nat) : Int) - 1).toNat) (fun i σ H' => ∃ (ns : List Nat) (s3 s4 : Option V), σ = [some (.ref D), some (.ref R), some (.ref F0), s3, s4, none] ∧ Same H0 H' ∧ H' F0 = some (.lst (numsN ns)) ∧ ns.length = i + 1 ∧ ∀ k, k < i + 1 → ChOk es k (ns.getD k 0))
    ⟨[0], none, none, rfl, sF, h0, rfl, fun k hk => ?_⟩ ?_ ?_⟩
  · obtain rfl : k = 0 := by omega
    exact ch_zero es
  · rintro i σ H2 li ⟨ns, s3', s4', rfl, s2, hF, nl, cn⟩
    have lm : i + 1 < 2 ^ n := by omega
    have m9 : i + 1 < 512 := by omega
    obtain ⟨ib, t9, tb, tl, tg⟩ := top_ok (i + 1) m9 (by omega)
    obtain ⟨tn, al⟩ := and_less g ok lm (by omega)
    have em : (1 : Int) + (i : Int) = ((i + 1 : Nat) : Int) := by omega
    rw [em]
    have eb : ((Builtin.Int.intBits ((i + 1 : Nat) : Int) : Nat) : Int) - 1 = ((topN (i + 1) : Nat) : Int) := by
      rw [ib]
      omega
    obtain ⟨rr, er, hr0⟩ := hro.get (i := topN (i + 1)) (by omega)
    obtain ⟨ro, rfew⟩ := ar (topN (i + 1)) (by omega)
    generalize rows.getD (topN (i + 1)) [] = row at hr0 ro rfew
    refine ⟨_, rfl, _, rfl, _, rfl, _, _, rfl, rfl, ?_⟩
    simp only [eb]
    have hr2 := s2 _ _ hr0
    refine ⟨R, _, _, _, rfl, rfl, SqL.of (s2 _ _ hR), atI_nat er, rr, rfl, ⟨_, SqL.of hr2⟩, fun B nB => lo_it (walk_list (xs := numsN row)) (fun j H4 => Same H2 H4 ∧ H4 B = some (.lst (numsN ((row.take j).filter fun c => c &&& (i + 1) == c)))) ⟨same_new nB _, upd_same⟩ (fun j H4 _ ⟨s4, _⟩ => SqL.of (s4 _ _ hr2)) ?_ ?_⟩
    · rintro j x _ H4 lj ⟨s4, hB⟩ ⟨rfl, hj⟩
      unfold numsN at hj
      rw [List.getElem?_map] at hj
      cases e : row[j]? with
      | none => rw [e] at hj; cases hj
      | some c =>
        rw [e] at hj
        cases hj
        have tk := take_succ e
        refine ⟨rfl, ?_⟩
        refine ⟨_, rfl, _, rfl, _, _, rfl, rfl, _, rfl, rfl, _, rfl, ?_⟩
        simp only [and_nn]
        rw [ev_masks]
        have fl : ((row.take j).filter fun c => c &&& (i + 1) == c).length ≤ 512 := by
          refine Nat.le_trans (List.length_filter_le _ _) ?_
          rw [List.length_take]
          omega
        refine iteB (fun cc => ?_) (fun cc => ?_)
        · refine ⟨_, rfl, _, hB, small1000 (by rw [numsN_len]; omega), same_put s4 nB, ?_⟩
          rw [upd_same, tk, List.filter_append, List.filter_cons_of_pos (p := fun c => c &&& (i + 1) == c) cc]
          unfold numsN
          rw [List.map_append]
          rfl
        · refine ⟨s4, ?_⟩
          rw [hB, tk, List.filter_append, List.filter_cons_of_neg (p := fun c => c &&& (i + 1) == c) (by rw [cc]; decide), List.filter_nil, List.append_nil]
    · rintro H4 ⟨s4, hB⟩
      rw [numsN_len, List.take_length] at hB
      have fpos := row_some g lm (show 1 ≤ i + 1 by omega) ro
      have ffew : (row.filter fun c => c &&& (i + 1) == c).length ≤ 512 := Nat.le_trans (List.length_filter_le _ _) rfew
      have sub : ∀ c ∈ row.filter fun c => c &&& (i + 1) == c, i + 1 ^^^ c < i + 1 := fun c hc => by
        obtain ⟨hc, sb⟩ := List.mem_filter.mp hc
        have sc : SubN c (i + 1) := (sub_and c _).mp (beq_iff_eq.mp sb)
        exact sub_less m9 (by omega) sc ((ro c).mp hc).2.1
      have hF4 := s4 _ _ hF
      generalize efit : (row.filter fun c => c &&& (i + 1) == c) = fit at hB fpos ffew sub
      refine ⟨_, rfl, .inl ⟨rfl, _, SqL.of hF4⟩, _, rfl, B, rfl, ⟨_, SqL.of hB⟩, fun B2 nB2 => lo_it (walk_list (xs := numsN fit)) (fun j H5 => Same H4 H5 ∧ H5 B2 = some (.lst (numsN ((fit.take j).map fun c => ns.getD (i + 1 ^^^ c) 0)))) ⟨same_new nB2 _, upd_same⟩ (fun j H5 _ ⟨s5, _⟩ => SqL.of (s5 _ _ hB)) ?_ ?_⟩
      · rintro j x _ H5 lj ⟨s5, hB2⟩ ⟨rfl, hj⟩
        unfold numsN at hj
        rw [List.getElem?_map] at hj
        cases e : fit[j]? with
        | none => rw [e] at hj; cases hj
        | some c =>
          rw [e] at hj
          cases hj
          have cl := sub c (List.mem_of_getElem? e)
          refine ⟨rfl, ?_⟩
          refine ⟨_, rfl, _, rfl, _, rfl, _, _, rfl, rfl, ?_⟩
          simp only [xor_nn]
          refine ⟨F0, _, _, _, rfl, rfl, SqL.of (s5 _ _ hF4), atI_nat (numsN_getD (by omega)), _, hB2, small1000 (by rw [numsN_len, List.length_map, List.length_take]; omega), same_put s5 nB2, ?_⟩
          rw [upd_same, take_succ e, List.map_append]
          unfold numsN
          rw [List.map_append]
          rfl
      · rintro H5 ⟨s5, hB2⟩
        rw [numsN_len, List.take_length] at hB2
        have eN : numsN (fit.map fun c => ns.getD (i + 1 ^^^ c) 0) = ((fit.map fun c => ns.getD (i + 1 ^^^ c) 0).map fun k => ((k : Nat) : Int)).map V.int := by
          unfold numsN
          simp only [List.map_map]
          rfl
        rw [eN] at hB2
        refine ⟨B2, _, rfl, SqL.of hB2, by rw [List.length_map, List.length_map]; exact fpos, fun m hm hu => ?_⟩
        obtain ⟨v, rfl, hv, hle⟩ := min_nat (by rw [List.length_map]; exact fpos) hm hu
        have hF5 := s5 _ _ hF4
        refine ⟨_, _, rfl, rfl, F0, _, _, rfl, rfl, hF5, small1000 (by rw [numsN_len]; omega), ns ++ [1 + v], _, _, rfl, same_put (s2.trans (s4.trans s5)) nF0, ?_, by rw [List.length_append, nl]; rfl, fun k hk => ?_⟩
        · rw [upd_same]
          unfold numsN
          rw [List.map_append]
          rfl
        · by_cases c : k < i + 1
          · rw [List.getD_eq_getElem?_getD, List.getElem?_append_left (by omega), ← List.getD_eq_getElem?_getD]
            exact cn k c
          · obtain rfl : k = i + 1 := by omega
            rw [List.getD_eq_getElem?_getD, List.getElem?_append_right (by omega), nl, Nat.sub_self]
            rw [← efit] at hv hle
            exact ch_step g lm (by omega) ro (fun k => ns.getD k 0) cn hv hle
  · rintro σ H2 ⟨ns, s3', s4', rfl, s2, hF, nl, cn⟩
    have e3 : (((2 ^ n : Nat) : Int) - 1).toNat + 1 = 2 ^ n := by omega
    rw [e3] at nl cn
    exact ⟨_, rfl, q F0 ns H2 (s0.trans s2) hF nl cn⟩
def spChNum (K : PySem.W.Frag) : Sp := fun vs H Q _ => ∃ (x : V) (n : Nat) (es : List E2), vs = [x] ∧ GraphAt K H x n es ∧ Good n es ∧ ∀ (v : Nat) H', Same H H' → ChOk es (2 ^ n - 1) v → Q (.int (v : Int)) H'
theorem at_end2 {ns : List Nat} {m : Nat} (h : ns.length = m) (m1 : 1 ≤ m) : atI (numsN ns) (-1) = some (V.int ((ns.getD (m - 1) 0 : Nat) : Int)) := by
  have ne : ns ≠ [] := fun z => by
    rw [z, List.length_nil] at h
    omega
  have l : ns.getD (m - 1) 0 = ns.getLast ne := by
    rw [List.getLast_eq_getElem, List.getD_eq_getElem?_getD, List.getElem?_eq_getElem (by omega)]
    simp [h]
  have e : numsN ns = numsN ns.dropLast ++ [V.int ((ns.getLast ne : Nat) : Int)] := by
    conv => lhs; rw [← List.dropLast_concat_getLast ne]
    unfold numsN
    rw [List.map_append]
    rfl
  rw [e, l]
  exact atI_last _ _
end
end My

/-! A ring as it goes round, plain. -/
namespace My
/-- those of l next to z that are not yet told -/
def rdNext (f : Nat → Nat → Bool) (l ts : List Nat) (z : Nat) : List Nat := l.filter fun w => f z w && !decide (w ∈ ts ++ [z])
/-- the vertices told after so many turns, the last one apart -/
def rdRun (f : Nat → Nat → Bool) (l : List Nat) : Nat → Option (List Nat × Nat)
  | 0 => some ([], l.headD 0)
  | k + 1 => match rdRun f l k with
    | none => none
    | some (ts, z) => match rdNext f l ts z with
      | [] => none
      | a :: _ => some (ts ++ [z], a)
def degB (f : Nat → Nat → Bool) (l : List Nat) (v : Nat) : Bool := decide ((l.filter fun w => f v w).length = 2)
def roundL (f : Nat → Nat → Bool) (l : List Nat) : List Nat := if l.length < 4 ∨ l.all (degB f l) = false then [] else match rdRun f l (l.length - 1) with
  | none => []
  | some (ts, z) => ts ++ [z]
theorem run_in {f : Nat → Nat → Bool} {l : List Nat} (ne : l ≠ []) : ∀ {k : Nat} {ts : List Nat} {z : Nat}, rdRun f l k = some (ts, z) → ts.length = k ∧ (∀ v ∈ ts ++ [z], v ∈ l) ∧ (ts ++ [z]).Nodup
  | 0, ts, z, e => by
    cases e
    refine ⟨rfl, fun v hv => ?_, by simp⟩
    have hv : v = l.headD 0 := by simpa using hv
    subst hv
    obtain ⟨b, r, rfl⟩ := List.exists_cons_of_ne_nil ne
    exact List.mem_cons_self ..
  | k + 1, ts, z, e => by
    unfold rdRun at e
    cases e1 : rdRun f l k with
    | none => rw [e1] at e; cases e
    | some tz =>
      obtain ⟨us, y⟩ := tz
      rw [e1] at e
      obtain ⟨h1, h2, h3⟩ := run_in ne e1
      dsimp only at e
      cases e2 : rdNext f l us y with
      | nil => rw [e2] at e; cases e
      | cons a r =>
        rw [e2] at e
        dsimp only at e
        have ⟨e3, e4⟩ : us ++ [y] = ts ∧ a = z := by cases e; exact ⟨rfl, rfl⟩
        subst e3
        subst e4
        have ma : a ∈ rdNext f l us y := by rw [e2]; exact List.mem_cons_self ..
        obtain ⟨m1, m2⟩ := List.mem_filter.mp ma
        have m3 : a ∉ us ++ [y] := by
          rw [Bool.and_eq_true, Bool.not_eq_true', decide_eq_false_iff_not] at m2
          exact m2.2
        refine ⟨by rw [List.length_append, h1]; rfl, fun v hv => ?_, ?_⟩
        · rcases List.mem_append.mp hv with hv | hv
          · exact h2 v hv
          · rw [List.mem_singleton.mp hv]; exact m1
        · exact List.nodup_append.mpr ⟨h3, by simp, fun u hu w hw e => m3 (by rw [← List.mem_singleton.mp hw, ← e]; exact hu)⟩
theorem run_none {f : Nat → Nat → Bool} {l : List Nat} {k : Nat} (h : rdRun f l k = none) : ∀ m, rdRun f l (k + m) = none
  | 0 => h
  | m + 1 => by
    have ih := run_none h m
    show rdRun f l ((k + m) + 1) = none
    unfold rdRun
    rw [ih]
def Steps (f : Nat → Nat → Bool) (c : List Nat) : Prop := ∀ i, i + 1 < c.length → f (c.getD i 0) (c.getD (i + 1) 0) = true
theorem getD_left {c : List Nat} {a i : Nat} (h : i < c.length) : (c ++ [a]).getD i 0 = c.getD i 0 := by
  rw [List.getD_eq_getElem?_getD, List.getD_eq_getElem?_getD, List.getElem?_append_left h]
theorem getD_end (c : List Nat) (a : Nat) : (c ++ [a]).getD c.length 0 = a := by
  rw [List.getD_eq_getElem?_getD, List.getElem?_append_right (Nat.le_refl _), Nat.sub_self]
  rfl
theorem run_adj {f : Nat → Nat → Bool} {l : List Nat} : ∀ {k : Nat} {ts : List Nat} {z : Nat}, rdRun f l k = some (ts, z) → Steps f (ts ++ [z])
  | 0, ts, z, e => by
    cases e
    intro i h
    simp at h
  | k + 1, ts, z, e => by
    unfold rdRun at e
    cases e1 : rdRun f l k with
    | none => rw [e1] at e; cases e
    | some tz =>
      obtain ⟨us, y⟩ := tz
      rw [e1] at e
      have ih := run_adj e1
      dsimp only at e
      cases e2 : rdNext f l us y with
      | nil => rw [e2] at e; cases e
      | cons a r =>
        rw [e2] at e
        dsimp only at e
        have ⟨e3, e4⟩ : us ++ [y] = ts ∧ a = z := by cases e; exact ⟨rfl, rfl⟩
        subst e3
        subst e4
        have ma : a ∈ rdNext f l us y := by rw [e2]; exact List.mem_cons_self ..
        have m2 := (List.mem_filter.mp ma).2
        rw [Bool.and_eq_true] at m2
        intro i hi
        rw [List.length_append, List.length_singleton] at hi
        by_cases c : i + 1 < (us ++ [y]).length
        · rw [getD_left (by omega), getD_left c]
          exact ih i c
        · have ei : i + 1 = (us ++ [y]).length := by omega
          rw [getD_left (by omega), ei, getD_end]
          have e5 : i = us.length := by
            rw [List.length_append, List.length_singleton] at ei
            omega
          rw [e5, getD_end]
          exact m2.1
/-- two places and no third -/
theorem two_only {l : List Nat} {p : Nat → Bool} (nd : l.Nodup) (two : (l.filter p).length = 2) {a b : Nat} (ab : a ≠ b) (ha : a ∈ l) (hb : b ∈ l) (pa : p a = true) (pb : p b = true) {x : Nat} (hx : x ∈ l) (px : p x = true) : x = a ∨ x = b := by
  by_cases h1 : x = a
  · exact .inl h1
  by_cases h2 : x = b
  · exact .inr h2
  exfalso
  have z := sub_few (l := [a, b, x]) (m := l.filter p) (by simp [ab, Ne.symm h1, Ne.symm h2]) fun v hv => by
    simp only [List.mem_cons, List.mem_nil_iff, or_false] at hv
    rcases hv with rfl | rfl | rfl
    · exact List.mem_filter.mpr ⟨ha, pa⟩
    · exact List.mem_filter.mpr ⟨hb, pb⟩
    · exact List.mem_filter.mpr ⟨hx, px⟩
  rw [two] at z
  simp at z
/-- what a round that is told is: all of the lot, each next to the one before, every one with two neighbours in it -/
theorem round_is {f : Nat → Nat → Bool} {l : List Nat} (h : roundL f l ≠ []) : 4 ≤ l.length ∧ l.all (degB f l) = true ∧ (roundL f l).length = l.length ∧ (roundL f l).Nodup ∧ (∀ v ∈ roundL f l, v ∈ l) ∧ Steps f (roundL f l) := by
  have c : ¬ (l.length < 4 ∨ l.all (degB f l) = false) := fun z => h (by unfold roundL; rw [if_pos z])
  have l4 : 4 ≤ l.length := by
    by_cases y : l.length < 4
    · exact absurd (.inl y) c
    · omega
  have al : l.all (degB f l) = true := by
    cases y : l.all (degB f l) with
    | true => rfl
    | false => exact absurd (.inr y) c
  have ne : l ≠ [] := fun z => by rw [z] at l4; exact absurd l4 (by decide)
  have e : roundL f l = match rdRun f l (l.length - 1) with
    | none => []
    | some (ts, z) => ts ++ [z] := by
    unfold roundL
    rw [if_neg c]
  cases e1 : rdRun f l (l.length - 1) with
  | none => rw [e, e1] at h; exact absurd rfl h
  | some tz =>
    obtain ⟨ts, z⟩ := tz
    have e2 : roundL f l = ts ++ [z] := by rw [e, e1]
    obtain ⟨r1, r2, r3⟩ := run_in ne e1
    rw [e2]
    refine ⟨l4, al, ?_, r3, r2, run_adj e1⟩
    rw [List.length_append, List.length_singleton, r1]
    omega
/-- side by side on a ring of so many -/
def Beside (m i j : Nat) : Prop := i + 1 = j ∨ j + 1 = i ∨ (i = 0 ∧ j + 1 = m) ∨ (j = 0 ∧ i + 1 = m)
/-- a round that is told is a ring: its vertices are those of the lot, and two of them are adjacent if they are side by side -/
theorem ring_is {f : Nat → Nat → Bool} {l : List Nat} (nd : l.Nodup) (sym : ∀ u v, f u v = f v u) (irr : ∀ v, f v v = false) (h : roundL f l ≠ []) :
    (∀ v, v ∈ roundL f l ↔ v ∈ l) ∧ ∀ i j, i < l.length → j < l.length → (f ((roundL f l).getD i 0) ((roundL f l).getD j 0) = true ↔ Beside l.length i j) := by
  obtain ⟨l4, al, len, cnd, sub, st⟩ := round_is h
  generalize roundL f l = c at len cnd sub st
  have sup : ∀ v ∈ l, v ∈ c := fun v hv => by
    by_cases y : v ∈ c
    · exact y
    · have z := sub_few (l := v :: c) (m := l) (List.nodup_cons.mpr ⟨y, cnd⟩) fun x hx => by
        rcases List.mem_cons.mp hx with rfl | hx
        · exact hv
        · exact sub x hx
      rw [List.length_cons] at z
      omega
  have at_ : ∀ i (hi : i < l.length), c.getD i 0 = c[i]'(by omega) := fun i hi => by
    rw [List.getD_eq_getElem?_getD, List.getElem?_eq_getElem (by omega)]
    rfl
  have inC : ∀ i, i < l.length → c.getD i 0 ∈ c := fun i hi => by rw [at_ i hi]; exact List.getElem_mem _
  have inL : ∀ i, i < l.length → c.getD i 0 ∈ l := fun i hi => sub _ (inC i hi)
  have inj : ∀ i j, i < l.length → j < l.length → i ≠ j → c.getD i 0 ≠ c.getD j 0 := fun i j hi hj ne e => by
    rw [at_ i hi, at_ j hj] at e
    rcases Nat.lt_or_gt_of_ne ne with y | y
    · exact List.pairwise_iff_getElem.mp cnd i j (by omega) (by omega) y e
    · exact List.pairwise_iff_getElem.mp cnd j i (by omega) (by omega) y e.symm
  have place : ∀ v ∈ l, ∃ k, k < l.length ∧ c.getD k 0 = v := fun v hv => by
    obtain ⟨k, hk, e⟩ := List.getElem_of_mem (sup v hv)
    exact ⟨k, by omega, by rw [at_ k (by omega)]; exact e⟩
  have two : ∀ i, i < l.length → (l.filter (f (c.getD i 0))).length = 2 := fun i hi => of_decide_eq_true (List.all_eq_true.mp al _ (inL i hi))
  have nx : ∀ i, i + 1 < l.length → f (c.getD i 0) (c.getD (i + 1) 0) = true := fun i hi => st i (by omega)
  have pv : ∀ i, i + 1 < l.length → f (c.getD (i + 1) 0) (c.getD i 0) = true := fun i hi => by rw [sym]; exact nx i hi
  have same : ∀ i j, i < l.length → j < l.length → c.getD i 0 = c.getD j 0 → i = j := fun i j hi hj e => by
    by_cases y : i = j
    · exact y
    · exact absurd e (inj i j hi hj y)
  have mid : ∀ i j, i + 2 < l.length → j < l.length → f (c.getD (i + 1) 0) (c.getD j 0) = true → j = i ∨ j = i + 2 := fun i j hi hj e => by
    rcases two_only nd (two (i + 1) (by omega)) (inj i (i + 2) (by omega) hi (by omega)) (inL i (by omega)) (inL (i + 2) hi) (pv i (by omega)) (nx (i + 1) hi) (inL j hj) e with z | z
    · exact .inl (same j i hj (by omega) z)
    · exact .inr (same j (i + 2) hj hi z)
  obtain ⟨x, hx, fx, nx1⟩ : ∃ x ∈ l, f (c.getD 0 0) x = true ∧ x ≠ c.getD 1 0 := by
    have t0 := two 0 (by omega)
    have fnd : (l.filter (f (c.getD 0 0))).Nodup := nd.filter _
    match e : l.filter (f (c.getD 0 0)), t0, fnd with
    | [a, b], _, fnd =>
      have ma : a ∈ l.filter (f (c.getD 0 0)) := by rw [e]; simp
      have mb : b ∈ l.filter (f (c.getD 0 0)) := by rw [e]; simp
      have ab : a ≠ b := by simpa using fnd
      obtain ⟨a1, a2⟩ := List.mem_filter.mp ma
      obtain ⟨b1, b2⟩ := List.mem_filter.mp mb
      by_cases y : a = c.getD 1 0
      · exact ⟨b, b1, b2, fun z => ab (y.trans z.symm)⟩
      · exact ⟨a, a1, a2, y⟩
  obtain ⟨k, hk, rfl⟩ := place x hx
  have k0 : k ≠ 0 := fun z => by rw [z, irr] at fx; cases fx
  have k1 : k ≠ 1 := fun z => nx1 (by rw [z])
  have km : k + 1 = l.length := by
    by_cases y : k + 1 < l.length
    · obtain ⟨k', rfl⟩ : ∃ k', k = k' + 1 := ⟨k - 1, by omega⟩
      rcases mid k' 0 (by omega) (by omega) (by rw [sym]; exact fx) with z | z <;> omega
    · omega
  have f0 : ∀ j, j < l.length → f (c.getD 0 0) (c.getD j 0) = true → j = 1 ∨ j + 1 = l.length := fun j hj e => by
    rcases two_only nd (two 0 (by omega)) (inj 1 k (by omega) hk (Ne.symm k1)) (inL 1 (by omega)) (inL k hk) (nx 0 (by omega)) fx (inL j hj) e with z | z
    · exact .inl (same j 1 hj (by omega) z)
    · have := same j k hj hk z
      omega
  have fl : ∀ j, j < l.length → f (c.getD k 0) (c.getD j 0) = true → j = 0 ∨ j + 1 = k := fun j hj e => by
    obtain ⟨k', rfl⟩ : ∃ k', k = k' + 1 := ⟨k - 1, by omega⟩
    rcases two_only nd (two (k' + 1) hk) (inj 0 k' (by omega) (by omega) (by omega)) (inL 0 (by omega)) (inL k' (by omega)) (by rw [sym]; exact fx) (pv k' hk) (inL j hj) e with z | z
    · exact .inl (same j 0 hj (by omega) z)
    · have := same j k' hj (by omega) z
      omega
  refine ⟨fun v => ⟨sub v, sup v⟩, fun i j hi hj => ⟨fun e => ?_, fun b => ?_⟩⟩
  · by_cases i0 : i = 0
    · subst i0
      rcases f0 j hj e with z | z
      · exact .inl z.symm
      · exact .inr (.inr (.inl ⟨rfl, z⟩))
    · by_cases im : i + 1 = l.length
      · have ik : i = k := by omega
        subst ik
        rcases fl j hj e with z | z
        · exact .inr (.inr (.inr ⟨z, im⟩))
        · exact .inr (.inl z)
      · obtain ⟨i', rfl⟩ : ∃ i', i = i' + 1 := ⟨i - 1, by omega⟩
        rcases mid i' j (by omega) hj e with z | z
        · exact .inr (.inl (by omega))
        · exact .inl (by omega)
  · rcases b with z | z | ⟨z1, z2⟩ | ⟨z1, z2⟩
    · subst z
      exact nx i hj
    · subst z
      exact pv j hi
    · subst z1
      have jk : j = k := by omega
      subst jk
      exact fx
    · subst z1
      have ik : i = k := by omega
      subst ik
      rw [sym]
      exact fx
end My

/-! A lot whose graph is a ring is told. -/
namespace My
theorem gD {c : List Nat} {i : Nat} (h : i < c.length) : c.getD i 0 = c[i] := by
  rw [List.getD_eq_getElem?_getD, List.getElem?_eq_getElem h]
  rfl
theorem gD_mem {c : List Nat} {i : Nat} (h : i < c.length) : c.getD i 0 ∈ c := by rw [gD h]; exact List.getElem_mem _
theorem gD_inj {c : List Nat} (nd : c.Nodup) {i j : Nat} (hi : i < c.length) (hj : j < c.length) (e : c.getD i 0 = c.getD j 0) : i = j := by
  rw [gD hi, gD hj] at e
  by_cases y : i = j
  · exact y
  · rcases Nat.lt_or_gt_of_ne y with z | z
    · exact absurd e (List.pairwise_iff_getElem.mp nd i j hi hj z)
    · exact absurd e.symm (List.pairwise_iff_getElem.mp nd j i hj hi z)
theorem gD_place {c : List Nat} {v : Nat} (h : v ∈ c) : ∃ i, i < c.length ∧ c.getD i 0 = v := by
  obtain ⟨i, hi, e⟩ := List.getElem_of_mem h
  exact ⟨i, hi, by rw [gD hi]; exact e⟩
/-- c goes round the ring of l -/
structure RingOf (f : Nat → Nat → Bool) (l c : List Nat) : Prop where
  mem : ∀ v, v ∈ c ↔ v ∈ l
  nd : c.Nodup
  len : c.length = l.length
  adj : ∀ i j, i < c.length → j < c.length → (f (c.getD i 0) (c.getD j 0) = true ↔ Beside c.length i j)
def nextI (m i : Nat) : Nat := if i + 1 = m then 0 else i + 1
def prevI (m i : Nat) : Nat := if i = 0 then m - 1 else i - 1
theorem RingOf.deg {f : Nat → Nat → Bool} {l c : List Nat} (r : RingOf f l c) (nd : l.Nodup) (l4 : 4 ≤ l.length) {v : Nat} (hv : v ∈ l) : (l.filter (f v)).length = 2 := by
  obtain ⟨i, hi, rfl⟩ := gD_place ((r.mem v).mpr hv)
  have len := r.len
  have pn : prevI c.length i < c.length ∧ nextI c.length i < c.length ∧ prevI c.length i ≠ nextI c.length i ∧ ∀ j, j < c.length → (Beside c.length i j ↔ j = prevI c.length i ∨ j = nextI c.length i) := by
    unfold prevI nextI Beside
    refine ⟨by split <;> omega, by split <;> omega, by split <;> split <;> omega, fun j hj => ?_⟩
    split <;> split <;> omega
  obtain ⟨p1, p2, p3, p4⟩ := pn
  have two : ∀ x, x ∈ l.filter (f (c.getD i 0)) ↔ x ∈ [c.getD (prevI c.length i) 0, c.getD (nextI c.length i) 0] := fun x => by
    rw [List.mem_filter]
    simp only [List.mem_cons, List.mem_nil_iff, or_false]
    constructor
    · rintro ⟨hx, e⟩
      obtain ⟨j, hj, rfl⟩ := gD_place ((r.mem x).mpr hx)
      rcases (p4 j hj).mp ((r.adj i j hi hj).mp e) with rfl | rfl
      · exact .inl rfl
      · exact .inr rfl
    · rintro (rfl | rfl)
      · exact ⟨(r.mem _).mp (gD_mem p1), (r.adj i _ hi p1).mpr ((p4 _ p1).mpr (.inl rfl))⟩
      · exact ⟨(r.mem _).mp (gD_mem p2), (r.adj i _ hi p2).mpr ((p4 _ p2).mpr (.inr rfl))⟩
  have n2 : [c.getD (prevI c.length i) 0, c.getD (nextI c.length i) 0].Nodup := by
    have : c.getD (prevI c.length i) 0 ≠ c.getD (nextI c.length i) 0 := fun e => p3 (gD_inj r.nd p1 p2 e)
    simpa using this
  have a := sub_few (nd.filter (f (c.getD i 0))) fun x hx => (two x).mp hx
  have b := sub_few n2 fun x hx => (two x).mpr hx
  simp only [List.length_cons, List.length_nil] at a b
  omega
/-- a part of the ring that holds all neighbours of its vertices is the whole -/
theorem RingOf.whole {f : Nat → Nat → Bool} {l c : List Nat} (r : RingOf f l c) (T : List Nat) {z : Nat} (hz : z ∈ T) (zl : z ∈ l) (cl : ∀ v ∈ T, v ∈ l → ∀ w ∈ l, f v w = true → w ∈ T) : ∀ v ∈ l, v ∈ T := by
  have len := r.len
  have step : ∀ i, i + 1 < c.length → c.getD i 0 ∈ T → c.getD (i + 1) 0 ∈ T := fun i hi h =>
    cl _ h ((r.mem _).mp (gD_mem (by omega))) _ ((r.mem _).mp (gD_mem hi)) ((r.adj i (i + 1) (by omega) hi).mpr (.inl rfl))
  have back : ∀ i, i + 1 < c.length → c.getD (i + 1) 0 ∈ T → c.getD i 0 ∈ T := fun i hi h =>
    cl _ h ((r.mem _).mp (gD_mem hi)) _ ((r.mem _).mp (gD_mem (by omega))) ((r.adj (i + 1) i hi (by omega)).mpr (.inr (.inl rfl)))
  obtain ⟨i0, h0, rfl⟩ := gD_place ((r.mem z).mpr zl)
  have down : ∀ d, d ≤ i0 → c.getD (i0 - d) 0 ∈ T := fun d => by
    induction d with
    | zero => intro _; exact hz
    | succ d ih =>
      intro hd
      have y := ih (by omega)
      have e : i0 - d = (i0 - (d + 1)) + 1 := by omega
      rw [e] at y
      exact back _ (by omega) y
  have zero : c.getD 0 0 ∈ T := by
    have y := down i0 (Nat.le_refl _)
    rw [Nat.sub_self] at y
    exact y
  have all : ∀ i, i < c.length → c.getD i 0 ∈ T := fun i => by
    induction i with
    | zero => intro _; exact zero
    | succ i ih => intro hi; exact step i hi (ih (by omega))
  intro v hv
  obtain ⟨i, hi, rfl⟩ := gD_place ((r.mem v).mpr hv)
  exact all i hi
theorem RingOf.on {f : Nat → Nat → Bool} {l c : List Nat} (r : RingOf f l c) (nd : l.Nodup) (l4 : 4 ≤ l.length) (sym : ∀ u v, f u v = f v u) (irr : ∀ v, f v v = false) {k : Nat} (hk : k + 1 < l.length) {ts : List Nat} {z : Nat} (run : rdRun f l k = some (ts, z)) : rdNext f l ts z ≠ [] := by
  intro e
  have ne : l ≠ [] := fun z => by rw [z] at l4; exact absurd l4 (by decide)
  obtain ⟨r1, r2, r3⟩ := run_in ne run
  have st := run_adj run
  have tl : (ts ++ [z]).length = k + 1 := by rw [List.length_append, r1]; rfl
  have zk : (ts ++ [z]).getD k 0 = z := by rw [← r1]; exact getD_end ts z
  have shut : ∀ w ∈ l, f z w = true → w ∈ ts ++ [z] := fun w hw fw => by
    by_cases y : w ∈ ts ++ [z]
    · exact y
    · have m : w ∈ rdNext f l ts z := List.mem_filter.mpr ⟨hw, by rw [fw, decide_eq_false y]; rfl⟩
      rw [e] at m
      cases m
  generalize ts ++ [z] = T at r2 r3 st tl zk shut
  have zT : z ∈ T := by rw [← zk]; exact gD_mem (by omega)
  have deg := fun {v} (hv : v ∈ l) => r.deg nd l4 hv
  have inl : ∀ i, i ≤ k → T.getD i 0 ∈ l := fun i hi => r2 _ (gD_mem (by omega))
  have two : ∀ i, i + 2 ≤ k → ∀ w ∈ l, f (T.getD (i + 1) 0) w = true → w = T.getD i 0 ∨ w = T.getD (i + 2) 0 := fun i hi w hw fw =>
    two_only nd (deg (inl (i + 1) (by omega))) (fun y => absurd (gD_inj r3 (by omega) (by omega) y) (by omega)) (inl i (by omega)) (inl (i + 2) hi) (by rw [sym]; exact st i (by omega)) (st (i + 1) (by omega)) hw fw
  have pos : 0 < k := by
    rcases Nat.eq_zero_or_pos k with y | y
    · subst y
      exfalso
      have d := deg (r2 z zT)
      have hp : 0 < (l.filter (f z)).length := by omega
      have m := List.getElem_mem hp
      obtain ⟨m1, m2⟩ := List.mem_filter.mp m
      have m3 := shut _ m1 m2
      obtain ⟨i, hi, ei⟩ := gD_place m3
      have i0 : i = 0 := by omega
      subst i0
      rw [← ei, zk, irr] at m2
      cases m2
    · exact y
  -- the last one's other neighbour is the first one
  obtain ⟨k', rfl⟩ : ∃ k', k = k' + 1 := ⟨k - 1, by omega⟩
  have prev : f z (T.getD k' 0) = true := by
    have y := st k' (by omega)
    rw [zk] at y
    rw [sym]
    exact y
  obtain ⟨x, hx, fx, xp⟩ : ∃ x ∈ l, f z x = true ∧ x ≠ T.getD k' 0 := by
    have t0 := deg (r2 z zT)
    have fnd : (l.filter (f z)).Nodup := nd.filter _
    match e : l.filter (f z), t0, fnd with
    | [a, b], _, fnd =>
      have ma : a ∈ l.filter (f z) := by rw [e]; simp
      have mb : b ∈ l.filter (f z) := by rw [e]; simp
      have ab : a ≠ b := by simpa using fnd
      obtain ⟨a1, a2⟩ := List.mem_filter.mp ma
      obtain ⟨b1, b2⟩ := List.mem_filter.mp mb
      by_cases y : a = T.getD k' 0
      · exact ⟨b, b1, b2, fun q => ab (y.trans q.symm)⟩
      · exact ⟨a, a1, a2, y⟩
  obtain ⟨j, hj, rfl⟩ := gD_place (shut x hx fx)
  have jk : j ≠ k' + 1 := fun y => by rw [y, zk, irr] at fx; cases fx
  have jk' : j ≠ k' := fun y => xp (by rw [y])
  have j0 : j = 0 := by
    rcases Nat.eq_zero_or_pos j with y | y
    · exact y
    · obtain ⟨j', rfl⟩ : ∃ j', j = j' + 1 := ⟨j - 1, by omega⟩
      rcases two j' (by omega) z (r2 z zT) (by rw [sym]; exact fx) with q | q
      · rw [← zk] at q
        have := gD_inj r3 (by omega) (by omega) q
        omega
      · rw [← zk] at q
        have := gD_inj r3 (by omega) (by omega) q
        omega
  subst j0
  have closed : ∀ v ∈ T, v ∈ l → ∀ w ∈ l, f v w = true → w ∈ T := fun v hv _ w hw fw => by
    obtain ⟨i, hi, rfl⟩ := gD_place hv
    rcases Nat.eq_zero_or_pos i with y | y
    · subst y
      rcases two_only nd (deg (inl 0 (by omega))) (fun y => absurd (gD_inj r3 (i := 1) (j := k' + 1) (by omega) (by omega) (y.trans zk.symm)) (by omega)) (inl 1 (by omega)) (r2 z zT) (st 0 (by omega)) (by rw [sym]; exact fx) hw fw with q | q
      · rw [q]; exact gD_mem (by omega)
      · rw [q]; exact zT
    · obtain ⟨i', rfl⟩ : ∃ i', i = i' + 1 := ⟨i - 1, by omega⟩
      by_cases q : i' = k'
      · subst q
        rw [zk] at fw
        exact shut w hw fw
      · rcases two i' (by omega) w hw fw with q2 | q2
        · rw [q2]; exact gD_mem (by omega)
        · rw [q2]; exact gD_mem (by omega)
  have all := r.whole T zT (r2 z zT) closed
  have y := sub_few nd all
  omega
/-- a lot whose graph is a ring is told -/
theorem RingOf.told {f : Nat → Nat → Bool} {l c : List Nat} (r : RingOf f l c) (nd : l.Nodup) (l4 : 4 ≤ l.length) (sym : ∀ u v, f u v = f v u) (irr : ∀ v, f v v = false) : roundL f l ≠ [] := by
  have go : ∀ k, k + 1 ≤ l.length → ∃ ts z, rdRun f l k = some (ts, z) := fun k => by
    induction k with
    | zero => intro _; exact ⟨_, _, rfl⟩
    | succ k ih =>
      intro hk
      obtain ⟨ts, z, e⟩ := ih (by omega)
      have n := r.on nd l4 sym irr (by omega) e
      unfold rdRun
      rw [e]
      dsimp only
      cases e2 : rdNext f l ts z with
      | nil => exact absurd e2 n
      | cons a q => exact ⟨_, _, rfl⟩
  obtain ⟨ts, z, e⟩ := go (l.length - 1) (by omega)
  have al : l.all (degB f l) = true := List.all_eq_true.mpr fun v hv => decide_eq_true (r.deg nd l4 hv)
  unfold roundL
  rw [if_neg (by rw [al]; simp; omega), e]
  simp
/-- how a round begins -/
theorem run_first {f : Nat → Nat → Bool} {l : List Nat} : ∀ {k : Nat} {ts : List Nat} {z : Nat}, rdRun f l k = some (ts, z) → (ts ++ [z]).length = k + 1 ∧ (ts ++ [z]).getD 0 0 = l.headD 0 ∧ (0 < k → (ts ++ [z]).getD 1 0 = (rdNext f l [] (l.headD 0)).headD 0)
  | 0, ts, z, e => by
    cases e
    exact ⟨rfl, rfl, fun h => absurd h (by decide)⟩
  | k + 1, ts, z, e => by
    unfold rdRun at e
    cases e1 : rdRun f l k with
    | none => rw [e1] at e; cases e
    | some tz =>
      obtain ⟨us, y⟩ := tz
      rw [e1] at e
      obtain ⟨h0, h1, h2⟩ := run_first e1
      dsimp only at e
      cases e2 : rdNext f l us y with
      | nil => rw [e2] at e; cases e
      | cons a r =>
        rw [e2] at e
        dsimp only at e
        have ⟨e3, e4⟩ : us ++ [y] = ts ∧ a = z := by cases e; exact ⟨rfl, rfl⟩
        subst e3
        subst e4
        refine ⟨by rw [List.length_append, h0]; rfl, by rw [getD_left (by omega)]; exact h1, fun _ => ?_⟩
        by_cases k0 : k = 0
        · subst k0
          have e5 : us = [] ∧ y = l.headD 0 := by
            have z : some (([] : List Nat), l.headD 0) = some (us, y) := e1
            cases z
            exact ⟨rfl, rfl⟩
          obtain ⟨rfl, rfl⟩ := e5
          rw [e2]
          rfl
        · rw [getD_left (by omega)]
          exact h2 (by omega)
/-- it begins at the least vertex, and goes on to the lesser one of its two neighbours -/
theorem round_first {f : Nat → Nat → Bool} {l : List Nat} (up : l.Pairwise (· < ·)) (sym : ∀ u v, f u v = f v u) (irr : ∀ v, f v v = false) (h : roundL f l ≠ []) :
    (∀ v ∈ l, (roundL f l).getD 0 0 ≤ v) ∧ (roundL f l).getD 1 0 < (roundL f l).getD (l.length - 1) 0 := by
  have nd : l.Nodup := up.imp fun z => Nat.ne_of_lt z
  obtain ⟨l4, al, len, cnd, sub, st⟩ := round_is h
  obtain ⟨mm, ri⟩ := ring_is nd sym irr h
  have c : ¬ (l.length < 4 ∨ l.all (degB f l) = false) := fun z => h (by unfold roundL; rw [if_pos z])
  obtain ⟨f0, f1⟩ : (roundL f l).getD 0 0 = l.headD 0 ∧ (roundL f l).getD 1 0 = (rdNext f l [] (l.headD 0)).headD 0 := by
    unfold roundL at h ⊢
    rw [if_neg c] at h ⊢
    cases e1 : rdRun f l (l.length - 1) with
    | none => rw [e1] at h; exact absurd rfl h
    | some tz =>
      obtain ⟨ts, z⟩ := tz
      obtain ⟨_, h1, h2⟩ := run_first e1
      exact ⟨h1, h2 (by omega)⟩
  have ne : l ≠ [] := fun z => by rw [z] at l4; exact absurd l4 (by decide)
  refine ⟨fun v hv => ?_, ?_⟩
  · rw [f0]
    obtain ⟨a, r, rfl⟩ := List.exists_cons_of_ne_nil ne
    rcases List.mem_cons.mp hv with rfl | hv
    · exact Nat.le_refl _
    · exact Nat.le_of_lt ((List.pairwise_cons.mp up).1 v hv)
  · have al1 := (ri 0 (l.length - 1) (by omega) (by omega)).mpr (.inr (.inr (.inl ⟨rfl, by omega⟩)))
    have last_l : (roundL f l).getD (l.length - 1) 0 ∈ l := sub _ (gD_mem (by omega))
    have ne1 : (roundL f l).getD (l.length - 1) 0 ≠ (roundL f l).getD 1 0 := fun e => absurd (gD_inj cnd (by omega) (by omega) e) (by omega)
    have nez : (roundL f l).getD (l.length - 1) 0 ≠ l.headD 0 := fun e => by
      rw [← f0] at e
      exact absurd (gD_inj cnd (by omega) (by omega) e) (by omega)
    rw [f0] at al1
    have m : (roundL f l).getD (l.length - 1) 0 ∈ rdNext f l [] (l.headD 0) := by
      refine List.mem_filter.mpr ⟨last_l, ?_⟩
      rw [al1, decide_eq_false (by simpa using nez)]
      rfl
    have upN : (rdNext f l [] (l.headD 0)).Pairwise (· < ·) := up.filter _
    rw [f1] at ne1 ⊢
    generalize (roundL f l).getD (l.length - 1) 0 = x at m ne1
    cases e : rdNext f l [] (l.headD 0) with
    | nil => rw [e] at m; cases m
    | cons a r =>
      rw [e] at m upN ne1
      rcases List.mem_cons.mp m with z | z
      · exact absurd z ne1
      · exact (List.pairwise_cons.mp upN).1 x z
end My

/-! Graphs of up to nine vertices without odd holes and odd antiholes are perfect, plain. -/
namespace My
open Classical
section
variable {α : Type}
/-! ### more rows than columns -/
def dotL : List Int → List (α → Int) → α → Int
  | c :: cs, r :: rs, v => c * r v + dotL cs rs v
  | _, _, _ => 0
theorem dotL_app : ∀ {c1 : List Int} {r1 : List (α → Int)} (c2 : List Int) (r2 : List (α → Int)) (v : α), c1.length = r1.length → dotL (c1 ++ c2) (r1 ++ r2) v = dotL c1 r1 v + dotL c2 r2 v
  | [], [], c2, r2, v, _ => by simp [dotL]
  | c :: cs, r :: rs, c2, r2, v, h => by
    have ih := dotL_app (c1 := cs) (r1 := rs) c2 r2 v (by simpa using h)
    simp only [List.cons_append, dotL, ih]
    omega
theorem dotL_scale (p : Int) (q : (α → Int) → Int) (r0 : α → Int) (v : α) : ∀ (cs : List Int) (rs : List (α → Int)), cs.length = rs.length → dotL cs (rs.map fun r => fun v => p * r v - q r * r0 v) v = dotL (cs.map (p * ·)) rs v - dotL cs (rs.map fun r => fun _ => q r) v * r0 v
  | [], [], _ => by simp [dotL]
  | c :: cs, r :: rs, h => by
    have ih := dotL_scale p q r0 v cs rs (by simpa using h)
    simp only [List.map_cons, dotL, ih]
    rw [Int.mul_sub, Int.add_mul, Int.mul_assoc p, ← Int.mul_assoc c p, Int.mul_comm c p, Int.mul_assoc p c, Int.mul_assoc c (q r)]
    omega
theorem dotL_const (q : (α → Int) → Int) (v w : α) (h : ∀ r : α → Int, q r = r w) : ∀ (cs : List Int) (rs : List (α → Int)), dotL cs (rs.map fun r => fun _ => q r) v = dotL cs rs w
  | [], _ => by simp [dotL]
  | _ :: _, [] => by simp [dotL]
  | c :: cs, r :: rs => by
    have ih := dotL_const q v w h cs rs
    simp only [List.map_cons, dotL]
    rw [ih, h]
theorem few_cols : ∀ (vs : List α) (rows : List (α → Int)), vs.length < rows.length → ∃ cs : List Int, cs.length = rows.length ∧ (∃ x ∈ cs, x ≠ 0) ∧ ∀ v ∈ vs, dotL cs rows v = 0
  | [], rows, h => by
    refine ⟨rows.map fun _ => 1, by simp, ?_, fun _ z => nomatch z⟩
    cases rows with
    | nil => cases h
    | cons r rs => exact ⟨1, by simp, by decide⟩
  | w :: vs, rows, h => by
    by_cases c : ∀ r ∈ rows, r w = 0
    · obtain ⟨cs, l, nz, z⟩ := few_cols vs rows (by rw [List.length_cons] at h; omega)
      refine ⟨cs, l, nz, fun v hv => ?_⟩
      rcases List.mem_cons.mp hv with rfl | hv
      · clear z nz l h
        induction cs generalizing rows with
        | nil => simp [dotL]
        | cons x cs ih =>
          cases rows with
          | nil => simp [dotL]
          | cons r rs =>
            simp only [dotL]
            rw [c r (List.mem_cons_self ..), ih rs fun r hr => c r (List.mem_cons_of_mem _ hr)]
            simp
      · exact z v hv
    · obtain ⟨r0, m, nz0⟩ : ∃ r ∈ rows, r w ≠ 0 := by
        apply Classical.byContradiction
        intro y
        exact c fun r hr => Classical.byContradiction fun z => y ⟨r, hr, z⟩
      obtain ⟨xs, ys, rfl⟩ := List.append_of_mem m
      obtain ⟨cs, l, ⟨x, hx, xn⟩, z⟩ := few_cols vs ((xs ++ ys).map fun r => fun v => r0 w * r v - r w * r0 v) (by
        simp only [List.length_cons, List.length_append, List.length_map] at h ⊢
        omega)
      rw [List.length_map, List.length_append] at l
      let c1 := cs.take xs.length
      let c2 := cs.drop xs.length
      have e12 : c1 ++ c2 = cs := List.take_append_drop _ _
      have l1 : c1.length = xs.length := by show (cs.take _).length = _; rw [List.length_take]; omega
      have l2 : c2.length = ys.length := by show (cs.drop _).length = _; rw [List.length_drop]; omega
      let d0 : Int := - dotL cs (xs ++ ys) w
      refine ⟨c1.map (r0 w * ·) ++ d0 :: c2.map (r0 w * ·), by simp [l1, l2], ?_, fun v hv => ?_⟩
      · refine ⟨r0 w * x, ?_, Int.mul_ne_zero nz0 xn⟩
        rw [← e12] at hx
        rcases List.mem_append.mp hx with hx | hx
        · exact List.mem_append.mpr (.inl (List.mem_map_of_mem hx))
        · exact List.mem_append.mpr (.inr (List.mem_cons_of_mem _ (List.mem_map_of_mem hx)))
      · rw [dotL_app _ _ _ (by rw [List.length_map, l1])]
        show dotL (c1.map (r0 w * ·)) xs v + (d0 * r0 v + dotL (c2.map (r0 w * ·)) ys v) = 0
        have key : dotL (cs.map (r0 w * ·)) (xs ++ ys) v = dotL (c1.map (r0 w * ·)) xs v + dotL (c2.map (r0 w * ·)) ys v := by
          rw [← e12, List.map_append, dotL_app _ _ _ (by rw [List.length_map, l1])]
        have goal : dotL (cs.map (r0 w * ·)) (xs ++ ys) v + d0 * r0 v = 0 := by
          rcases List.mem_cons.mp hv with rfl | hv
          · have sc : ∀ (cs : List Int) (rs : List (α → Int)), dotL (cs.map (r0 v * ·)) rs v = r0 v * dotL cs rs v := fun cs => by
              induction cs with
              | nil => intro rs; simp [dotL]
              | cons c cs ih =>
                intro rs
                cases rs with
                | nil => simp [dotL]
                | cons r rs =>
                  simp only [List.map_cons, dotL, ih, Int.mul_add, Int.mul_assoc]
            rw [sc]
            show r0 v * dotL cs (xs ++ ys) v + -dotL cs (xs ++ ys) v * r0 v = 0
            rw [Int.neg_mul, Int.mul_comm]
            omega
          · have y := z v hv
            rw [dotL_scale (r0 w) (fun r => r w) r0 v cs (xs ++ ys) (by rw [l, List.length_append]), dotL_const (fun r => r w) v w (fun _ => rfl)] at y
            show dotL (cs.map (r0 w * ·)) (xs ++ ys) v + -dotL cs (xs ++ ys) w * r0 v = 0
            rw [Int.neg_mul]
            omega
        omega
end
/-! ### rows of noughts and ones -/
def dotN : List Int → List Nat → Int
  | c :: cs, w :: ws => c * (w : Int) + dotN cs ws
  | _, _ => 0
theorem dot_sum (S : List (Nat → Bool)) : ∀ (cs : List Int) (B : List Nat), cs.length = S.length → (∀ v ∈ B, dotL cs (S.map fun s => fun v => if s v = true then (1 : Int) else 0) v = 0) → dotN cs (S.map fun s => (B.filter s).length) = 0 := by
  have key : ∀ (cs : List Int) (S : List (Nat → Bool)) (B : List Nat), dotN cs (S.map fun s => (B.filter s).length) = (B.map fun v => dotL cs (S.map fun s => fun v => if s v = true then (1 : Int) else 0) v).sum := fun cs => by
    induction cs with
    | nil =>
      intro S B
      simp only [dotN, dotL]
      induction B with
      | nil => rfl
      | cons b B ih => rw [List.map_cons, List.sum_cons, ← ih]; rfl
    | cons c cs ih =>
      intro S B
      cases S with
      | nil =>
        simp only [List.map_nil, dotN, dotL]
        induction B with
        | nil => rfl
        | cons b B ih2 => rw [List.map_cons, List.sum_cons, ← ih2]; rfl
      | cons s S =>
        simp only [List.map_cons, dotN, dotL]
        rw [ih]
        clear ih
        induction B with
        | nil => simp
        | cons b B ih2 =>
          simp only [List.map_cons, List.sum_cons, List.filter_cons]
          by_cases y : s b = true
          · rw [if_pos y, if_pos y, List.length_cons]
            have e : c * (((B.filter s).length + 1 : Nat) : Int) = c * ((B.filter s).length : Int) + c * 1 := by
              rw [← Int.mul_add]
              rfl
            rw [e]
            omega
          · rw [if_neg y, if_neg y]
            simp only [Int.mul_zero]
            omega
  intro cs B _ h
  rw [key]
  clear key
  induction B with
  | nil => rfl
  | cons b B ih => rw [List.map_cons, List.sum_cons, h b (List.mem_cons_self ..), ih fun v hv => h v (List.mem_cons_of_mem _ hv)]; rfl
theorem ones_sum : ∀ {cs : List Int} {ws : List Nat}, cs.length = ws.length → (∀ w ∈ ws, w ≤ 1) → ws.sum = ws.length → dotN cs ws = cs.sum ∧ ∀ w ∈ ws, w = 1
  | [], [], _, _, _ => ⟨rfl, fun _ z => nomatch z⟩
  | c :: cs, w :: ws, l, h, s => by
    have h1 := h w (List.mem_cons_self ..)
    have low : ∀ {ws : List Nat}, (∀ w ∈ ws, w ≤ 1) → ws.sum ≤ ws.length := fun {ws} h => by
      induction ws with
      | nil => exact Nat.le_refl _
      | cons a r ih =>
        have := ih fun w hw => h w (List.mem_cons_of_mem _ hw)
        have := h a (List.mem_cons_self ..)
        rw [List.sum_cons, List.length_cons]
        omega
    have h2 := low fun w hw => h w (List.mem_cons_of_mem _ hw)
    rw [List.sum_cons, List.length_cons] at s
    have w1 : w = 1 := by omega
    subst w1
    obtain ⟨i1, i2⟩ := ones_sum (cs := cs) (ws := ws) (by simpa using l) (fun w hw => h w (List.mem_cons_of_mem _ hw)) (by omega)
    refine ⟨?_, fun w hw => ?_⟩
    · simp only [dotN, List.sum_cons, i1]
      omega
    · rcases List.mem_cons.mp hw with rfl | hw
      · rfl
      · exact i2 w hw
theorem one_out : ∀ {cs : List Int} {ws : List Nat} {i : Nat}, cs.length = ws.length → (∀ w ∈ ws, w ≤ 1) → ws.sum + 1 = ws.length → ws[i]? = some 0 → ∃ c, cs[i]? = some c ∧ dotN cs ws = cs.sum - c
  | [], [], _, _, _, s, _ => by simp at s
  | c :: cs, w :: ws, 0, l, h, s, e => by
    have w0 : w = 0 := by simpa using e
    subst w0
    rw [List.sum_cons, List.length_cons] at s
    obtain ⟨i1, _⟩ := ones_sum (cs := cs) (ws := ws) (by simpa using l) (fun w hw => h w (List.mem_cons_of_mem _ hw)) (by omega)
    refine ⟨c, rfl, ?_⟩
    simp only [dotN, List.sum_cons, i1]
    omega
  | c :: cs, w :: ws, i + 1, l, h, s, e => by
    rw [List.sum_cons, List.length_cons] at s
    have h1 := h w (List.mem_cons_self ..)
    have e' : ws[i]? = some 0 := by simpa using e
    have w1 : w = 1 := by
      rcases Nat.lt_or_ge w 1 with y | y
      · exfalso
        have z := (ones_sum (cs := cs) (ws := ws) (by simpa using l) (fun w hw => h w (List.mem_cons_of_mem _ hw)) (by omega)).2 0 (List.mem_of_getElem? e')
        cases z
      · omega
    subst w1
    obtain ⟨d, h2, h3⟩ := one_out (cs := cs) (ws := ws) (by simpa using l) (fun w hw => h w (List.mem_cons_of_mem _ hw)) (by omega) e'
    refine ⟨d, by simpa using h2, ?_⟩
    simp only [dotN, List.sum_cons, h3]
    omega
/-! ### cliques, stable sets, colours -/
def CliqF (f : Nat → Nat → Bool) (l : List Nat) : Prop := ∀ u ∈ l, ∀ v ∈ l, u ≠ v → f u v = true
def StabF (f : Nat → Nat → Bool) (l : List Nat) : Prop := ∀ u ∈ l, ∀ v ∈ l, f u v = false
def ColF (f : Nat → Nat → Bool) (V : List Nat) (k : Nat) : Prop := ∃ c : Nat → Nat, (∀ u ∈ V, c u < k) ∧ ∀ u ∈ V, ∀ v ∈ V, f u v = true → c u ≠ c v
/-- no clique of V has more than k vertices -/
def Most (f : Nat → Nat → Bool) (V : List Nat) (k : Nat) : Prop := ∀ B : List Nat, B.Nodup → (∀ v ∈ B, v ∈ V) → CliqF f B → B.length ≤ k
theorem ColF.mono {f : Nat → Nat → Bool} {V : List Nat} {j k : Nat} (h : ColF f V j) (jk : j ≤ k) : ColF f V k := by
  obtain ⟨c, h1, h2⟩ := h
  exact ⟨c, fun u hu => Nat.lt_of_lt_of_le (h1 u hu) jk, h2⟩
theorem pick_fun {p : Nat → (Nat → Nat) → Prop} (h : ∀ v, ∃ c, p v c) : ∃ F : Nat → Nat → Nat, ∀ v, p v (F v) := ⟨fun v => Classical.choose (h v), fun v => Classical.choose_spec (h v)⟩
theorem one_few {f : Nat → Nat → Bool} {s : Nat → Bool} (st : ∀ u v, s u = true → s v = true → f u v = false) {B : List Nat} (nd : B.Nodup) (cl : CliqF f B) : (B.filter s).length ≤ 1 := by
  have nf : (B.filter s).Nodup := nd.filter _
  match e : B.filter s, nf with
  | [], _ => exact Nat.zero_le _
  | [a], _ => exact Nat.le_refl _
  | a :: b :: r, nf =>
    exfalso
    have ma : a ∈ B.filter s := by rw [e]; simp
    have mb : b ∈ B.filter s := by rw [e]; simp
    obtain ⟨a1, a2⟩ := List.mem_filter.mp ma
    obtain ⟨b1, b2⟩ := List.mem_filter.mp mb
    have ne : a ≠ b := fun z => by
      rw [List.nodup_cons] at nf
      exact nf.1 (by rw [z]; simp)
    have y := cl a a1 b b1 ne
    rw [st a b a2 b2] at y
    cases y
theorem sum_classes (c : Nat → Nat) (p : Nat → Bool) : ∀ (w : Nat) (B : List Nat), (∀ u ∈ B, p u = true → c u < w) → ((List.range w).map fun j => (B.filter fun u => p u && decide (c u = j)).length).sum = (B.filter p).length := by
  intro w B
  induction B with
  | nil =>
    intro _
    simp only [List.filter_nil, List.length_nil]
    induction w with
    | zero => rfl
    | succ w ih => rw [List.range_succ, List.map_append, List.sum_append, ih (fun _ z => (nomatch z))]; rfl
  | cons b B ih =>
    intro h
    have ih := ih fun u hu => h u (List.mem_cons_of_mem _ hu)
    by_cases pb : p b = true
    · rw [List.filter_cons_of_pos pb, List.length_cons, ← ih]
      have cb := h b (List.mem_cons_self ..) pb
      have step : ∀ w, ((List.range w).map fun j => ((b :: B).filter fun u => p u && decide (c u = j)).length).sum = ((List.range w).map fun j => (B.filter fun u => p u && decide (c u = j)).length).sum + (if c b < w then 1 else 0) := fun w => by
        induction w with
        | zero => simp
        | succ w ih2 =>
          rw [List.range_succ, List.map_append, List.map_append, List.sum_append, List.sum_append, ih2]
          simp only [List.map_cons, List.map_nil, List.sum_cons, List.sum_nil]
          by_cases y : c b = w
          · rw [List.filter_cons_of_pos (by rw [pb, decide_eq_true y]; rfl), List.length_cons, if_neg (by omega), if_pos (by omega)]
            omega
          · rw [List.filter_cons_of_neg (by rw [pb, decide_eq_false y]; decide)]
            by_cases z : c b < w
            · rw [if_pos z, if_pos (by omega)]
              omega
            · rw [if_neg z, if_neg (by omega)]
              omega
      rw [step, if_pos cb]
    · rw [List.filter_cons_of_neg pb, ← ih]
      congr 2
      funext j
      rw [List.filter_cons_of_neg (by simp [pb])]
theorem filter_ne_len {B : List Nat} (nd : B.Nodup) (v : Nat) : (B.filter fun u => decide (u ≠ v)).length + (if v ∈ B then 1 else 0) = B.length := by
  induction B with
  | nil => simp
  | cons b B ih =>
    obtain ⟨nb, nd'⟩ := List.nodup_cons.mp nd
    have ih := ih nd'
    by_cases e : b = v
    · subst e
      rw [if_neg nb] at ih
      rw [List.filter_cons_of_neg (by simp), if_pos (List.mem_cons_self ..), List.length_cons]
      omega
    · rw [List.filter_cons_of_pos (by simp [e]), List.length_cons, List.length_cons]
      have m : (v ∈ b :: B) ↔ v ∈ B := by
        rw [List.mem_cons]
        exact ⟨fun z => z.resolve_left fun y => e y.symm, .inr⟩
      by_cases y : v ∈ B
      · rw [if_pos (m.mpr y)]
        rw [if_pos y] at ih
        omega
      · rw [if_neg (fun z => y (m.mp z))]
        rw [if_neg y] at ih
        omega
theorem both_len {A B : List Nat} (na : A.Nodup) (nb : B.Nodup) : (B.filter fun u => decide (u ∈ A)).length = (A.map fun v => if v ∈ B then 1 else 0).sum := by
  have e : (A.map fun v => if v ∈ B then 1 else 0).sum = (A.filter fun v => decide (v ∈ B)).length := by
    clear na
    induction A with
    | nil => rfl
    | cons a A ih =>
      rw [List.map_cons, List.sum_cons, ih, List.filter_cons]
      by_cases y : a ∈ B
      · rw [if_pos y, if_pos (decide_eq_true y), List.length_cons]
        omega
      · rw [if_neg y, if_neg (by simp [y])]
        omega
  rw [e]
  have a := sub_few (nb.filter fun u => decide (u ∈ A)) (m := A.filter fun v => decide (v ∈ B)) fun x hx => by
    obtain ⟨h1, h2⟩ := List.mem_filter.mp hx
    exact List.mem_filter.mpr ⟨of_decide_eq_true h2, decide_eq_true h1⟩
  have b := sub_few (na.filter fun v => decide (v ∈ B)) (m := B.filter fun u => decide (u ∈ A)) fun x hx => by
    obtain ⟨h1, h2⟩ := List.mem_filter.mp hx
    exact List.mem_filter.mpr ⟨of_decide_eq_true h2, decide_eq_true h1⟩
  omega
/-- a graph that is no more than just not perfect has more vertices than the clique number times the stable number -/
theorem many_of {f : Nat → Nat → Bool} {V A0 B0 : List Nat} {w : Nat} (sym : ∀ u v, f u v = f v u) (irr : ∀ v, f v v = false) (nV : V.Nodup) (w1 : 1 ≤ w) (mo : Most f V w) (nB : B0.Nodup) (B0V : ∀ v ∈ B0, v ∈ V) (cB : CliqF f B0) (lB : B0.length = w)
    (ih : ∀ V' : List Nat, V'.Nodup → (∀ v ∈ V', v ∈ V) → V'.length < V.length → ∀ k, Most f V' k → ColF f V' k) (nc : ¬ ColF f V w) (nA : A0.Nodup) (A0V : ∀ v ∈ A0, v ∈ V) (sA : StabF f A0) (a1 : 1 ≤ A0.length) : A0.length * w < V.length := by
  refine Nat.lt_of_not_le fun few => ?_
  obtain ⟨F, hF⟩ := pick_fun (p := fun v c => v ∈ V → (∀ u ∈ V, u ≠ v → c u < w) ∧ ∀ u ∈ V, ∀ x ∈ V, u ≠ v → x ≠ v → f u x = true → c u ≠ c x) fun v => by
    by_cases hv : v ∈ V
    · have l := filter_ne_len nV v
      rw [if_pos hv] at l
      obtain ⟨c, c1, c2⟩ := ih (V.filter fun u => decide (u ≠ v)) (nV.filter _) (fun u hu => (List.mem_filter.mp hu).1) (by omega) w fun B n s c => mo B n (fun u hu => (List.mem_filter.mp (s u hu)).1) c
      have mem : ∀ u ∈ V, u ≠ v → u ∈ V.filter fun u => decide (u ≠ v) := fun u hu ne => List.mem_filter.mpr ⟨hu, decide_eq_true ne⟩
      exact ⟨c, fun _ => ⟨fun u hu ne => c1 u (mem u hu ne), fun u hu x hx n1 n2 e => c2 u (mem u hu n1) x (mem x hx n2) e⟩⟩
    · exact ⟨fun _ => 0, fun z => absurd z hv⟩
  let T : Nat → Nat → Nat → Bool := fun v j u => (decide (u ∈ V) && decide (u ≠ v)) && decide (F v u = j)
  let fam : List (Nat → Bool) := (fun u => decide (u ∈ A0)) :: A0.flatMap fun v => (List.range w).map (T v)
  have lfl : ∀ A : List Nat, (A.flatMap fun v => (List.range w).map (T v)).length = A.length * w := fun A => by
    induction A with
    | nil => simp
    | cons a A ih => rw [List.flatMap_cons, List.length_append, ih, List.length_map, List.length_range, List.length_cons, Nat.succ_mul]; omega
  have lfam : fam.length = A0.length * w + 1 := by
    show (_ :: _).length = _
    rw [List.length_cons, lfl]
  have memF : ∀ s ∈ fam, (s = fun u => decide (u ∈ A0)) ∨ ∃ v ∈ A0, ∃ j, j < w ∧ s = T v j := fun s hs => by
    rcases List.mem_cons.mp hs with h | h
    · exact .inl h
    · obtain ⟨v, hv, h⟩ := List.mem_flatMap.mp h
      obtain ⟨j, hj, rfl⟩ := List.mem_map.mp h
      exact .inr ⟨v, hv, j, List.mem_range.mp hj, rfl⟩
  have stF : ∀ s ∈ fam, ∀ u x, s u = true → s x = true → f u x = false := fun s hs u x h1 h2 => by
    rcases memF s hs with rfl | ⟨v, hv, j, hj, rfl⟩
    · exact sA u (of_decide_eq_true h1) x (of_decide_eq_true h2)
    · have h1 : ((decide (u ∈ V) && decide (u ≠ v)) && decide (F v u = j)) = true := h1
      have h2 : ((decide (x ∈ V) && decide (x ≠ v)) && decide (F v x = j)) = true := h2
      simp only [Bool.and_eq_true, decide_eq_true_eq] at h1 h2
      cases e : f u x with
      | false => rfl
      | true => exact absurd (h1.2.trans h2.2.symm) ((hF v (A0V v hv)).2 u h1.1.1 x h2.1.1 h1.1.2 h2.1.2 e)
  have avoid : ∀ s ∈ fam, ∃ B : List Nat, B.Nodup ∧ (∀ v ∈ B, v ∈ V) ∧ CliqF f B ∧ B.length = w ∧ ∀ u ∈ B, s u = false := fun s hs => by
    apply Classical.byContradiction
    intro no
    by_cases y : ∃ v ∈ V, s v = true
    · obtain ⟨v0, hv0, sv0⟩ := y
      let V' := V.filter fun u => !s u
      have sm : V'.length < V.length := by
        have z := sub_few (l := v0 :: V') (m := V) (List.nodup_cons.mpr ⟨fun h => (by have := (List.mem_filter.mp h).2; rw [sv0] at this; cases this), nV.filter _⟩) fun x hx => by
          rcases List.mem_cons.mp hx with rfl | hx
          · exact hv0
          · exact (List.mem_filter.mp hx).1
        rw [List.length_cons] at z
        omega
      obtain ⟨c, c1, c2⟩ := ih V' (nV.filter _) (fun u hu => (List.mem_filter.mp hu).1) sm (w - 1) fun B n sb cl => by
        have z := mo B n (fun u hu => (List.mem_filter.mp (sb u hu)).1) cl
        have ne : B.length ≠ w := fun e => no ⟨B, n, fun u hu => (List.mem_filter.mp (sb u hu)).1, cl, e, fun u hu => by
          have := (List.mem_filter.mp (sb u hu)).2
          simpa using this⟩
        omega
      refine nc ⟨fun u => if s u = true then w - 1 else c u, fun u hu => ?_, fun u hu x hx e => ?_⟩
      · by_cases su : s u = true
        · show (if s u = true then w - 1 else c u) < w
          rw [if_pos su]; omega
        · show (if s u = true then w - 1 else c u) < w
          rw [if_neg su]
          have := c1 u (List.mem_filter.mpr ⟨hu, by simp [su]⟩)
          omega
      · show (if s u = true then w - 1 else c u) ≠ (if s x = true then w - 1 else c x)
        by_cases su : s u = true
        · by_cases sx : s x = true
          · rw [stF s hs u x su sx] at e
            cases e
          · rw [if_pos su, if_neg sx]
            have := c1 x (List.mem_filter.mpr ⟨hx, by simp [sx]⟩)
            omega
        · have mu : u ∈ V' := List.mem_filter.mpr ⟨hu, by simp [su]⟩
          by_cases sx : s x = true
          · rw [if_neg su, if_pos sx]
            have := c1 u mu
            omega
          · rw [if_neg su, if_neg sx]
            exact c2 u mu x (List.mem_filter.mpr ⟨hx, by simp [sx]⟩) e
    · refine no ⟨B0, nB, B0V, cB, lB, fun u hu => ?_⟩
      cases e : s u with
      | false => rfl
      | true => exact absurd ⟨u, B0V u hu, e⟩ y
  have total : ∀ B : List Nat, B.Nodup → (∀ v ∈ B, v ∈ V) → B.length = w → (fam.map fun s => (B.filter s).length).sum = A0.length * w := fun B n sb lw => by
    show (((fun u => decide (u ∈ A0)) :: A0.flatMap fun v => (List.range w).map (T v)).map fun s => (B.filter s).length).sum = _
    rw [List.map_cons, List.sum_cons, both_len nA n]
    have rest : ∀ A : List Nat, (∀ v ∈ A, v ∈ V) → (A.map fun v => if v ∈ B then 1 else 0).sum + ((A.flatMap fun v => (List.range w).map (T v)).map fun s => (B.filter s).length).sum = A.length * w := fun A => by
      induction A with
      | nil => intro _; simp
      | cons a A ih =>
        intro hA
        have ih := ih fun v hv => hA v (List.mem_cons_of_mem _ hv)
        rw [List.map_cons, List.sum_cons, List.flatMap_cons, List.map_append, List.sum_append, List.length_cons, Nat.succ_mul]
        have one : (((List.range w).map (T a)).map fun s => (B.filter s).length).sum + (if a ∈ B then 1 else 0) = w := by
          rw [List.map_map]
          have z := sum_classes (F a) (fun u => decide (u ∈ V) && decide (u ≠ a)) w B fun u hu h => by
            simp only [Bool.and_eq_true, decide_eq_true_eq] at h
            exact (hF a (hA a (List.mem_cons_self ..))).1 u h.1 h.2
          have e1 : ((fun s : Nat → Bool => (B.filter s).length) ∘ T a) = fun j => (B.filter fun u => (decide (u ∈ V) && decide (u ≠ a)) && decide (F a u = j)).length := rfl
          rw [e1, z]
          have e2 : (B.filter fun u => decide (u ∈ V) && decide (u ≠ a)) = B.filter fun u => decide (u ≠ a) := by
            refine List.filter_congr fun u hu => ?_
            rw [decide_eq_true (sb u hu), Bool.true_and]
          rw [e2, filter_ne_len n a, lw]
        omega
    have z := rest A0 A0V
    omega
  obtain ⟨cs, lc, ⟨x, hx, xn⟩, zero⟩ := few_cols V (fam.map fun s => fun v => if (s : Nat → Bool) v = true then (1 : Int) else 0) (by rw [List.length_map, lfam]; omega)
  rw [List.length_map] at lc
  have each : ∀ i, i < fam.length → cs[i]? = some cs.sum := fun i hi => by
    obtain ⟨B, n, sb, cl, lw, av⟩ := avoid fam[i] (List.getElem_mem _)
    have z := dot_sum fam cs B lc fun v hv => zero v (sb v hv)
    have ws1 : ∀ y ∈ fam.map fun s => (B.filter s).length, y ≤ 1 := fun y hy => by
      obtain ⟨s, hs, rfl⟩ := List.mem_map.mp hy
      exact one_few (stF s hs) n cl
    obtain ⟨c, h1, h2⟩ := one_out (cs := cs) (ws := fam.map fun s => (B.filter s).length) (i := i) (by rw [List.length_map, lc]) ws1 (by rw [total B n sb lw, List.length_map, lfam]) (by
      rw [List.getElem?_map, List.getElem?_eq_getElem hi]
      have e : B.filter fam[i] = [] := List.filter_eq_nil_iff.mpr fun u hu => by rw [av u hu]; decide
      show some (B.filter fam[i]).length = _
      rw [e]
      rfl)
    rw [z] at h2
    rw [h1]
    congr 1
    omega
  have all : ∀ y ∈ cs, y = cs.sum := fun y hy => by
    obtain ⟨i, hi, e⟩ := List.getElem_of_mem hy
    have z := each i (by omega)
    rw [List.getElem?_eq_getElem hi, e] at z
    exact Option.some.inj z
  have tot : ∀ (ds : List Int) (S : Int), (∀ y ∈ ds, y = S) → ds.sum = (ds.length : Int) * S := fun ds S => by
    induction ds with
    | nil => intro _; simp
    | cons d ds ih =>
      intro h
      rw [List.sum_cons, ih fun y hy => h y (List.mem_cons_of_mem _ hy), h d (List.mem_cons_self ..), List.length_cons]
      have e : ((ds.length + 1 : Nat) : Int) * S = (ds.length : Int) * S + 1 * S := by
        rw [← Int.add_mul]
        rfl
      rw [e]
      omega
  have s0 := tot cs cs.sum all
  have l2 : 2 ≤ cs.length := by
    rw [lc, lfam]
    have := Nat.mul_le_mul a1 w1
    omega
  have sz : cs.sum = 0 := by
    obtain ⟨d, hd⟩ : ∃ d : Nat, cs.length = d + 2 := ⟨cs.length - 2, by omega⟩
    rw [hd] at s0
    have e : ((d + 2 : Nat) : Int) * cs.sum = cs.sum + ((d + 1 : Nat) : Int) * cs.sum := by
      have e2 : ((d + 2 : Nat) : Int) = 1 + ((d + 1 : Nat) : Int) := by omega
      rw [e2, Int.add_mul, Int.one_mul]
    rw [e] at s0
    have z : ((d + 1 : Nat) : Int) * cs.sum = 0 := by omega
    rcases Int.mul_eq_zero.mp z with y | y
    · omega
    · exact y
  exact xn ((all x hx).trans sz)
/-! ### two colours -/
theorem min_ex {p : Nat → Prop} (h : ∃ n, p n) : ∃ n, p n ∧ ∀ m, p m → n ≤ m := by
  obtain ⟨n, hn⟩ := h
  induction n using Nat.strongRecOn with
  | ind n ih =>
    by_cases c : ∃ m, m < n ∧ p m
    · obtain ⟨m, ml, hm⟩ := c
      exact ih m ml hm
    · exact ⟨n, hn, fun m hm => Nat.le_of_not_lt fun z => c ⟨m, z, hm⟩⟩
/-- a walk of so many steps within V -/
def Wlk (f : Nat → Nat → Bool) (V : List Nat) : Nat → Nat → Nat → Prop
  | 0, u, v => u = v ∧ u ∈ V
  | n + 1, u, v => ∃ w, u ∈ V ∧ f u w = true ∧ Wlk f V n w v
section
variable {f : Nat → Nat → Bool} {V : List Nat}
theorem Wlk.fst : ∀ {n u v : Nat}, Wlk f V n u v → u ∈ V
  | 0, _, _, ⟨_, h⟩ => h
  | _ + 1, _, _, ⟨_, h, _⟩ => h
theorem Wlk.app : ∀ {n m u v w : Nat}, Wlk f V n u v → Wlk f V m v w → Wlk f V (n + m) u w
  | 0, m, u, v, w, ⟨e, _⟩, h => by subst e; rw [Nat.zero_add]; exact h
  | n + 1, m, u, v, w, ⟨x, h1, h2, h3⟩, h => by
    rw [Nat.succ_add]
    exact ⟨x, h1, h2, Wlk.app h3 h⟩
theorem Wlk.one {u v : Nat} (hu : u ∈ V) (hv : v ∈ V) (e : f u v = true) : Wlk f V 1 u v := ⟨v, hu, e, rfl, hv⟩
theorem Wlk.rev (sym : ∀ u v, f u v = f v u) : ∀ {n u v : Nat}, Wlk f V n u v → Wlk f V n v u
  | 0, u, v, ⟨e, h⟩ => by subst e; exact ⟨rfl, h⟩
  | n + 1, u, v, ⟨x, h1, h2, h3⟩ => (Wlk.rev sym h3).app (.one h3.fst h1 (by rw [sym]; exact h2))
theorem Wlk.list : ∀ {n u v : Nat}, Wlk f V n u v → ∃ c : Nat → Nat, c 0 = u ∧ c n = v ∧ (∀ i, i ≤ n → c i ∈ V) ∧ ∀ i, i < n → f (c i) (c (i + 1)) = true
  | 0, u, v, ⟨e, h⟩ => ⟨fun _ => u, rfl, e, fun _ _ => h, fun i hi => absurd hi (Nat.not_lt_zero i)⟩
  | n + 1, u, v, ⟨x, h1, h2, h3⟩ => by
    obtain ⟨c, c0, cn, cv, cs⟩ := Wlk.list h3
    refine ⟨fun i => if i = 0 then u else c (i - 1), if_pos rfl, ?_, fun i hi => ?_, fun i hi => ?_⟩
    · show (if n + 1 = 0 then u else c (n + 1 - 1)) = v
      rw [if_neg (by omega)]
      exact cn
    · show (if i = 0 then u else c (i - 1)) ∈ V
      by_cases z : i = 0
      · rw [if_pos z]; exact h1
      · rw [if_neg z]; exact cv (i - 1) (by omega)
    · show f (if i = 0 then u else c (i - 1)) (if i + 1 = 0 then u else c (i + 1 - 1)) = true
      rw [if_neg (show ¬ i + 1 = 0 by omega)]
      by_cases z : i = 0
      · subst z
        rw [if_pos rfl]
        show f u (c 0) = true
        rw [c0]
        exact h2
      · rw [if_neg z]
        have y := cs (i - 1) (by omega)
        rw [show i - 1 + 1 = i by omega] at y
        exact y
theorem seg {n : Nat} {c : Nat → Nat} (cv : ∀ i, i ≤ n → c i ∈ V) (cs : ∀ i, i < n → f (c i) (c (i + 1)) = true) : ∀ (d i : Nat), i + d ≤ n → Wlk f V d (c i) (c (i + d))
  | 0, i, h => ⟨rfl, cv i (by omega)⟩
  | d + 1, i, h => by
    have y := seg cv cs d (i + 1) (by omega)
    rw [show i + 1 + d = i + (d + 1) by omega] at y
    exact ⟨c (i + 1), cv i (by omega), cs i (by omega), y⟩
/-- a ring of five, seven or nine -/
def RingF (f : Nat → Nat → Bool) (V : List Nat) : Prop := ∃ c : List Nat, (c.length = 5 ∨ c.length = 7 ∨ c.length = 9) ∧ c.Nodup ∧ (∀ v ∈ c, v ∈ V) ∧ ∀ i j, i < c.length → j < c.length → (f (c.getD i 0) (c.getD j 0) = true ↔ Beside c.length i j)
theorem two_cols (sym : ∀ u v, f u v = f v u) (irr : ∀ v, f v v = false) (V9 : V.length ≤ 9) (mo : Most f V 2) (no : ¬ RingF f V) : ColF f V 2 := by
  by_cases odd : ∃ k, k % 2 = 1 ∧ ∃ u, Wlk f V k u u
  · exfalso
    obtain ⟨k, ⟨k1, u, w⟩, least⟩ := min_ex odd
    have short : ∀ m v, m % 2 = 1 → m < k → ¬ Wlk f V m v v := fun m v m1 mk h => by
      have := least m ⟨m1, v, h⟩
      omega
    obtain ⟨c, c0, ck, cv, cs⟩ := w.list
    have ek : c k = c 0 := by rw [ck, c0]
    have back : ∀ i j, i ≤ j → j ≤ k → Wlk f V (k - (j - i)) (c j) (c i) := fun i j ij jk => by
      have a := seg cv cs (k - j) j (by omega)
      rw [show j + (k - j) = k by omega, ek] at a
      have b := seg cv cs i 0 (by omega)
      rw [Nat.zero_add] at b
      have y := a.app b
      rw [show k - j + i = k - (j - i) by omega] at y
      exact y
    have fore : ∀ i j, i ≤ j → j ≤ k → Wlk f V (j - i) (c i) (c j) := fun i j ij jk => by
      have a := seg cv cs (j - i) i (by omega)
      rw [show i + (j - i) = j by omega] at a
      exact a
    have dist : ∀ i j, i < j → j < k → c i ≠ c j := fun i j ij jk e => by
      have a := fore i j (by omega) (by omega)
      have b := back i j (by omega) (by omega)
      rw [← e] at a b
      by_cases p : (j - i) % 2 = 1
      · exact short _ _ p (by omega) a
      · exact short _ _ (by omega) (by omega) b
    have chord : ∀ i j, i < j → j < k → f (c i) (c j) = true → i + 1 = j ∨ (i = 0 ∧ j + 1 = k) := fun i j ij jk e => by
      by_cases p : i + 1 = j
      · exact .inl p
      by_cases q : i = 0 ∧ j + 1 = k
      · exact .inr q
      exfalso
      have a := (fore i j (by omega) (by omega)).app (.one (cv j (by omega)) (cv i (by omega)) (by rw [sym]; exact e))
      have b := (back i j (by omega) (by omega)).app (.one (cv i (by omega)) (cv j (by omega)) e)
      by_cases r : (j - i) % 2 = 1
      · exact short _ _ (by omega) (by omega) b
      · exact short _ _ (by omega) (by omega) a
    have last : 1 < k → f (c (k - 1)) (c 0) = true := fun h => by
      have y := cs (k - 1) (by omega)
      rw [show k - 1 + 1 = k by omega, ek] at y
      exact y
    have kn1 : k ≠ 1 := fun z => by
      have y := cs 0 (by omega)
      rw [show 0 + 1 = k by omega, ek, irr] at y
      cases y
    have kn3 : k ≠ 3 := fun z => by
      subst z
      have y := mo [c 0, c 1, c 2] (by
        have d1 := dist 0 1 (by omega) (by omega)
        have d2 := dist 0 2 (by omega) (by omega)
        have d3 := dist 1 2 (by omega) (by omega)
        simp [d1, d2, d3]) (fun v hv => by
          simp only [List.mem_cons, List.mem_nil_iff, or_false] at hv
          rcases hv with rfl | rfl | rfl
          · exact cv 0 (by omega)
          · exact cv 1 (by omega)
          · exact cv 2 (by omega)) (fun a ha b hb ne => by
          have e01 := cs 0 (by omega)
          have e12 := cs 1 (by omega)
          have e20 := last (by omega)
          have e10 := e01
          have e21 := e12
          have e02 := e20
          rw [sym] at e10 e21 e02
          simp only [List.mem_cons, List.mem_nil_iff, or_false] at ha hb
          rcases ha with rfl | rfl | rfl <;> rcases hb with rfl | rfl | rfl
          · exact absurd rfl ne
          · exact e01
          · exact e02
          · exact e10
          · exact absurd rfl ne
          · exact e12
          · exact e20
          · exact e21
          · exact absurd rfl ne)
      simp at y
    let cl := (List.range k).map c
    have lcl : cl.length = k := by show ((List.range k).map c).length = k; rw [List.length_map, List.length_range]
    have gcl : ∀ i, i < k → cl.getD i 0 = c i := fun i hi => by
      show ((List.range k).map c).getD i 0 = _
      rw [List.getD_eq_getElem?_getD, List.getElem?_map, List.getElem?_range hi]
      rfl
    have ncl : cl.Nodup := by
      show List.Pairwise _ ((List.range k).map c)
      rw [List.pairwise_map]
      refine List.Pairwise.imp_of_mem ?_ (List.pairwise_lt_range (n := k))
      intro a b ha hb ab
      exact dist a b ab (List.mem_range.mp hb)
    have vcl : ∀ v ∈ cl, v ∈ V := fun v hv => by
      obtain ⟨i, hi, rfl⟩ := List.mem_map.mp hv
      exact cv i (by have := List.mem_range.mp hi; omega)
    have k9 := sub_few ncl vcl
    rw [lcl] at k9
    refine no ⟨cl, by rw [lcl]; omega, ncl, vcl, fun i j hi hj => ?_⟩
    rw [lcl] at hi hj ⊢
    rw [gcl i hi, gcl j hj]
    unfold Beside
    constructor
    · intro e
      rcases Nat.lt_trichotomy i j with h | h | h
      · rcases chord i j h hj e with z | z
        · exact .inl z
        · exact .inr (.inr (.inl z))
      · subst h
        rw [irr] at e
        cases e
      · rcases chord j i h hi (by rw [sym]; exact e) with z | z
        · exact .inr (.inl z)
        · exact .inr (.inr (.inr z))
    · rintro (z | z | ⟨z1, z2⟩ | ⟨z1, z2⟩)
      · have y := cs i (by omega)
        rw [z] at y
        exact y
      · have y := cs j (by omega)
        rw [z, sym] at y
        exact y
      · have y := last (by omega)
        rw [show k - 1 = j by omega, sym] at y
        rw [z1]
        exact y
      · have y := last (by omega)
        rw [show k - 1 = i by omega] at y
        rw [z1]
        exact y
  · have evn : ∀ k u, Wlk f V k u u → k % 2 = 0 := fun k u h => by
      rcases Nat.mod_two_eq_zero_or_one k with z | z
      · exact z
      · exact absurd ⟨k, z, u, h⟩ odd
    let Rt : Nat → Nat → Prop := fun v r => (∃ n, Wlk f V n r v) ∧ ∀ r', (∃ n, Wlk f V n r' v) → r ≤ r'
    let Ev : Nat → Prop := fun v => ∃ r n, Rt v r ∧ n % 2 = 0 ∧ Wlk f V n r v
    refine ⟨fun v => if Ev v then 0 else 1, fun u _ => ?_, fun u hu v hv e => ?_⟩
    · show (if Ev u then 0 else 1) < 2
      split <;> omega
    · show (if Ev u then 0 else 1) ≠ (if Ev v then 0 else 1)
      have uv : Wlk f V 1 u v := .one hu hv e
      have vu : Wlk f V 1 v u := uv.rev sym
      have same : ∀ r, Rt u r ↔ Rt v r := fun r => by
        have tr : ∀ {a b : Nat}, Wlk f V 1 a b → ∀ r', (∃ n, Wlk f V n r' a) → ∃ n, Wlk f V n r' b := fun w r' ⟨n, h⟩ => ⟨n + 1, h.app w⟩
        exact ⟨fun ⟨a, b⟩ => ⟨tr uv r a, fun r' h => b r' (tr vu r' h)⟩, fun ⟨a, b⟩ => ⟨tr vu r a, fun r' h => b r' (tr uv r' h)⟩⟩
      obtain ⟨r, hr⟩ : ∃ r, Rt u r := min_ex (p := fun r => ∃ n, Wlk f V n r u) ⟨u, 0, rfl, hu⟩
      have one : ∀ {v r r'}, Rt v r → Rt v r' → r = r' := fun a b => Nat.le_antisymm (a.2 _ b.1) (b.2 _ a.1)
      by_cases eu : Ev u
      · by_cases ev : Ev v
        · exfalso
          obtain ⟨r1, n1, h1, p1, w1⟩ := eu
          obtain ⟨r2, n2, h2, p2, w2⟩ := ev
          have e12 := one ((same r1).mp h1) h2
          subst e12
          have z := evn _ _ (((w1.rev sym).app w2).app vu)
          omega
        · rw [if_pos eu, if_neg ev]; omega
      · by_cases ev : Ev v
        · rw [if_neg eu, if_pos ev]; omega
        · exfalso
          obtain ⟨n, w⟩ := hr.1
          rcases Nat.mod_two_eq_zero_or_one n with z | z
          · exact eu ⟨r, n, hr, z, w⟩
          · exact ev ⟨r, n + 1, (same r).mp hr, by omega, w.app uv⟩
end
/-! ### the strong perfect graph theorem, of up to nine vertices -/
def compF (f : Nat → Nat → Bool) (u v : Nat) : Bool := decide (u ≠ v) && !f u v
theorem max_ex {p : Nat → Prop} (h : ∃ n, p n) {b : Nat} (hb : ∀ n, p n → n ≤ b) : ∃ n, p n ∧ ∀ m, p m → m ≤ n := by
  obtain ⟨d, ⟨n, hn, e⟩, l⟩ := min_ex (p := fun d => ∃ n, p n ∧ n + d = b) (by
    obtain ⟨n, hn⟩ := h
    exact ⟨b - n, n, hn, by have := hb n hn; omega⟩)
  refine ⟨n, hn, fun m hm => ?_⟩
  have := l (b - m) ⟨m, hm, by have := hb m hm; omega⟩
  have := hb m hm
  omega
theorem spgt {f : Nat → Nat → Bool} (sym : ∀ u v, f u v = f v u) (irr : ∀ v, f v v = false) : ∀ (N : Nat) (V : List Nat), V.length = N → V.Nodup → V.length ≤ 9 → ¬ RingF f V → ¬ RingF (compF f) V → ∀ k, Most f V k → ColF f V k := fun N => by
  induction N using Nat.strongRecOn with
  | ind N IH =>
    intro V lV nV V9 no1 no2 k mk
    apply Classical.byContradiction
    intro nck
    have sub1 : ∀ {g : Nat → Nat → Bool} {V' : List Nat}, (∀ v ∈ V', v ∈ V) → RingF g V' → RingF g V := fun s ⟨c, a, b, d, e⟩ => ⟨c, a, b, fun v hv => s v (d v hv), e⟩
    have ih : ∀ V' : List Nat, V'.Nodup → (∀ v ∈ V', v ∈ V) → V'.length < V.length → ∀ k, Most f V' k → ColF f V' k := fun V' n s l k m =>
      IH V'.length (by omega) V' rfl n (by omega) (fun z => no1 (sub1 s z)) (fun z => no2 (sub1 s z)) k m
    obtain ⟨w, ⟨B0, nB, sB, cB, lB⟩, wm⟩ := max_ex (p := fun n => ∃ B : List Nat, B.Nodup ∧ (∀ v ∈ B, v ∈ V) ∧ CliqF f B ∧ B.length = n) ⟨0, [], .nil, (fun _ h => (nomatch h)), (fun _ h => (nomatch h)), rfl⟩ (b := k) fun n ⟨B, n1, n2, n3, n4⟩ => by rw [← n4]; exact mk B n1 n2 n3
    have mw : Most f V w := fun B n1 n2 n3 => wm _ ⟨B, n1, n2, n3, rfl⟩
    have wk : w ≤ k := by rw [← lB]; exact mk B0 nB sB cB
    have nc : ¬ ColF f V w := fun z => nck (z.mono wk)
    obtain ⟨a, ⟨A0, nA, sA, tA, lA⟩, am⟩ := max_ex (p := fun n => ∃ A : List Nat, A.Nodup ∧ (∀ v ∈ A, v ∈ V) ∧ StabF f A ∧ A.length = n) ⟨0, [], .nil, (fun _ h => (nomatch h)), (fun _ h => (nomatch h)), rfl⟩ (b := V.length) fun n ⟨A, n1, n2, n3, n4⟩ => by rw [← n4]; exact sub_few n1 n2
    have ne : ∃ v, v ∈ V := by
      cases V with
      | nil => exact absurd ⟨fun _ => 0, fun _ h => (nomatch h), fun _ h => nomatch h⟩ nc
      | cons v _ => exact ⟨v, List.mem_cons_self ..⟩
    obtain ⟨v0, hv0⟩ := ne
    have one : ∀ v ∈ ([v0] : List Nat), v ∈ V := fun v hv => by rw [List.mem_singleton.mp hv]; exact hv0
    have w1 : 1 ≤ w := wm 1 ⟨[v0], by simp, one, fun u hu v hv ne => by rw [List.mem_singleton.mp hu, List.mem_singleton.mp hv] at ne; exact absurd rfl ne, rfl⟩
    have a1 : 1 ≤ a := am 1 ⟨[v0], by simp, one, fun u hu v hv => by rw [List.mem_singleton.mp hu, List.mem_singleton.mp hv]; exact irr v0, rfl⟩
    have many := many_of sym irr nV w1 mw nB sB cB lB ih nc nA sA tA (by rw [lA]; exact a1)
    rw [lA] at many
    by_cases w2 : w ≤ 2
    · by_cases w3 : w = 1
      · subst w3
        refine nc ⟨fun _ => 0, fun _ _ => Nat.one_pos, fun u hu v hv e => ?_⟩
        exfalso
        have uv : u ≠ v := fun z => by rw [z, irr] at e; cases e
        have y := mw [u, v] (by simp [uv]) (fun x hx => by
          simp only [List.mem_cons, List.mem_nil_iff, or_false] at hx
          rcases hx with rfl | rfl
          · exact hu
          · exact hv) (fun x hx y hy xy => by
          simp only [List.mem_cons, List.mem_nil_iff, or_false] at hx hy
          rcases hx with rfl | rfl <;> rcases hy with rfl | rfl
          · exact absurd rfl xy
          · exact e
          · rw [sym]; exact e
          · exact absurd rfl xy)
        simp at y
      · have : w = 2 := by omega
        subst this
        exact nc (two_cols sym irr V9 mw no1)
    · by_cases a2 : a ≤ 2
      · have am' : ∀ A : List Nat, A.Nodup → (∀ v ∈ A, v ∈ V) → StabF f A → A.length ≤ a := fun A n1 n2 n3 => am _ ⟨A, n1, n2, n3, rfl⟩
        have stab_of : ∀ A : List Nat, CliqF (compF f) A → StabF f A := fun A h u hu v hv => by
          by_cases e : u = v
          · subst e; exact irr u
          · have y := h u hu v hv e
            unfold compF at y
            rw [Bool.and_eq_true] at y
            simpa using y.2
        by_cases a3 : a = 1
        · subst a3
          have z := wm V.length ⟨V, nV, fun _ h => h, fun u hu v hv uv => by
            cases e : f u v with
            | true => rfl
            | false =>
              exfalso
              have y := am' [u, v] (by simp [uv]) (fun x hx => by
                simp only [List.mem_cons, List.mem_nil_iff, or_false] at hx
                rcases hx with rfl | rfl
                · exact hu
                · exact hv) (fun x hx y hy => by
                simp only [List.mem_cons, List.mem_nil_iff, or_false] at hx hy
                rcases hx with rfl | rfl <;> rcases hy with rfl | rfl
                · exact irr _
                · exact e
                · rw [sym]; exact e
                · exact irr _)
              simp at y, rfl⟩
          omega
        · have : a = 2 := by omega
          subst this
          obtain ⟨c, c1, c2⟩ := two_cols (f := compF f) (V := V) (fun u v => by
            unfold compF
            rw [sym u v]
            congr 1
            exact decide_eq_decide.mpr ⟨Ne.symm, Ne.symm⟩) (fun v => by unfold compF; simp) V9 (fun B n1 n2 n3 => am' B n1 n2 (stab_of B n3)) no2
          have cls : ∀ i, (V.filter fun u => decide (c u = i)).length ≤ w := fun i => mw _ (nV.filter _) (fun u hu => (List.mem_filter.mp hu).1) fun u hu v hv uv => by
            obtain ⟨u1, u2⟩ := List.mem_filter.mp hu
            obtain ⟨v1, v2⟩ := List.mem_filter.mp hv
            cases e : f u v with
            | true => rfl
            | false => exact absurd ((of_decide_eq_true u2).trans (of_decide_eq_true v2).symm) (c2 u u1 v v1 (by unfold compF; rw [decide_eq_true uv, e]; rfl))
          have z := sum_classes c (fun _ => true) 2 V fun u hu _ => c1 u hu
          have e0 := cls 0
          have e1 := cls 1
          have ft : V.filter (fun _ => true) = V := List.filter_eq_self.mpr fun _ _ => rfl
          rw [ft, List.range_succ, List.range_succ, List.range_zero] at z
          simp only [Bool.true_and, List.nil_append, List.map_append, List.map_cons, List.map_nil, List.sum_append, List.sum_cons, List.sum_nil] at z
          omega
      · have := Nat.mul_le_mul (show 3 ≤ a by omega) (show 3 ≤ w by omega)
        omega
end My

set_option maxHeartbeats 4000000
/-! The odd rounds of a lot. -/
namespace My
open PySem PySem.Spec PyProof.Rows L2
def odd1 (l : List Nat) (q : Bool × List E2) : List (Bool × List Nat) := if (roundL (adjB q.2) l).isEmpty = true then [] else [(q.1, roundL (adjB q.2) l)]
/-- the odd rounds of a lot: in the graph es, and in fs -/
def oddOf (es fs : List E2) (l : List Nat) : List (Bool × List Nat) := if l.length = 5 ∨ l.length = 7 ∨ l.length = 9 then [(true, es), (false, fs)].flatMap (odd1 l) else []
def flipE (n : Nat) (es : List E2) : List E2 := tabP n fun i j => !adjB es i j
def OddT (H : Hp) (x : V) (q : Bool × List Nat) : Prop := ∃ u v : Addr, x = .ref u ∧ H u = some (.tup [.bl q.1, .ref v]) ∧ H v = some (.tup (numsN q.2))
abbrev OddsT (H : Hp) : List V → List (Bool × List Nat) → Prop := Paired (OddT H)
theorem OddT.same {H H' : Hp} (s : Same H H') {x : V} {q : Bool × List Nat} (h : OddT H x q) : OddT H' x q := by
  obtain ⟨u, v, e, h1, h2⟩ := h
  exact ⟨u, v, e, s _ _ h1, s _ _ h2⟩
theorem OddsT.same {H H' : Hp} (s : Same H H') {xs : List V} {qs : List (Bool × List Nat)} (h : OddsT H xs qs) : OddsT H' xs qs := Paired.mapP h fun _ _ z => z.same s
theorem OddsT.snoc {H : Hp} {xs : List V} {qs : List (Bool × List Nat)} {x : V} {q : Bool × List Nat} (h : OddsT H xs qs) (k : OddT H x q) : OddsT H (xs ++ [x]) (qs ++ [q]) := by
  induction h with
  | nil => exact .cons k .nil
  | cons a _ ih => exact .cons a ih
theorem odd1_len (l : List Nat) (q : Bool × List E2) : (odd1 l q).length ≤ 1 := by
  unfold odd1
  split <;> simp
theorem oddOf_len (es fs : List E2) (l : List Nat) : (oddOf es fs l).length ≤ 2 := by
  unfold oddOf
  split
  · have h1 := odd1_len l (true, es)
    have h2 := odd1_len l (false, fs)
    simp only [List.flatMap_cons, List.flatMap_nil, List.length_append, List.length_nil]
    omega
  · exact Nat.zero_le _
theorem odds_len (es fs : List E2) : ∀ L : List (List Nat), (L.flatMap (oddOf es fs)).length ≤ 2 * L.length
  | [] => Nat.le_refl _
  | l :: L => by
    have ih := odds_len es fs L
    have h1 := oddOf_len es fs l
    rw [List.flatMap_cons, List.length_append, List.length_cons]
    omega
theorem adj_self {n : Nat} {es : List E2} (g : Good n es) (v : Nat) : adjB es v v = false := by
  cases h : adjB es v v with
  | false => rfl
  | true => exact absurd rfl (adj_ne g h).1
theorem tab_adj {n : Nat} {ff : Nat → Nat → Bool} (sym : ∀ u v, ff u v = ff v u) {a b : Nat} (ha : a < n) (hb : b < n) (c : a ≠ b) : adjB (tabP n ff) a b = ff a b := by
  have key : ∀ u v, u < v → v < n → adjB (tabP n ff) u v = ff u v := fun u v uv vn => by
    unfold adjB tabP
    rw [Nat.min_eq_left (by omega), Nat.max_eq_right (by omega), Bool.eq_iff_iff, decide_eq_true_eq, List.mem_filter]
    exact ⟨fun z => z.2, fun z => ⟨mem_allP.mpr ⟨uv, vn⟩, z⟩⟩
  rcases Nat.lt_or_gt_of_ne c with z | z
  · exact key a b z hb
  · rw [adj_comm _ a b, sym a b]
    exact key b a z ha
theorem odd_ring {n : Nat} {es : List E2} {l : List Nat} {q : Bool × List Nat} (g : Good n es) (nd : l.Nodup) (h : q ∈ oddOf es (flipE n es) l) : (l.length = 5 ∨ l.length = 7 ∨ l.length = 9) ∧ RingOf (adjB (if q.1 = true then es else flipE n es)) l q.2 := by
  unfold oddOf at h
  split at h
  · rename_i c
    refine ⟨c, ?_⟩
    obtain ⟨p, hp, hq⟩ := List.mem_flatMap.mp h
    unfold odd1 at hq
    split at hq
    · cases hq
    · rename_i ne
      obtain rfl := List.mem_singleton.mp hq
      have ne : roundL (adjB p.2) l ≠ [] := fun z => ne (by rw [z]; rfl)
      have key : ∀ fs, Good n fs → roundL (adjB fs) l ≠ [] → RingOf (adjB fs) l (roundL (adjB fs) l) := fun fs gf ne => by
        obtain ⟨l4, al, len, cnd, sub, st⟩ := round_is ne
        obtain ⟨mm, ri⟩ := ring_is nd (fun u v => adj_comm _ u v) (adj_self gf) ne
        exact ⟨mm, cnd, len, fun i j hi hj => by rw [len] at hi hj ⊢; exact ri i j hi hj⟩
      simp only [List.mem_cons, List.mem_nil_iff, or_false] at hp
      rcases hp with rfl | rfl
      · exact key es g ne
      · exact key (flipE n es) (tab_good g.n9 _) ne
  · cases h
theorem odd_of {n : Nat} {es : List E2} {l c : List Nat} (b : Bool) (g : Good n es) (nd : l.Nodup) (lm : l.length = 5 ∨ l.length = 7 ∨ l.length = 9) (r : RingOf (adjB (if b = true then es else flipE n es)) l c) : oddOf es (flipE n es) l ≠ [] := by
  have gf : Good n (if b = true then es else flipE n es) := by
    split
    · exact g
    · exact tab_good g.n9 _
  have told := r.told nd (by omega) (fun u v => adj_comm _ u v) (adj_self gf)
  intro e
  unfold oddOf at e
  rw [if_pos lm, List.flatMap_eq_nil_iff] at e
  have z : odd1 l (b, if b = true then es else flipE n es) = [] := by
    cases b with
    | true => exact e (true, es) (by simp)
    | false => exact e (false, flipE n es) (by simp)
  unfold odd1 at z
  have ne : ¬ (roundL (adjB (if b = true then es else flipE n es)) l).isEmpty = true := fun y => told (List.isEmpty_iff.mp y)
  rw [if_neg ne] at z
  cases z
/-- a clique of a ring -/
theorem ring_clq {f : Nat → Nat → Bool} {l c B : List Nat} (r : RingOf f l c) (l4 : 4 ≤ l.length) (nB : B.Nodup) (sB : ∀ v ∈ B, v ∈ l) (cl : CliqF f B) : B.length ≤ 2 := by
  match B, nB, sB, cl with
  | [], _, _, _ => exact Nat.zero_le _
  | [_], _, _, _ => show 1 ≤ 2; decide
  | [_, _], _, _, _ => exact Nat.le_refl _
  | x :: y :: z :: t, nB, sB, cl =>
    exfalso
    have len := r.len
    have mx : x ∈ x :: y :: z :: t := by simp
    have my : y ∈ x :: y :: z :: t := by simp
    have mz : z ∈ x :: y :: z :: t := by simp
    have xy : x ≠ y := fun e => by subst e; simp at nB
    have xz : x ≠ z := fun e => by subst e; simp at nB
    have yz : y ≠ z := fun e => by subst e; simp at nB
    have a1 := cl x mx y my xy
    have a2 := cl x mx z mz xz
    have a3 := cl y my z mz yz
    obtain ⟨i, hi, ei⟩ := gD_place ((r.mem x).mpr (sB x mx))
    obtain ⟨j, hj, ej⟩ := gD_place ((r.mem y).mpr (sB y my))
    obtain ⟨k, hk, ek⟩ := gD_place ((r.mem z).mpr (sB z mz))
    have ij : i ≠ j := fun e => xy (by rw [← ei, ← ej, e])
    have ik : i ≠ k := fun e => xz (by rw [← ei, ← ek, e])
    have jk : j ≠ k := fun e => yz (by rw [← ej, ← ek, e])
    rw [← ei, ← ej, r.adj i j hi hj] at a1
    rw [← ei, ← ek, r.adj i k hi hk] at a2
    rw [← ej, ← ek, r.adj j k hj hk] at a3
    unfold Beside at a1 a2 a3
    omega
/-- a stable set of a ring -/
theorem ring_stb {f : Nat → Nat → Bool} {l c B : List Nat} (r : RingOf f l c) (nl : l.Nodup) (l4 : 4 ≤ l.length) (nB : B.Nodup) (sB : ∀ v ∈ B, v ∈ l) (st : ∀ u ∈ B, ∀ v ∈ B, u ≠ v → f u v = false) : 2 * B.length ≤ l.length := by
  have len := r.len
  let pl : Nat → Nat := fun v => c.idxOf v
  have hpl : ∀ v ∈ l, pl v < c.length ∧ c.getD (pl v) 0 = v := fun v hv => by
    have h := List.idxOf_lt_length_of_mem ((r.mem v).mpr hv)
    exact ⟨h, by rw [gD h]; exact List.getElem_idxOf h⟩
  let nx : Nat → Nat := fun v => c.getD (nextI c.length (pl v)) 0
  have nlt : ∀ i, i < c.length → nextI c.length i < c.length := fun i hi => by unfold nextI; split <;> omega
  have ninj : ∀ u ∈ B, ∀ v ∈ B, nx u = nx v → u = v := fun u hu v hv e => by
    obtain ⟨a1, a2⟩ := hpl u (sB u hu)
    obtain ⟨b1, b2⟩ := hpl v (sB v hv)
    have z := gD_inj r.nd (nlt _ a1) (nlt _ b1) e
    have y : pl u = pl v := by
      unfold nextI at z
      split at z <;> split at z <;> omega
    rw [← a2, ← b2, y]
  have nadj : ∀ v ∈ B, f v (nx v) = true ∧ v ≠ nx v := fun v hv => by
    obtain ⟨b1, b2⟩ := hpl v (sB v hv)
    have z := (r.adj (pl v) (nextI c.length (pl v)) b1 (nlt _ b1)).mpr (by
      unfold nextI Beside
      split <;> omega)
    rw [b2] at z
    refine ⟨z, fun e => ?_⟩
    have y := gD_inj r.nd b1 (nlt _ b1) (b2.trans e)
    unfold nextI at y
    split at y <;> omega
  have nd : (B ++ B.map nx).Nodup := by
    rw [List.nodup_append]
    refine ⟨nB, ?_, fun a ha b hb e => ?_⟩
    · show List.Pairwise _ _
      rw [List.pairwise_map]
      refine List.Pairwise.imp_of_mem ?_ nB
      intro a b ha hb ne e
      exact ne (ninj a ha b hb e)
    · subst e
      obtain ⟨v, hv, e⟩ := List.mem_map.mp hb
      obtain ⟨z1, z2⟩ := nadj v hv
      have y := st v hv a ha (by rw [← e]; exact z2)
      rw [← e, z1] at y
      cases y
  have z := sub_few nd (m := l) fun x hx => by
    rcases List.mem_append.mp hx with hx | hx
    · exact sB x hx
    · obtain ⟨v, hv, rfl⟩ := List.mem_map.mp hx
      exact (r.mem _).mp (gD_mem (nlt _ (hpl v (sB v hv)).1))
  rw [List.length_append, List.length_map] at z
  omega
theorem sum_le {g : Nat → Nat} {s : Nat} (h : ∀ j, g j ≤ s) : ∀ k, ((List.range k).map g).sum ≤ k * s := by
  intro k
  induction k with
  | zero => simp
  | succ k ih =>
    have := h k
    rw [List.range_succ, List.map_append, List.sum_append, Nat.succ_mul]
    simp only [List.map_cons, List.map_nil, List.sum_cons, List.sum_nil]
    omega
theorem col_few {F : Nat → Nat → Bool} {l : List Nat} {k s : Nat} (nl : l.Nodup) (h : ColF F l k) (st : ∀ B : List Nat, B.Nodup → (∀ v ∈ B, v ∈ l) → (∀ u ∈ B, ∀ v ∈ B, u ≠ v → F u v = false) → B.length ≤ s) : l.length ≤ k * s := by
  obtain ⟨c, c1, c2⟩ := h
  have z := sum_classes c (fun _ => true) k l fun u hu _ => c1 u hu
  have ft : l.filter (fun _ => true) = l := List.filter_eq_self.mpr fun _ _ => rfl
  rw [ft] at z
  rw [← z]
  have each : ∀ j, (l.filter fun u => true && decide (c u = j)).length ≤ s := fun j => st _ (nl.filter _) (fun u hu => (List.mem_filter.mp hu).1) fun u hu v hv _ => by
    obtain ⟨u1, u2⟩ := List.mem_filter.mp hu
    obtain ⟨v1, v2⟩ := List.mem_filter.mp hv
    simp only [Bool.true_and, decide_eq_true_eq] at u2 v2
    cases e : F u v with
    | false => rfl
    | true => exact absurd (u2.trans v2.symm) (c2 u u1 v v1 e)
  exact sum_le each k
end My

set_option maxHeartbeats 4000000
/-! Perfect graphs, by chromatic and clique numbers and by odd rounds. -/
namespace My
open PySem PySem.Spec PyProof.Rows L2
/-- no odd hole and no odd antihole -/
def Perf (n : Nat) (es : List E2) : Prop := ∀ l, LotOk n l → oddOf es (flipE n es) l = []
theorem comp_adj {n : Nat} {es : List E2} (g : Good n es) {u v : Nat} (hu : u < n) (hv : v < n) : adjB (flipE n es) u v = compF (adjB es) u v := by
  unfold compF
  by_cases e : u = v
  · subst e
    have gf : Good n (flipE n es) := tab_good g.n9 _
    rw [adj_self gf]
    simp
  · rw [decide_eq_true e, Bool.true_and]
    exact tab_adj (fun u v => by rw [adj_comm]) hu hv e
theorem ring_bad {n : Nat} {es : List E2} (g : Good n es) (p : Perf n es) {V : List Nat} (lt : ∀ v ∈ V, v < n) (b : Bool) : ¬ RingF (if b = true then adjB es else compF (adjB es)) V := by
  rintro ⟨c, cm, cn, cV, ca⟩
  let l := (List.range n).filter fun v => decide (v ∈ c)
  have up : l.Pairwise (· < ·) := List.pairwise_lt_range.filter _
  have lo : LotOk n l := ⟨fun k hk => List.mem_range.mp (List.mem_filter.mp hk).1, up⟩
  have nl : l.Nodup := up.imp fun z => Nat.ne_of_lt z
  have mem : ∀ v, v ∈ c ↔ v ∈ l := fun v => by
    show v ∈ c ↔ v ∈ (List.range n).filter _
    rw [List.mem_filter, List.mem_range, decide_eq_true_eq]
    exact ⟨fun h => ⟨lt v (cV v h), h⟩, fun h => h.2⟩
  have len : c.length = l.length := by
    have a := sub_few cn fun v hv => (mem v).mp hv
    have b := sub_few nl fun v hv => (mem v).mpr hv
    omega
  refine odd_of b g nl (by rw [← len]; exact cm) ⟨mem, cn, len, fun i j hi hj => ?_⟩ (p l lo)
  rw [← ca i j hi hj]
  cases b with
  | true => rfl
  | false => rw [if_neg (by decide), if_neg (by decide), comp_adj g (lt _ (cV _ (gD_mem hi))) (lt _ (cV _ (gD_mem hj)))]
theorem size_ge {n m : Nat} {B : List Nat} (n9 : n ≤ 9) (nB : B.Nodup) (lt : ∀ v ∈ B, v < n) (h : ∀ v ∈ B, m.testBit v = true) : B.length ≤ sizeN m := sub_few nB fun v hv => mem_bits.mpr ⟨Nat.lt_of_lt_of_le (lt v hv) n9, h v hv⟩
theorem perf_all {n : Nat} {es : List E2} (g : Good n es) (p : Perf n es) {m c k : Nat} (hm : m < 2 ^ n) (hc : CnOk es m c) (hk : ChOk es m k) : k ≤ c := by
  have lt : ∀ v ∈ bitsN n m, v < n := fun v hv => (mem_bits.mp hv).1
  have nV : (bitsN n m).Nodup := (bits_up n m).imp fun z => Nat.ne_of_lt z
  have V9 : (bitsN n m).length ≤ 9 := by
    have z := sub_few nV (m := List.range n) fun v hv => List.mem_range.mpr (lt v hv)
    rw [List.length_range] at z
    exact Nat.le_trans z g.n9
  have mo : Most (adjB es) (bitsN n m) c := fun B nB sB cl => by
    have nx : (List.range n).filter (fun v => decide (v ∈ B)) |>.Pairwise (· < ·) := List.pairwise_lt_range.filter _
    have bit : ∀ u, (maskN ((List.range n).filter fun v => decide (v ∈ B))).testBit u = true ↔ u ∈ B := fun u => by
      rw [mask_bit nx, decide_eq_true_eq, List.mem_filter, List.mem_range, decide_eq_true_eq]
      exact ⟨fun z => z.2, fun z => ⟨lt u (sB u z), z⟩⟩
    have z := hc.2 (maskN ((List.range n).filter fun v => decide (v ∈ B))) (fun u hu => (mem_bits.mp (sB u ((bit u).mp hu))).2) fun u v hu hv ne => cl u ((bit u).mp hu) v ((bit v).mp hv) ne
    exact Nat.le_trans (size_ge g.n9 nB (fun v hv => lt v (sB v hv)) fun v hv => (bit v).mpr hv) z
  have no1 := ring_bad g p lt true
  have no2 := ring_bad g p lt false
  obtain ⟨f, f1, f2⟩ := spgt (fun u v => adj_comm es u v) (adj_self g) _ (bitsN n m) rfl nV V9 no1 no2 c mo
  have inV : ∀ u, m.testBit u = true → u ∈ bitsN n m := fun u hu => by
    by_cases y : u < n
    · exact mem_bits.mpr ⟨y, hu⟩
    · rw [high_out hm (by omega)] at hu
      cases hu
  exact hk.2 c ⟨f, fun u hu => f1 u (inV u hu), fun u v hu hv e => f2 u (inV u hu) v (inV v hv) e⟩
theorem perf_no {n : Nat} {es : List E2} (g : Good n es) {l : List Nat} (lo : LotOk n l) (h : oddOf es (flipE n es) l ≠ []) {c k : Nat} (hc : CnOk es (maskN l) c) (hk : ChOk es (maskN l) k) : c < k := by
  have nl : l.Nodup := lo.up.imp fun z => Nat.ne_of_lt z
  obtain ⟨q, hq⟩ : ∃ q, q ∈ oddOf es (flipE n es) l := by
    cases e : oddOf es (flipE n es) l with
    | nil => exact absurd e h
    | cons a _ => exact ⟨a, List.mem_cons_self ..⟩
  obtain ⟨lm, r⟩ := odd_ring g nl hq
  obtain ⟨b, cs⟩ := q
  dsimp only at r
  have bit : ∀ u, (maskN l).testBit u = true ↔ u ∈ l := fun u => by rw [mask_bit lo.up, decide_eq_true_eq]
  have col : ColF (adjB es) l k := by
    obtain ⟨f, f1, f2⟩ := hk.1
    exact ⟨f, fun u hu => f1 u ((bit u).mpr hu), fun u hu v hv e => f2 u v ((bit u).mpr hu) ((bit v).mpr hv) e⟩
  obtain ⟨⟨cc, sc, cq, ec⟩, _⟩ := hc
  have nC : (bitsN 9 cc).Nodup := (bits_up 9 cc).imp fun z => Nat.ne_of_lt z
  have sC : ∀ v ∈ bitsN 9 cc, v ∈ l := fun v hv => (bit v).mp (sc v (mem_bits.mp hv).2)
  have cC : CliqF (adjB es) (bitsN 9 cc) := fun u hu v hv ne => cq u v (mem_bits.mp hu).2 (mem_bits.mp hv).2 ne
  have ec : (bitsN 9 cc).length = c := ec
  have l4 : 4 ≤ l.length := by omega
  cases b with
  | true =>
    rw [if_pos rfl] at r
    have w := ring_clq r l4 nC sC cC
    have s := col_few (s := (l.length - 1) / 2) nl col fun B nB sB st => by
      have := ring_stb r nl l4 nB sB st
      omega
    rcases lm with e | e | e <;> rw [e] at s <;> omega
  | false =>
    rw [if_neg (by decide)] at r
    have op : ∀ u ∈ l, ∀ v ∈ l, u ≠ v → adjB (flipE n es) u v = !adjB es u v := fun u hu v hv ne => by
      rw [comp_adj g (lo.lt u hu) (lo.lt v hv)]
      unfold compF
      rw [decide_eq_true ne, Bool.true_and]
    have w := ring_stb r nl l4 nC sC fun u hu v hv ne => by rw [op u (sC u hu) v (sC v hv) ne, cC u hu v hv ne]; rfl
    have s := col_few (s := 2) nl col fun B nB sB st => ring_clq r l4 nB sB fun u hu v hv ne => by rw [op u (sB u hu) v (sB v hv) ne, st u hu v hv ne]; rfl
    omega
end My

set_option maxHeartbeats 8000000
namespace My
open PySem PySem.Spec PyProof.Rows L2
abbrev sLackM : Stmt := top 21
theorem scLackM : FnScope ["graph", "neighbours", "cliques", "colours", "mask"] ["graph"] (defScope sLackM) := ⟨rfl, rfl, rfl, by decide +kernel, rfl, by decide +kernel, by decide +kernel⟩
/-- the masks that lack colours -/
def Lacks (n : Nat) (es : List E2) (ms : List Nat) : Prop := ∃ cn ch : Nat → Nat, (∀ k, k < 2 ^ n → CnOk es k (cn k) ∧ ChOk es k (ch k)) ∧ ms = (List.range (2 ^ n)).filter fun m => decide (cn m < ch m)
theorem lacks_perf {n : Nat} {es : List E2} {ms : List Nat} (g : Good n es) (h : Lacks n es ms) : ms.isEmpty = true ↔ Perf n es := by
  obtain ⟨cn, ch, ok, rfl⟩ := h
  rw [List.isEmpty_iff, List.filter_eq_nil_iff]
  constructor
  · intro h l lo
    apply Classical.byContradiction
    intro ne
    have lt : maskN l < 2 ^ n := Nat.lt_pow_two_of_testBit _ fun v hv => by
      rw [mask_bit lo.up]
      exact decide_eq_false fun z => by have := lo.lt v z; omega
    obtain ⟨a, b⟩ := ok _ lt
    have z := perf_no g lo ne a b
    exact h _ (List.mem_range.mpr lt) (decide_eq_true z)
  · intro p m hm y
    obtain ⟨a, b⟩ := ok m (List.mem_range.mp hm)
    have z := perf_all g p (List.mem_range.mp hm) a b
    have y := of_decide_eq_true y
    omega
noncomputable def perfB (n : Nat) (es : List E2) : Bool := @decide (Perf n es) (Classical.propDecidable _)
def spLackM (K : PySem.W.Frag) : Sp := fun vs H Q _ => ∃ (x : V) (n : Nat) (es : List E2), vs = [x] ∧ GraphAt K H x n es ∧ Good n es ∧ ∀ (F : Addr) (ms : List Nat) H', Same H H' → H' F = some (.lst (numsN ms)) → Lacks n es ms → Q (.ref F) H'
def spIsPerf (K : PySem.W.Frag) : Sp := fun vs H Q _ => ∃ (x : V) (n : Nat) (es : List E2), vs = [x] ∧ GraphAt K H x n es ∧ Good n es ∧ ∀ H', Same H H' → Q (.bl (perfB n es)) H'
theorem perfB_iff {n : Nat} {es : List E2} : perfB n es = true ↔ Perf n es := ⟨fun h => @of_decide_eq_true _ (Classical.propDecidable _) h, fun h => @decide_eq_true _ (Classical.propDecidable _) h⟩
section
variable {P : Program} {w : World} {K : PySem.W.Frag} {mg : Str → Option Value} {base : Heap} {f fC fN fA fB fL : Addr} {fd dC dN dA dB dL : FuncData}
theorem ok_lackm (F : L2.Fun K "_lacking_masks" "_lacking_masks" sLackM f fd)
    (GC : FnOk P w K mg base CX0 5 fC dC ["graph"] (spCheckGraph K)) (bC : L2.Binds K dC ["graph"] []) (kC : PySem.W.keepIn K (.ref fC) = true) (mC : mg "check_graph" = some (.ref fC))
    (GN : FnOk P w K mg base CX0 1 fN dN ["graph"] (spMasks K)) (bN : L2.Binds K dN ["graph"] []) (kN : PySem.W.keepIn K (.ref fN) = true) (mN : mg "neighbour_masks" = some (.ref fN))
    (GA : FnOk P w K mg base CX0 1 fA dA ["neighbours"] (spCNums K)) (bA : L2.Binds K dA ["neighbours"] []) (kA : PySem.W.keepIn K (.ref fA) = true) (mA : mg "clique_numbers" = some (.ref fA))
    (GB : FnOk P w K mg base CX0 2 fB dB ["neighbours"] (spChNums K)) (bB : L2.Binds K dB ["neighbours"] []) (kB : PySem.W.keepIn K (.ref fB) = true) (mB : mg "chromatic_numbers" = some (.ref fB))
    (mr : mg "range" = none) (ml : mg "len" = none) : FnOk P w K mg base CX0 6 f fd ["graph"] (spLackM K) := by
  refine F.ok scLackM (fun vs H Q E h => ?_) (fun cdv A outer s H vs Q E hr h => ?_)
  · obtain ⟨x, n, es, rfl, _⟩ := h
    rfl
  obtain ⟨x, n, es, rfl, hx, g, q⟩ := h
  have h1 := hr.mono (show 1 ≤ 5 by decide)
  have h2 := hr.mono (show 2 ≤ 5 by decide)
  refine ⟨_, pss_cons (ps_expr (pe_call GC hr (by rfl) mC kC bC .nil pass0 (pa_cons (pv 0) pa_nil)))
    (pss_cons (ps_set (i := 1) scLackM.nd rfl (.inl rfl) (pe_call GN h1 (by rfl) mN kN bN .nil pass0 (pa_cons (pv 0) pa_nil)))
    (pss_cons (ps_set (i := 2) scLackM.nd rfl (.inr rfl) (pe_call GA h1 (by rfl) mA kA bA .nil pass0 (pa_cons (pv 1) pa_nil)))
    (pss_cons (ps_set (i := 3) scLackM.nd rfl (.inr rfl) (pe_call GB h2 (by rfl) mB kB bB .nil pass0 (pa_cons (pv 1) pa_nil)))
    (pss_one (ps_ret (pe_lc (own := [("mask", 4)]) (g := gName 4) rfl scLackM.nd (pi_range1 rfl mr (pa_cons (pe_callB call_len_seq (by rfl) ml PySem.boot_len (pa_cons (pv 2) pa_nil)) pa_nil))
        (blkOk_by (N := ["graph", "neighbours", "cliques", "colours", "mask"]) (sc := defScope sLackM) (by decide +kernel)) (fun _ _ _ _ _ => pg_name (i := 4) scLackM.nd rfl (Or.inl rfl))
        (fun _ _ _ _ _ => pts_one (pt_cmpR op_gt (pe_ix (r := rIxL K) ix_list (pv 3) (pv 4) (fun _ _ => rfl)) (pe_ix (r := rIxL K) ix_list (pv 2) (pv 4) (fun _ _ => rfl)) (nomark _)))
        (fun _ _ _ _ _ => pv 4))))))), ?_⟩
  have n9 := g.n9
  have p9 : 2 ^ n ≤ 2 ^ 9 := Nat.pow_le_pow_right (by decide) n9
  refine ⟨_, rfl, x, n, es, rfl, hx, g, fun H1 s1 => ?_⟩
  refine ⟨_, rfl, x, n, es, rfl, hx.same s1, g, fun D nb H2 nD s2 hD ok => ?_⟩
  refine ⟨_, rfl, D, nb, n, es, rfl, SqL.of hD, ok, g, fun F1 ns H3 s3 hF lF okF => ?_⟩
  refine ⟨_, rfl, D, nb, n, es, rfl, SqL.of (s3 _ _ hD), ok, g, fun F2 ms H4 s4 hM lM okM => ?_⟩
  have hF4 := s4 _ _ hF
  have s04 := s1.trans (s2.trans (s3.trans s4))
  refine ⟨_, rfl, F1, _, rfl, .inl (SqL.of hF4), _, rfl, by rw [numsN_len, lF]; omega, by rw [numsN_len, lF]; omega, fun B nB => lc_range (lo := 0) (n := (((numsN ns).length : Nat) : Int).toNat) (fun i H5 => Same H4 H5 ∧ H5 B = some (.lst (numsN ((List.range i).filter fun m => decide (ns.getD m 0 < ms.getD m 0))))) ⟨same_new nB _, upd_same⟩ ?_ ?_⟩
  · rintro i H5 li ⟨s5, hB⟩
    rw [Int.zero_add]
    rw [Int.toNat_natCast, numsN_len, lF] at li
    have fl : ((List.range i).filter fun m => decide (ns.getD m 0 < ms.getD m 0)).length ≤ 512 := by
      refine Nat.le_trans (List.length_filter_le _ _) ?_
      rw [List.length_range]
      omega
    refine ⟨rfl, ?_⟩
    refine ⟨_, rfl, _, rfl, F2, _, _, _, rfl, rfl, SqL.of (s5 _ _ hM), atI_nat (numsN_getD (by omega)), _, rfl, _, rfl, F1, _, _, _, rfl, rfl, SqL.of (s5 _ _ hF4), atI_nat (numsN_getD (by omega)), _, _, rfl, rfl, _, rfl, ?_⟩
    have ed : decide (((ns.getD i 0 : Nat) : Int) < ((ms.getD i 0 : Nat) : Int)) = decide (ns.getD i 0 < ms.getD i 0) := decide_eq_decide.mpr Int.ofNat_lt
    rw [ed]
    refine iteB (fun c => ?_) (fun c => ?_)
    · refine ⟨_, rfl, _, hB, small1000 (by rw [numsN_len]; omega), same_put s5 nB, ?_⟩
      rw [upd_same, List.range_succ, List.filter_append, List.filter_cons_of_pos (p := fun m => decide (ns.getD m 0 < ms.getD m 0)) c, List.filter_nil, numsN_app]
      rfl
    · refine ⟨s5, ?_⟩
      rw [hB, List.range_succ, List.filter_append, List.filter_cons_of_neg (p := fun m => decide (ns.getD m 0 < ms.getD m 0)) (by rw [c]; decide), List.filter_nil, List.append_nil]
  · rintro H5 ⟨s5, hB⟩
    rw [Int.toNat_natCast, numsN_len, lF] at hB
    exact q B _ H5 (s04.trans s5) hB ⟨fun m => ns.getD m 0, fun m => ms.getD m 0, fun k hk => ⟨okF k hk, okM k hk⟩, rfl⟩
end
end My

set_option maxHeartbeats 2000000
/-! list(text); a, *b = list. -/
namespace My
open PySem PySem.Spec PyProof.Rows L2
def sgnsOf (z : Str) : List V := z.cps.toList.map fun c => V.str ⟨#[c]⟩
section
variable {X : Cx}
def rListT : List V → Hp → VK → Prop := fun xs H Q => ∃ z : Str, xs = [.str z] ∧ z.cps.size ≤ sizeLine ∧ ∀ l, H l = none → Q (.ref l) (upd H l (.lst (sgnsOf z)))
theorem call_listT (hc : X.calm = true) : CallR X (.type "list") rListT := by
  rintro pins s σ H xs us Q I r ⟨z, rfl, hz, q⟩
  obtain ⟨u, rfl, t, rfl⟩ := vals1 r
  refine call_list_str (I.ok.hd hc) z t (hn := hz) fun h' tk acc c' hk e' hi => ?_
  refine ⟨.ref s.heap.objs.size, upd H s.heap.objs.size (.lst (sgnsOf z)), I.laid hk (Nat.le_refl _) (show ObjOk X.prog X.w _ _ _ (.lst (sgnsOf z)) from ⟨?_, acc.toList, c', ?_, ?_⟩), rfl, q _ (I.hok.fresh (Nat.le_refl _))⟩
  · unfold sgnsOf
    rw [List.length_map, Array.length_toList]
    exact hz
  · have la : acc.toList.length = z.cps.size := by rw [Array.length_toList]; exact hi.1
    have es : sgnsOf z = (List.range acc.toList.length).map fun i => V.str ⟨#[z.cps.getD i 0]⟩ := by
      rw [la]
      unfold sgnsOf
      refine List.ext_getElem? fun i => ?_
      rw [List.getElem?_map, List.getElem?_map, Array.getElem?_toList]
      by_cases hi : i < z.cps.size
      · rw [List.getElem?_range hi]
        simp [Array.getD, hi]
      · rw [Array.getElem?_eq_none (by omega), List.getElem?_eq_none (by rw [List.length_range]; omega)]
        rfl
    rw [es]
    refine vals_of_get acc.toList _ fun j u hj => ?_
    obtain ⟨c, t2, h1, rfl⟩ := hi.2 j u (by rw [← hj, Array.getElem?_toList])
    refine ⟨t2, ?_⟩
    have : z.cps.getD j 0 = c := by
      obtain ⟨hlt, e⟩ := Array.getElem?_eq_some_iff.mp h1
      simp [Array.getD, hlt, e]
    rw [this]
  · rw [Array.toArray_toList]
    exact e'
theorem walks_shift {prog : Program} {w : World} {A : Around} {I : Addr} {fp wr : List Addr} {n : Nat} {P : Nat → Value → Prop} {St : Nat → Heap → Prop} (W : Walks prog w A I fp wr (n + 1) P St) : Walks prog w A I fp wr n (fun i => P (i + 1)) (fun i => St (i + 1)) :=
  ⟨W.sub, fun i => W.frame (i + 1), fun i s Q E hi => W.item (i + 1) s Q E (Nat.succ_lt_succ hi), fun s Q E => W.done s Q E, fun i => W.self (i + 1)⟩
/-- a, *b = a list -/
def gStar (K : PySem.W.Frag) (g0 g1 : TG) : TG := fun v σ H Q => ∃ (a : Addr) (x : V) (xs : List V), v = .ref a ∧ SqL K H a (x :: xs) ∧ ∀ l, H l = none → gCons g0 (gCons g1 gNil) [x, .ref l] σ (upd H l (.lst xs)) Q
theorem pg_star {t0 t1 : Expr} {p1 pos : Pos} {k : Nat} {g0 g1 : TG} (hc : X.calm = true) (h0 : PG X t0 g0) (h1 : PG X t1 g1)
    (hs : assignEach [t0, .Starred t1 p1] X.env = [(false, assign t0 X.env), (true, assign t1 X.env)] := by rfl) (hs2 : assignEach [t0, t1] X.env = [(false, assign t0 X.env), (false, assign t1 X.env)] := by rfl) (hs3 : assignEach [t1] X.env = [(false, assign t1 X.env)] := by rfl) : PG X (.Tuple [t0, .Starred t1 p1] k pos) (gStar X.K g0 g1) := by
  have hg : PGs X [t0, t1] (gCons g0 (gCons g1 gNil)) := pgs_cons h0 (pgs_cons h1 pgs_nil (by rw [hs3]; rfl)) (by rw [hs2, hs3]; rfl)
  refine ⟨fun pins s σ H v u Q I r hw => ?_⟩
  obtain ⟨a, x, xs, rfl, hq, hw⟩ := hw
  cases r
  obtain ⟨its, rv, pl, hz⟩ := I.list hq
  cases rv with
  | @cons _ y _ ys r0 rs =>
  rw [assign_Tuple]
  refine wpAny_bind (wpAny_standAt ?_)
  rw [hs]
  unfold unpack
  refine wpAny_bind (wpAny_holding ?_)
  show wpAny _ _ (unpackItems (.ref a) 2 (some 1)) _ _ _
  unfold unpackItems
  refine wpAny_bind ?_
  unfold notIterableAtAll
  refine wpAny_bind (wpAny_specialOf pl.isList.typeIs slot_list_iter.lookup ?_)
  refine wpAny_pure ?_
  simp only [Option.isSome_some, if_true, Bool.false_eq_true, if_false]
  refine wpAny_bind (wpAny_holding (wpAny_pyIter_list pl.isList ?_))
  have ha : a < s.heap.objs.size := by
    obtain ⟨o, ho, _⟩ := pl.isList
    exact Heap.lt_size ho
  have ne : a ≠ s.heap.objs.size := Nat.ne_of_lt ha
  refine wpAny_bind (wpAny_holding ?_)
  unfold draw
  generalize hs0 : s.heap.push { cls := .type "list_iterator", data := .fields #[.ref a, .int 0 0] } = h0'
  have k0 : ∀ b o, s.heap.get? b = some o → h0'.get? b = some o := fun b o e => by rw [← hs0]; exact Heap.get?_push_of_some _ e
  have it0 : h0'.IsListIter s.heap.objs.size a 0 := by rw [← hs0]; exact ⟨_, Heap.get?_push_size _ rfl, rfl, rfl⟩
  have li0 : h0'.IsList a (y :: ys).toArray := pl.isList.at fun o e => k0 a o e
  refine wpAny_bind (wpAny_pyNext_list_item it0 li0 (x := y) rfl fun h1 it1 sb1 => ?_)
  have li1 : h1.IsList a (y :: ys).toArray := li0.extBut sb1.extBut ne
  refine wpAny_bind (wpAny_holding ?_)
  unfold draw
  refine wpAny_pure (wpAny_pure ?_)
  simp only [List.length_singleton, Nat.lt_irrefl, if_false]
  refine wpAny_bind (wpAny_holding ?_)
  have W := walks_shift (n := ys.length) (Walks.list (prog := X.prog) (w := X.w) (A := X.A.in1) (I.ok.hd hc) s.heap.objs.size a ne (y :: ys).toArray)
  have hI : ∀ b ∈ [s.heap.objs.size, a], b < h1.objs.size := fun b hb => by
    rcases List.mem_cons.mp hb with rfl | hb
    · obtain ⟨o, ho, _⟩ := it1
      exact Heap.lt_size ho
    · rw [List.mem_singleton.mp hb]
      obtain ⟨o, ho, _⟩ := li1
      exact Heap.lt_size ho
  have lxy : xs.length = ys.length := Vals.length rs
  have zx : xs.length + 1 ≤ sizeLine := by simpa using hz
  refine wpAny_collect_iter (s := { s with heap := h1 }) (.inr (.inr (.inl rfl))) W.toS (fun _ _ st => st.1.typeIs) ⟨it1, li1⟩ hI (by simp) (fun s' acc mv io => ?_) (by omega)
  have accE : acc.toList = ys := by
    refine List.ext_getElem? fun j => ?_
    by_cases hj : j < acc.size
    · have e1 : acc[j]? = some acc[j] := Array.getElem?_eq_getElem hj
      have e2 := io.2 j _ e1
      rw [Array.getElem?_toList, e1, ← e2]
      simp
    · have l1 := io.1
      rw [List.getElem?_eq_none (by rw [Array.length_toList]; omega), List.getElem?_eq_none (by omega)]
  rw [accE, if_neg (by omega)]
  refine wpAny_bind (wpAny_newObj_type ?_ (by show (List.take _ ys).length ≤ sizeLine; rw [List.length_take]; omega))
  refine wpAny_pure ?_
  have kp : ∀ b o, s.heap.get? b = some o → s'.heap.get? b = some o := fun b o e => by
    have nb : b ≠ s.heap.objs.size := Nat.ne_of_lt (Heap.lt_size e)
    exact mv.heap b o (fun m => nb (List.mem_singleton.mp m)) ((sb1.2 b nb).trans (k0 b o e))
  have es : s' = { s with heap := s'.heap, toks := s'.toks } := by
    have g1 : s'.gens = s.gens := mv.gens
    have g2 : s'.drawn = s.drawn := mv.drawn
    have g3 : s'.os = s.os := mv.os
    cases s'
    cases s
    simp only at g1 g2 g3
    subst g1 g2 g3
    rfl
  have I1 : L2.Inv X pins σ H s' := by
    rw [es]
    exact I.kept (t' := s'.toks) kp
  have tk : List.take (ys.length - (2 - 1 - 1)) ys = ys := List.take_of_length_le (by omega)
  have dr : List.drop (ys.length - (2 - 1 - 1)) ys = [] := List.drop_eq_nil_of_le (by omega)
  rw [tk, dr]
  have I2 := I1.laid (h' := s'.heap.push { cls := .type "list", data := .seq ys.toArray }) (a := s'.heap.objs.size) (o := .lst xs) (t' := s'.toks) (fun b o e => Heap.get?_push_of_some _ e) (Nat.le_refl _) (show ObjOk X.prog X.w _ _ _ (.lst xs) from ⟨by omega, ys, _, rs, Heap.get?_push_size _ rfl⟩)
  have z := hg.run pins _ σ _ [x, .ref s'.heap.objs.size] _ Q I2 (.cons r0 (.cons rfl .nil)) (hw _ (I1.hok.fresh (Nat.le_refl _)))
  rw [hs2] at z
  exact z
end
end My

set_option maxHeartbeats 2000000
/-! a, *b = tuple. -/
namespace My
open PySem PySem.Spec PyProof.Rows L2
section
variable {X : Cx}
/-- a, *b = a tuple -/
def gStarT (K : PySem.W.Frag) (g0 g1 : TG) : TG := fun v σ H Q => ∃ (a : Addr) (x : V) (xs : List V), v = .ref a ∧ SqT K H a (x :: xs) ∧ ∀ l, H l = none → gCons g0 (gCons g1 gNil) [x, .ref l] σ (upd H l (.lst xs)) Q
theorem pg_starT {t0 t1 : Expr} {p1 pos : Pos} {k : Nat} {g0 g1 : TG} (hc : X.calm = true) (h0 : PG X t0 g0) (h1 : PG X t1 g1)
    (hs : assignEach [t0, .Starred t1 p1] X.env = [(false, assign t0 X.env), (true, assign t1 X.env)] := by rfl) (hs2 : assignEach [t0, t1] X.env = [(false, assign t0 X.env), (false, assign t1 X.env)] := by rfl) (hs3 : assignEach [t1] X.env = [(false, assign t1 X.env)] := by rfl) : PG X (.Tuple [t0, .Starred t1 p1] k pos) (gStarT X.K g0 g1) := by
  have hg : PGs X [t0, t1] (gCons g0 (gCons g1 gNil)) := pgs_cons h0 (pgs_cons h1 pgs_nil (by rw [hs3]; rfl)) (by rw [hs2, hs3]; rfl)
  refine ⟨fun pins s σ H v u Q I r hw => ?_⟩
  obtain ⟨a, x, xs, rfl, hq, hw⟩ := hw
  cases r
  obtain ⟨its, rv, pl, hz⟩ := I.tuple hq
  have pl : s.heap.IsTuple a its.toArray := pl
  cases rv with
  | @cons _ y _ ys r0 rs =>
  rw [assign_Tuple]
  refine wpAny_bind (wpAny_standAt ?_)
  rw [hs]
  unfold unpack
  refine wpAny_bind (wpAny_holding ?_)
  show wpAny _ _ (unpackItems (.ref a) 2 (some 1)) _ _ _
  unfold unpackItems
  refine wpAny_bind ?_
  unfold notIterableAtAll
  refine wpAny_bind (wpAny_specialOf pl.typeIs PySem.F.slot_tuple_iter.lookup ?_)
  refine wpAny_pure ?_
  simp only [Option.isSome_some, if_true, Bool.false_eq_true, if_false]
  refine wpAny_bind (wpAny_holding (wpAny_pyIter_tuple pl ?_))
  have ha : a < s.heap.objs.size := by
    obtain ⟨o, ho, _⟩ := pl
    exact Heap.lt_size ho
  have ne : a ≠ s.heap.objs.size := Nat.ne_of_lt ha
  refine wpAny_bind (wpAny_holding ?_)
  unfold draw
  generalize hs0 : s.heap.push { cls := .type "tuple_iterator", data := .fields #[.ref a, .int 0 0] } = h0'
  have k0 : ∀ b o, s.heap.get? b = some o → h0'.get? b = some o := fun b o e => by rw [← hs0]; exact Heap.get?_push_of_some _ e
  have it0 : h0'.IsTupleIter s.heap.objs.size a 0 := by rw [← hs0]; exact ⟨_, Heap.get?_push_size _ rfl, rfl, rfl⟩
  have li0 : h0'.IsTuple a (y :: ys).toArray := ⟨_, k0 _ _ pl.choose_spec.1, pl.choose_spec.2⟩
  refine wpAny_bind (wpAny_pyNext_tuple_item it0 li0 (x := y) rfl fun h1 it1 sb1 => ?_)
  have li1 : h1.IsTuple a (y :: ys).toArray := li0.extBut sb1.extBut ne
  refine wpAny_bind (wpAny_holding ?_)
  unfold draw
  refine wpAny_pure (wpAny_pure ?_)
  simp only [List.length_singleton, Nat.lt_irrefl, if_false]
  refine wpAny_bind (wpAny_holding ?_)
  have W := walks_shift (n := ys.length) (Walks.tuple (prog := X.prog) (w := X.w) (A := X.A.in1) (I.ok.hd hc) s.heap.objs.size a ne (y :: ys).toArray)
  have hI : ∀ b ∈ [s.heap.objs.size, a], b < h1.objs.size := fun b hb => by
    rcases List.mem_cons.mp hb with rfl | hb
    · obtain ⟨o, ho, _⟩ := it1
      exact Heap.lt_size ho
    · rw [List.mem_singleton.mp hb]
      obtain ⟨o, ho, _⟩ := li1
      exact Heap.lt_size ho
  have lxy : xs.length = ys.length := Vals.length rs
  have zx : xs.length + 1 ≤ sizeLine := by simpa using hz
  refine wpAny_collect_iter (s := { s with heap := h1 }) (.inr (.inr (.inr rfl))) W.toS (fun _ _ st => st.1.typeIs) ⟨it1, li1⟩ hI (by simp) (fun s' acc mv io => ?_) (by omega)
  have accE : acc.toList = ys := by
    refine List.ext_getElem? fun j => ?_
    by_cases hj : j < acc.size
    · have e1 : acc[j]? = some acc[j] := Array.getElem?_eq_getElem hj
      have e2 := io.2 j _ e1
      rw [Array.getElem?_toList, e1, ← e2]
      simp
    · have l1 := io.1
      rw [List.getElem?_eq_none (by rw [Array.length_toList]; omega), List.getElem?_eq_none (by omega)]
  rw [accE, if_neg (by omega)]
  refine wpAny_bind (wpAny_newObj_type ?_ (by show (List.take _ ys).length ≤ sizeLine; rw [List.length_take]; omega))
  refine wpAny_pure ?_
  have kp : ∀ b o, s.heap.get? b = some o → s'.heap.get? b = some o := fun b o e => by
    have nb : b ≠ s.heap.objs.size := Nat.ne_of_lt (Heap.lt_size e)
    exact mv.heap b o (fun m => nb (List.mem_singleton.mp m)) ((sb1.2 b nb).trans (k0 b o e))
  have es : s' = { s with heap := s'.heap, toks := s'.toks } := by
    have g1 : s'.gens = s.gens := mv.gens
    have g2 : s'.drawn = s.drawn := mv.drawn
    have g3 : s'.os = s.os := mv.os
    cases s'
    cases s
    simp only at g1 g2 g3
    subst g1 g2 g3
    rfl
  have I1 : L2.Inv X pins σ H s' := by
    rw [es]
    exact I.kept (t' := s'.toks) kp
  have tk : List.take (ys.length - (2 - 1 - 1)) ys = ys := List.take_of_length_le (by omega)
  have dr : List.drop (ys.length - (2 - 1 - 1)) ys = [] := List.drop_eq_nil_of_le (by omega)
  rw [tk, dr]
  have I2 := I1.laid (h' := s'.heap.push { cls := .type "list", data := .seq ys.toArray }) (a := s'.heap.objs.size) (o := .lst xs) (t' := s'.toks) (fun b o e => Heap.get?_push_of_some _ e) (Nat.le_refl _) (show ObjOk X.prog X.w _ _ _ (.lst xs) from ⟨by omega, ys, _, rs, Heap.get?_push_size _ rfl⟩)
  have z := hg.run pins _ σ _ [x, .ref s'.heap.objs.size] _ Q I2 (.cons r0 (.cons rfl .nil)) (hw _ (I1.hok.fresh (Nat.le_refl _)))
  rw [hs2] at z
  exact z
end
end My

set_option maxHeartbeats 4000000
/-! for i, x in enumerate(t), t a tuple. -/
namespace My
open PySem PySem.Spec PyProof.Rows L2
def itO (t : Addr) : Obj := { cls := .type "tuple_iterator", data := .fields #[.ref t, .int 0 0] }
def enO (i : Addr) : Obj := { cls := .type "enumerate", data := .fields #[.none, .bool false, .ref i, rawInt 0, .none, .none] }
theorem mk_en (t : Addr) (its : Array Value) :
    Meets (Builtin.«enumerate.__new__» ⟨[.type "enumerate", .ref t], []⟩) (fun _ R s => s.heap.IsTuple t its ∧ R (.ok (.ret (.ref (s.heap.push (itO t)).objs.size))) { s with heap := (s.heap.push (itO t)).push (enO s.heap.objs.size) }) :=
  .of_wp fun prog w A R s h => by
    obtain ⟨hp, gs, dr, tk, os⟩ := s; obtain ⟨ht, h⟩ := h
    have hsub := sub_enumerate
    have go : ∀ {A' : Around} {E : Value → Shared → Prop} {Q : Value → Shared → Prop}, Q (.ref hp.objs.size) ⟨hp.push (itO t), gs, dr, tk, os⟩ → wpAny (model prog w) A' (pyIter (.ref t)) Q E ⟨hp, gs, dr, tk, os⟩ :=
      fun q => wpAny_pyIter_tuple (s := ⟨hp, gs, dr, tk, os⟩) ht q
    wp_walk using go
    refine wpAny_stack_any fun st => wpAny_pure ?_
    split
    · rename_i c _ _ _ _ _
      cases (c == Value.type "enumerate") <;> (wp_walk using go; exact ⟨_, rfl, h⟩)
    · wp_walk using go; exact ⟨_, rfl, h⟩
section
variable {prog : Program} {w : World} {A : Around} {E : Value → Shared → Prop} {s : Shared}
theorem call_en {t : Addr} {its : Array Value} {Q : Value → Shared → Prop} (ht : s.heap.IsTuple t its)
    (h : ∀ g, IsEnum g (s.heap.objs.size + 1) s.heap.objs.size 0 .none → g.IsTupleIter s.heap.objs.size t 0 → (∀ b o, s.heap.get? b = some o → g.get? b = some o) → Q (.ref (s.heap.objs.size + 1)) { s with heap := g }) :
    wpAny (model prog w) A (call (.type "enumerate") [.ref t]) Q E s := by
  refine callType_new F.called_enumerate (by decide) (F.typeCall_enumerate_1 _) (F.newCall_enumerate_1 _) (fun obj => F.args_object_init_2 obj _) F.entry_enumerate_new (mk_en t its) ⟨ht, ?_⟩
  have z1 : (s.heap.push (itO t)).objs.size = s.heap.objs.size + 1 := Heap.size_push ..
  have e1 : IsEnum ((s.heap.push (itO t)).push (enO s.heap.objs.size)) (s.heap.objs.size + 1) s.heap.objs.size 0 .none := by
    have q := Heap.get?_push_size (s.heap.push (itO t)) (o := enO s.heap.objs.size) rfl
    rw [z1] at q
    exact q
  show _ ∧ _
  rw [z1]
  exact ⟨⟨_, e1, rfl⟩, h _ e1 ⟨_, Heap.get?_push_of_some _ (Heap.get?_push_size _ rfl), rfl, rfl⟩ fun b o x => Heap.get?_push_of_some _ (Heap.get?_push_of_some _ x)⟩
end
/-- a tuple's items, each in a new pair -/
def IteT (K : PySem.W.Frag) (a : Addr) : It :=
  ⟨fun i H => ∃ (xs : List V) (x : V), SqT K H a xs ∧ xs[i]? = some x, fun i H v H' => ∃ T x, v = .ref T ∧ H T = none ∧ H' = upd H T (.tup [.int (i : Nat), x]) ∧ ∀ xs, SqT K H a xs → xs[i]? = some x, fun i H => ∃ xs : List V, SqT K H a xs ∧ xs.length ≤ i⟩
theorem turn_en {P : Program} {w : World} {K : PySem.W.Frag} {elts : List Expr} {kk : Nat} {tpos : Pos} (a e it : Addr) :
    Turn P w K (.Tuple elts kk tpos) (IteT K a) [e, it] e (fun i h => (∃ old, IsEnum h e it ((i : Nat) : Int) old) ∧ h.IsTupleIter it a i ∧ e ≠ it) where
  mem := List.mem_cons_self
  obj := fun i h ⟨⟨old, he⟩, ⟨o, ho, hc, hd⟩, _⟩ b hb => by
    rcases List.mem_cons.mp hb with rfl | hb
    · exact ⟨_, he, fun v q => nomatch q⟩
    · rw [List.mem_singleton.mp hb]
      exact ⟨o, ho, fun v q => by rw [hd] at q; cases q⟩
  keep := fun i h h' ⟨⟨old, he⟩, ⟨o, ho, r⟩, ne⟩ k => ⟨⟨old, k e List.mem_cons_self _ he⟩, ⟨o, k it (by simp) _ ho, r⟩, ne⟩
  item := by
    rintro X rfl rfl rfl hc i pins s σ H E I hf ⟨⟨old, he⟩, hit, ne⟩ ⟨xs, x, hq, hx⟩
    obtain ⟨its, rv, pt, hz⟩ := I.tuple hq
    obtain ⟨u, hu, ru⟩ := rv.get hx
    have le : e < s.heap.objs.size := Heap.lt_size he
    have li : it < s.heap.objs.size := by obtain ⟨_, q, _⟩ := hit; exact Heap.lt_size q
    have na : a ≠ it := fun z => by
      obtain ⟨o1, h1, c1, _⟩ := hit
      obtain ⟨o2, h2, c2, _⟩ := pt
      rw [z, h1] at h2
      cases h2
      rw [c1] at c2
      exact absurd (Value.type.inj c2) (by decide)
    have nea : e ∉ [it, a] := fun z => by
      rcases List.mem_cons.mp z with z | z
      · exact ne z
      · obtain ⟨o2, h2, c2, _⟩ := pt
        rw [← List.mem_singleton.mp z] at h2
        rw [show s.heap.get? e = _ from he] at h2
        cases h2
        exact absurd (Value.type.inj c2) (by decide)
    have il : i < its.toArray.size := by
      have := (List.getElem?_eq_some_iff.mp hu).1
      simpa using this
    refine wpAny_pyNext_enum_itemC (Draws.tuple (prog := X.prog) (w := X.w) (A := X.A.in1) (by simp [I.ok.hd hc]) it a na its.toArray) he ⟨hit, pt⟩ il ne nea fun y g tk hy ho st hT hsz hk => ?_
    obtain rfl : y = u := by
      have hy2 : its[i]? = some y := by simpa using hy
      rw [hu] at hy2
      exact (Option.some.inj hy2).symm
    refine ⟨_, rfl, wpAny_letOwnedTupleGo_enum (s := { s with heap := g, toks := tk + 1 }) ho fun g2 he2 sb => ?_⟩
    have hT2 : g2.get? s.heap.objs.size = some { cls := .type "tuple", data := .seq #[.int i tk, y] } := (sb.2 _ (Nat.ne_of_gt le)).trans hT
    have okT : ObjOk X.prog X.w (upd H s.heap.objs.size (.tup [.int (i : Nat), x])) g2 s.heap.objs.size (.tup [.int (i : Nat), x]) :=
      ⟨(by decide : 2 ≤ sizeLine), [.int i tk, y], .cons ⟨_, rfl⟩ (.cons ru .nil), ⟨_, hT2, rfl, _, rfl⟩⟩
    have nmem : ∀ b, b ∉ [e, it] → b ≠ e ∧ b ≠ it := fun b hb => ⟨fun z => hb (by simp [z]), fun z => hb (by simp [z])⟩
    have I1 : Inv X pins σ (upd H s.heap.objs.size (.tup [.int (i : Nat), x])) { s with heap := g2, toks := tk + 1 } :=
      I.turnedNew (ch := [e, it]) (fun b ob hb q => (sb.2 b (nmem b hb).1).trans (hk b ob (nmem b hb).1 (nmem b hb).2 q)) hf (Nat.le_refl _) okT
    have nx : ((i + 1 : Nat) : Int) = (i : Int) + 1 := by omega
    refine ⟨.ref s.heap.objs.size, _, I1, rfl, ⟨_, x, rfl, I.hok.fresh (Nat.le_refl _), rfl, fun ys hy => by rw [I.tuple_inj hy hq]; exact hx⟩, ⟨⟨y, by rw [nx]; exact he2⟩, ?_, ne⟩, fun b hb => ?_⟩
    · obtain ⟨o, q, r⟩ := st.1
      exact ⟨o, (sb.2 it (Ne.symm ne)).trans q, r⟩
    · have hb' : b < s.heap.objs.size := by
        rcases List.mem_cons.mp hb with rfl | hb
        · exact le
        · rw [List.mem_singleton.mp hb]; exact li
      rw [upd_ne (Nat.ne_of_lt hb')]
      exact (hf b hb).1
  done := by
    rintro X rfl rfl rfl hc i pins s σ H E I hf ⟨⟨old, he⟩, hit, ne⟩ ⟨xs, hq, hx⟩
    obtain ⟨its, rv, pt, hz⟩ := I.tuple hq
    have na : a ≠ it := fun z => by
      obtain ⟨o1, h1, c1, _⟩ := hit
      obtain ⟨o2, h2, c2, _⟩ := pt
      rw [z, h1] at h2
      cases h2
      rw [c1] at c2
      exact absurd (Value.type.inj c2) (by decide)
    obtain ⟨f0, f1, f2, f3, f4, f5⟩ := hf it (by simp)
    have none' : its.toArray[i]? = none := by
      rw [List.getElem?_toArray, List.getElem?_eq_none (by rw [← rv.length]; exact hx)]
    have D : Draws X.prog X.w X.A.in1 it [it, a] 0 (fun _ _ => True) (fun k h => h.IsTupleIter it a (i + k) ∧ h.IsTuple a its.toArray) :=
      { live := fun _ _ st => let ⟨o, ho, _⟩ := st.1; ⟨o, ho⟩
        frame := fun _ _ _ st hk => ⟨let ⟨o, ho, r⟩ := st.1; ⟨o, hk it (by simp) _ ho, r⟩, let ⟨o, ho, r⟩ := st.2; ⟨o, hk a (by simp) _ ho, r⟩⟩
        item := fun _ _ _ _ z => absurd z (Nat.not_lt_zero _)
        done := fun s Q E st hE => wpAny_nextOf_tuple_end (by simp [I.ok.hd hc]) st.1 st.2 none' hE }
    exact wpAny_pyNext_enum_endD D he ⟨hit, pt⟩ fun g eb => ⟨rfl, I.turned (t' := s.toks) (fun b o hb q => eb b o hb q) f0 f1 f3 f4 f5⟩
  self := fun A i s Q E ⟨⟨_, he⟩, _⟩ h => wpAny_pyIter_enum he h
def iEnT (K : PySem.W.Frag) (ta : TA) : TI := fun σ H R => ta σ H fun vs H1 => ∃ a xs, vs = [.ref a] ∧ SqT K H1 a xs ∧ R (IteT K a) H1
theorem pi_enT {X : Cx} {e : Expr} {ta : TA} {p pos tpos : Pos} {elts : List Expr} {kk : Nat} (hg : Gl X "enumerate") (hm : X.mg "enumerate" = none) (ha : PA X [e] ta) (hs : starEach [e] X.env = [(false, eval e X.env)] := by rfl) :
    PI X (.Tuple elts kk tpos) (.Call (.Name "enumerate" p) [e] [] pos) (iEnT X.K ta) := by
  refine ⟨fun pins s σ H R I h => Call_ (ld_blt I hg hm boot_enumerate (PyProof.Rows.callWith_type1 (thn (ha.run pos pins s σ H _ I h) ?_) hs rfl))⟩
  rintro us s1 ⟨vs, H1, I1, r1, a, xs, rfl, hq, q⟩
  rw [Vals.ref1 r1]
  obtain ⟨its, rv, pt, hz⟩ := I1.tuple hq
  refine call_en (its := its.toArray) pt fun g he hit hk => wpAny_pyIter_enum he ?_
  have I2 : L2.Inv X pins σ H1 { s1 with heap := g } := I1.kept (t' := s1.toks) hk
  refine ⟨s1.heap.objs.size + 1, [s1.heap.objs.size + 1, s1.heap.objs.size], _, _, H1, rfl, I2, turn_en a (s1.heap.objs.size + 1) s1.heap.objs.size, ⟨⟨.none, he⟩, hit, Nat.succ_ne_self _⟩, fun b hb => ?_, q⟩
  have above : s1.heap.objs.size ≤ b := by
    rcases List.mem_cons.mp hb with rfl | hb
    · exact Nat.le_succ _
    · rw [List.mem_singleton.mp hb]; exact Nat.le_refl _
  exact I1.fpOk above (I1.hok.fresh above)
theorem walk_enT {K : PySem.W.Frag} {a : Addr} {xs : List V} : Walk (IteT K a) xs.length (fun H => SqT K H a xs) (YPair (fun i => some (.int (i : Nat))) (fun i => xs[i]?)) :=
  ⟨fun i _ hi q => ⟨xs, xs[i], q, by simp [hi]⟩, fun _ q => ⟨xs, q, Nat.le_refl _⟩, fun i H v H' _ q ⟨T, x, h1, h2, h3, h4⟩ => ⟨T, .int (i : Nat), x, h1, h2, h3, rfl, h4 xs q⟩⟩
end My

set_option maxHeartbeats 4000000
/-! len(set(t)) and min(t), t a tuple of ints. -/
namespace My
open PySem PySem.Spec PyProof.Rows L2
section
variable {X : Cx}
/-- set(t) -/
def rSetTN (K : PySem.W.Frag) (w : World) : List V → Hp → VK → Prop := fun xs H Q => ∃ (l : Addr) (ns : List Int), xs = [V.ref l] ∧ SqT K H l (ns.map V.int) ∧ ns.length ≤ 1000 ∧
  ∀ (p : Addr) (c : Nat) (H' : Hp), Same H H' → H' p = some (SetO w p (fun j => decide (j ∈ ns)) c) → c ≤ ns.length → Q (.ref p) H'
theorem cr_setTN (hc : X.calm = true) : CallR X (.type "set") (rSetTN X.K X.w) := by
  intro pins s σ H xs us Q I r h
  obtain ⟨l, ns, rfl, hl, hb, q⟩ := h
  rw [Vals.ref1 r]
  obtain ⟨its, rv, pt, hz⟩ := I.tuple hl
  have hi : IntsAre its.toArray.toList ns := ints_of_vals rv
  have hn : H s.heap.objs.size = none := I.hok.fresh (Nat.le_refl _)
  refine call_set_tupI ns (I.ok.hd hc) (show s.heap.IsTuple l its.toArray from pt) hi (by unfold scanBound; omega) fun h' tk c R1 hcn k => ?_
  exact ⟨.ref s.heap.objs.size, upd H s.heap.objs.size (SetO X.w s.heap.objs.size (fun j => decide (j ∈ ns)) c), I.laid (t' := tk) k (Nat.le_refl _) (setO_new R1), rfl, q _ c _ (fun b u e => by rw [upd_ne (ne_of_none e hn)]; exact e) upd_same hcn⟩
def rLenSO (w : World) : List V → Hp → VK → Prop := fun vs H Q => ∃ (a : Addr) (S : Int → Bool) (n : Nat), vs = [V.ref a] ∧ H a = some (SetO w a S n) ∧ ((∃ ks : List Int, ks.Nodup ∧ ks.length = n ∧ ∀ k, S k = true ↔ k ∈ ks) → Q (.int ((n : Nat) : Int)) H)
theorem call_lenSO : CallR X (.builtin "len") (rLenSO X.w) := by
  rintro pins s σ H vs us Q I r ⟨a, S, n, rfl, ha, q⟩
  rw [Vals.ref1 r]
  obtain ⟨o, es, ep, t, ho, hex, hd, hg, nd, hm, hb, hf, hn, _⟩ := setO_get I ha
  refine call_len_set ho hex hd hf (by unfold scanBound at hb; omega) ⟨.int ((n : Nat) : Int), H, I.tok _, ⟨_, by rw [hn]⟩, q ⟨es.toList.map keyOf, nd, by rw [List.length_map, Array.length_toList, hn], hm⟩⟩
def rMinT (K : PySem.W.Frag) : List V → Hp → VK → Prop := fun vs H Q => ∃ (a : Addr) (n : Int) (ns : List Int), vs = [V.ref a] ∧ SqT K H a ((n :: ns).map V.int) ∧ Q (.int (ns.foldl min n)) H
theorem dep_ints : ∀ ns : List Int, PyData.depthAll (ns.map PyData.int) ≤ 0
  | [] => by rw [List.map_nil]; simp [PyData.depthAll]
  | n :: ns => by
    have := dep_ints ns
    rw [List.map_cons]
    simp only [PyData.depthAll, PyData.depth]
    omega
theorem dp_ints {K : PySem.W.Frag} {H : Hp} : ∀ ns : List Int, DpAll K H (ns.map V.int) (ns.map PyData.int)
  | [] => .nil
  | _ :: ns => .cons (.int _) (dp_ints ns)
theorem cr_minT (hc : X.calm = true) (hu : X.A.units + 64 < cLine) : CallR X (.builtin "min") (rMinT X.K) := by
  rintro pins s σ H xs us Q I r ⟨t, n, ns, rfl, h, q⟩
  rw [Vals.ref1 r]
  obtain ⟨its, rv, p, _⟩ := I.tuple h
  obtain ⟨as, rs⟩ := Dp.readsAll I _ _ its (dp_ints (n :: ns)) rv
  obtain ⟨o, ho, hc', n', hd⟩ := p
  have ht : s.heap.IsTuple t its.toArray := ⟨o, ho, hc', n', hd⟩
  have rs2 : ReadsAll s.heap its.toArray.toList (PyData.int n :: ns.map PyData.int) as := by simpa using rs
  refine PySem.W.min_tuple_data (I.ok.hd hc) ht rs2 (PySem.W.alikeAll_datum (n :: ns)) ?_ ?_
  · have := dep_ints (n :: ns)
    rw [List.map_cons] at this
    omega
  intro i x h' tk bs hi rd hk
  have e := PySem.W.minD_ints n ns
  rw [e] at rd
  cases rd
  exact ⟨.int _, H, I.kept hk, ⟨_, rfl⟩, q⟩
end
theorem min_head {n : Int} : ∀ {ns : List Int} , (∀ b ∈ ns, n ≤ b) → ns.foldl min n = n
  | [], _ => rfl
  | a :: ns, h => by
    rw [List.foldl_cons, Int.min_eq_left (h a (List.mem_cons_self ..))]
    exact min_head fun b hb => h b (List.mem_cons_of_mem _ hb)
theorem min_le : ∀ {ns : List Int} {n : Int}, ns.foldl min n ≤ n ∧ ∀ b ∈ ns, ns.foldl min n ≤ b
  | [], n => ⟨Int.le_refl _, fun _ h => nomatch h⟩
  | a :: ns, n => by
    rw [List.foldl_cons]
    obtain ⟨h1, h2⟩ := min_le (ns := ns) (n := min n a)
    refine ⟨Int.le_trans h1 (Int.min_le_left ..), fun b hb => ?_⟩
    rcases List.mem_cons.mp hb with rfl | hb
    · exact Int.le_trans h1 (Int.min_le_right ..)
    · exact h2 b hb
theorem min_iff {n : Int} {ns : List Int} : n = ns.foldl min n ↔ ∀ b ∈ ns, n ≤ b := by
  constructor
  · intro e b hb
    have := min_le (ns := ns) (n := n)
    rw [← e] at this
    exact this.2 b hb
  · intro h
    exact (min_head h).symm
theorem dup_few : ∀ {ns : List Int}, ¬ ns.Nodup → ∃ ms : List Int, ms.length < ns.length ∧ ∀ k ∈ ns, k ∈ ms
  | [], h => absurd List.nodup_nil h
  | a :: r, h => by
    by_cases c : a ∈ r
    · refine ⟨r, Nat.lt_succ_self _, fun k hk => ?_⟩
      rcases List.mem_cons.mp hk with rfl | hk
      · exact c
      · exact hk
    · obtain ⟨ms, l, sub⟩ := dup_few (ns := r) fun nd => h (List.nodup_cons.mpr ⟨c, nd⟩)
      refine ⟨a :: ms, Nat.succ_lt_succ l, fun k hk => ?_⟩
      rcases List.mem_cons.mp hk with rfl | hk
      · exact List.mem_cons_self ..
      · exact List.mem_cons_of_mem _ (sub k hk)
theorem set_size {ns : List Int} {c : Nat} (h : ∃ ks : List Int, ks.Nodup ∧ ks.length = c ∧ ∀ k, decide (k ∈ ns) = true ↔ k ∈ ks) : c = ns.length ↔ ns.Nodup := by
  obtain ⟨ks, nd, rfl, m⟩ := h
  have a := sub_few nd fun k hk => of_decide_eq_true ((m k).mpr hk)
  constructor
  · intro e
    by_cases y : ns.Nodup
    · exact y
    · obtain ⟨ms, l, sub⟩ := dup_few y
      have z := sub_few nd fun k hk => sub k (of_decide_eq_true ((m k).mpr hk))
      omega
  · intro y
    have z := sub_few y fun k hk => (m k).mp (decide_eq_true hk)
    omega
end My

/-! Holes, plain. -/
namespace My
def barAt (nb l : List Nat) (i : Nat) : Bool := decide (nb.getD (l.getD i 0) 0 &&& maskN l = (2 ^ l.getD (if i = 0 then l.length - 1 else i - 1) 0 ||| 2 ^ l.getD ((i + 1) % l.length) 0))
def bareB (nb l : List Nat) : Bool := (List.range l.length).all (barAt nb l)
instance (m i j : Nat) : Decidable (Beside m i j) := by unfold Beside; infer_instance
def bareE (es : List E2) (l : List Nat) : Bool := (List.range l.length).all fun i => (List.range l.length).all fun j => adjB es (l.getD i 0) (l.getD j 0) == decide (Beside l.length i j)
def headLe (l : List Nat) : Bool := l.all fun b => decide (l.headD 0 ≤ b)
def holeL (n : Nat) (es : List E2) (l : List Nat) : Bool := decide (4 ≤ l.length) && (decide (l.length ≤ n) && (decide l.Nodup && (headLe l && (decide (l.getD 1 0 ≤ l.getD (l.length - 1) 0) && bareE es l))))
theorem bareE_iff {es : List E2} {l : List Nat} : bareE es l = true ↔ ∀ i j, i < l.length → j < l.length → (adjB es (l.getD i 0) (l.getD j 0) = true ↔ Beside l.length i j) := by
  unfold bareE
  rw [List.all_eq_true]
  constructor
  · intro h i j hi hj
    have z := List.all_eq_true.mp (h i (List.mem_range.mpr hi)) j (List.mem_range.mpr hj)
    rw [beq_iff_eq] at z
    rw [z, decide_eq_true_eq]
  · intro h i hi
    rw [List.all_eq_true]
    intro j hj
    have z := h i j (List.mem_range.mp hi) (List.mem_range.mp hj)
    rw [beq_iff_eq, Bool.eq_iff_iff, decide_eq_true_eq]
    exact z
theorem mask_bitN {n : Nat} {l : List Nat} (nd : l.Nodup) (lt : ∀ k ∈ l, k < n) (v : Nat) : (maskN l).testBit v = decide (v ∈ l) := by
  have pm : ((List.range n).filter fun v => decide (v ∈ l)).Perm l := by
    rw [List.perm_ext_iff_of_nodup (List.nodup_range.filter _) nd]
    intro k
    rw [List.mem_filter, List.mem_range, decide_eq_true_eq]
    exact ⟨fun z => z.2, fun z => ⟨lt k z, z⟩⟩
  have e : maskN ((List.range n).filter fun v => decide (v ∈ l)) = maskN l := (pm.map fun k => 2 ^ k).sum_nat
  rw [← e, mask_bit ((List.pairwise_lt_range).filter _)]
  exact decide_eq_decide.mpr pm.mem_iff
theorem beside_iff {m i j : Nat} (hi : i < m) (hj : j < m) : Beside m i j ↔ j = (if i = 0 then m - 1 else i - 1) ∨ j = (i + 1) % m := by
  have e : (i + 1) % m = if i + 1 = m then 0 else i + 1 := by
    split
    · rename_i h; rw [h, Nat.mod_self]
    · exact Nat.mod_eq_of_lt (by omega)
  rw [e]
  unfold Beside
  split <;> split <;> omega
theorem bare_of {n : Nat} {es : List E2} {nb l : List Nat} (ok : NbOk n es nb) (nd : l.Nodup) (lt : ∀ k ∈ l, k < n) : bareB nb l = bareE es l := by
  have inl : ∀ {k}, k < l.length → l.getD k 0 ∈ l := fun hk => gD_mem hk
  rw [Bool.eq_iff_iff, bareE_iff]
  unfold bareB
  rw [List.all_eq_true]
  have at_ : ∀ i, i < l.length → (barAt nb l i = true ↔ ∀ v, (adjB es (l.getD i 0) v && decide (v ∈ l)) = (decide (l.getD (if i = 0 then l.length - 1 else i - 1) 0 = v) || decide (l.getD ((i + 1) % l.length) 0 = v))) := fun i hi => by
    unfold barAt
    rw [decide_eq_true_eq]
    constructor
    · intro h v
      have z := congrArg (Nat.testBit · v) h
      simp only [Nat.testBit_and, Nat.testBit_or, bit_pow] at z
      rw [ok.2 _ (lt _ (inl hi)), mask_bitN nd lt] at z
      exact z
    · intro h
      refine Nat.eq_of_testBit_eq fun v => ?_
      rw [Nat.testBit_and, Nat.testBit_or, bit_pow, bit_pow, ok.2 _ (lt _ (inl hi)), mask_bitN nd lt]
      exact h v
  have pb : ∀ i, i < l.length → (if i = 0 then l.length - 1 else i - 1) < l.length := fun i hi => by split <;> omega
  have nb' : ∀ i, i < l.length → (i + 1) % l.length < l.length := fun i hi => Nat.mod_lt _ (by omega)
  constructor
  · intro h i j hi hj
    have z := (at_ i hi).mp (h i (List.mem_range.mpr hi)) (l.getD j 0)
    rw [decide_eq_true (inl hj), Bool.and_true] at z
    rw [z, beside_iff hi hj, Bool.or_eq_true, decide_eq_true_eq, decide_eq_true_eq]
    constructor
    · rintro (e | e)
      · exact .inl (gD_inj nd hj (pb i hi) e.symm)
      · exact .inr (gD_inj nd hj (nb' i hi) e.symm)
    · rintro (e | e)
      · exact .inl (by rw [← e])
      · exact .inr (by rw [← e])
  · intro h i hi
    have hi := List.mem_range.mp hi
    refine (at_ i hi).mpr fun v => ?_
    by_cases c : v ∈ l
    · obtain ⟨j, hj, rfl⟩ := gD_place c
      rw [decide_eq_true c, Bool.and_true, Bool.eq_iff_iff, h i j hi hj, beside_iff hi hj, Bool.or_eq_true, decide_eq_true_eq, decide_eq_true_eq]
      constructor
      · rintro (e | e)
        · exact .inl (by rw [← e])
        · exact .inr (by rw [← e])
      · rintro (e | e)
        · exact .inl (gD_inj nd hj (pb i hi) e.symm)
        · exact .inr (gD_inj nd hj (nb' i hi) e.symm)
    · rw [decide_eq_false c, Bool.and_false]
      have n1 : l.getD (if i = 0 then l.length - 1 else i - 1) 0 ≠ v := fun e => c (by rw [← e]; exact inl (pb i hi))
      have n2 : l.getD ((i + 1) % l.length) 0 ≠ v := fun e => c (by rw [← e]; exact inl (nb' i hi))
      rw [decide_eq_false n1, decide_eq_false n2]
      rfl
def toN : Sh → Nat
  | .int i => i.toNat
  | _ => 0
def lenS : Sh → Nat
  | .tup ss => ss.length
  | _ => 0
def isHoleS (n : Nat) (es : List E2) : Sh → Bool
  | .tup ss => ss.all (wholeR 0 ((n : Int) - 1)) && holeL n es (ss.map toN)
  | _ => false
theorem lotZ_of {n : Nat} : ∀ {ss : List Sh}, ss.all (wholeR 0 ((n : Int) - 1)) = true → ss = (ss.map toN).map (fun k => Sh.int ((k : Nat) : Int)) ∧ ∀ k ∈ ss.map toN, k < n
  | [], _ => ⟨rfl, fun _ h => nomatch h⟩
  | s :: ss, h => by
    rw [List.all_cons, Bool.and_eq_true] at h
    obtain ⟨h1, h2⟩ := h
    obtain ⟨e, lt⟩ := lotZ_of h2
    cases s with
    | int i =>
      have z : (decide (i ≥ 0) && decide (i ≤ (n : Int) - 1)) = true := h1
      rw [Bool.and_eq_true, decide_eq_true_eq, decide_eq_true_eq] at z
      have ti : ((toN (.int i) : Nat) : Int) = i := by show ((i.toNat : Nat) : Int) = i; omega
      refine ⟨?_, fun k hk => ?_⟩
      · rw [List.map_cons, List.map_cons, ← e, ti]
      · rw [List.map_cons] at hk
        rcases List.mem_cons.mp hk with rfl | hk
        · omega
        · exact lt k hk
    | _ => cases h1
end My

set_option maxHeartbeats 8000000
namespace My
open PySem PySem.Spec PyProof.Rows L2
theorem at_before {l : List Nat} {i : Nat} (hi : i < l.length) : atI (numsN l) ((i : Int) - 1) = some (.int ((l.getD (if i = 0 then l.length - 1 else i - 1) 0 : Nat) : Int)) := by
  by_cases z : i = 0
  · subst z
    rw [if_pos rfl]
    have e : atI (numsN l) (((0 : Nat) : Int) - 1) = (numsN l)[l.length - 1]? := by
      unfold atI ixN
      rw [if_neg (by decide), if_pos (by rw [numsN_len]; omega)]
      show (numsN l)[_]? = _
      congr 1
      rw [numsN_len]
      omega
    rw [e]
    exact numsN_getD (by omega)
  · rw [if_neg z]
    have e : ((i : Int) - 1) = ((i - 1 : Nat) : Int) := by omega
    rw [e]
    exact atI_nat (numsN_getD (by omega))
theorem sum_bar : ∀ l : List Nat, ((l.map fun k => ((2 ^ k : Nat) : Int)).sum) = ((maskN l : Nat) : Int)
  | [] => rfl
  | a :: r => by
    have ih := sum_bar r
    unfold maskN at ih ⊢
    rw [List.map_cons, List.sum_cons, ih, List.map_cons, List.sum_cons]
    omega
def spBar (K : PySem.W.Frag) : Sp := fun vs H Q _ => ∃ (D t : Addr) (nb l : List Nat), vs = [.ref D, .ref t] ∧ SqL K H D (numsN nb) ∧ SqT K H t (numsN l) ∧ nb.length ≤ 9 ∧ l.length ≤ 9 ∧ (∀ k ∈ l, k < nb.length) ∧ ∀ H', Same H H' → Q (.bl (bareB nb l)) H'
section
variable {P : Program} {w : World} {K : PySem.W.Frag} {mg : Str → Option Value} {base : Heap} {f : Addr} {fd : FuncData}
end
end My

set_option maxHeartbeats 4000000
/-! All holes of a graph, plain. -/
namespace My
open PySem PySem.Spec PyProof.Rows L2
def innerL (p : List Nat) : List Nat := (p.drop 1).take (p.length - 2)
def nextOk (es : List E2) (p : List Nat) (v : Nat) : Bool := adjB es v (p.getD (p.length - 1) 0) && (!decide (v ∈ p) && !((innerL p).any fun u => adjB es v u))
def nextL (n : Nat) (es : List E2) (p : List Nat) : List Nat := ((List.range (n - (p.getD 0 0 + 1))).map fun i => p.getD 0 0 + 1 + i).filter (nextOk es p)
def stepH (rc : List Nat → List (List Nat)) (es : List E2) (p : List Nat) (v : Nat) : List (List Nat) := if p.length = 1 ∨ adjB es (p.getD 0 0) v = false then rc (p ++ [v]) else if 4 ≤ p.length + 1 ∧ p.getD 1 0 < v then [p ++ [v]] else []
def holesF (n : Nat) (es : List E2) : Nat → List Nat → List (List Nat)
  | 0, _ => []
  | k + 1, p => (nextL n es p).flatMap (stepH (holesF n es k) es p)
def holesL (n : Nat) (es : List E2) : List (List Nat) := (List.range n).flatMap fun a => holesF n es 9 [a]
structure PathOk (n : Nat) (es : List E2) (p : List Nat) : Prop where
  pos : 0 < p.length
  nd : p.Nodup
  lt : ∀ k ∈ p, k < n
  head : ∀ k ∈ p, p.getD 0 0 ≤ k
  adj : ∀ i j, i < p.length → j < p.length → (adjB es (p.getD i 0) (p.getD j 0) = true ↔ i + 1 = j ∨ j + 1 = i)
theorem sn_lt {p : List Nat} {v i : Nat} (h : i < p.length) : (p ++ [v]).getD i 0 = p.getD i 0 := by
  rw [List.getD_eq_getElem?_getD, List.getD_eq_getElem?_getD, List.getElem?_append_left h]
theorem sn_eq {p : List Nat} {v : Nat} : (p ++ [v]).getD p.length 0 = v := by
  rw [List.getD_eq_getElem?_getD, List.getElem?_append_right (Nat.le_refl _), Nat.sub_self]
  rfl
theorem mem_inner {p : List Nat} {v : Nat} : v ∈ innerL p ↔ ∃ i, 1 ≤ i ∧ i + 1 < p.length ∧ p.getD i 0 = v := by
  unfold innerL
  rw [List.mem_iff_getElem?]
  constructor
  · rintro ⟨i, hi⟩
    rw [List.getElem?_take] at hi
    split at hi
    · rename_i c
      rw [List.getElem?_drop] at hi
      refine ⟨1 + i, by omega, by omega, ?_⟩
      rw [List.getD_eq_getElem?_getD, hi]
      rfl
    · cases hi
  · rintro ⟨i, h1, h2, e⟩
    refine ⟨i - 1, ?_⟩
    rw [List.getElem?_take, if_pos (by omega), List.getElem?_drop, show 1 + (i - 1) = i by omega, ← e, gD (by omega), List.getElem?_eq_getElem (by omega)]
theorem mem_next {n : Nat} {es : List E2} {p : List Nat} {v : Nat} : v ∈ nextL n es p ↔ p.getD 0 0 < v ∧ v < n ∧ adjB es v (p.getD (p.length - 1) 0) = true ∧ v ∉ p ∧ ∀ i, 1 ≤ i → i + 1 < p.length → adjB es v (p.getD i 0) = false := by
  unfold nextL nextOk
  rw [List.mem_filter, List.mem_map, Bool.and_eq_true, Bool.and_eq_true, Bool.not_eq_true', Bool.not_eq_true', decide_eq_false_iff_not]
  constructor
  · rintro ⟨⟨i, hi, rfl⟩, h1, h2, h3⟩
    have := List.mem_range.mp hi
    refine ⟨by omega, by omega, h1, h2, fun j j1 j2 => ?_⟩
    have z := List.any_eq_false.mp h3 _ (mem_inner.mpr ⟨j, j1, j2, rfl⟩)
    simpa using z
  · rintro ⟨h1, h2, h3, h4, h5⟩
    refine ⟨⟨v - (p.getD 0 0 + 1), List.mem_range.mpr (by omega), by omega⟩, h3, h4, ?_⟩
    rw [List.any_eq_false]
    intro u hu
    obtain ⟨i, i1, i2, rfl⟩ := mem_inner.mp hu
    rw [h5 i i1 i2]
    decide
theorem path_one {n : Nat} {es : List E2} (g : Good n es) {a : Nat} (h : a < n) : PathOk n es [a] := by
  refine ⟨by simp, by simp, by simpa using h, by simp, fun i j hi hj => ?_⟩
  have : i = 0 := by simpa using hi
  have : j = 0 := by simpa using hj
  subst i j
  rw [adj_self g]
  simp
theorem snoc_nd {p : List Nat} {v : Nat} (nd : p.Nodup) (h : v ∉ p) : (p ++ [v]).Nodup := by
  rw [List.nodup_append]
  refine ⟨nd, by simp, fun a ha b hb e => ?_⟩
  rw [List.mem_singleton.mp hb] at e
  exact h (e ▸ ha)
theorem PathOk.snoc {n : Nat} {es : List E2} {p : List Nat} {v : Nat} (g : Good n es) (h : PathOk n es p) (hv : v ∈ nextL n es p) (c : p.length = 1 ∨ adjB es (p.getD 0 0) v = false) : PathOk n es (p ++ [v]) := by
  obtain ⟨h1, h2, h3, h4, h5⟩ := mem_next.mp hv
  have pos := h.pos
  have hd : (p ++ [v]).getD 0 0 = p.getD 0 0 := sn_lt pos
  have last : ∀ i, i < p.length → (adjB es (p.getD i 0) v = true ↔ i + 1 = p.length) := fun i hi => by
    rw [adj_comm]
    by_cases e : i + 1 = p.length
    · rw [show i = p.length - 1 by omega]
      exact ⟨fun _ => by omega, fun _ => h3⟩
    · by_cases i1 : 1 ≤ i
      · rw [h5 i i1 (by omega)]
        simp [e]
      · obtain rfl : i = 0 := by omega
        rcases c with c | c
        · omega
        · rw [adj_comm, c]
          simp [e]
  refine ⟨by simp, snoc_nd h.nd h4, fun k hk => ?_, fun k hk => ?_, fun i j hi hj => ?_⟩
  · rcases List.mem_append.mp hk with hk | hk
    · exact h.lt k hk
    · rw [List.mem_singleton.mp hk]; exact h2
  · rw [hd]
    rcases List.mem_append.mp hk with hk | hk
    · exact h.head k hk
    · rw [List.mem_singleton.mp hk]; omega
  · rw [List.length_append, List.length_singleton] at hi hj
    by_cases ei : i = p.length
    · subst ei
      rw [sn_eq]
      by_cases ej : j = p.length
      · subst ej
        rw [sn_eq, adj_self g]
        simp
      · rw [sn_lt (by omega), adj_comm, last j (by omega)]
        omega
    · rw [sn_lt (by omega)]
      by_cases ej : j = p.length
      · subst ej
        rw [sn_eq, last i (by omega)]
        omega
      · rw [sn_lt (by omega)]
        exact h.adj i j (by omega) (by omega)
theorem few_lt {n : Nat} {p : List Nat} (nd : p.Nodup) (lt : ∀ k ∈ p, k < n) : p.length ≤ n := by
  have z := sub_few nd (m := List.range n) fun v hv => List.mem_range.mpr (lt v hv)
  rwa [List.length_range] at z
theorem PathOk.ring {n : Nat} {es : List E2} {p : List Nat} {v : Nat} (g : Good n es) (h : PathOk n es p) (hv : v ∈ nextL n es p) (c : adjB es (p.getD 0 0) v = true) (l4 : 4 ≤ p.length + 1) (lt1 : p.getD 1 0 < v) : holeL n es (p ++ [v]) = true := by
  obtain ⟨h1, h2, h3, h4, h5⟩ := mem_next.mp hv
  have nd := snoc_nd h.nd h4
  have lt : ∀ k ∈ p ++ [v], k < n := fun k hk => by
    rcases List.mem_append.mp hk with hk | hk
    · exact h.lt k hk
    · rw [List.mem_singleton.mp hk]; exact h2
  have len : (p ++ [v]).length = p.length + 1 := by rw [List.length_append, List.length_singleton]
  have hd : headLe (p ++ [v]) = true := by
    unfold headLe
    rw [List.all_eq_true]
    intro k hk
    have e : (p ++ [v]).headD 0 = p.getD 0 0 := by
      cases p with
      | nil => exact absurd h.pos (by simp)
      | cons a r => rfl
    rw [e]
    refine decide_eq_true ?_
    rcases List.mem_append.mp hk with hk | hk
    · exact h.head k hk
    · rw [List.mem_singleton.mp hk]; omega
  have last : ∀ i, i < p.length → (adjB es (p.getD i 0) v = true ↔ i + 1 = p.length ∨ i = 0) := fun i hi => by
    by_cases e : i + 1 = p.length
    · rw [adj_comm, show i = p.length - 1 by omega]
      exact ⟨fun _ => by omega, fun _ => h3⟩
    · by_cases i1 : 1 ≤ i
      · rw [adj_comm, h5 i i1 (by omega)]
        simp only [Bool.false_eq_true, false_iff]
        omega
      · obtain rfl : i = 0 := by omega
        rw [c]
        simp
  have ba : bareE es (p ++ [v]) = true := bareE_iff.mpr fun i j hi hj => by
    rw [len] at hi hj ⊢
    unfold Beside
    by_cases ei : i = p.length
    · subst ei
      rw [sn_eq]
      by_cases ej : j = p.length
      · subst ej
        rw [sn_eq, adj_self g]
        simp only [Bool.false_eq_true, false_iff]
        omega
      · rw [sn_lt (by omega), adj_comm, last j (by omega)]
        omega
    · rw [sn_lt (by omega)]
      by_cases ej : j = p.length
      · subst ej
        rw [sn_eq, last i (by omega)]
        omega
      · rw [sn_lt (by omega), h.adj i j (by omega) (by omega)]
        omega
  unfold holeL
  rw [hd, ba, decide_eq_true nd, decide_eq_true (few_lt nd lt), decide_eq_true (show 4 ≤ (p ++ [v]).length by omega), len, Nat.add_sub_cancel, sn_eq, sn_lt (by omega), decide_eq_true (Nat.le_of_lt lt1)]
  rfl
theorem hole_parts {n : Nat} {es : List E2} {l : List Nat} (h : holeL n es l = true) : 4 ≤ l.length ∧ l.length ≤ n ∧ l.Nodup ∧ (∀ k ∈ l, l.getD 0 0 ≤ k) ∧ l.getD 1 0 ≤ l.getD (l.length - 1) 0 ∧ ∀ i j, i < l.length → j < l.length → (adjB es (l.getD i 0) (l.getD j 0) = true ↔ Beside l.length i j) := by
  unfold holeL at h
  simp only [Bool.and_eq_true, decide_eq_true_eq] at h
  obtain ⟨h1, h2, h3, h4, h5, h6⟩ := h
  refine ⟨h1, h2, h3, fun k hk => ?_, h5, bareE_iff.mp h6⟩
  have z := of_decide_eq_true (List.all_eq_true.mp h4 k hk)
  cases l with
  | nil => cases hk
  | cons a r => exact z
theorem holes_sound {n : Nat} {es : List E2} (g : Good n es) : ∀ k p, PathOk n es p → ∀ l ∈ holesF n es k p, holeL n es l = true
  | 0, _, _, l, h => nomatch h
  | k + 1, p, ok, l, h => by
    obtain ⟨v, hv, h⟩ := List.mem_flatMap.mp h
    unfold stepH at h
    split at h
    · rename_i c
      exact holes_sound g k _ (ok.snoc g hv c) l h
    · rename_i c
      split at h
      · rename_i c2
        rw [List.mem_singleton.mp h]
        refine ok.ring g hv ?_ c2.1 c2.2
        cases e : adjB es (p.getD 0 0) v with
        | true => rfl
        | false => exact absurd (.inr e) c
      · cases h
theorem tk_len {l : List Nat} {j : Nat} (h : j ≤ l.length) : (l.take j).length = j := by rw [List.length_take]; omega
theorem tk_getD {l : List Nat} {i j : Nat} (h : i < j) : (l.take j).getD i 0 = l.getD i 0 := by
  rw [List.getD_eq_getElem?_getD, List.getD_eq_getElem?_getD, List.getElem?_take, if_pos h]
theorem tk_succ {l : List Nat} {j : Nat} (h : j < l.length) : l.take (j + 1) = l.take j ++ [l.getD j 0] := by
  rw [gD h, List.take_succ, List.getElem?_eq_getElem h]
  rfl
theorem holes_all {n : Nat} {es : List E2} {l : List Nat} (hl : holeL n es l = true) (lt : ∀ k ∈ l, k < n) : ∀ k j, 1 ≤ j → j < l.length → l.length ≤ k + j → l ∈ holesF n es k (l.take j)
  | 0, j, _, h2, h3 => by omega
  | k + 1, j, h1, h2, h3 => by
    obtain ⟨l4, ln, nd, hd, le, ad⟩ := hole_parts hl
    have tl : (l.take j).length = j := tk_len (by omega)
    have g0 : (l.take j).getD 0 0 = l.getD 0 0 := tk_getD (by omega)
    have ne : ∀ {a b : Nat}, a < l.length → b < l.length → a ≠ b → l.getD a 0 ≠ l.getD b 0 := fun ha hb ab e => ab (gD_inj nd ha hb e)
    have hv : l.getD j 0 ∈ nextL n es (l.take j) := by
      refine mem_next.mpr ⟨?_, lt _ (gD_mem h2), ?_, ?_, fun i i1 i2 => ?_⟩
      · rw [g0]
        have a := hd _ (gD_mem h2)
        have b := ne (show 0 < l.length by omega) h2 (by omega)
        omega
      · rw [tl, tk_getD (by omega), ad j (j - 1) h2 (by omega)]
        unfold Beside
        omega
      · intro m
        obtain ⟨i, hi, e⟩ := gD_place m
        rw [tl] at hi
        rw [tk_getD hi] at e
        exact ne (by omega) h2 (by omega) e
      · rw [tl] at i2
        rw [tk_getD (by omega)]
        cases e : adjB es (l.getD j 0) (l.getD i 0) with
        | false => rfl
        | true =>
          have z := (ad j i h2 (by omega)).mp e
          unfold Beside at z
          omega
    show l ∈ (nextL n es (l.take j)).flatMap (stepH (holesF n es k) es (l.take j))
    refine List.mem_flatMap.mpr ⟨_, hv, ?_⟩
    unfold stepH
    rw [tl, g0, ← tk_succ h2]
    by_cases c : j + 1 < l.length
    · rw [if_pos]
      · exact holes_all hl lt k (j + 1) (by omega) c (by omega)
      · by_cases j1 : j = 1
        · exact .inl j1
        · right
          cases e : adjB es (l.getD 0 0) (l.getD j 0) with
          | false => rfl
          | true =>
            have z := (ad 0 j (by omega) h2).mp e
            unfold Beside at z
            omega
    · rw [if_neg, if_pos]
      · rw [List.take_of_length_le (by omega)]
        exact List.mem_singleton.mpr rfl
      · refine ⟨by omega, ?_⟩
        rw [tk_getD (by omega)]
        have b := ne (show 1 < l.length by omega) h2 (by omega)
        rw [show l.length - 1 = j by omega] at le
        omega
      · rintro (z | z)
        · omega
        · have y := (ad 0 j (by omega) h2).mpr (by unfold Beside; omega)
          rw [z] at y
          cases y
theorem mem_holes {n : Nat} {es : List E2} (g : Good n es) {l : List Nat} : l ∈ holesL n es ↔ holeL n es l = true ∧ ∀ k ∈ l, k < n := by
  have n9 := g.n9
  have path_lt : ∀ k p, PathOk n es p → ∀ l ∈ holesF n es k p, ∀ v ∈ l, v < n := by
    intro k
    induction k with
    | zero => intro p _ l h; cases h
    | succ k ih =>
      intro p ok l h
      obtain ⟨v, hv, h⟩ := List.mem_flatMap.mp h
      unfold stepH at h
      split at h
      · rename_i c
        exact ih _ (ok.snoc g hv c) l h
      · split at h
        · rw [List.mem_singleton.mp h]
          intro u hu
          rcases List.mem_append.mp hu with hu | hu
          · exact ok.lt u hu
          · rw [List.mem_singleton.mp hu]
            exact (mem_next.mp hv).2.1
        · cases h
  unfold holesL
  rw [List.mem_flatMap]
  constructor
  · rintro ⟨a, ha, h⟩
    have ok := path_one g (List.mem_range.mp ha)
    exact ⟨holes_sound g 9 _ ok l h, path_lt 9 _ ok l h⟩
  · rintro ⟨h, lt⟩
    obtain ⟨l4, ln, _⟩ := hole_parts h
    refine ⟨l.getD 0 0, List.mem_range.mpr (lt _ (gD_mem (by omega))), ?_⟩
    have z := holes_all h lt 9 1 (by omega) (by omega) (by omega)
    rw [tk_succ (by omega)] at z
    exact z
def facN : Nat → Nat
  | 0 => 1
  | k + 1 => (k + 1) * facN k
theorem fac_pos : ∀ k, 1 ≤ facN k
  | 0 => Nat.le_refl _
  | k + 1 => Nat.mul_pos (Nat.succ_pos k) (fac_pos k)
theorem fm_len {α β : Type} {f : α → List β} {b : Nat} : ∀ {l : List α}, (∀ x ∈ l, (f x).length ≤ b) → (l.flatMap f).length ≤ l.length * b
  | [], _ => by simp
  | a :: l, h => by
    have ih := fm_len (l := l) fun x hx => h x (List.mem_cons_of_mem _ hx)
    have := h a (List.mem_cons_self ..)
    rw [List.flatMap_cons, List.length_append, List.length_cons, Nat.succ_mul]
    omega
theorem fm_take {α β : Type} {f : α → List β} (l : List α) (i : Nat) : ((l.take i).flatMap f).length ≤ (l.flatMap f).length := by
  have e : l.flatMap f = (l.take i).flatMap f ++ (l.drop i).flatMap f := by rw [← List.flatMap_append, List.take_append_drop]
  rw [e, List.length_append]
  omega
theorem nextL_nd (n : Nat) (es : List E2) (p : List Nat) : (nextL n es p).Nodup := by
  show List.Pairwise _ _
  refine List.Pairwise.filter _ ?_
  rw [List.pairwise_map]
  exact (List.nodup_range).imp fun z e => z (by omega)
theorem next_few {n : Nat} {es : List E2} {p : List Nat} (ok : PathOk n es p) : (nextL n es p).length + p.length ≤ n := by
  have nd : (nextL n es p ++ p).Nodup := by
    rw [List.nodup_append]
    refine ⟨nextL_nd n es p, ok.nd, fun a ha b hb e => ?_⟩
    subst e
    exact (mem_next.mp ha).2.2.2.1 hb
  have z := few_lt nd fun k hk => by
    rcases List.mem_append.mp hk with hk | hk
    · exact (mem_next.mp hk).2.1
    · exact ok.lt k hk
  rwa [List.length_append] at z
theorem holes_len {n : Nat} {es : List E2} (g : Good n es) : ∀ k p, PathOk n es p → (holesF n es k p).length ≤ facN (n - p.length)
  | 0, _, _ => Nat.zero_le _
  | k + 1, p, ok => by
    have nf := next_few ok
    show ((nextL n es p).flatMap (stepH (holesF n es k) es p)).length ≤ _
    have z := fm_len (l := nextL n es p) (f := stepH (holesF n es k) es p) (b := facN (n - p.length - 1)) fun v hv => by
      unfold stepH
      split
      · rename_i c
        have := holes_len g k _ (ok.snoc g hv c)
        rw [List.length_append, List.length_singleton] at this
        rwa [Nat.sub_sub]
      · split
        · exact fac_pos _
        · exact Nat.zero_le _
    refine Nat.le_trans z ?_
    cases e : n - p.length with
    | zero => rw [show (nextL n es p).length = 0 by omega]; simp
    | succ m =>
      rw [Nat.add_sub_cancel]
      exact Nat.mul_le_mul_right _ (by omega)
theorem fac_mono {a b : Nat} (h : a ≤ b) : facN a ≤ facN b := by
  induction b with
  | zero => rw [show a = 0 by omega]; exact Nat.le_refl _
  | succ b ih =>
    by_cases c : a = b + 1
    · rw [c]; exact Nat.le_refl _
    · exact Nat.le_trans (ih (by omega)) (Nat.le_mul_of_pos_left _ (Nat.succ_pos b))
theorem holes_len9 {n : Nat} {es : List E2} (g : Good n es) {k : Nat} {p : List Nat} (ok : PathOk n es p) : (holesF n es k p).length ≤ 40320 := by
  have n9 := g.n9
  have := ok.pos
  exact Nat.le_trans (holes_len g k p ok) (Nat.le_trans (fac_mono (show n - p.length ≤ 8 by omega)) (by decide))
theorem holesL_len {n : Nat} {es : List E2} (g : Good n es) : (holesL n es).length ≤ 362880 := by
  have n9 := g.n9
  have z := fm_len (l := List.range n) (f := fun a => holesF n es 9 [a]) (b := 40320) fun a ha => holes_len9 g (path_one g (List.mem_range.mp ha))
  rw [List.length_range] at z
  exact Nat.le_trans z (by omega)
end My

set_option maxHeartbeats 4000000
/-! any(xs) of a list of ints. -/
namespace My
open PySem PySem.Spec PyProof.Rows L2
section
variable {X : Cx}
def rAnyZ (K : PySem.W.Frag) : List V → Hp → VK → Prop := fun vs H Q => ∃ (a : Addr) (ns : List Int), vs = [V.ref a] ∧ SqL K H a (ns.map V.int) ∧ Q (.bl (ns.any fun i => i != 0)) H
theorem ints_plain : ∀ ns : List Int, PyData.plainAll (ns.map PyData.int) = true
  | [] => by simp [PyData.plainAll]
  | n :: ns => by
    have := ints_plain ns
    simp [PyData.plainAll, PyData.plain] at this ⊢
    exact this
theorem cr_anyZ (hc : X.calm = true) : CallR X (.builtin "any") (rAnyZ X.K) := by
  rintro pins s σ H xs us Q I r ⟨t, ns, rfl, h, q⟩
  rw [Vals.ref1 r]
  obtain ⟨its, rv, p, _⟩ := I.list h
  obtain ⟨as, rs⟩ := Dp.readsAll I _ _ its (dp_ints ns) rv
  refine PySem.W.any_list_data (I.ok.hd hc) p.isList (by simpa using rs) (ints_plain ns) (fun x hx => ?_) fun h' tk hk => ?_
  · obtain ⟨n, _, rfl⟩ := List.mem_map.mp hx
    simp [PyData.fits63]
  · have e : (ns.map PyData.int).any PyData.truthy = ns.any fun i => i != 0 := by
      rw [List.any_map]
      congr 1
    rw [e]
    exact ⟨.bl _, H, I.kept hk, rfl, q⟩
end
end My

/-! x in a row of numbers. -/
namespace My
open PySem PySem.Spec PyProof.Rows L2
theorem inV_k (k : Nat) : ∀ l : List Nat, inV (V.int (k : Int)) (numsN l) = decide (k ∈ l)
  | [] => by simp [inV, numsN]
  | a :: l => by
    have ih := inV_k k l
    unfold inV numsN at ih ⊢
    rw [List.map_cons, List.any_cons, ih]
    by_cases e : a = k
    · subst e; simp [eqV]
    · have : eqV (V.int (a : Int)) (V.int (k : Int)) = false := by
        simp [eqV]
        omega
      rw [this, Bool.false_or]
      simp [Ne.symm e]
theorem flat_k (l : List Nat) : (numsN l).all flatV = true := by
  rw [List.all_eq_true]
  intro v hv
  obtain ⟨k, _, rfl⟩ := List.mem_map.mp hv
  rfl
end My

set_option maxHeartbeats 8000000
namespace My
open PySem PySem.Spec PyProof.Rows L2
theorem cut_inner (p : List Nat) : cutV (numsN p) (some 1) (some (-1)) = numsN (innerL p) := by
  unfold cutV HT.sIx innerL numsN
  simp only [List.length_map]
  rw [if_pos (show (-1 : Int) < 0 by decide), if_neg (show ¬ (1 : Int) < 0 by decide), List.map_take, List.map_drop]
  by_cases c : p.length = 0
  · have : p = [] := List.length_eq_zero_iff.mp c
    subst this
    rfl
  · rw [show min (Int.toNat 1) p.length = 1 by show min 1 p.length = 1; omega, show ((-1 : Int) + (p.length : Int)).toNat = p.length - 1 by omega, Nat.sub_sub]
theorem last_at {p : List Nat} (h : 0 < p.length) : atI (numsN p) (-1) = some (.int ((p.getD (p.length - 1) 0 : Nat) : Int)) := by
  have z := at_before (l := p) (i := 0) h
  rw [if_pos rfl] at z
  exact z
def spNextV (K : PySem.W.Frag) : Sp := fun vs H Q _ => ∃ (D T : Addr) (nb p : List Nat) (n : Nat) (es : List E2), vs = [.ref D, .ref T] ∧ SqL K H D (numsN nb) ∧ NbOk n es nb ∧ n ≤ 9 ∧ SqT K H T (numsN p) ∧ 0 < p.length ∧ p.length ≤ 9 ∧ (∀ k ∈ p, k < n) ∧ ∀ (F : Addr) H', Same H H' → H F = none → H' F = some (.lst (numsN (nextL n es p))) → Q (.ref F) H'
section
variable {P : Program} {w : World} {K : PySem.W.Frag} {mg : Str → Option Value} {base : Heap} {f : Addr} {fd : FuncData}
end
end My

set_option maxHeartbeats 8000000
namespace My
open PySem PySem.Spec PyProof.Rows L2
def spHF (K : PySem.W.Frag) (k : Nat) : Sp := fun vs H Q _ => ∃ (D T : Addr) (nb p : List Nat) (n : Nat) (es : List E2), vs = [.ref D, .ref T] ∧ SqL K H D (numsN nb) ∧ NbOk n es nb ∧ Good n es ∧ SqT K H T (numsN p) ∧ PathOk n es p ∧ n + 1 ≤ k + p.length ∧ ∀ (F : Addr) (zs : List V) H', Same H H' → H F = none → H' F = some (.lst zs) → LotsT H' zs (holesF n es k p) → Q (.ref F) H'
section
variable {P : Program} {w : World} {K : PySem.W.Frag} {mg : Str → Option Value} {base : Heap} {f fN : Addr} {fd dN : FuncData}
end
end My

set_option maxHeartbeats 8000000
namespace My
open PySem PySem.Spec PyProof.Rows L2
def spHoles (K : PySem.W.Frag) (gg : Nat → List E2 → List E2) : Sp := fun vs H Q _ => ∃ (x : V) (n : Nat) (es : List E2), vs = [x] ∧ GraphAt K H x n es ∧ Good n es ∧ ∀ (T : Addr) (zs : List V) H', Same H H' → H' T = some (.tup zs) → LotsT H' zs (holesL n (gg n es)) → Q (.ref T) H'
def isOddB (l : List Nat) : Bool := decide (l.length % 2 = 1)
def oddOne (n : Nat) (es : List E2) : Option (Bool × List Nat) := match (holesL n es).find? isOddB with
  | some l => some (true, l)
  | none => ((holesL n (leftP n es)).find? isOddB).map fun l => (false, l)
def spOddO (K : PySem.W.Frag) : Sp := fun vs H Q _ => ∃ (x : V) (n : Nat) (es : List E2), vs = [x] ∧ GraphAt K H x n es ∧ Good n es ∧ (oddOne n es = none → ∀ H', Same H H' → Q .non H') ∧
  ∀ b l, oddOne n es = some (b, l) → ∀ (T U : Addr) (s : Str) H', Same H H' → H' T = some (.tup [.str s, .ref U]) → H' U = some (.tup (numsN l)) → Q (.ref T) H'
section
variable {P : Program} {w : World} {K : PySem.W.Frag} {mg : Str → Option Value} {base : Heap} {f fC fN fH fA : Addr} {fd dC dN dH dA : FuncData}
theorem find_at {L : List (List Nat)} {p : List Nat → Bool} {i : Nat} {l : List Nat} (hi : L[i]? = some l) (hl : p l = true) (h : ∀ l ∈ L.take i, p l = false) : L.find? p = some l := by
  have e : L = L.take i ++ l :: L.drop (i + 1) := by
    obtain ⟨li, rfl⟩ := List.getElem?_eq_some_iff.mp hi
    rw [List.getElem_cons_drop, List.take_append_drop]
  rw [e, List.find?_append, List.find?_eq_none.mpr fun x hx => by rw [h x hx]; decide, List.find?_cons_of_pos hl]
  rfl
end
end My

set_option maxHeartbeats 4000000
/-! The rings of 5, 7 and 9 places with their arcs: no kernel, and an end in each clique. -/
namespace My
def stepsZ (hole : Bool) (m : Nat) : List (Nat × Nat) := if hole then [(0, 1)] else if m = 5 then [(0, 2)] else if m = 7 then [(0, 2), (3, 0)] else [(0, 2), (0, 4), (0, 3), (3, 0)]
/-- an arc from place i to place j -/
def arcZ (hole : Bool) (m i j : Nat) : Bool := (stepsZ hole m).any fun s => (List.range m).any fun k => (k + s.1) % m == i && (k + s.2) % m == j
def besZ (m i j : Nat) : Bool := i + 1 == j || j + 1 == i || (i == 0 && j + 1 == m) || (j == 0 && i + 1 == m)
def adjZ (hole : Bool) (m i j : Nat) : Bool := if hole then besZ m i j else !(i == j) && !besZ m i j
def maskZ (m : Nat) (p : Nat → Bool) : Nat := (List.range m).foldl (fun a j => if p j then a ||| 1 <<< j else a) 0
/-- for each place the masks of its ends, of its neighbours, of those that have an arc to it -/
def rowsZ (hole : Bool) (m : Nat) : List (Nat × Nat × Nat × Nat) := (List.range m).map fun i => (i, maskZ m (arcZ hole m i), maskZ m (adjZ hole m i), maskZ m fun j => arcZ hole m j i)
def kerZ (r : List (Nat × Nat × Nat × Nat)) (s : Nat) : Bool := r.all fun q => if s.testBit q.1 then s &&& q.2.2.1 == 0 else !(s &&& q.2.1 == 0)
def clqZ (r : List (Nat × Nat × Nat × Nat)) (s : Nat) : Bool := r.all fun q => !s.testBit q.1 || (s &&& (q.2.2.1 ||| 1 <<< q.1)) == s
def endZ (r : List (Nat × Nat × Nat × Nat)) (s : Nat) : Bool := r.any fun q => s.testBit q.1 && (s &&& (q.2.2.2 ||| 1 <<< q.1)) == s
def okZ (hole : Bool) (m : Nat) : Bool := let r := rowsZ hole m
  (List.range (2 ^ m)).all fun s => !kerZ r s && (s == 0 || !clqZ r s || endZ r s)
theorem ok_h5 : okZ true 5 = true := by decide +kernel
theorem ok_h7 : okZ true 7 = true := by decide +kernel
theorem ok_h9 : okZ true 9 = true := by decide +kernel
theorem ok_a5 : okZ false 5 = true := by decide +kernel
theorem ok_a7 : okZ false 7 = true := by decide +kernel
theorem ok_a9 : okZ false 9 = true := by decide +kernel
theorem okZ_of {m : Nat} (h : m = 5 ∨ m = 7 ∨ m = 9) (hole : Bool) : okZ hole m = true := by
  cases hole <;> rcases h with rfl | rfl | rfl
  · exact ok_a5
  · exact ok_a7
  · exact ok_a9
  · exact ok_h5
  · exact ok_h7
  · exact ok_h9
theorem mask_z (p : Nat → Bool) (j : Nat) : ∀ m, (maskZ m p).testBit j = (decide (j < m) && p j)
  | 0 => by
    show (0 : Nat).testBit j = _
    simp
  | m + 1 => by
    have ih := mask_z p j m
    have e : maskZ (m + 1) p = if p m = true then maskZ m p ||| 1 <<< m else maskZ m p := by
      unfold maskZ
      rw [List.range_succ, List.foldl_append]
      rfl
    rw [e]
    by_cases c : p m = true
    · rw [if_pos c, Nat.testBit_or, ih, Nat.one_shiftLeft, Nat.testBit_two_pow]
      by_cases h : m = j
      · subst h
        simp [c]
      · have : decide (j < m + 1) = decide (j < m) := by
          rw [decide_eq_decide]; omega
        rw [this, decide_eq_false h, Bool.or_false]
    · rw [if_neg c, ih]
      by_cases h : m = j
      · subst h
        simp at c
        simp [c]
      · have : decide (j < m + 1) = decide (j < m) := by
          rw [decide_eq_decide]; omega
        rw [this]
theorem mask_zlt (p : Nat → Bool) (m : Nat) : maskZ m p < 2 ^ m := by
  refine Nat.lt_pow_two_of_testBit _ fun i hi => ?_
  rw [mask_z, decide_eq_false (by omega), Bool.false_and]
theorem row_z {hole : Bool} {m : Nat} {q : Nat × Nat × Nat × Nat} (h : q ∈ rowsZ hole m) : q.1 < m ∧ q = (q.1, maskZ m (arcZ hole m q.1), maskZ m (adjZ hole m q.1), maskZ m fun j => arcZ hole m j q.1) := by
  obtain ⟨i, hi, rfl⟩ := List.mem_map.mp h
  exact ⟨List.mem_range.mp hi, rfl⟩
theorem ring_free {hole : Bool} {m : Nat} (h : m = 5 ∨ m = 7 ∨ m = 9) (S : Nat → Bool) (st : ∀ i, i < m → S i = true → ∀ j, j < m → S j = true → adjZ hole m i j = false)
    (ab : ∀ i, i < m → S i = false → ∃ j, j < m ∧ S j = true ∧ arcZ hole m i j = true) : False := by
  have ok := List.all_eq_true.mp (okZ_of h hole) (maskZ m S) (List.mem_range.mpr (mask_zlt S m))
  rw [Bool.and_eq_true, Bool.not_eq_true'] at ok
  have k : kerZ (rowsZ hole m) (maskZ m S) = true := by
    unfold kerZ
    rw [List.all_eq_true]
    intro q hq
    obtain ⟨qm, eq⟩ := row_z hq
    generalize q.1 = i at qm eq
    subst eq
    dsimp only
    rw [mask_z, decide_eq_true qm, Bool.true_and]
    by_cases c : S i = true
    · rw [if_pos c]
      refine beq_iff_eq.mpr (Nat.eq_of_testBit_eq fun j => ?_)
      rw [Nat.testBit_and, mask_z, mask_z, Nat.zero_testBit]
      by_cases jm : j < m
      · cases e : S j with
        | false => simp
        | true => rw [st i qm c j jm e]; simp
      · rw [decide_eq_false jm]; simp
    · rw [if_neg c]
      obtain ⟨j, jm, sj, aj⟩ := ab i qm (by simpa using c)
      rw [Bool.not_eq_true', beq_eq_false_iff_ne]
      intro z
      have y : (maskZ m S &&& maskZ m (arcZ hole m i)).testBit j = false := by rw [z, Nat.zero_testBit]
      rw [Nat.testBit_and, mask_z, mask_z, decide_eq_true jm, sj, aj] at y
      cases y
  rw [k] at ok
  cases ok.1
theorem ring_end {hole : Bool} {m : Nat} (h : m = 5 ∨ m = 7 ∨ m = 9) (S : Nat → Bool) {i0 : Nat} (h0 : i0 < m) (s0 : S i0 = true) (cl : ∀ i, i < m → S i = true → ∀ j, j < m → S j = true → i ≠ j → adjZ hole m i j = true) :
    ∃ e, e < m ∧ S e = true ∧ ∀ v, v < m → S v = true → v ≠ e → arcZ hole m v e = true := by
  have ok := List.all_eq_true.mp (okZ_of h hole) (maskZ m S) (List.mem_range.mpr (mask_zlt S m))
  rw [Bool.and_eq_true] at ok
  have nz : (maskZ m S == 0) = false := by
    rw [beq_eq_false_iff_ne]
    intro z
    have y := mask_z S i0 m
    rw [z, Nat.zero_testBit, decide_eq_true h0, s0] at y
    cases y
  have cq : clqZ (rowsZ hole m) (maskZ m S) = true := by
    unfold clqZ
    rw [List.all_eq_true]
    intro q hq
    obtain ⟨qm, eq⟩ := row_z hq
    generalize q.1 = i at qm eq
    subst eq
    dsimp only
    rw [mask_z, decide_eq_true qm, Bool.true_and]
    cases c : S i with
    | false => rfl
    | true =>
      rw [Bool.not_true, Bool.false_or]
      refine beq_iff_eq.mpr (Nat.eq_of_testBit_eq fun j => ?_)
      rw [Nat.testBit_and, Nat.testBit_or, mask_z, mask_z, Nat.one_shiftLeft, Nat.testBit_two_pow]
      by_cases jm : j < m
      · cases e : S j with
        | false => simp
        | true =>
          by_cases ij : i = j
          · simp [ij, jm]
          · rw [cl i qm c j jm e ij]; simp [jm]
      · rw [decide_eq_false jm]; simp
  rw [nz, cq] at ok
  have oe : endZ (rowsZ hole m) (maskZ m S) = true := by simpa using ok.2
  obtain ⟨q, hq, hp⟩ := List.any_eq_true.mp oe
  obtain ⟨qm, eq⟩ := row_z hq
  generalize q.1 = i at qm eq
  subst eq
  dsimp only at hp
  rw [Bool.and_eq_true, mask_z, decide_eq_true qm, Bool.true_and] at hp
  refine ⟨i, qm, hp.1, fun v vm sv ne => ?_⟩
  have y := beq_iff_eq.mp hp.2
  have z : (maskZ m S &&& (maskZ m (fun j => arcZ hole m j i) ||| 1 <<< i)).testBit v = (maskZ m S).testBit v := by rw [y]
  rw [Nat.testBit_and, Nat.testBit_or, mask_z, mask_z, Nat.one_shiftLeft, Nat.testBit_two_pow, decide_eq_true vm, sv, decide_eq_false (Ne.symm ne)] at z
  simpa using z
end My

set_option maxHeartbeats 8000000
/-! Odd holes and the rounds of a lot, plain. -/
namespace My
open PySem PySem.Spec PyProof.Rows L2
theorem adj_leftO {n : Nat} {es : List E2} {u v : Nat} (hu : u < n) (hv : v < n) (ne : u ≠ v) : adjB (leftP n es) u v = !adjB es u v := by
  unfold adjB
  have h : (min u v, max u v) ∈ allP n := mem_allP.mpr (by dsimp only; omega)
  rw [Bool.eq_iff_iff, decide_eq_true_eq]
  show (_ ∈ (allP n).filter fun p => decide (p ∉ es)) ↔ _
  rw [List.mem_filter]
  simp [h]
theorem flip_left {n : Nat} {es : List E2} : flipE n es = leftP n es := by
  unfold flipE tabP leftP
  refine List.filter_congr fun p hp => ?_
  have := (mem_allP.mp hp).1
  show (!adjB es p.1 p.2) = decide (p ∉ es)
  unfold adjB
  rw [Nat.min_eq_left (by omega), Nat.max_eq_right (by omega)]
  simp
structure RoundZ (hole : Bool) (n : Nat) (es : List E2) (c : List Nat) : Prop where
  m : c.length = 5 ∨ c.length = 7 ∨ c.length = 9
  nd : c.Nodup
  lt : ∀ k ∈ c, k < n
  adj : ∀ i j, i < c.length → j < c.length → adjB es (c.getD i 0) (c.getD j 0) = adjZ hole c.length i j
theorem besZ_iff {m i j : Nat} : besZ m i j = true ↔ Beside m i j := by
  unfold besZ Beside
  simp only [Bool.or_eq_true, Bool.and_eq_true, beq_iff_eq]
  constructor
  · rintro (((h | h) | h) | h)
    · exact .inl h
    · exact .inr (.inl h)
    · exact .inr (.inr (.inl h))
    · exact .inr (.inr (.inr h))
  · rintro (h | h | h | h)
    · exact .inl (.inl (.inl h))
    · exact .inl (.inl (.inr h))
    · exact .inl (.inr h)
    · exact .inr h
theorem odd_mem {n : Nat} {es : List E2} {l : List Nat} {q : Bool × List Nat} (h : q ∈ oddOf es (flipE n es) l) : (l.length = 5 ∨ l.length = 7 ∨ l.length = 9) ∧ q.2 = roundL (adjB (if q.1 = true then es else leftP n es)) l ∧ q.2 ≠ [] := by
  unfold oddOf at h
  split at h
  · rename_i c
    refine ⟨c, ?_⟩
    rw [flip_left] at h
    obtain ⟨p, hp, hq⟩ := List.mem_flatMap.mp h
    unfold odd1 at hq
    split at hq
    · cases hq
    · rename_i ne
      obtain rfl := List.mem_singleton.mp hq
      have ne : roundL (adjB p.2) l ≠ [] := fun z => ne (by rw [z]; rfl)
      simp only [List.mem_cons, List.mem_nil_iff, or_false] at hp
      rcases hp with rfl | rfl
      · exact ⟨rfl, ne⟩
      · exact ⟨rfl, ne⟩
  · cases h
theorem round_z {n : Nat} {es : List E2} {l : List Nat} {q : Bool × List Nat} (g : Good n es) (lo : LotOk n l) (h : q ∈ oddOf es (flipE n es) l) : RoundZ q.1 n es q.2 ∧ (∀ v ∈ q.2, q.2.getD 0 0 ≤ v) ∧ q.2.getD 1 0 < q.2.getD (q.2.length - 1) 0 := by
  obtain ⟨b, c⟩ := q
  obtain ⟨lm, e, ne⟩ := odd_mem h
  dsimp only at e ne ⊢
  have nd : l.Nodup := lo.up.imp fun z => Nat.ne_of_lt z
  have gg : Good n (if b = true then es else leftP n es) := by
    split
    · exact g
    · exact (Good.filter g.n9 _ : Good n (leftP n es))
  rw [e] at ne
  obtain ⟨l4, al, len, cnd, sub, st⟩ := round_is ne
  obtain ⟨mm, ri⟩ := ring_is nd (fun u v => adj_comm _ u v) (adj_self gg) ne
  obtain ⟨f1, f2⟩ := round_first lo.up (fun u v => adj_comm _ u v) (adj_self gg) ne
  rw [← e] at len cnd sub ri f1 f2 mm
  rw [← len] at ri f2
  have lt : ∀ k ∈ c, k < n := fun k hk => lo.lt k (sub k hk)
  refine ⟨⟨by rw [len]; exact lm, cnd, lt, fun i j hi hj => ?_⟩, fun v hv => f1 v (sub v hv), f2⟩
  have z := ri i j hi hj
  rw [← besZ_iff] at z
  unfold adjZ
  cases b with
  | true =>
    rw [if_pos rfl, Bool.eq_iff_iff]
    exact z
  | false =>
    rw [if_neg (by decide)] at z
    rw [if_neg (by decide)]
    by_cases ij : i = j
    · subst ij
      rw [adj_self g, beq_self_eq_true]
      rfl
    · have ne2 : c.getD i 0 ≠ c.getD j 0 := fun y => ij (gD_inj cnd hi hj y)
      rw [adj_leftO (lt _ (gD_mem hi)) (lt _ (gD_mem hj)) ne2] at z
      rw [beq_false_of_ne ij, Bool.not_false, Bool.true_and]
      cases h1 : adjB es (c.getD i 0) (c.getD j 0) <;> cases h2 : besZ c.length i j <;> rw [h1, h2] at z <;> simp at z <;> rfl
theorem hole_z {n : Nat} {es : List E2} {c : List Nat} (b : Bool) (g : Good n es) (h : holeL n (if b = true then es else leftP n es) c = true) (lt : ∀ k ∈ c, k < n) (od : c.length % 2 = 1) : RoundZ b n es c ∧ (∀ v ∈ c, c.getD 0 0 ≤ v) ∧ c.getD 1 0 ≤ c.getD (c.length - 1) 0 := by
  obtain ⟨l4, ln, nd, hd, le, ad⟩ := hole_parts h
  have n9 := g.n9
  refine ⟨⟨by omega, nd, lt, fun i j hi hj => ?_⟩, hd, le⟩
  have z := ad i j hi hj
  rw [← besZ_iff] at z
  unfold adjZ
  cases b with
  | true =>
    rw [if_pos rfl, Bool.eq_iff_iff]
    exact z
  | false =>
    rw [if_neg (by decide)] at z
    rw [if_neg (by decide)]
    by_cases ij : i = j
    · subst ij
      rw [adj_self g, beq_self_eq_true]
      rfl
    · have ne2 : c.getD i 0 ≠ c.getD j 0 := fun y => ij (gD_inj nd hi hj y)
      rw [adj_leftO (lt _ (gD_mem hi)) (lt _ (gD_mem hj)) ne2] at z
      rw [beq_false_of_ne ij, Bool.not_false, Bool.true_and]
      cases h1 : adjB es (c.getD i 0) (c.getD j 0) <;> cases h2 : besZ c.length i j <;> rw [h1, h2] at z <;> simp at z <;> rfl
theorem hole_of_z {n : Nat} {es : List E2} {c : List Nat} {b : Bool} (g : Good n es) (r : RoundZ b n es c) (f1 : ∀ v ∈ c, c.getD 0 0 ≤ v) (f2 : c.getD 1 0 ≤ c.getD (c.length - 1) 0) : holeL n (if b = true then es else leftP n es) c = true := by
  have cn : c.length ≤ n := few_lt r.nd r.lt
  have l4 : 4 ≤ c.length := by rcases r.m with h | h | h <;> omega
  have hd : headLe c = true := by
    unfold headLe
    rw [List.all_eq_true]
    intro v hv
    have z := f1 v hv
    cases c with
    | nil => cases hv
    | cons a t => exact decide_eq_true z
  have e0 : ∀ fs, holeL n fs c = bareE fs c := fun fs => by
    unfold holeL
    rw [decide_eq_true l4, decide_eq_true cn, decide_eq_true r.nd, hd, decide_eq_true f2]
    rfl
  rw [e0]
  cases b with
  | true =>
    rw [if_pos rfl]
    exact bareE_iff.mpr fun i j hi hj => by
      rw [r.adj i j hi hj, show adjZ true c.length i j = besZ c.length i j from rfl]
      exact besZ_iff
  | false =>
    rw [if_neg (by decide)]
    exact bareE_iff.mpr fun i j hi hj => by
      rw [← besZ_iff]
      by_cases ij : i = j
      · subst ij
        have gl : Good n (leftP n es) := Good.filter g.n9 _
        rw [adj_self gl]
        have : besZ c.length i i = false := by
          cases z : besZ c.length i i with
          | false => rfl
          | true =>
            have := besZ_iff.mp z
            unfold Beside at this
            omega
        rw [this]
      · rw [adj_leftO (r.lt _ (gD_mem hi)) (r.lt _ (gD_mem hj)) (fun y => ij (gD_inj r.nd hi hj y)), r.adj i j hi hj]
        show (!(!(i == j) && !besZ c.length i j)) = true ↔ _
        rw [beq_false_of_ne ij]
        simp
theorem left_goodO {n : Nat} {es : List E2} (g : Good n es) : Good n (leftP n es) := Good.filter g.n9 _
theorem odd_is {c : List Nat} (h : isOddB c = true) : c.length % 2 = 1 := of_decide_eq_true h
theorem odd_some {n : Nat} {es : List E2} {b : Bool} {c : List Nat} (g : Good n es) (h : oddOne n es = some (b, c)) : RoundZ b n es c ∧ (∀ v ∈ c, c.getD 0 0 ≤ v) ∧ c.getD 1 0 ≤ c.getD (c.length - 1) 0 := by
  unfold oddOne at h
  split at h
  · rename_i l hl
    cases h
    obtain ⟨m1, m2⟩ := (mem_holes g).mp (List.mem_of_find?_eq_some hl)
    exact hole_z true g m1 m2 (odd_is (List.find?_some (p := isOddB) hl))
  · cases e : (holesL n (leftP n es)).find? isOddB with
    | none => rw [e] at h; cases h
    | some l =>
      rw [e] at h
      cases h
      obtain ⟨m1, m2⟩ := (mem_holes (left_goodO g)).mp (List.mem_of_find?_eq_some e)
      exact hole_z false g m1 m2 (odd_is (List.find?_some (p := isOddB) e))
theorem odd_none {n : Nat} {es : List E2} (g : Good n es) : oddOne n es = none ↔ Perf n es := by
  constructor
  · intro h l lo
    apply Classical.byContradiction
    intro ne
    obtain ⟨q, hq⟩ : ∃ q, q ∈ oddOf es (flipE n es) l := by
      cases e : oddOf es (flipE n es) l with
      | nil => exact absurd e ne
      | cons a _ => exact ⟨a, List.mem_cons_self ..⟩
    obtain ⟨r, f1, f2⟩ := round_z g lo hq
    obtain ⟨b, c⟩ := q
    dsimp only at r f1 f2
    have hh := hole_of_z g r f1 (Nat.le_of_lt f2)
    have od : isOddB c = true := decide_eq_true (by rcases r.m with h | h | h <;> omega)
    unfold oddOne at h
    split at h
    · cases h
    · rename_i e1
      cases b with
      | true =>
        rw [if_pos rfl] at hh
        exact absurd od (List.find?_eq_none.mp e1 c ((mem_holes g).mpr ⟨hh, r.lt⟩))
      | false =>
        rw [if_neg (by decide)] at hh
        cases e2 : (holesL n (leftP n es)).find? isOddB with
        | none => exact absurd od (List.find?_eq_none.mp e2 c ((mem_holes (left_goodO g)).mpr ⟨hh, r.lt⟩))
        | some l => rw [e2] at h; cases h
  · intro p
    cases h : oddOne n es with
    | none => rfl
    | some q =>
      exfalso
      obtain ⟨b, c⟩ := q
      obtain ⟨r, f1, f2⟩ := odd_some g h
      refine ring_bad g p r.lt b ⟨c, r.m, r.nd, fun v hv => hv, fun i j hi hj => ?_⟩
      have z := r.adj i j hi hj
      rw [← besZ_iff]
      unfold adjZ at z
      cases b with
      | true =>
        rw [if_pos rfl] at z ⊢
        rw [z]
      | false =>
        rw [if_neg (by decide)] at z ⊢
        unfold compF
        rw [z]
        by_cases ij : i = j
        · subst ij
          have : besZ c.length i i = false := by
            cases z : besZ c.length i i with
            | false => rfl
            | true =>
              have y := besZ_iff.mp z
              have m := r.m
              unfold Beside at y
              omega
          rw [this]
          simp
        · rw [decide_eq_true (show c.getD i 0 ≠ c.getD j 0 from fun y => ij (gD_inj r.nd hi hj y)), beq_false_of_ne ij]
          simp
theorem adjz_flip {b : Bool} {m i j : Nat} (m2 : 2 ≤ m) : adjZ (!b) m i j = (!(i == j) && !adjZ b m i j) := by
  by_cases ij : i = j
  · subst ij
    have bz : besZ m i i = false := by
      cases z : besZ m i i with
      | false => rfl
      | true =>
        have y := besZ_iff.mp z
        unfold Beside at y
        omega
    unfold adjZ
    cases b <;> simp [bz]
  · have eb : (i == j) = false := beq_false_of_ne ij
    unfold adjZ
    cases b <;> simp [eb]
theorem flip_round {b : Bool} {n : Nat} {es : List E2} {c : List Nat} (g : Good n es) : RoundZ b n es c ↔ RoundZ (!b) n (flipE n es) c := by
  constructor
  · intro r
    have m := r.m
    refine ⟨r.m, r.nd, r.lt, fun i j hi hj => ?_⟩
    rw [comp_adj g (r.lt _ (gD_mem hi)) (r.lt _ (gD_mem hj)), adjz_flip (by omega)]
    unfold compF
    rw [r.adj i j hi hj]
    congr 1
    by_cases ij : i = j
    · subst ij
      simp
    · rw [decide_eq_true (show c.getD i 0 ≠ c.getD j 0 from fun y => ij (gD_inj r.nd hi hj y)), beq_false_of_ne ij]
      rfl
  · intro r
    have m := r.m
    refine ⟨r.m, r.nd, r.lt, fun i j hi hj => ?_⟩
    have z := r.adj i j hi hj
    rw [comp_adj g (r.lt _ (gD_mem hi)) (r.lt _ (gD_mem hj)), adjz_flip (by omega)] at z
    unfold compF at z
    by_cases ij : i = j
    · subst ij
      rw [adj_self g]
      have y := adjz_flip (b := !b) (i := i) (j := i) (show 2 ≤ c.length by omega)
      rw [Bool.not_not] at y
      rw [y]
      simp
    · rw [decide_eq_true (show c.getD i 0 ≠ c.getD j 0 from fun y => ij (gD_inj r.nd hi hj y)), beq_false_of_ne ij] at z
      simpa using z
theorem perf_rounds {n : Nat} {es : List E2} (g : Good n es) : Perf n es ↔ ∀ b c, ¬ RoundZ b n es c := by
  constructor
  · intro p b c r
    refine ring_bad g p r.lt b ⟨c, r.m, r.nd, fun v hv => hv, fun i j hi hj => ?_⟩
    have m := r.m
    have z := r.adj i j hi hj
    rw [← besZ_iff]
    cases b with
    | true =>
      rw [if_pos rfl, z]
      exact Iff.rfl
    | false =>
      rw [if_neg (by decide)]
      unfold compF
      rw [z]
      have y := adjz_flip (b := false) (i := i) (j := j) (show 2 ≤ c.length by omega)
      by_cases ij : i = j
      · subst ij
        rw [show besZ c.length i i = adjZ (!false) c.length i i from rfl, y]
        simp
      · rw [show besZ c.length i j = adjZ (!false) c.length i j from rfl, y, decide_eq_true (show c.getD i 0 ≠ c.getD j 0 from fun y => ij (gD_inj r.nd hi hj y)), beq_false_of_ne ij]
        simp
  · intro h l lo
    apply Classical.byContradiction
    intro ne
    obtain ⟨q, hq⟩ : ∃ q, q ∈ oddOf es (flipE n es) l := by
      cases e : oddOf es (flipE n es) l with
      | nil => exact absurd e ne
      | cons a _ => exact ⟨a, List.mem_cons_self ..⟩
    exact h _ _ (round_z g lo hq).1
theorem perf_flipO {n : Nat} {es : List E2} (g : Good n es) : Perf n (flipE n es) ↔ Perf n es := by
  rw [perf_rounds (es := flipE n es) (tab_good g.n9 _), perf_rounds g]
  constructor
  · intro h b c r
    exact h _ _ ((flip_round g).mp r)
  · intro h b c r
    refine h (!b) c ((flip_round g).mpr ?_)
    rw [Bool.not_not]
    exact r
end My

set_option maxHeartbeats 4000000
/-! range(n) as a value; list(range(n)). -/
namespace My
open PySem PySem.Spec PyProof.Rows L2
section
variable {X : Cx}
def rRng1 : List V → Hp → VK → Prop := fun vs H Q => ∃ j : Int, vs = [V.int j] ∧ ∀ p, H p = none → Q (.ref p) (upd H p (.rng 0 j))
theorem cr_range1 : CallR X (.type "range") rRng1 := by
  intro pins s σ H vs us Q I r h
  obtain ⟨j, rfl, q⟩ := h
  obtain ⟨u1, rfl, t, rfl⟩ := vals1 r
  refine call_range_1 ⟨.ref s.heap.objs.size, upd H s.heap.objs.size (.rng 0 j), I.laid (t' := s.toks + 2) (fun b o e => Heap.get?_push_of_some _ e) (Nat.le_refl _) ?_, rfl, q _ (I.hok.fresh (Nat.le_refl _))⟩
  exact ⟨_, _, _, Heap.get?_push_size _ rfl⟩
def rListRng : List V → Hp → VK → Prop := fun vs H Q => ∃ (a : Addr) (n : Nat), vs = [V.ref a] ∧ H a = some (.rng 0 (n : Int)) ∧ n ≤ 1000 ∧ ∀ p, H p = none → Q (.ref p) (upd H p (.lst (numsN (List.range n))))
theorem call_listRng (hc : X.calm = true) : CallR X (.type "list") rListRng := by
  intro pins s σ H vs us Q I r h
  obtain ⟨a, n, rfl, ha, hn, q⟩ := h
  obtain ⟨u1, rfl, ru⟩ := vals1 r
  obtain rfl : u1 = Value.ref a := ru
  obtain ⟨t1, t2, t3, ho⟩ := I.hok a _ ha
  refine call_list_range (I.ok.hd hc) (n := n) ho (small_one (by decide) (by decide) (by omega) (by omega)) (by rw [rangeSize_one]; split <;> omega) (by omega) fun h' tk acc c' hk e' hi => ?_
  refine ⟨.ref s.heap.objs.size, upd H s.heap.objs.size (.lst (numsN (List.range n))), I.laid hk (Nat.le_refl _) (show ObjOk X.prog X.w _ _ _ (.lst (numsN (List.range n))) from ⟨?_, acc.toList, c', ?_, ?_⟩), rfl, q _ (I.hok.fresh (Nat.le_refl _))⟩
  · rw [numsN_len, List.length_range]; exact small hn
  · have la : acc.toList.length = n := by rw [Array.length_toList]; exact hi.1
    have es : numsN (List.range n) = (List.range acc.toList.length).map fun i => V.int ((i : Nat) : Int) := by
      rw [la]
      rfl
    rw [es]
    refine vals_of_get acc.toList _ fun j u hj => ?_
    obtain ⟨t, rfl⟩ := hi.2 j u (by rw [← hj, Array.getElem?_toList])
    exact ⟨t, by rw [Int.mul_one, Int.zero_add]⟩
  · rw [Array.toArray_toList]
    exact e'
end
end My

set_option maxHeartbeats 4000000
/-! Bipartite multigraphs, in plain Lean and in the heap. -/
namespace My
open PySem PySem.Spec PyProof.Rows L2
structure MulG (l r : Nat) (es : List E2) : Prop where
  l9 : l ≤ 9
  r9 : r ≤ 9
  lt : ∀ p ∈ es, p.1 < l ∧ p.2 < r
  up : es.Pairwise fun a b => ¬ ahead b a
def MulAt (K : PySem.W.Frag) (H : Hp) (x : V) (l r : Nat) (es : List E2) : Prop := ∃ (t e : Addr) (xs : List V), x = .ref t ∧ SqT K H t [.int (l : Int), .int (r : Int), .ref e] ∧ SqT K H e xs ∧ PairsAt K H xs es
def MulT (H : Hp) (x : V) (l r : Nat) (es : List E2) : Prop := ∃ (t e : Addr) (xs : List V), x = .ref t ∧ H t = some (.tup [.int (l : Int), .int (r : Int), .ref e]) ∧ H e = some (.tup xs) ∧ PairsT H xs es
theorem MulT.at {K : PySem.W.Frag} {H : Hp} {x : V} {l r : Nat} {es : List E2} (h : MulT H x l r es) : MulAt K H x l r es := by
  obtain ⟨t, e, xs, h1, h2, h3, h4⟩ := h
  exact ⟨t, e, xs, h1, SqT.of h2, SqT.of h3, h4.at⟩
theorem MulAt.ts {K : PySem.W.Frag} {H H' : Hp} (s : TS H H') {x : V} {l r : Nat} {es : List E2} (h : MulAt K H x l r es) : MulAt K H' x l r es := by
  obtain ⟨t, e, xs, h1, h2, h3, h4⟩ := h
  exact ⟨t, e, xs, h1, s.tup h2, s.tup h3, h4.ts s⟩
theorem MulAt.same {K : PySem.W.Frag} {H H' : Hp} (s : Same H H') {x : V} {l r : Nat} {es : List E2} (h : MulAt K H x l r es) : MulAt K H' x l r es := h.ts (TS.of s)
theorem MulT.but {p : Addr} {H H' : Hp} (b : But p H H') (w : Wl H p) {x : V} {l r : Nat} {es : List E2} (h : MulT H x l r es) : MulT H' x l r es := by
  obtain ⟨t, e, xs, h1, h2, h3, h4⟩ := h
  exact ⟨t, e, xs, h1, b _ _ (wl_tup w h2) h2, b _ _ (wl_tup w h3) h3, h4.but b w⟩
theorem MulT.same {H H' : Hp} (s : Same H H') {x : V} {l r : Nat} {es : List E2} (h : MulT H x l r es) : MulT H' x l r es := by
  obtain ⟨t, e, xs, h1, h2, h3, h4⟩ := h
  exact ⟨t, e, xs, h1, s _ _ h2, s _ _ h3, h4.same s⟩
/-! ### what is a multigraph -/
def intS : Sh → Int
  | .int i => i
  | _ => 0
def mulS (l r : Nat) (es : List E2) : Sh := .tup [.int (l : Int), .int (r : Int), .tup (es.map pairS)]
def leS : Sh → Sh → Bool
  | .tup [.int a, .int b], .tup [.int c, .int d] => if a = c then (if b = d then true else decide (b ≤ d)) else decide (a ≤ c)
  | _, _ => false
def nevB : List Sh → Bool
  | s :: t :: r => leS s t && nevB (t :: r)
  | _ => true
def edgeM (l r : Int) : Sh → Bool
  | .tup [a, b] => wholeR 0 (l - 1) a && wholeR 0 (r - 1) b
  | _ => false
def isMul : Sh → Bool
  | .tup [a, b, .tup es] => (wholeR 0 9 a && wholeR 0 9 b) && (decide (es.length ≤ 9) && (es.all (edgeM (intS a) (intS b)) && nevB es))
  | _ => false
theorem MulAt.sh {K : PySem.W.Frag} {H : Hp} {x : V} {l r : Nat} {es : List E2} (h : MulAt K H x l r es) : ShAt K H x (mulS l r es) := by
  obtain ⟨t, e, xs, rfl, h2, h3, h4⟩ := h
  exact .tup h2 (.cons (.int _) (.cons (.int _) (.cons (.tup h3 h4.sh) .nil)))
theorem sh_mul {K : PySem.W.Frag} {H : Hp} {x : V} {l r : Nat} {es : List E2} (h : ShAt K H x (mulS l r es)) : MulAt K H x l r es := by
  cases h with
  | tup ht r =>
    cases r with
    | cons a r =>
      cases r with
      | cons b r =>
        cases r with
        | cons c r =>
          cases r
          cases a
          cases b
          cases c with
          | tup he re => exact ⟨_, _, _, rfl, ht, he, sh_pairs re⟩
theorem leS_pair (p q : E2) : leS (pairS p) (pairS q) = true ↔ ¬ ahead q p := by
  show (if (p.1 : Int) = (q.1 : Int) then (if (p.2 : Int) = (q.2 : Int) then true else decide ((p.2 : Int) ≤ (q.2 : Int))) else decide ((p.1 : Int) ≤ (q.1 : Int))) = true ↔ _
  unfold ahead
  split
  · split
    · simp; omega
    · rw [decide_eq_true_eq]; omega
  · rw [decide_eq_true_eq]; omega
theorem nev_pairs : ∀ ps : List E2, nevB (ps.map pairS) = true ↔ ps.Pairwise fun a b => ¬ ahead b a
  | [] => ⟨fun _ => .nil, fun _ => rfl⟩
  | [p] => ⟨fun _ => List.pairwise_singleton _ _, fun _ => rfl⟩
  | p :: q :: r => by
    have ih := nev_pairs (q :: r)
    show (leS (pairS p) (pairS q) && nevB ((q :: r).map pairS)) = true ↔ _
    rw [Bool.and_eq_true, leS_pair, ih, List.pairwise_cons (a := p)]
    constructor
    · rintro ⟨h1, h2⟩
      refine ⟨fun z hz => ?_, h2⟩
      rcases List.mem_cons.mp hz with rfl | hz
      · exact h1
      · have h3 := (List.pairwise_cons.mp h2).1 z hz
        unfold ahead at h1 h3 ⊢
        omega
    · rintro ⟨h1, h2⟩
      exact ⟨h1 q (List.mem_cons_self ..), h2⟩
theorem edgeM_pair {l r : Int} {s : Sh} (h : edgeM l r s = true) : ∃ p : E2, s = pairS p ∧ (p.1 : Int) < l ∧ (p.2 : Int) < r := by
  unfold edgeM at h
  split at h
  · rename_i a b
    rw [Bool.and_eq_true] at h
    obtain ⟨h1, h2⟩ := h
    cases a with
    | int i =>
      cases b with
      | int j =>
        have h1' : (decide (i ≥ 0) && decide (i ≤ l - 1)) = true := h1
        have h2' : (decide (j ≥ 0) && decide (j ≤ r - 1)) = true := h2
        simp at h1' h2'
        refine ⟨(i.toNat, j.toNat), ?_, ?_, ?_⟩
        · show Sh.tup [.int i, .int j] = .tup [.int ((i.toNat : Nat) : Int), .int ((j.toNat : Nat) : Int)]
          rw [show ((i.toNat : Nat) : Int) = i by omega, show ((j.toNat : Nat) : Int) = j by omega]
        · show ((i.toNat : Nat) : Int) < l
          omega
        · show ((j.toNat : Nat) : Int) < r
          omega
      | _ => cases h2
    | _ => cases h1
  · cases h
theorem edgesM_pairs {l r : Int} : ∀ {es : List Sh}, es.all (edgeM l r) = true → ∃ ps : List E2, es = ps.map pairS ∧ ∀ p ∈ ps, (p.1 : Int) < l ∧ (p.2 : Int) < r
  | [], _ => ⟨[], rfl, fun _ z => nomatch z⟩
  | s :: es, h => by
    rw [List.all_cons, Bool.and_eq_true] at h
    obtain ⟨p, e, lt⟩ := edgeM_pair h.1
    obtain ⟨ps, e2, lts⟩ := edgesM_pairs h.2
    refine ⟨p :: ps, by rw [e, e2]; rfl, fun q hq => ?_⟩
    rcases List.mem_cons.mp hq with rfl | hq
    · exact lt
    · exact lts q hq
theorem whole9 {s : Sh} (h : wholeR 0 9 s = true) : ∃ n : Nat, s = .int (n : Int) ∧ n ≤ 9 := by
  cases s with
  | int i =>
    have h' : (decide (i ≥ 0) && decide (i ≤ 9)) = true := h
    simp at h'
    refine ⟨i.toNat, by rw [show ((i.toNat : Nat) : Int) = i by omega], by omega⟩
  | _ => cases h
theorem isMul_spec {s : Sh} (h : isMul s = true) : ∃ l r es, s = mulS l r es ∧ MulG l r es ∧ es.length ≤ 9 := by
  unfold isMul at h
  split at h
  · rename_i a b es
    rw [Bool.and_eq_true, Bool.and_eq_true, Bool.and_eq_true, Bool.and_eq_true, decide_eq_true_eq] at h
    obtain ⟨⟨h1, h2⟩, h3, h4, h5⟩ := h
    obtain ⟨l, rfl, l9⟩ := whole9 h1
    obtain ⟨r, rfl, r9⟩ := whole9 h2
    obtain ⟨ps, rfl, lt⟩ := edgesM_pairs h4
    have lt' : ∀ p ∈ ps, (p.1 : Int) < (l : Int) ∧ (p.2 : Int) < (r : Int) := lt
    exact ⟨l, r, ps, rfl, ⟨l9, r9, fun p hp => by have := lt' p hp; omega, (nev_pairs ps).mp h5⟩, by rw [List.length_map] at h3; exact h3⟩
  · cases h
theorem isMul_good {l r : Nat} {es : List E2} (g : MulG l r es) (e9 : es.length ≤ 9) : isMul (mulS l r es) = true := by
  have l9 := g.l9
  have r9 := g.r9
  show ((wholeR 0 9 (.int (l : Int)) && wholeR 0 9 (.int (r : Int))) && (decide ((es.map pairS).length ≤ 9) && ((es.map pairS).all (edgeM (l : Int) (r : Int)) && nevB (es.map pairS)))) = true
  have w : ∀ n : Nat, n ≤ 9 → wholeR 0 9 (.int (n : Int)) = true := fun n h => by
    show (decide ((n : Int) ≥ 0) && decide ((n : Int) ≤ 9)) = true
    simp
    omega
  rw [w l l9, w r r9, (nev_pairs es).mpr g.up, decide_eq_true (by rw [List.length_map]; exact e9)]
  simp only [Bool.and_true, Bool.true_and]
  rw [List.all_eq_true]
  intro s hs
  obtain ⟨p, hp, rfl⟩ := List.mem_map.mp hs
  obtain ⟨a, b⟩ := g.lt p hp
  show ((decide ((p.1 : Int) ≥ 0) && decide ((p.1 : Int) ≤ (l : Int) - 1)) && (decide ((p.2 : Int) ≥ 0) && decide ((p.2 : Int) ≤ (r : Int) - 1))) = true
  simp
  omega
/-! ### edges at a vertex, degrees, the line graph -/
def sd (i : Nat) (p : E2) : Nat := if i = 0 then p.1 else p.2
def eAt (es : List E2) (k : Nat) : E2 := es.getD k (0, 0)
theorem eAt_get {es : List E2} {k : Nat} (h : k < es.length) : es[k]? = some (eAt es k) := by
  unfold eAt
  rw [List.getD_eq_getElem?_getD, List.getElem?_eq_getElem h]
  rfl
def atL (es : List E2) (i v : Nat) : List Nat := (List.range es.length).filter fun k => sd i (eAt es k) == v
def degL (l r : Nat) (es : List E2) : List Nat := [0] ++ (List.range l).map (fun v => (atL es 0 v).length) ++ (List.range r).map fun v => (atL es 1 v).length
def meetB (es : List E2) (u v : Nat) : Bool := (eAt es u).1 == (eAt es v).1 || (eAt es u).2 == (eAt es v).2
def lineP (es : List E2) : List E2 := (allP es.length).filter fun p => meetB es p.1 p.2
theorem atL_few (es : List E2) (i v : Nat) : (atL es i v).length ≤ es.length := by
  unfold atL
  refine Nat.le_trans (List.length_filter_le _ _) ?_
  rw [List.length_range]
  exact Nat.le_refl _
theorem degL_few {l r : Nat} {es : List E2} : ∀ d ∈ degL l r es, d ≤ es.length := fun d hd => by
  unfold degL at hd
  rcases List.mem_append.mp hd with hd | hd
  · rcases List.mem_append.mp hd with hd | hd
    · rw [List.mem_singleton.mp hd]; exact Nat.zero_le _
    · obtain ⟨v, _, rfl⟩ := List.mem_map.mp hd
      exact atL_few es 0 v
  · obtain ⟨v, _, rfl⟩ := List.mem_map.mp hd
    exact atL_few es 1 v
def IsMax (ns : List Nat) (m : Nat) : Prop := m ∈ ns ∧ ∀ y ∈ ns, y ≤ m
theorem IsMax.uniq {ns : List Nat} {m m' : Nat} (h : IsMax ns m) (h' : IsMax ns m') : m = m' := Nat.le_antisymm (h'.2 _ h.1) (h.2 _ h'.1)
theorem line_good {es : List E2} (h : es.length ≤ 9) : Good es.length (lineP es) := by
  refine ⟨h, fun p hp => mem_allP.mp (List.mem_filter.mp hp).1, (allP_up es.length h).filter _⟩
theorem mem_lineP {es : List E2} {u v : Nat} : (u, v) ∈ lineP es ↔ u < v ∧ v < es.length ∧ meetB es u v = true := by
  unfold lineP
  rw [List.mem_filter, mem_allP]
  exact and_assoc
end My

set_option maxHeartbeats 4000000
/-! Orientations: lists of pairs of numbers of any kind. -/
namespace My
open PySem PySem.Spec PyProof.Rows L2
abbrev Z2 := Int × Int
def zS (p : Z2) : Sh := .tup [.int p.1, .int p.2]
def zE (p : E2) : Z2 := ((p.1 : Int), (p.2 : Int))
def zw (p : Z2) : Z2 := (p.2, p.1)
def zD (p : Z2) : PyData := .tuple [.int p.1, .int p.2]
/-- s is an orientation of es -/
def Ori (es : List E2) (s : Sh) : Prop := ∃ ps : List Z2, s = .tup (ps.map zS) ∧ ascB (ps.map zS) = true ∧ (∀ p ∈ ps, p ∈ es.map zE ∨ zw p ∈ es.map zE) ∧ ∀ e ∈ es.map zE, e ∈ ps ∨ zw e ∈ ps
open Classical in
noncomputable def oriB (es : List E2) (s : Sh) : Bool := decide (Ori es s)
theorem ori_yes {es : List E2} {s : Sh} (h : Ori es s) : oriB es s = true := @decide_eq_true _ (Classical.propDecidable _) h
theorem ori_no {es : List E2} {s : Sh} (h : ¬ Ori es s) : oriB es s = false := @decide_eq_false _ (Classical.propDecidable _) h
theorem zS_inj {p q : Z2} (h : zS p = zS q) : p = q := by
  unfold zS at h
  injection h with h
  injection h with h1 h
  injection h with h2 _
  injection h1 with h1
  injection h2 with h2
  exact Prod.ext h1 h2
theorem zSs_inj : ∀ {ps qs : List Z2}, ps.map zS = qs.map zS → ps = qs
  | [], [], _ => rfl
  | [], _ :: _, h => by cases h
  | _ :: _, [], h => by cases h
  | p :: ps, q :: qs, h => by
    rw [List.map_cons, List.map_cons] at h
    injection h with h1 h2
    rw [zS_inj h1, zSs_inj h2]
theorem ori_iff {es : List E2} {ps : List Z2} : Ori es (.tup (ps.map zS)) ↔ ascB (ps.map zS) = true ∧ (∀ p ∈ ps, p ∈ es.map zE ∨ zw p ∈ es.map zE) ∧ ∀ e ∈ es.map zE, e ∈ ps ∨ zw e ∈ ps := by
  constructor
  · rintro ⟨qs, e, h⟩
    injection e with e
    rw [zSs_inj e]
    exact h
  · exact fun h => ⟨ps, rfl, h⟩
def isZ : Sh → Bool
  | .tup [.int _, .int _] => true
  | _ => false
theorem isZ_of {s : Sh} (h : isZ s = true) : ∃ p, s = zS p := by
  unfold isZ at h
  split at h
  · exact ⟨(_, _), rfl⟩
  · cases h
theorem isZs : ∀ {ss : List Sh}, ss.all isZ = true → ∃ ps : List Z2, ss = ps.map zS
  | [], _ => ⟨[], rfl⟩
  | s :: ss, h => by
    rw [List.all_cons, Bool.and_eq_true] at h
    obtain ⟨p, rfl⟩ := isZ_of h.1
    obtain ⟨ps, rfl⟩ := isZs h.2
    exact ⟨p :: ps, rfl⟩
theorem isZ_zS (p : Z2) : isZ (zS p) = true := rfl
theorem all_isZ (ps : List Z2) : (ps.map zS).all isZ = true := by
  rw [List.all_eq_true]
  intro s hs
  obtain ⟨p, _, rfl⟩ := List.mem_map.mp hs
  rfl
theorem ori_not {es : List E2} {ss : List Sh} (h : ss.all isZ = false) : ¬ Ori es (.tup ss) := by
  rintro ⟨ps, e, _⟩
  injection e with e
  rw [e, all_isZ] at h
  cases h
theorem zS_at {K : PySem.W.Frag} {H : Hp} {x : V} {p : Z2} (h : ShAt K H x (zS p)) : ∃ t, x = .ref t ∧ SqT K H t [.int p.1, .int p.2] := by
  cases h with
  | tup h r =>
    cases r with
    | cons a r =>
      cases r with
      | cons b r =>
        cases r
        cases a
        cases b
        exact ⟨_, rfl, h⟩
theorem at_zS {K : PySem.W.Frag} {H : Hp} {t : Addr} {p : Z2} (h : SqT K H t [.int p.1, .int p.2]) : ShAt K H (.ref t) (zS p) := .tup h (.cons (.int _) (.cons (.int _) .nil))
theorem zS_dp {K : PySem.W.Frag} {H : Hp} {x : V} {p : Z2} (h : ShAt K H x (zS p)) : Dp K H x (zD p) := by
  obtain ⟨t, rfl, ht⟩ := zS_at h
  exact .tup ht (.cons (.int _) (.cons (.int _) .nil))
theorem zSs_dp {K : PySem.W.Frag} {H : Hp} : ∀ {xs : List V} {ps : List Z2}, ShsAt K H xs (ps.map zS) → DpAll K H xs (ps.map zD)
  | [], [], _ => .nil
  | _ :: _, [], h => by cases h
  | [], _ :: _, h => by cases h
  | x :: xs, p :: ps, h => by
    rw [List.map_cons] at h
    cases h with
    | cons a r => exact .cons (zS_dp a) (zSs_dp r)
theorem zSs_get {K : PySem.W.Frag} {H : Hp} {xs : List V} {ps : List Z2} (h : ShsAt K H xs (ps.map zS)) {i : Nat} {x : V} (hx : xs[i]? = some x) : ∃ p t, ps[i]? = some p ∧ x = .ref t ∧ SqT K H t [.int p.1, .int p.2] := by
  obtain ⟨s, h1, h2⟩ := h.get hx
  rw [List.getElem?_map] at h1
  cases e : ps[i]? with
  | none => rw [e] at h1; cases h1
  | some p =>
    rw [e] at h1
    cases h1
    obtain ⟨t, h3, h4⟩ := zS_at h2
    exact ⟨p, t, rfl, h3, h4⟩
theorem zD_eqv (p q : Z2) : PyData.eqv (zD p) (zD q) = decide (p = q) := by
  obtain ⟨a, b⟩ := p
  obtain ⟨c, d⟩ := q
  simp only [zD, PyData.eqv, PyData.eqvAll, Bool.and_true]
  by_cases h1 : a = c
  · subst h1
    by_cases h2 : b = d
    · subst h2
      simp
    · have z : (b == d) = false := beq_eq_false_iff_ne.mpr h2
      simp [z, h2]
  · have z : (a == c) = false := beq_eq_false_iff_ne.mpr h1
    simp [z, h1]
theorem any_zs (p : Z2) : ∀ es : List Z2, ((es.map zD).any fun z => PyData.eqv z (zD p)) = decide (p ∈ es)
  | [] => rfl
  | q :: es => by
    rw [List.map_cons, List.any_cons, any_zs p es, zD_eqv]
    by_cases h : q = p
    · subst h
      simp
    · have h' : p ≠ q := fun e => h e.symm
      simp [h, h']
theorem zD_depth (p : Z2) : (zD p).depth ≤ 3 := by simp [zD, PyData.depth, PyData.depthAll]
theorem zDs_depth : ∀ es : List Z2, PyData.depthAll (es.map zD) ≤ 3
  | [] => by simp [PyData.depthAll]
  | q :: es => by
    have h1 := zD_depth q
    have h2 := zDs_depth es
    simp only [List.map_cons, PyData.depthAll]
    omega
theorem zD_lay (p : Z2) : (zD p).canLay0 = true := by simp [zD, PyData.canLay0, PyData.canLayAll0]
theorem zDs_lay : ∀ es : List Z2, PyData.canLayAll0 (es.map zD) = true
  | [] => by simp [PyData.canLayAll0]
  | q :: es => by simp [PyData.canLayAll0, zD_lay q, zDs_lay es]
theorem pairs_zs {K : PySem.W.Frag} {H : Hp} {xs : List V} {es : List E2} (h : PairsAt K H xs es) : ShsAt K H xs ((es.map zE).map zS) := by
  have := h.sh
  rw [List.map_map]
  exact this
section
variable {X : Cx}
def rInZ (K : PySem.W.Frag) : R2 := fun x y H Q => ∃ (p : Z2) (t : Addr) (xs : List V) (es : List Z2), ShAt K H x (zS p) ∧ y = .ref t ∧ SqT K H t xs ∧ ShsAt K H xs (es.map zS) ∧ Q (.bl (decide (p ∈ es))) H
theorem op_inZ (hu : X.A.units + 64 < cLine) : OpR X (compareOp .In) (rInZ X.K) := by
  rintro pins s σ H x y v u Q I rx ry ⟨p, t, xs, es, hp, rfl, ht, hes, q⟩
  obtain ⟨as, r1⟩ := Dp.reads I _ x v (zS_dp hp) rx
  obtain ⟨bs, r2⟩ := Dp.reads I (.tuple (es.map zD)) (.ref t) u (.tup ht (zSs_dp hes)) ry
  refine SeqAt.in_tuple_reads r2 r1 (zDs_lay es) (zD_lay p) ?_ ?_
  · have := zD_depth p
    have := Nat.min_le_right (PyData.depthAll (es.map zD)) (zD p).depth
    omega
  · rw [any_zs]
    exact ⟨.bl _, H, I, rfl, q⟩
theorem pe_revK {K : PySem.W.Frag} {e : Expr} {te : TE} {k : Nat} {p1 p2 p3 pos : Pos} (he : PE X e te) (hK : X.K = K := by rfl) : PE X (.Subscript e (.Slice none none (some (.UnaryOp .USub (.Constant (.int 1) k p1) p2)) p3) pos) (tRevT K te) := by
  subst hK
  exact pe_revT he
/-- isinstance in a comprehension -/
theorem call_isiG {K : PySem.W.Frag} (hK : X.K = K := by rfl) : CallR X (.builtin "isinstance") (rIsi K) := by
  subst hK
  exact call_isi
end
theorem push_bl {f : Sh → Bool} {ss : List Sh} {i : Nat} {t : Sh} (ht : ss[i]? = some t) : ((ss.take (i + 1)).map f).map V.bl = ((ss.take i).map f).map V.bl ++ [.bl (f t)] := by
  rw [take_succ ht, List.map_append, List.map_append]
  rfl
theorem all_id {α : Type} (f : α → Bool) (l : List α) : (l.map f).all id = l.all f := by
  rw [List.all_map]
  rfl
/-- len, in a comprehension -/
def rLenZ (K : PySem.W.Frag) : List V → Hp → VK → Prop := fun xs H Q => ∃ p ys, xs = [V.ref p] ∧ (SqL K H p ys ∨ SqT K H p ys) ∧ Q (V.int ((ys.length : Nat) : Int)) H
/-! ### by what the program asks -/
theorem zE_inj {p q : E2} (h : zE p = zE q) : p = q := by
  have h1 := congrArg Prod.fst h
  have h2 := congrArg Prod.snd h
  exact Prod.ext (Int.ofNat.inj h1) (Int.ofNat.inj h2)
theorem mem_zE {p : E2} {es : List E2} : zE p ∈ es.map zE ↔ p ∈ es := by
  rw [List.mem_map]
  exact ⟨fun ⟨q, h, e⟩ => by rw [← zE_inj e]; exact h, fun h => ⟨p, h, rfl⟩⟩
def ordP (p : E2) : E2 := (min p.1 p.2, max p.1 p.2)
theorem ord_mem {n : Nat} {es : List E2} (g : Good n es) (p : E2) : ordP p ∈ es ↔ (p ∈ es ∨ (p.2, p.1) ∈ es) := by
  obtain ⟨a, b⟩ := p
  unfold ordP
  dsimp only
  by_cases h : a ≤ b
  · rw [Nat.min_eq_left h, Nat.max_eq_right h]
    constructor
    · exact .inl
    · rintro (z | z)
      · exact z
      · have := (g.lt _ z).1
        dsimp only at this
        omega
  · rw [Nat.min_eq_right (by omega), Nat.max_eq_left (by omega)]
    constructor
    · exact .inr
    · rintro (z | z)
      · have := (g.lt _ z).1
        dsimp only at this
        omega
      · exact z
theorem ord_is {n : Nat} {es : List E2} (g : Good n es) {p e : E2} (he : e ∈ es) : ordP p = e ↔ (p = e ∨ p = (e.2, e.1)) := by
  have l := (g.lt _ he).1
  obtain ⟨a, b⟩ := p
  obtain ⟨c, d⟩ := e
  dsimp only at l
  unfold ordP
  simp only [Prod.mk.injEq]
  omega
/-- the sides that lie in ps, in order, are all of es -/
theorem ori_pairs {n : Nat} {es : List E2} (g : Good n es) {ps ws : List E2} (up : ws.Pairwise ahead) (mw : ∀ q, q ∈ ws ↔ q ∈ ps.map ordP) : Ori es (.tup (ps.map pairS)) ↔ ascB (ps.map pairS) = true ∧ ws = es := by
  have e : ps.map pairS = (ps.map zE).map zS := by rw [List.map_map]; rfl
  rw [e, ori_iff]
  refine and_congr Iff.rfl ?_
  constructor
  · rintro ⟨h1, h2⟩
    refine eq_of_up up g.up fun q => ?_
    rw [mw, List.mem_map]
    constructor
    · rintro ⟨p, hp, rfl⟩
      rw [ord_mem g]
      rcases h1 (zE p) (mem_zE.mpr hp) with z | z
      · exact .inl (mem_zE.mp z)
      · exact .inr ((mem_zE (p := (p.2, p.1))).mp z)
    · intro hq
      rcases h2 (zE q) (mem_zE.mpr hq) with z | z
      · exact ⟨q, mem_zE.mp z, (ord_is g hq).mpr (.inl rfl)⟩
      · exact ⟨(q.2, q.1), (mem_zE (p := (q.2, q.1))).mp z, (ord_is g hq).mpr (.inr rfl)⟩
  · rintro rfl
    refine ⟨fun z hz => ?_, fun z hz => ?_⟩
    · obtain ⟨p, hp, rfl⟩ := List.mem_map.mp hz
      have := (mw (ordP p)).mpr (List.mem_map.mpr ⟨p, hp, rfl⟩)
      rw [ord_mem g] at this
      rcases this with h | h
      · exact .inl (mem_zE.mpr h)
      · exact .inr ((mem_zE (p := (p.2, p.1))).mpr h)
    · obtain ⟨q, hq, rfl⟩ := List.mem_map.mp hz
      obtain ⟨p, hp, e⟩ := List.mem_map.mp ((mw q).mp hq)
      rcases (ord_is g hq).mp e with rfl | rfl
      · exact .inl (mem_zE.mpr hp)
      · exact .inr (mem_zE.mpr hp)
def spLOr (K : PySem.W.Frag) : Sp := fun vs H Q _ => ∃ (x v : V) (n : Nat) (es : List E2) (s : Sh), vs = [x, v] ∧ GraphAt K H x n es ∧ Good n es ∧ ShAt K H v s ∧ Lb s ∧ ∀ H', Same H H' → Q (.bl (oriB es s)) H'
end My

set_option maxHeartbeats 6400000
/-! set(xs), xs a list of tuples of ints of any length, at most 62 unlike ones. -/
namespace My
open PySem PySem.Spec PyProof.Rows L2
section
variable {P : Program} {w : World} {A : Around} {E : Value → Shared → Prop} {s : Shared}
theorem st_loop {I : Addr} {fp wr : List Addr} {G : Array GenState → Array GenState → Prop} {n : Nat} {Pv : Nat → Value → Prop} {St : Nat → Shared → Prop} {R : Result → Shared → Prop}
    (W : WalksS P w A.in1 I fp wr G n Pv St) (S : Addr) (offS : S ∉ fp) (ks : List (Addr × List Int)) (hn : n = ks.length) (hfew : ∀ M : List (Addr × List Int), (∀ p ∈ M, p ∈ ks) → (M.map (·.2)).Nodup → M.length ≤ 62) (hval : ∀ i v, Pv i v → ∃ p, ks[i]? = some p ∧ v = .ref p.1)
    (h0 : Heap) (hk : ∀ p ∈ ks, IsT P w h0 p.2 p.1) (hS0 : h0.get? S = none) (hw0 : ∀ b ∈ wr, h0.get? b = none) (hu : A.in1.units < cLine) :
    ∀ (k i : Nat) (s : Shared), n - i = k → i ≤ n → St i s → (∀ b o, h0.get? b = some o → s.heap.get? b = some o) → (∃ L es ep t, SetTR P w s.heap S L es ep t ∧ Got ks i L) →
      (∀ s' L es ep t, Moved (S :: wr) G s s' → SetTR P w s'.heap S L es ep t → Got ks n L → (∀ b o, h0.get? b = some o → s'.heap.get? b = some o) → R (.ok (.ret .none)) s') →
      codeAny (model P w) A (.builtin "set.update.loop" ⟨[.ref S, .ref I], []⟩) R s := by
  have offw : S ∉ wr := fun h => offS (W.sub _ h)
  have into : ∀ b ∈ wr, b ∈ S :: wr := fun b hb => List.mem_cons_of_mem _ hb
  have stays : ∀ {s s' : Shared}, Moved wr G s s' → (∀ b o, h0.get? b = some o → s.heap.get? b = some o) → ∀ b o, h0.get? b = some o → s'.heap.get? b = some o := fun hm kp b o e =>
    hm.heap b o (fun hb => by rw [hw0 b hb] at e; cases e) (kp b o e)
  intro k
  induction k with
  | zero =>
    intro i s hk' hi st0 kp ⟨L, es, ep, t, hS, g⟩ hR
    have hin : i = n := by omega
    subst hin
    refine codeAny_builtin PyProof.Rows.F.entry_set_update_loop ?_
    rw [Around.under_plainId PyProof.Rows.F.plain_set_update_loop _]
    show wpAny _ A.in1 (pyNext (.ref I) >>= _) _ _ s
    refine wpAny_bind (W.done s _ _ st0 fun s' hm => ?_)
    show wpAny _ A.in1 (ret Value.none) _ _ s'
    have kp' := stays hm kp
    have sub : ∀ p ∈ L, p ∈ ks := fun p hp => List.mem_of_mem_take (g.sub p hp)
    exact wpAny_pure (hR s' L es ep t (hm.mono into) (hS.keep (fun o e => hm.heap S o offw e) fun p hp => isT_keep (hk p (sub p hp)) kp') g kp')
  | succ k ih =>
    intro i s hk' hi st0 kp ⟨L, es, ep, t, hS, g⟩ hR
    have hlt : i < n := by omega
    refine codeAny_builtin PyProof.Rows.F.entry_set_update_loop ?_
    rw [Around.under_plainId PyProof.Rows.F.plain_set_update_loop _]
    show wpAny _ A.in1 (pyNext (.ref I) >>= _) _ _ s
    refine wpAny_bind (W.item i s _ _ hlt st0 fun v s' hP st' hm => ?_)
    obtain ⟨p, hp, rfl⟩ := hval i v hP
    have kp' := stays hm kp
    have sub : ∀ p ∈ L, p ∈ ks := fun p hp => List.mem_of_mem_take (g.sub p hp)
    have hS' : SetTR P w s'.heap S L es ep t := hS.keep (fun o e => hm.heap S o offw e) fun q hq => isT_keep (hk q (sub q hq)) kp'
    have hx : IsT P w s'.heap p.2 p.1 := isT_keep (hk p (List.mem_of_getElem? hp)) kp'
    show wpAny _ A.in1 (holding [Value.ref p.1] (setAdd S (.ref p.1)) >>= _) _ _ s'
    refine wpAny_bind (wpAny_holding ?_)
    unfold setAdd
    refine wpAny_holding ?_
    refine wpAny_bind (wpAny_pyHash_tuple hu hx ?_)
    refine add_at (s := { s' with toks := s'.toks + (p.2.length + 1) }) hS' hx hu (by have := hfew L sub hS.nd; omega) fun b h' L' es' ep' t' hsb hS2 c1 c2 => ?_
    have g' : Got ks (i + 1) L' := by
      rcases Classical.em (p.2 ∈ L.map (·.2)) with c | c
      · rw [c1 c]; exact g.same hp c
      · exact g.more hp (c2 c)
    have kp2 : ∀ b o, h0.get? b = some o → h'.get? b = some o := fun b o e => (hsb.2 b (fun z => by rw [z, hS0] at e; cases e)).trans (kp' b o e)
    refine wpAny_pure ⟨plainId_quiet PyProof.Rows.F.plain_set_update_loop _, ih (i + 1) _ (by omega) hlt (W.frame _ s' _ _ st' (Nat.le_add_right _ _) fun b hb o e => ?_) kp2 ⟨L', es', ep', t', hS2, g'⟩ fun s'' L2 es2 ep2 t2 hm'' hS'' g'' kp'' => ?_⟩
    · rw [hsb.2 b (fun h : b = S => offS (by rw [← h]; exact hb))]; exact e
    · refine hR s'' L2 es2 ep2 t2 (Moved.trans W.gtrans ((hm.mono into).then_heap (Nat.le_add_right _ _) fun b o hb e => ?_) hm'') hS'' g'' kp''
      rw [hsb.2 b (fun h : b = S => hb (by rw [h]; exact List.mem_cons_self))]; exact e

theorem st_call {l : Addr} {items : Array Value} (ks : List (Addr × List Int)) {Q : Value → Shared → Prop} (hh : A.handled = none) (hl : s.heap.IsList l items) (hit : items.toList = ks.map fun p => Value.ref p.1)
    (hk : ∀ p ∈ ks, IsT P w s.heap p.2 p.1) (hfew : ∀ M : List (Addr × List Int), (∀ p ∈ M, p ∈ ks) → (M.map (·.2)).Nodup → M.length ≤ 62) (hu : A.units + 3 < cLine)
    (h : ∀ (h' : Heap) (tk : Nat) L es ep t, SetTR P w h' s.heap.objs.size L es ep t → Got ks ks.length L → (∀ b o, s.heap.get? b = some o → h'.get? b = some o) → Q (.ref s.heap.objs.size) { s with heap := h', toks := tk }) :
    wpAny (model P w) A (call (.type "set") [.ref l]) Q E s := by
  have lenI : items.size = ks.length := by
    have q := congrArg List.length hit
    rw [Array.length_toList, List.length_map] at q
    exact q
  obtain ⟨c, tl, mr⟩ := F.called_set.mro
  have md := F.called_set.made
  have into := F.called_set.sub
  refine wpAny_call (codeAny_of_tree ?_)
  show wpAny _ _ (callAny (.type "set") _) _ _ _
  refine wpAny_pure ⟨Code.quiet_builtin _ (by decide +kernel), codeAny_builtin F.entry_type_call ?_⟩
  rw [Around.under_plain (weight_type_call_type "set" [.ref l] []) rfl]
  have h1 := F.called_set.notType
  have h2 := F.called_set.canCreate
  have ct := F.typeCall_set_1 (.ref l)
  repeat (any_goals (first | assumption | wp_step))

  refine codeAny_mono (code_set_led1 (.ref l) (E := E) (Q₁ := fun obj s₁ => obj = .ref s.heap.objs.size ∧ s₁ = { s with heap := s.heap.push { cls := .type "set", dict := none, data := .set #[] 0 (.fresh 0 0 (!w.params.followText "set-order")) } }) ⟨rfl, rfl⟩) fun r s₁ hr => ?_
  cases r with
  | error e => exact hr
  | ok fl =>
    cases fl with
    | ret obj =>
      obtain ⟨rfl, rfl⟩ := hr
      have hS : (s.heap.push { cls := .type "set", dict := none, data := .set #[] 0 (.fresh 0 0 (!w.params.followText "set-order")) }).get? s.heap.objs.size = some { cls := .type "set", dict := none, data := .set #[] 0 (.fresh 0 0 (!w.params.followText "set-order")) } := Heap.get?_push_size _ rfl
      have hT : Shared.TypeIs { s with heap := s.heap.push { cls := .type "set", dict := none, data := .set #[] 0 (.fresh 0 0 (!w.params.followText "set-order")) } } (.ref s.heap.objs.size) "set" := ⟨_, hS, rfl⟩
      have hli := F.called_set.init.lookup
      have hbi := F.called_set.init.bind (.ref s.heap.objs.size)
      repeat (any_goals (first | assumption | wp_step))

      refine codeAny_mono (codeAny_call_builtin (R := wants (fun r s₂ => r = .none ∧ ∃ h' tk L es ep t, s₂ = { s with heap := h', toks := tk } ∧ SetTR P w h' s.heap.objs.size L es ep t ∧ Got ks ks.length L ∧
          (∀ b o, s.heap.get? b = some o → h'.get? b = some o)) E) F.called_set.init.plain F.entry_set_init (check_set_init_1 hT ?_)) fun r₂ s₂ hr₂ => ?_
      · obtain ⟨ol, hol, hcl, nl, hdl⟩ := hl
        obtain ⟨ocls, odict, odata, oslots⟩ := ol
        simp only at hcl hdl
        subst hcl; subst hdl
        have hol' : (s.heap.push { cls := .type "set", dict := none, data := .set #[] 0 (.fresh 0 0 (!w.params.followText "set-order")) }).get? l = some { cls := .type "list", dict := odict, data := .seq items nl, slots := oslots } := Heap.get?_push_of_some _ hol
        have y1 := F.sub_list_set
        have y2 := F.sub_list_frozenset
        have hne : (Value.type "list" == Value.type "dict") = false := by decide
        have hl1 : (s.heap.push { cls := .type "set", dict := none, data := .set #[] 0 (.fresh 0 0 (!w.params.followText "set-order")) }).IsList l items := ⟨_, hol', rfl, nl, rfl⟩
        unfold Builtin.«set.__init__» noKeywords Builtin.Frozenset.updateFrom
        generalize hPI : pyIter = PI
        wp_walk
        subst hPI

        refine wpAny_pyIter_list hl1 ?_
        refine wpAny_bind (wpAny_runValue ?_)
        have lS : l < s.heap.objs.size := Heap.lt_size hol
        have hh3 : A.in1.in1.in1.handled = none := by simp [hh]
        have hz1 : (s.heap.push { cls := .type "set", dict := none, data := .set #[] 0 (.fresh 0 0 (!w.params.followText "set-order")) }).objs.size = s.heap.objs.size + 1 := Heap.size_push ..
        have nI : l ≠ (s.heap.push { cls := .type "set", dict := none, data := .set #[] 0 (.fresh 0 0 (!w.params.followText "set-order")) }).objs.size := by
          rw [Heap.size_push]; exact Nat.ne_of_lt (Nat.lt_succ_of_lt lS)
        have offS : s.heap.objs.size ∉ [(s.heap.push { cls := .type "set", dict := none, data := .set #[] 0 (.fresh 0 0 (!w.params.followText "set-order")) }).objs.size, l] := by
          rw [Heap.size_push]; simp only [List.mem_cons, List.mem_singleton, List.not_mem_nil, or_false, not_or]
          exact ⟨Nat.ne_of_lt (Nat.lt_succ_self _), Nat.ne_of_gt lS⟩
        have hval : ∀ (i : Nat) (v : Value), items[i]? = some v → ∃ p, ks[i]? = some p ∧ v = .ref p.1 := fun i v hv => by
          have q : items.toList[i]? = some v := by rw [Array.getElem?_toList]; exact hv
          rw [hit, List.getElem?_map] at q
          cases hq : ks[i]? with
          | none => rw [hq] at q; cases q
          | some p =>
            rw [hq] at q
            exact ⟨p, rfl, (Option.some.inj q).symm⟩
        have fresh : ∀ b, s.heap.objs.size ≤ b → s.heap.get? b = none := fun b hb => by
          cases q : s.heap.get? b with
          | none => rfl
          | some o => exact absurd (Nat.lt_of_lt_of_le (Heap.lt_size q) hb) (Nat.lt_irrefl _)
        refine st_loop ((Walks.list hh3 _ l nI items).toS) s.heap.objs.size
          offS ks lenI hfew hval s.heap hk (fresh _ (Nat.le_refl _)) (fun b hb => fresh b (by
            rw [List.mem_singleton.mp hb, Heap.size_push]
            exact Nat.le_succ _)) hu (items.size - 0) 0 _ (by omega) (Nat.zero_le _)
          ⟨⟨_, Heap.get?_push_size _ rfl, rfl, rfl⟩, (hl1.push _)⟩ (fun b o e => Heap.get?_push_of_some _ (Heap.get?_push_of_some _ e)) ?hS0 ?hR
        case hS0 =>
          have hget : ((s.heap.push { cls := .type "set", dict := none, data := .set #[] 0 (.fresh 0 0 (!w.params.followText "set-order")) }).push { cls := .type "list_iterator", data := .fields #[.ref l, .int 0 0] }).get? s.heap.objs.size
              = some { cls := .type "set", dict := none, data := .set #[] 0 (.fresh 0 0 (!w.params.followText "set-order")) } := Heap.get?_push_of_some _ hS
          exact ⟨[], #[], 0, _, setTR_fresh hget, Got.zero ks⟩
        case hR =>
          intro s' L es ep t hm hS' g' kp
          obtain ⟨h', g2, d', tk', os'⟩ := s'
          have eg : g2 = s.gens := hm.gens
          have ed : d' = s.drawn := hm.drawn
          have eo : os' = s.os := hm.os
          subst eg; subst ed; subst eo
          show wpAny _ _ _ _ _ _
          refine wpAny_pure ?_
          show wpAny _ _ (ret Value.none) _ _ _
          rw [lenI] at g'
          exact wpAny_pure ⟨rfl, h', tk', L, es, ep, t, rfl, hS', g', kp⟩

      · cases r₂ with
        | error e => exact hr₂
        | ok fl₂ =>
          cases fl₂ with
          | ret r =>
            obtain ⟨rfl, h', tk, L, es, ep, t, rfl, hS', g', hk'⟩ := hr₂
            repeat (any_goals (first | assumption | wp_step))
            exact h _ _ _ _ _ _ hS' g' hk'
          | _ => exact hr₂.elim
    | _ => exact hr.elim

end
section
variable {X : Cx}
def rSetM (K : PySem.W.Frag) (P : Program) (w : World) : List V → Hp → VK → Prop := fun xs H Q => ∃ (l : Addr) (ks : List (Addr × List Int)), xs = [V.ref l] ∧ SqL K H l (ks.map fun p => V.ref p.1) ∧ (∀ p ∈ ks, SqT K H p.1 (p.2.map V.int)) ∧ (∀ M : List (Addr × List Int), (∀ p ∈ M, p ∈ ks) → (M.map (·.2)).Nodup → M.length ≤ 62) ∧
  ∀ a L, H a = none → (∀ p ∈ L, p ∈ ks) → (∀ p ∈ ks, p.2 ∈ L.map (·.2)) → Q (.ref a) (upd H a (SetTO P w a L))
theorem cr_setM (hc : X.calm = true) (hu : X.A.units + 64 < cLine) : CallR X (.type "set") (rSetM X.K X.prog X.w) := by
  intro pins s σ H xs us Q I r h
  obtain ⟨l, ks, rfl, hl, hk, hf, q⟩ := h
  rw [Vals.ref1 r]
  obtain ⟨its, rv, pl, hz⟩ := I.list hl
  have hn : H s.heap.objs.size = none := I.hok.fresh (Nat.le_refl _)
  refine st_call (P := X.prog) (w := X.w) ks (I.ok.hd hc) pl.isList (by simpa using refs_of_vals rv) (fun p hp => L2.Inv.isT I (hk p hp)) hf (by omega) fun h' tk L es ep t R g k => ?_
  refine ⟨.ref s.heap.objs.size, upd H s.heap.objs.size (SetTO X.prog X.w s.heap.objs.size L), I.laid (t' := tk) k (Nat.le_refl _) (setTO_new R.t0), rfl, q _ L hn (fun p hp => ?_) fun p hp => ?_⟩
  · exact List.mem_of_mem_take (g.sub p hp)
  · exact g.all p (by rw [List.take_length]; exact hp)
end
end My

set_option maxHeartbeats 4000000
/-! Sets of sides; what the program's is_orientation answers. -/
namespace My
open PySem PySem.Spec PyProof.Rows L2
theorem pairs_ksO {K : PySem.W.Frag} {H : Hp} : ∀ {ys : List V} {qs : List E2}, PairsAt K H ys qs → ∃ ks : List (Addr × List Int), ys = ks.map (fun p => V.ref p.1) ∧ ks.map (·.2) = qs.map (fun q => [(q.1 : Int), (q.2 : Int)]) ∧ ∀ p ∈ ks, SqT K H p.1 (p.2.map V.int)
  | _, _, .nil => ⟨[], rfl, rfl, fun _ z => nomatch z⟩
  | _, _, .cons a b => by
    obtain ⟨t, rfl, h⟩ := a
    obtain ⟨ks, h1, h2, h3⟩ := pairs_ksO b
    refine ⟨(t, _) :: ks, by rw [h1]; rfl, by rw [List.map_cons, h2]; rfl, ?_⟩
    intro p hp
    rcases List.mem_cons.mp hp with rfl | hp
    · exact h
    · exact h3 p hp
def toEO (ns : List Int) : E2 := ((ns.getD 0 0).toNat, (ns.getD 1 0).toNat)
theorem toEO_of (q : E2) : toEO [(q.1 : Int), (q.2 : Int)] = q := by
  unfold toEO
  simp
theorem ks_pairsO {K : PySem.W.Frag} {H : Hp} : ∀ {L : List (Addr × List Int)}, (∀ p ∈ L, SqT K H p.1 (p.2.map V.int)) → (∀ p ∈ L, p.2 = [((toEO p.2).1 : Int), ((toEO p.2).2 : Int)]) → PairsAt K H (L.map fun q => V.ref q.1) (L.map fun p => toEO p.2)
  | [], _, _ => .nil
  | p :: L, h, b => by
    refine .cons ⟨p.1, rfl, ?_⟩ (ks_pairsO (fun r hr => h r (List.mem_cons_of_mem _ hr)) fun r hr => b r (List.mem_cons_of_mem _ hr))
    have z := h p (List.mem_cons_self ..)
    rw [b p (List.mem_cons_self ..)] at z
    exact z
def leP : List E2 := (List.range 9).flatMap fun a => ((List.range 9).filter fun b => decide (a ≤ b)).map fun b => (a, b)
theorem leP_len : leP.length = 45 := by decide +kernel
theorem mem_leP {q : E2} (h : q.1 ≤ q.2) (h9 : q.2 < 9) : q ∈ leP := by
  unfold leP
  rw [List.mem_flatMap]
  refine ⟨q.1, List.mem_range.mpr (by omega), List.mem_map.mpr ⟨q.2, List.mem_filter.mpr ⟨List.mem_range.mpr h9, by simpa using h⟩, rfl⟩⟩
theorem ks_few {M : List (Addr × List Int)} (nd : (M.map (·.2)).Nodup) (h : ∀ p ∈ M, ∃ q : E2, p.2 = [(q.1 : Int), (q.2 : Int)] ∧ q.1 ≤ q.2 ∧ q.2 < 9) : M.length ≤ 62 := by
  have e : M.map (·.2) = (M.map fun p => toEO p.2).map fun q => [(q.1 : Int), (q.2 : Int)] := by
    rw [List.map_map]
    refine List.map_congr_left fun p hp => ?_
    obtain ⟨q, e, _⟩ := h p hp
    show p.2 = [((toEO p.2).1 : Int), ((toEO p.2).2 : Int)]
    rw [e, toEO_of]
  rw [e] at nd
  have nd2 : (M.map fun p => toEO p.2).Nodup := by
    have z := List.pairwise_map.mp nd
    exact z.imp fun h e => h (by rw [e])
  have z := sub_few nd2 (m := leP) fun q hq => by
    obtain ⟨p, hp, rfl⟩ := List.mem_map.mp hq
    obtain ⟨q, e, h1, h2⟩ := h p hp
    rw [e, toEO_of]
    exact mem_leP h1 h2
  rw [List.length_map, leP_len] at z
  omega
theorem pairsD_eqv : ∀ ws es : List E2, PyData.eqvAll (ws.map pairD) (es.map pairD) = decide (ws = es)
  | [], [] => by simp [PyData.eqvAll]
  | [], _ :: _ => by simp [PyData.eqvAll]
  | _ :: _, [] => by simp [PyData.eqvAll]
  | w :: ws, e :: es => by
    rw [List.map_cons, List.map_cons]
    simp only [PyData.eqvAll]
    rw [pairD_eqv, pairsD_eqv ws es]
    by_cases h : w = e
    · subst h
      simp
    · simp [h]
theorem pairs_shapedO (es : List E2) : SeqAt.shaped (.list (es.map pairD)) = true := by
  have pd := pairsD_depth es
  unfold SeqAt.shaped
  rw [Bool.and_eq_true, decide_eq_true_eq]
  refine ⟨?_, ?_⟩
  · simp only [PyData.canLay0, pairsD_lay es]
  · simp only [PyData.depth]
    omega
theorem vp_edge (n : Int) (s : Sh) : vpB n s = edgeM n n s := by
  cases s with
  | tup ss => rcases ss with _ | ⟨a, _ | ⟨b, _ | ⟨c, t⟩⟩⟩ <;> rfl
  | _ => rfl
theorem vp_pairs {n : Nat} {ss : List Sh} (h : ss.all (vpB (n : Int)) = true) : ∃ ps : List E2, ss = ps.map pairS ∧ ∀ p ∈ ps, p.1 < n ∧ p.2 < n := by
  rw [show vpB (n : Int) = edgeM n n from funext (vp_edge n)] at h
  obtain ⟨ps, e, lt⟩ := edgesM_pairs h
  exact ⟨ps, e, fun p hp => by have := lt p hp; omega⟩
theorem ori_vp {n : Nat} {es : List E2} (g : Good n es) {ss : List Sh} (h : Ori es (.tup ss)) : ss.all (vpB (n : Int)) = true := by
  obtain ⟨ps, e, _, h1, _⟩ := h
  injection e with e
  subst e
  rw [List.all_eq_true]
  intro s hs
  obtain ⟨p, hp, rfl⟩ := List.mem_map.mp hs
  have small : ∀ q : Z2, q ∈ es.map zE → 0 ≤ q.1 ∧ q.1 < n ∧ 0 ≤ q.2 ∧ q.2 < n := fun q hq => by
    obtain ⟨r, hr, rfl⟩ := List.mem_map.mp hq
    have := g.lt r hr
    show (0 : Int) ≤ (r.1 : Int) ∧ (r.1 : Int) < n ∧ (0 : Int) ≤ (r.2 : Int) ∧ (r.2 : Int) < n
    omega
  have b : 0 ≤ p.1 ∧ p.1 < n ∧ 0 ≤ p.2 ∧ p.2 < n := by
    rcases h1 p hp with z | z
    · exact small p z
    · have := small _ z
      exact ⟨this.2.2.1, this.2.2.2, this.1, this.2.1⟩
  show ((decide (p.1 ≥ 0) && decide (p.1 ≤ (n : Int) - 1)) && (decide (p.2 ≥ 0) && decide (p.2 ≤ (n : Int) - 1))) = true
  simp
  omega
end My

set_option maxHeartbeats 4000000
/-! A pair in a list or a tuple of pairs; lots compared to the empty one. -/
namespace My
open PySem PySem.Spec PyProof.Rows L2
def numsD (l : List Nat) : List PyData := l.map fun k => PyData.int ((k : Nat) : Int)
theorem numsD_dp {K : PySem.W.Frag} {H : Hp} : ∀ l : List Nat, DpAll K H (numsN l) (numsD l)
  | [] => .nil
  | a :: r => .cons (.int _) (numsD_dp r)
theorem numsD_lay : ∀ l : List Nat, PyData.canLayAll0 (numsD l) = true ∧ PyData.depthAll (numsD l) ≤ 1
  | [] => by constructor <;> simp [numsD, PyData.canLayAll0, PyData.depthAll]
  | a :: r => by
    obtain ⟨h1, h2⟩ := numsD_lay r
    unfold numsD at h1 h2 ⊢
    rw [List.map_cons]
    constructor
    · simp only [PyData.canLayAll0, PyData.canLay0, h1, Bool.and_true]
    · simp only [PyData.depthAll, PyData.depth]
      omega
theorem numsD_shL (l : List Nat) : SeqAt.shaped (.list (numsD l)) = true := by
  obtain ⟨h1, h2⟩ := numsD_lay l
  unfold SeqAt.shaped
  rw [Bool.and_eq_true, decide_eq_true_eq]
  refine ⟨?_, ?_⟩
  · simp only [PyData.canLay0, h1]
  · simp only [PyData.depth]
    omega
theorem numsD_shT (l : List Nat) : SeqAt.shaped (.tuple (numsD l)) = true := by
  obtain ⟨h1, h2⟩ := numsD_lay l
  unfold SeqAt.shaped
  rw [Bool.and_eq_true, decide_eq_true_eq]
  refine ⟨?_, ?_⟩
  · simp only [PyData.canLay0, h1]
  · simp only [PyData.depth]
    omega
theorem numsD_nilL (l : List Nat) : PyData.eqv (.list (numsD l)) (.list (numsD [])) = l.isEmpty := by
  cases l with
  | nil => simp [numsD, PyData.eqv, PyData.eqvAll]
  | cons a r => simp [numsD, PyData.eqv, PyData.eqvAll]
theorem numsD_nilT (l : List Nat) : PyData.eqv (.tuple (numsD l)) (.tuple (numsD [])) = l.isEmpty := by
  cases l with
  | nil => simp [numsD, PyData.eqv, PyData.eqvAll]
  | cons a r => simp [numsD, PyData.eqv, PyData.eqvAll]
section
variable {X : Cx}
def rInPL (K : PySem.W.Frag) : R2 := fun x y H Q => ∃ (p : E2) (t : Addr) (xs : List V) (es : List E2), PairAt K H x p ∧ y = .ref t ∧ (SqL K H t xs ∨ SqT K H t xs) ∧ PairsAt K H xs es ∧ Q (.bl (decide (p ∈ es))) H
theorem op_inPL (hu : X.A.units + 64 < cLine) : OpR X (compareOp .In) (rInPL X.K) := by
  rintro pins s σ H x y v u Q I rx ry ⟨p, t, xs, es, hp, rfl, ht, hes, q⟩
  rcases ht with ht | ht
  · obtain ⟨as, r1⟩ := Dp.reads I _ x v hp.dp rx
    obtain ⟨bs, r2⟩ := Dp.reads I (.list (es.map pairD)) (.ref t) u (.lst ht hes.dp) ry
    refine SeqAt.in_list_reads r2 r1 (pairsD_lay es) (pairD_lay p) ?_ ?_
    · have := pairD_depth p
      have := Nat.min_le_right (PyData.depthAll (es.map pairD)) (pairD p).depth
      omega
    · rw [any_pairs]
      exact ⟨.bl _, H, I, rfl, q⟩
  · exact op_inP hu pins s σ H x _ v u Q I rx ry ⟨p, t, xs, es, hp, rfl, ht, hes, q⟩
end
end My
namespace My
open PySem PySem.Spec PyProof.Rows L2
theorem pairs_ksT {H : Hp} : ∀ {ys : List V} {qs : List E2}, PairsT H ys qs → ∃ ks : List (Addr × List Int), ys = ks.map (fun p => V.ref p.1) ∧ ks.map (·.2) = qs.map (fun q => [(q.1 : Int), (q.2 : Int)]) ∧ ∀ p ∈ ks, H p.1 = some (.tup (p.2.map V.int))
  | _, _, .nil => ⟨[], rfl, rfl, fun _ z => nomatch z⟩
  | _, _, .cons a b => by
    obtain ⟨t, rfl, h⟩ := a
    obtain ⟨ks, h1, h2, h3⟩ := pairs_ksT b
    refine ⟨(t, _) :: ks, by rw [h1]; rfl, by rw [List.map_cons, h2]; rfl, ?_⟩
    intro p hp
    rcases List.mem_cons.mp hp with rfl | hp
    · exact h
    · exact h3 p hp
theorem ks_pairsT {H : Hp} : ∀ {L : List (Addr × List Int)}, (∀ p ∈ L, H p.1 = some (.tup (p.2.map V.int))) → (∀ p ∈ L, p.2 = [((toEO p.2).1 : Int), ((toEO p.2).2 : Int)]) → PairsT H (L.map fun q => V.ref q.1) (L.map fun p => toEO p.2)
  | [], _, _ => .nil
  | p :: L, h, b => by
    refine .cons ⟨p.1, rfl, ?_⟩ (ks_pairsT (fun r hr => h r (List.mem_cons_of_mem _ hr)) fun r hr => b r (List.mem_cons_of_mem _ hr))
    have z := h p (List.mem_cons_self ..)
    rw [b p (List.mem_cons_self ..)] at z
    exact z
def lotsD (L : List (List Nat)) : List PyData := L.map fun l => .tuple (numsD l)
theorem lotsD_lay : ∀ L : List (List Nat), PyData.canLayAll0 (lotsD L) = true ∧ PyData.depthAll (lotsD L) ≤ 3
  | [] => by constructor <;> simp [lotsD, PyData.canLayAll0, PyData.depthAll]
  | l :: r => by
    obtain ⟨h1, h2⟩ := lotsD_lay r
    obtain ⟨g1, g2⟩ := numsD_lay l
    unfold lotsD at h1 h2 ⊢
    rw [List.map_cons]
    constructor
    · simp only [PyData.canLayAll0, PyData.canLay0, h1, g1, Bool.and_true]
    · simp only [PyData.depthAll, PyData.depth]
      omega
theorem lotsD_sh (L : List (List Nat)) : SeqAt.shaped (.list (lotsD L)) = true := by
  obtain ⟨h1, h2⟩ := lotsD_lay L
  unfold SeqAt.shaped
  rw [Bool.and_eq_true, decide_eq_true_eq]
  refine ⟨?_, ?_⟩
  · simp only [PyData.canLay0, h1]
  · simp only [PyData.depth]
    omega
theorem lotsD_nil (L : List (List Nat)) : PyData.eqv (.list (lotsD L)) (.list (lotsD [])) = L.isEmpty := by
  cases L with
  | nil => simp [lotsD, PyData.eqv, PyData.eqvAll]
  | cons a r => simp [lotsD, PyData.eqv, PyData.eqvAll]
end My
namespace My
open PySem PySem.Spec PyProof.Rows L2
section
variable {X : Cx}
def rListRng2 : List V → Hp → VK → Prop := fun vs H Q => ∃ (a : Addr) (lo n : Nat), vs = [V.ref a] ∧ H a = some (.rng (lo : Int) ((lo + n : Nat) : Int)) ∧ n ≤ 1000 ∧ lo ≤ 1000 ∧ ∀ p, H p = none → Q (.ref p) (upd H p (.lst (numsN ((List.range n).map (lo + ·)))))
theorem call_listRng2 (hc : X.calm = true) : CallR X (.type "list") rListRng2 := by
  intro pins s σ H vs us Q I r h
  obtain ⟨a, lo, n, rfl, ha, hn, hlo, q⟩ := h
  obtain ⟨u1, rfl, ru⟩ := vals1 r
  obtain rfl : u1 = Value.ref a := ru
  obtain ⟨t1, t2, t3, ho⟩ := I.hok a _ ha
  refine call_list_range (I.ok.hd hc) (n := n) ho (small_one (by omega) (by omega) (by omega) (by omega)) (by rw [rangeSize_one]; split <;> omega) (by omega) fun h' tk acc c' hk e' hi => ?_
  refine ⟨.ref s.heap.objs.size, upd H s.heap.objs.size (.lst (numsN ((List.range n).map (lo + ·)))), I.laid hk (Nat.le_refl _) (show ObjOk X.prog X.w _ _ _ (.lst (numsN ((List.range n).map (lo + ·)))) from ⟨?_, acc.toList, c', ?_, ?_⟩), rfl, q _ (I.hok.fresh (Nat.le_refl _))⟩
  · rw [numsN_len, List.length_map, List.length_range]; exact small hn
  · have la : acc.toList.length = n := by rw [Array.length_toList]; exact hi.1
    have es : numsN ((List.range n).map (lo + ·)) = (List.range acc.toList.length).map fun i => V.int (((lo + i : Nat)) : Int) := by
      rw [la]
      unfold numsN
      rw [List.map_map]
      rfl
    rw [es]
    refine vals_of_get acc.toList _ fun j u hj => ?_
    obtain ⟨t, rfl⟩ := hi.2 j u (by rw [← hj, Array.getElem?_toList])
    refine ⟨t, ?_⟩
    rw [Int.mul_one]
    congr 1
  · rw [Array.toArray_toList]
    exact e'
end
end My

set_option maxHeartbeats 8000000
/-! The lots that lack colours, of the law. -/
namespace My
open PySem PySem.Spec PyProof.Rows L2
abbrev sLack : Stmt := top 42
theorem scLack : FnScope ["graph", "found", "lot"] ["graph"] (defScope sLack) := ⟨rfl, rfl, rfl, by decide +kernel, rfl, by decide +kernel, by decide +kernel⟩
theorem great_most {es : List E2} {l : List Nat} {v : Nat} (nl : l.Nodup) (h : GreatOk es true l v) : Most (adjB es) l v := by
  intro B nB sB cl
  have ns : (l.filter fun x => decide (x ∈ B)).Nodup := List.Pairwise.filter _ nl
  have z := h.2 (l.filter fun x => decide (x ∈ B)) List.filter_sublist ((pairB_mem ns).mpr fun u hu w hw ne => cl u (of_decide_eq_true (List.mem_filter.mp hu).2) w (of_decide_eq_true (List.mem_filter.mp hw).2) ne)
  have y := sub_few nB (m := l.filter fun x => decide (x ∈ B)) fun x hx => List.mem_filter.mpr ⟨sB x hx, decide_eq_true hx⟩
  omega
theorem ext_colF {es : List E2} {l : List Nat} {k : Nat} (nl : l.Nodup) : ExtB es l [] k ↔ ColF (adjB es) l k := by
  have pl : ∀ v ∈ l, l.idxOf v < l.length ∧ l.getD (l.idxOf v) 0 = v := fun v hv => by
    have h := List.idxOf_lt_length_of_mem hv
    exact ⟨h, by rw [gD h]; exact List.getElem_idxOf h⟩
  constructor
  · rintro ⟨f, _, h2, h3⟩
    refine ⟨fun v => f (l.idxOf v), fun u hu => h2 _ (pl u hu).1, fun u hu v hv a => h3 _ _ (pl u hu).1 (pl v hv).1 ?_⟩
    unfold adL
    rw [(pl u hu).2, (pl v hv).2]
    exact a
  · rintro ⟨c, h1, h2⟩
    exact ⟨fun i => c (l.getD i 0), fun u hu => absurd hu (by simp), fun u hu => h1 _ (gD_mem hu), fun u v hu hv a => h2 _ (gD_mem hu) _ (gD_mem hv) a⟩
/-- a lot is lacking -/
def LackL (es : List E2) (l : List Nat) : Prop := 4 < l.length ∧ ∃ v, GreatOk es true l v ∧ ¬ ColF (adjB es) l v
theorem lack_perf {n : Nat} {es : List E2} (g : Good n es) : (∀ l, LotOk n l → ¬ LackL es l) ↔ Perf n es := by
  have n9 := g.n9
  constructor
  · intro h l lo
    apply Classical.byContradiction
    intro ne
    have nl : l.Nodup := lo.up.imp fun z => Nat.ne_of_lt z
    obtain ⟨q, hq⟩ : ∃ q, q ∈ oddOf es (flipE n es) l := by
      cases e : oddOf es (flipE n es) l with
      | nil => exact absurd e ne
      | cons a _ => exact ⟨a, List.mem_cons_self ..⟩
    obtain ⟨lm, r⟩ := odd_ring g nl hq
    obtain ⟨b, cs⟩ := q
    dsimp only at r
    obtain ⟨v, gv⟩ := great_has es true l
    refine h l lo ⟨by omega, v, gv, fun col => ?_⟩
    obtain ⟨⟨s, ss, ps, sl⟩, _⟩ := gv
    have nC : s.Nodup := nl.sublist ss
    have sC : ∀ v ∈ s, v ∈ l := fun v hv => ss.subset hv
    have cC : CliqF (adjB es) s := fun u hu v hv ne => (pairB_mem nC).mp ps u hu v hv ne
    have l4 : 4 ≤ l.length := by omega
    cases b with
    | true =>
      rw [if_pos rfl] at r
      have w := ring_clq r l4 nC sC cC
      have s := col_few (s := (l.length - 1) / 2) nl col fun B nB sB st => by
        have := ring_stb r nl l4 nB sB st
        omega
      rw [sl] at w
      have s2 : l.length ≤ 2 * ((l.length - 1) / 2) := Nat.le_trans s (Nat.mul_le_mul_right _ w)
      omega
    | false =>
      rw [if_neg (by decide)] at r
      have op : ∀ u ∈ l, ∀ v ∈ l, u ≠ v → adjB (flipE n es) u v = !adjB es u v := fun u hu v hv ne => by
        rw [comp_adj g (lo.lt u hu) (lo.lt v hv)]
        unfold compF
        rw [decide_eq_true ne, Bool.true_and]
      have w := ring_stb r nl l4 nC sC fun u hu v hv ne => by rw [op u (sC u hu) v (sC v hv) ne, cC u hu v hv ne]; rfl
      have s := col_few (s := 2) nl col fun B nB sB st => ring_clq r l4 nB sB fun u hu v hv ne => by rw [op u (sB u hu) v (sB v hv) ne, st u hu v hv ne]; rfl
      rw [sl] at w
      omega
  · rintro p l lo ⟨l4, v, gv, no⟩
    have nl : l.Nodup := lo.up.imp fun z => Nat.ne_of_lt z
    have l9 : l.length ≤ 9 := Nat.le_trans lo.few n9
    exact no (spgt (fun u v => adj_comm es u v) (adj_self g) _ l rfl nl l9 (ring_bad g p lo.lt true) (ring_bad g p lo.lt false) v (great_most nl gv))
def spLack (K : PySem.W.Frag) : Sp := fun vs H Q _ => ∃ (x : V) (n : Nat) (es : List E2), vs = [x] ∧ GraphAt K H x n es ∧ Good n es ∧ ∀ (F : Addr) (zs : List V) (L : List (List Nat)) H', Same H H' → H' F = some (.lst zs) → LotsT H' zs L → L.isEmpty = perfB n es → Q (.ref F) H'
section
variable {P : Program} {w : World} {K : PySem.W.Frag} {mg : Str → Option Value} {base : Heap} {f fL fC fG : Addr} {fd dL dC dG : FuncData}
theorem ok_lacking_l (F : L2.Fun K "_law_lacking" "_law_lacking" sLack f fd)
    (GL : FnOk P w K mg base CX0 1 fL dL ["n"] (spLots K)) (bL : L2.Binds K dL ["n"] []) (kL : PySem.W.keepIn K (.ref fL) = true) (mL : mg "_law_lots" = some (.ref fL))
    (GC : FnOk P w K mg base CX0 12 fC dC ["graph", "lot", "told", "many"] (spCold K 10)) (bC : L2.Binds K dC ["graph", "lot", "told", "many"] []) (kC : PySem.W.keepIn K (.ref fC) = true) (mC : mg "_law_is_coloured" = some (.ref fC))
    (GG : FnOk P w K mg base CX0 12 fG dG ["graph", "lot", "is_tied"] (spGreat K 10)) (bG : L2.Binds K dG ["graph", "lot", "is_tied"] []) (kG : PySem.W.keepIn K (.ref fG) = true) (mG : mg "_law_greatest" = some (.ref fG)) (ml : mg "len" = none) : FnOk P w K mg base CX0 13 f fd ["graph"] (spLack K) := by
  refine F.ok scLack (fun vs H Q E h => ?_) (fun cdv A outer s H vs Q E hr h => ?_)
  · obtain ⟨x, n, es, rfl, _⟩ := h
    rfl
  obtain ⟨x, n, es, rfl, hx, g, q⟩ := h
  have h1 := hr.mono (show 1 ≤ 12 by decide)
  refine ⟨_, pss_cons (ps_set (i := 1) scLack.nd rfl (.inl rfl) (pe_lst pa_nil))
    (pss_cons (ps_for PassesOwn.never rfl (pi_list (pe_call GL h1 (by rfl) mL kL bL .nil pass0 (pa_cons (pe_ix (r := rIxT K) ix_tup (pv 0) pe_int (fun _ _ => rfl)) pa_nil))) (pg_name (i := 2) scLack.nd rfl (.inl rfl))
      (pss_one (ps_if (PW.pt (pw_and (pt_cmpR op_gt (pe_callB call_len_seq (by rfl) ml PySem.boot_len (pa_cons (pv 2) pa_nil)) pe_int (nomark _)) (pw_and1 (pt_not (pt_val (pe_call GC hr (by rfl) mC kC bC .nil pass0 (pa_cons (pv 0) (pa_cons (pv 2) (pa_cons (pe_lst pa_nil) (pa_cons (pe_call GG hr (by rfl) mG kG bG .nil pass0 (pa_cons (pv 0) (pa_cons (pv 2) (pa_cons pe_bl pa_nil)))) pa_nil)))))))))) (pss_one (ps_expr (pe_bm PySem.F.plainAttrs_list PySem.F.slot_list_append PySem.F.type_list_append mt_append (pv 1) (pa_cons (pv 2) pa_nil)))) pss_nil)))
    (pss_one (ps_ret (pv 1)))), ?_⟩
  have n9 := g.n9
  refine ⟨small (Nat.zero_le _), fun F0 nF0 => ?_⟩
  have sF0 := same_new nF0 (.lst [])
  have hF0 := upd_same (H := H) (a := F0) (o := .lst [])
  generalize upd H F0 (.lst []) = H1 at sF0 hF0 ⊢
  obtain ⟨tg, eg, ys, rfl, htg0, heg0, hes0⟩ := hx
  have htg := Same.tup sF0 htg0
  have a0 : atI [V.int (n : Int), V.ref eg] 0 = some (.int (n : Int)) := atI_nat (j := 0) rfl
  refine ⟨_, rfl, tg, _, 0, _, rfl, rfl, htg, a0, n, rfl, n9, fun W ls L H2 s2 hW hl al len => ?_⟩
  have ll := hl.len
  have l512 : L.length ≤ 512 := by rw [len]; exact Nat.le_trans (Nat.pow_le_pow_right (by decide) n9) (by decide)
  have lpos : 0 < ls.length := by rw [ll, len]; exact Nat.two_pow_pos n
  have neW : W ≠ F0 := fun e => by
    have z := s2 _ _ hF0
    rw [← e, hW] at z
    injection z with z
    injection z with z
    rw [z] at lpos
    exact absurd lpos (by decide)
  refine ⟨W, rfl, ⟨_, SqL.of hW⟩, for_it (walk_list (xs := ls)) (fun i σ H' => ∃ (s3 : Option V) (zs : List V) (M : List (List Nat)), σ = [some (.ref tg), some (.ref F0), s3] ∧ Same H H' ∧ H' W = some (.lst ls) ∧ LotsT H' ls L ∧ H' F0 = some (.lst zs) ∧ LotsT H' zs M ∧ M.length ≤ i ∧ ∀ l, l ∈ M ↔ l ∈ L.take i ∧ LackL es l) ⟨none, [], [], rfl, sF0.trans s2, hW, hl, s2 _ _ hF0, .nil, Nat.le_refl _, fun l => by simp⟩ (fun i σ H' _ ⟨_, _, _, _, _, h, _⟩ => SqL.of h) ?_ ?_⟩
  · rintro i y σ H3' H3 li ⟨s3', zs, M, rfl, s3, hW3, hl3, hF3, hz, lM, mM⟩ ⟨rfl, hy⟩
    obtain ⟨l, hL, t, rfl, ht⟩ := hl3.get hy
    have lo := (al.2 l).mp (List.mem_of_getElem? hL)
    have l9 : l.length ≤ 9 := Nat.le_trans lo.few n9
    have nl : l.Nodup := lo.up.imp fun z => Nat.ne_of_lt z
    have skip : ¬ LackL es l → ∀ m, m ∈ M ↔ m ∈ L.take (i + 1) ∧ LackL es m := fun no m => by
      rw [mM, take_succ hL, List.mem_append, List.mem_singleton]
      constructor
      · rintro ⟨a, b⟩
        exact ⟨.inl a, b⟩
      · rintro ⟨a | rfl, b⟩
        · exact ⟨a, b⟩
        · exact absurd b no
    have lz := hz.len
    have ln : (natV l).length = l.length := List.length_map _
    refine ⟨_, rfl, t, _, rfl, .inr (SqT.of ht), _, _, rfl, rfl, _, rfl, ?_⟩
    rw [ln]
    refine iteB (fun c => ?_) (fun c => ?_)
    rotate_left 1
    · have c := of_decide_eq_false c
      exact ⟨_, zs, M, rfl, s3, hW3, hl3, hF3, hz, Nat.le_succ_of_le lM, skip fun z => c (by have := z.1; omega)⟩
    have c := of_decide_eq_true c
    have hx3 : GraphAt K H3 (.ref tg) n es := GraphAt.same s3 ⟨tg, eg, ys, rfl, htg0, heg0, hes0⟩
    refine ⟨_, rfl, _, rfl, small (show 0 ≤ 1000 by decide), fun e ne => ?_⟩
    have se := same_new ne (.lst [])
    have he := upd_same (H := H3) (a := e) (o := .lst [])
    generalize upd H3 e (.lst []) = H4 at se he ⊢
    refine ⟨_, rfl, _, rfl, .ref tg, n, es, .ref t, l, true, rfl, hx3.same se, ⟨t, rfl, se _ _ ht⟩, by omega, l9, fun v H5 s5 gv => ?_⟩
    have s35 := se.trans s5
    have v9 := great_le gv
    refine ⟨.ref tg, n, es, .ref t, e, l, [], v, rfl, hx3.same s35, g, ⟨t, rfl, s35 _ _ ht⟩, l9, s5 _ _ he, Nat.zero_le _, by show l.length - 0 < 10; omega, by omega, ⟨fun u hu => absurd hu (by simp), fun u v hu => absurd hu (by simp)⟩, fun b H6 s6 hb => ⟨_, rfl, ?_⟩⟩
    have s36 := s35.trans s6
    have hF6 := s36 _ _ hF3
    rw [ext_colF nl] at hb
    refine iteB (fun cb => ?_) (fun cb => ?_)
    · have no : ¬ ColF (adjB es) l v := fun z => by
        rw [hb.mpr z] at cb
        cases cb
      have hx6 : LotT H6 (.ref t) l := ⟨t, rfl, s36 _ _ ht⟩
      refine ⟨_, rfl, .inl ⟨rfl, _, SqL.of hF6⟩, _, rfl, F0, zs, _, rfl, rfl, hF6, small1000 (by have : i < L.length := (by rw [← ll]; exact li); omega), _, _, M ++ [l], rfl, same_put (s3.trans s36) nF0, by rw [upd_ne neW]; exact s36 _ _ hW3, (hl3.same s36).put hF6, upd_same, ((hz.same s36).put hF6).snoc (hx6.put hF6), by rw [List.length_append, List.length_singleton]; omega, fun m => ?_⟩
      rw [take_succ hL, List.mem_append, List.mem_append, List.mem_singleton, mM]
      constructor
      · rintro (⟨a, b⟩ | rfl)
        · exact ⟨.inl a, b⟩
        · exact ⟨.inr rfl, by omega, v, gv, no⟩
      · rintro ⟨a | rfl, b⟩
        · exact .inl ⟨a, b⟩
        · exact .inr rfl
    · have yes : ColF (adjB es) l v := hb.mp (by simpa using cb)
      refine ⟨_, zs, M, rfl, s3.trans s36, s36 _ _ hW3, hl3.same s36, hF6, hz.same s36, Nat.le_succ_of_le lM, skip ?_⟩
      rintro ⟨_, v2, g2, n2⟩
      refine n2 (yes.mono ?_)
      obtain ⟨⟨s, a, b, c⟩, _⟩ := gv
      rw [← c]
      exact g2.2 s a b
  · rintro σ H3 ⟨s3', zs, M, rfl, s3, hW3, hl3, hF3, hz, lM, mM⟩
    rw [ll, List.take_length] at mM
    refine ⟨_, rfl, q F0 zs M H3 s3 hF3 hz ?_⟩
    rw [Bool.eq_iff_iff, perfB_iff, ← lack_perf g, List.isEmpty_iff, List.eq_nil_iff_forall_not_mem]
    constructor
    · intro h l lo z
      exact h l ((mM l).mpr ⟨(al.2 l).mpr lo, z⟩)
    · intro h l hl
      obtain ⟨a, b⟩ := (mM l).mp hl
      exact h l ((al.2 l).mp a) b
end
end My

set_option maxHeartbeats 2000000
/-! D.get(text), D a dict of the module. -/
namespace My
open PySem PySem.Spec PyProof.Rows L2
section
variable {X : Cx} {d : Addr} {es : Array DictEntry} {n : Nat} {e : Expr} {x : Str} {p apos cpos : Pos} {ty : TE}
def tKGet (K : PySem.W.Frag) (d : Addr) (ty : TE) : TE := fun σ H Q => ty σ H fun y H1 => ∃ (z : Str) (r : Option Value) (v : V), y = .str z ∧ PySem.W.nsIn K d z = some r ∧ RelV v (r.getD .none) ∧ Q v H1
theorem pe_kget (D : KDict X.K X.w d es n) (hg : Gl X x) (hm : X.mg x = some (.ref d)) (he : PE X e ty) (m : M1 X (.Name x p) "get" apos e cpos) (hdb : (x == ("__debug__" : Str)) = false := by decide) :
    PE X (.Call (.Attribute (.Name x p) "get" apos) [e] [] cpos) (tKGet X.K d ty) := by
  refine ⟨fun pins s σ H Q I h => ?_⟩
  refine wpAny_Call_method m.base m.few m.line PySem.F.plainAttrs_dict PySem.F.slot_dict_get PySem.F.type_dict_get (ld_glob I hg hm ?_ hdb)
  have mo := PySem.W.mapOf_K (prog := X.prog) (w := X.w) I.kIn D.at_ D.lit
  refine ⟨kd_type D I, fun b q => ?_, ?_⟩
  · cases q
    exact ⟨_, I.kIn _ _ D.at_, rfl⟩
  rw [m.trees]
  refine Calls.callWith_builtin rfl (Calls.evalArgs_plain (Calls.spliced_cons (thn (he.run pins s σ H _ I h) fun iv s2 ⟨y, H2, I2, ry, z, r, v, ey, e2, rv, q2⟩ => Calls.spliced_nil ?_)))
  subst ey
  obtain ⟨t, rfl⟩ := ry
  have mo2 := PySem.W.mapOf_K (prog := X.prog) (w := X.w) I2.kIn D.at_ D.lit
  refine call_meetsIn PySem.F.slot_dict_get (kd_type D I2) PySem.F.entry_dict_get (PySem.F.args_dict_get_2 _ _) (meets_dict_get (strKind X.prog X.w) d (PySem.strKind_is X.prog X.w z t) D.low) ⟨_, mo2, ?_⟩
  rw [PySem.W.find_K D.at_ e2]
  exact ⟨v, H2, I2.tok _, rv, q2⟩
end
end My

set_option maxHeartbeats 4000000
/-! Changes of graphs, in plain Lean. -/
namespace My
open PySem PySem.Spec PyProof.Rows L2
theorem ahead_irr {a : E2} : ¬ ahead a a := fun h => ahead_ne h rfl
theorem ahead_anti {a b : E2} (h : ahead a b) (k : ahead b a) : False := by
  unfold ahead at h k
  omega
theorem up_ext : ∀ {xs ys : List E2}, xs.Pairwise ahead → ys.Pairwise ahead → (∀ p, p ∈ xs ↔ p ∈ ys) → xs = ys
  | [], [], _, _, _ => rfl
  | [], y :: ys, _, _, h => absurd ((h y).mpr List.mem_cons_self) (by simp)
  | x :: xs, [], _, _, h => absurd ((h x).mp List.mem_cons_self) (by simp)
  | x :: xs, y :: ys, hx, hy, h => by
    obtain ⟨x1, x2⟩ := List.pairwise_cons.mp hx
    obtain ⟨y1, y2⟩ := List.pairwise_cons.mp hy
    have e : x = y := by
      rcases List.mem_cons.mp ((h x).mp List.mem_cons_self) with e | m
      · exact e
      · rcases List.mem_cons.mp ((h y).mpr List.mem_cons_self) with e | m'
        · exact e.symm
        · exact (ahead_anti (x1 y m') (y1 x m)).elim
    subst e
    rw [up_ext x2 y2 fun p => ⟨fun m => ?_, fun m => ?_⟩]
    · rcases List.mem_cons.mp ((h p).mp (List.mem_cons_of_mem _ m)) with e | m'
      · exact absurd (x1 p m) (by rw [e]; exact ahead_irr)
      · exact m'
    · rcases List.mem_cons.mp ((h p).mpr (List.mem_cons_of_mem _ m)) with e | m'
      · exact absurd (y1 p m) (by rw [e]; exact ahead_irr)
      · exact m'
theorem getD_at {l : List Nat} {i : Nat} (h : i < l.length) : l.getD i 0 = l[i] := by
  simp [h]
/-- the place in a lot -/
def place (l : List Nat) (k : Nat) : Nat := l.findIdx (· == k)
theorem place_lt {l : List Nat} {k : Nat} (h : k ∈ l) : place l k < l.length := List.findIdx_lt_length_of_exists ⟨k, h, beq_self_eq_true k⟩
theorem place_get {l : List Nat} {k : Nat} (h : k ∈ l) : l.getD (place l k) 0 = k := by
  have lt := place_lt h
  rw [getD_at lt]
  exact beq_iff_eq.mp (show (l[place l k] == k) = true from List.findIdx_getElem (w := lt))
theorem place_at {l : List Nat} {k : Nat} (h : k ∈ l) : (l.map fun k => ((k : Nat) : Int))[place l k]? = some (k : Int) ∧ ∀ m, m < place l k → (l.map fun k => ((k : Nat) : Int))[m]? ≠ some (k : Int) := by
  have lt := place_lt h
  constructor
  · rw [List.getElem?_map, List.getElem?_eq_getElem lt]
    have e2 : l[place l k] = k := by have := place_get h; rwa [getD_at lt] at this
    show some (((l[place l k] : Nat)) : Int) = _
    rw [e2]
  · intro m hm z
    rw [List.getElem?_map] at z
    cases e : l[m]? with
    | none => rw [e] at z; cases z
    | some a =>
      rw [e] at z
      have z2 : ((a : Nat) : Int) = (k : Int) := Option.some.inj z
      obtain ⟨l1, e1⟩ := List.getElem?_eq_some_iff.mp e
      have no := List.not_of_lt_findIdx hm
      rw [e1] at no
      exact absurd (show (a == k) = true by simp; omega) (by simpa using no)
theorem asc_get {l : List Nat} (up : l.Pairwise (· < ·)) {i j : Nat} (ij : i < j) (jl : j < l.length) : l.getD i 0 < l.getD j 0 := by
  rw [getD_at jl, getD_at (Nat.lt_trans ij jl)]
  exact List.pairwise_iff_getElem.mp up i j (Nat.lt_trans ij jl) jl ij
theorem asc_place {l : List Nat} (up : l.Pairwise (· < ·)) {a b : Nat} (ha : a ∈ l) (hb : b ∈ l) (h : a < b) : place l a < place l b := by
  rcases Nat.lt_trichotomy (place l a) (place l b) with z | z | z
  · exact z
  · have h1 := place_get ha
    have h2 := place_get hb
    rw [z, h2] at h1
    omega
  · have := asc_get up z (place_lt ha)
    rw [place_get ha, place_get hb] at this
    omega
theorem place_nth {l : List Nat} (up : l.Pairwise (· < ·)) {i : Nat} (il : i < l.length) : place l (l.getD i 0) = i := by
  have m : l.getD i 0 ∈ l := by rw [getD_at il]; exact List.getElem_mem il
  rcases Nat.lt_trichotomy (place l (l.getD i 0)) i with z | z | z
  · have := asc_get up z il
    rw [place_get m] at this
    omega
  · exact z
  · have := asc_get up z (place_lt m)
    rw [place_get m] at this
    omega
/-- the pairs within a lot, renumbered -/
def withinL (es : List E2) (l : List Nat) : List E2 := (es.filter fun p => decide (p.1 ∈ l) && decide (p.2 ∈ l)).map fun p => (place l p.1, place l p.2)
def withinP (es : List E2) (l : List Nat) : List E2 := tabP l.length fun i j => adjB es (l.getD i 0) (l.getD j 0)
theorem withinL_eq {n : Nat} {es : List E2} (g : Good n es) {l : List Nat} (up : l.Pairwise (· < ·)) (l9 : l.length ≤ 9) : withinL es l = withinP es l := by
  refine up_ext ?_ (tab_good l9 _).up fun p => ?_
  · unfold withinL
    rw [List.pairwise_map]
    refine (g.up.filter _).imp_of_mem fun {a b} ha hb h => ?_
    obtain ⟨_, ha⟩ := List.mem_filter.mp ha
    obtain ⟨_, hb⟩ := List.mem_filter.mp hb
    rw [Bool.and_eq_true, decide_eq_true_eq, decide_eq_true_eq] at ha hb
    rcases h with h | ⟨h, k⟩
    · exact .inl (asc_place up ha.1 hb.1 h)
    · exact .inr ⟨by show place l a.1 = place l b.1; rw [h], asc_place up ha.2 hb.2 k⟩
  · unfold withinL withinP tabP
    rw [List.mem_map, List.mem_filter]
    constructor
    · rintro ⟨q, hq, rfl⟩
      obtain ⟨h1, h2⟩ := List.mem_filter.mp hq
      rw [Bool.and_eq_true, decide_eq_true_eq, decide_eq_true_eq] at h2
      have := g.lt q h1
      refine ⟨mem_allP.mpr ⟨asc_place up h2.1 h2.2 this.1, place_lt h2.2⟩, ?_⟩
      show adjB es (l.getD (place l q.1) 0) (l.getD (place l q.2) 0) = true
      rw [place_get h2.1, place_get h2.2]
      unfold adjB
      rw [Nat.min_eq_left (by omega), Nat.max_eq_right (by omega)]
      exact decide_eq_true h1
    · rintro ⟨h1, h2⟩
      obtain ⟨h3, h4⟩ := mem_allP.mp h1
      have lt := asc_get up h3 h4
      have m1 : l.getD p.1 0 ∈ l := by rw [getD_at (Nat.lt_trans h3 h4)]; exact List.getElem_mem _
      have m2 : l.getD p.2 0 ∈ l := by rw [getD_at h4]; exact List.getElem_mem _
      unfold adjB at h2
      dsimp only at h2
      rw [Nat.min_eq_left (by omega), Nat.max_eq_right (by omega)] at h2
      refine ⟨(l.getD p.1 0, l.getD p.2 0), List.mem_filter.mpr ⟨of_decide_eq_true h2, by rw [decide_eq_true m1, decide_eq_true m2]; rfl⟩, ?_⟩
      show (place l (l.getD p.1 0), place l (l.getD p.2 0)) = p
      rw [place_nth up (Nat.lt_trans h3 h4), place_nth up h4]
/-! ### what a change is -/
def eqs (z : Str) (x : String) : Bool := decide (V.str z = V.str (x : Str))
def lenV (z : Str) : V := if eqs z "vertex" || eqs z "out" then .int 2 else if eqs z "edge" || eqs z "cut" then .int 3 else .non
def numsOf (z : Str) (rest : List Sh) : Option (List Sh) := if eqs z "vertex" then (match rest with | [.tup ss] => some ss | _ => none) else some rest
def isChg : Sh → Bool
  | .tup (.str z :: rest) => decide (lenV z = .int ((rest.length : Int) + 1)) && (match numsOf z rest with | some ss => ss.all (wholeR 0 8) && ascB ss | none => false)
  | _ => false
def isStrS : Sh → Bool
  | .str _ => true
  | _ => false
theorem isS_of {K : PySem.W.Frag} {H : Hp} {v : V} {s : Sh} (h : ShAt K H v s) : ∃ t, TyX K H v t ∧ PySem.W.kitOne K t (.type "str") = some (isStrS s) := by
  cases h with
  | int i => exact ⟨_, .base (.int i), rfl⟩
  | bool b => exact ⟨_, .base (.bl b), rfl⟩
  | tup h r => exact ⟨_, tyx_tup h, rfl⟩
  | non => exact ⟨_, .base .non, rfl⟩
  | str x => exact ⟨_, .base (.str x), rfl⟩
  | lst h => exact ⟨_, tyx_lst h, rfl⟩
  | dct h => exact ⟨_, .base (.dK h), rfl⟩
/-! ### the table of lengths -/
def LensOk (K : PySem.W.Frag) (w : World) (d : Addr) : Prop := (∃ es n, KDict K w d es n) ∧ ∀ z : Str, ∃ r, PySem.W.nsIn K d z = some r ∧ RelV (lenV z) (r.getD .none)
theorem lens_mk {w : World} {K : PySem.W.Frag} {d : Addr} {es : Array DictEntry} {n : Nat} {t1 t2 t3 t4 : Tok} (b : K.lookup d = some ⟨.type "dict", none, .dict es n, #[]⟩) (c : PySem.W.KeysLit w.params es.toList) (lo : (d == sysModules) = false)
    (v1 : PySem.W.nsIn K d "vertex" = some (some (.int 2 t1))) (v2 : PySem.W.nsIn K d "out" = some (some (.int 2 t2))) (v3 : PySem.W.nsIn K d "edge" = some (some (.int 3 t3))) (v4 : PySem.W.nsIn K d "cut" = some (some (.int 3 t4)))
    (ks : es.toList.map (fun e => e.key.isStr "vertex" || e.key.isStr "out" || e.key.isStr "edge" || e.key.isStr "cut") = [true, true, true, true]) : LensOk K w d := by
  refine ⟨⟨es, n, b, c, lo⟩, fun z => ?_⟩
  by_cases z1 : z = "vertex"
  · subst z1
    exact ⟨_, v1, t1, rfl⟩
  by_cases z2 : z = "out"
  · subst z2
    exact ⟨_, v2, t2, rfl⟩
  by_cases z3 : z = "edge"
  · subst z3
    exact ⟨_, v3, t3, rfl⟩
  by_cases z4 : z = "cut"
  · subst z4
    exact ⟨_, v4, t4, rfl⟩
  refine ⟨none, ?_, ?_⟩
  · unfold PySem.W.nsIn
    rw [b]
    show (match es.toList.find? (·.key.isStr z) with | some e => some (some e.val) | none => if es.toList.any (·.refKey) then none else some none) = some none
    have all : ∀ e ∈ es.toList, (e.key.isStr "vertex" || e.key.isStr "out" || e.key.isStr "edge" || e.key.isStr "cut") = true := fun e he => by
      have m := List.mem_map_of_mem (f := fun e : DictEntry => e.key.isStr "vertex" || e.key.isStr "out" || e.key.isStr "edge" || e.key.isStr "cut") he
      rw [ks] at m
      simpa using m
    have no : es.toList.find? (·.key.isStr z) = none := List.find?_eq_none.mpr fun e he => by
      obtain ⟨x, t, hk, _⟩ := c.all e he
      have a := all e he
      rw [hk] at a ⊢
      intro q
      have isx : ∀ y : Str, (Value.str x t).isStr y = true → x = y := fun y h => by
        have := beq_iff_eq.mp (show (x == y) = true from h)
        exact this
      have e1 := isx z q
      subst e1
      simp only [Bool.or_eq_true] at a
      rcases a with ((a | a) | a) | a
      · exact z1 (isx _ a)
      · exact z2 (isx _ a)
      · exact z3 (isx _ a)
      · exact z4 (isx _ a)
    have nr : es.toList.any (·.refKey) = false := List.any_eq_false.mpr fun e he => by
      obtain ⟨x, t, hk, _⟩ := c.all e he
      unfold DictEntry.refKey
      rw [hk]
      simp
    rw [no, nr]
    rfl
  · have ne : ∀ (y : String), z ≠ (y : Str) → eqs z y = false := fun y h => decide_eq_false fun e => by injection e with e; exact h e
    unfold lenV
    rw [ne _ z1, ne _ z2, ne _ z3, ne _ z4]
    rfl
end My

set_option maxHeartbeats 4000000
/-! sorted(t), t a tuple of pairs of ints. -/
namespace My
open PySem PySem.Spec PyProof.Rows L2 Builtin
section
variable {prog : Program} {w : World} {A : Around} {E : Value → Shared → Prop} {s : Shared}
theorem collT {t : Addr} {us : List Value} {R : List Value → Shared → Prop} (ht : IsTup s.heap t us.toArray) (hz : us.length ≤ sizeLine)
    (h : R us { s with heap := (s.heap.push (seqObj "list" #[] 0)).update s.heap.objs.size (Obj.mapSeq (· ++ us.toArray)) }) : wpAny (model prog w) A (collect (.ref t)) R E s := by
  obtain ⟨ob, hob, hcl, m, hdt⟩ := id ht
  unfold collect
  refine wpAny_bind (wpAny_runValue (codeAny_builtin entry_proto_collect' ?_)); show wpAny _ _ (do again (.builtin "list.__iadd__" ⟨[← newList [], .ref t], []⟩)) _ _ s
  refine wpAny_bind (wpAny_newList (wpAny_pure ⟨Code.quiet_builtin _ (by decide +kernel), codeAny_builtin entry_list_iadd' ?_⟩))
  show wpAny _ _ (Builtin.List.listExtendWith (.ref s.heap.objs.size) (.ref t) (.ref s.heap.objs.size)) _ _ { s with heap := s.heap.push (seqObj "list" #[] 0) }
  unfold Builtin.List.listExtendWith
  have hob' : (s.heap.push (seqObj "list" #[] 0)).get? t = some ob := Heap.get?_push_of_some _ hob
  refine wpAny_bind (wpAny_typeOf (T := "tuple") ⟨ob, hob', hcl⟩ ?_)
  rw [if_pos (by rw [show (Value.type "tuple" == Value.type "tuple") = true from rfl]; simp)]
  have hnew : (s.heap.push (seqObj "list" #[] 0)).get? s.heap.objs.size = some (seqObj "list" #[] 0) := Heap.get?_push_size _ rfl
  refine wpAny_bind (listItems_at hob' hdt (wpAny_bind (listItems_at hnew rfl ?_)))
  rw [if_neg (by simp)]
  refine wpAny_bind (listUpdate_at hnew rfl ?_ (Nat.zero_le _) (by simp only [List.size_toArray, Array.size_append, List.length_nil]; omega))
  refine wpAny_pure ?_
  have hend := get?_update_seq hnew (· ++ us.toArray)
  have eus : ((#[] : Array Value) ++ us.toArray).toList = us := by simp
  show wpAny _ _ (do let o ← load s.heap.objs.size; match o.data with | .seq xs _ => pure xs.toList | _ => unsupported "internal:collect") _ _ _
  refine wpAny_bind (wpAny_load hend ?_); show wpAny _ _ (pure ((#[] : Array Value) ++ us.toArray).toList) R E _
  rw [eus]
  exact wpAny_pure h
theorem sortT {t : Addr} {us : List Value} {ord : Value → Value → Bool} {R : Value → Shared → Prop} (O : SrtO.Swo ord) (ht : IsTup s.heap t us.toArray) (hz : us.length ≤ sizeLine)
    (hS : 2 ≤ us.length → ∀ (g : Heap) (a : Addr), g.get? a = some (seqObj "list" us.toArray 0) → (∀ b o, s.heap.get? b = some o → b ≠ a ∧ g.get? b = some o) → SrtO.SortableO prog w A.in1.in1 { s with heap := g } a us ord)
    (h : ∀ out : List Value, SrtO.Srtd ord out → SrtO.Stb ord out us → R (.ref (s.heap.objs.size + 1)) { s with heap := sortedAll s.heap us out.toArray }) :
    wpAny (model prog w) A (call (.builtin "sorted") [.ref t]) R E s := by
  refine Calls.call_function_entry kind_sorted plain_sorted entry_sorted (args_sorted1 _) ?_; unfold Builtin.«sorted»
  refine wpAny_bind (m := checkCount "sorted" 1 1 _) (wpAny_pure (wpAny_bind (collT ht hz (wpAny_bind (wpAny_newList ?_ hz)))))
  generalize hg0 : (s.heap.push (seqObj "list" #[] 0)).update s.heap.objs.size (Obj.mapSeq (· ++ us.toArray)) = g0
  have z0 : g0.objs.size = s.heap.objs.size + 1 := by rw [← hg0, Heap.size_update, size_push']
  have old : ∀ b o, s.heap.get? b = some o → b ≠ s.heap.objs.size + 1 ∧ (g0.push (seqObj "list" us.toArray 0)).get? b = some o := fun b o e => by
    have lt : b < s.heap.objs.size := Heap.lt_size e
    refine ⟨Nat.ne_of_lt (Nat.lt_succ_of_lt lt), Heap.get?_push_of_some _ ?_⟩
    rw [← hg0, Heap.get?_update_ne _ _ _ _ (Nat.ne_of_lt lt)]; exact Heap.get?_push_of_some _ e
  have at1 : (g0.push (seqObj "list" us.toArray 0)).get? (s.heap.objs.size + 1) = some (seqObj "list" us.toArray 0) := by rw [← z0]; exact Heap.get?_push_size _ rfl
  show wpAny _ _ _ _ _ { s with heap := g0.push (seqObj "list" us.toArray 0) }
  rw [z0]
  refine wpAny_bind (wpAny_holding (wpAny_call_entry slot_list_sort ⟨_, at1, rfl⟩ entry_list_sort (SrtO.list_sort_ord O at1 hz (fun l2 => hS l2 _ _ at1 old) fun out so sb => ⟨_, rfl, wpAny_pure ⟨_, rfl, ?_⟩⟩) (args_list_sort _)))
  have z := h out so sb
  unfold sortedAll at z
  rw [hg0] at z
  exact z
end
section
variable {X : Cx}
def rSortPT (K : PySem.W.Frag) : List V → Hp → VK → Prop := fun vs H Q => ∃ (a : Addr) (xs : List V) (k : V → Int × Int), vs = [V.ref a] ∧ SqT K H a xs ∧ (∀ x ∈ xs, ∃ t, x = V.ref t ∧ H t = some (.tup [.int (k x).1, .int (k x).2])) ∧
  ∀ ys p, SrtO.Srtd (ltP k) ys → SrtO.Stb (ltP k) ys xs → H p = none → Q (.ref p) (upd H p (.lst ys))
theorem cr_sortPT : CallR X (.builtin "sorted") (rSortPT X.K) := by
  rintro pins s σ H vs us Q I r ⟨a, xs, k, rfl, hs, hx, q⟩
  obtain ⟨its, rv, hl, hz⟩ := I.tuple hs
  rw [Vals.ref1 r]
  obtain ⟨e1, e2⟩ := refs_back rv fun x m => let ⟨t, e, _⟩ := hx x m; ⟨t, e⟩
  have pr : ∀ v ∈ its, Srt.IsPair s.heap v (k (backV v)).1 (k (backV v)).2 := fun v hv => by
    obtain ⟨t, rfl⟩ := e2 v hv
    obtain ⟨t', e, ht⟩ := hx _ (show V.ref t ∈ xs by rw [e1]; exact List.mem_map.mpr ⟨_, hv, rfl⟩)
    cases e
    obtain ⟨_, its2, r2, o, ho, hc, n, hd⟩ := I.hok _ _ ht
    obtain ⟨u1, u2, rfl, ⟨t1, rfl⟩, ⟨t2, rfl⟩⟩ := vals2 r2
    exact ⟨t, o, t1, t2, n, rfl, ho, hc, hd⟩
  have lz : its.length ≤ sizeLine := by rw [← rv.length]; exact hz
  refine sortT (SrtO.swo_lex fun u => k (backV u)) hl lz (fun h2 g b hb kk => ?_) fun out so sb => ?_
  · refine SrtO.pairs_sortableO (s := { s with heap := g }) (by omega) (fun v hm => (pr v hm).keeps fun b o e _ => (kk b o e).2) fun o e => ?_
    have e' : some o = some (seqObj "list" its.toArray 0) := e.symm.trans hb
    cases e'
    exact fun c => absurd (Value.type.inj c) (by decide)
  · obtain ⟨n, hn⟩ := sortedAll_at s.heap its out.toArray
    have allr : ∀ u ∈ out, ∃ a, u = Value.ref a := fun u hu => e2 u (sb.perm.mem_iff.mp hu)
    have hb : SrtO.Stb (ltP k) (out.map backV) xs := by rw [e1]; exact SrtO.Stb.map (ltP_swo k) backV sb
    have new := Nat.le_succ s.heap.objs.size
    refine ⟨.ref (s.heap.objs.size + 1), upd H (s.heap.objs.size + 1) (.lst (out.map backV)), I.laid (t' := s.toks) (fun b o e => sortedAll_old e) new ⟨by rw [hb.len]; exact hz, out, n, vals_back allr, hn⟩, rfl, q _ _ (SrtO.srtd_map so) hb (I.hok.fresh new)⟩
end
end My

set_option maxHeartbeats 4000000
/-! Changes that are right, told by their parts. -/
namespace My
open PySem PySem.Spec PyProof.Rows L2
/-- a graph whose edges were made here -/
def GraphM (K : PySem.W.Frag) (H : Hp) (x : V) (n : Nat) (es : List E2) : Prop := ∃ t e xs, x = .ref t ∧ SqT K H t [.int (n : Int), .ref e] ∧ SqT K H e xs ∧ PairsT H xs es
theorem GraphM.at {K : PySem.W.Frag} {H : Hp} {x : V} {n : Nat} {es : List E2} (h : GraphM K H x n es) : GraphAt K H x n es := by
  obtain ⟨t, e, xs, rfl, ht, he, hp⟩ := h
  exact ⟨t, e, xs, rfl, ht, he, hp.at⟩
theorem GraphM.same {K : PySem.W.Frag} {H H' : Hp} (s : Same H H') {x : V} {n : Nat} {es : List E2} (h : GraphM K H x n es) : GraphM K H' x n es := by
  obtain ⟨t, e, xs, rfl, ht, he, hp⟩ := h
  exact ⟨t, e, xs, rfl, Same.tup s ht, Same.tup s he, hp.same s⟩
theorem empty_mk {K : PySem.W.Frag} {A B : Addr} {t : Tok} {d1 d2 : Option Addr} {n1 n2 : Nat} {s1 s2 : Array (Option Value)} (a : K.lookup A = some ⟨.type "tuple", d1, .seq #[.int 0 t, .ref B] n1, s1⟩) (b : K.lookup B = some ⟨.type "tuple", d2, .seq #[] n2, s2⟩) : ∀ H, GraphM K H (.ref A) 0 [] := fun H =>
  ⟨A, B, [], rfl, .inr ⟨_, _, _, a, rfl, rfl, small (show 2 ≤ 1000 by decide), .cons ⟨_, rfl⟩ (.cons rfl .nil)⟩, .inr ⟨_, _, _, b, rfl, rfl, small (show 0 ≤ 1000 by decide), .nil⟩, .nil⟩
theorem GraphT.gm {K : PySem.W.Frag} {H : Hp} {x : V} {n : Nat} {es : List E2} (h : GraphT H x n es) : GraphM K H x n es := by
  obtain ⟨t, e, xs, rfl, ht, he, hp⟩ := h
  exact ⟨t, e, xs, rfl, SqT.of ht, SqT.of he, hp⟩
def rTupOf (K : PySem.W.Frag) : List V → Hp → VK → Prop := fun xs H Q => ∃ p ys, xs = [.ref p] ∧ ((SqL K H p ys ∧ ∀ l, H l = none → Q (.ref l) (upd H l (.tup ys))) ∨ (SqT K H p ys ∧ Q (.ref p) H))
theorem PairsT.getC {H : Hp} : ∀ {xs : List V} {ps : List E2}, PairsT H xs ps → ∀ {i : Nat} {x : V}, xs[i]? = some x → ∃ q, ps[i]? = some q ∧ PairT H x q
  | _, _, .nil, i, x, e => by simp at e
  | _, _, .cons a r, 0, x, e => by simp at e; subst e; exact ⟨_, rfl, a⟩
  | _, _, .cons a r, i + 1, x, e => by
    obtain ⟨s, h1, h2⟩ := PairsT.getC r (i := i) (x := x) (by simpa using e)
    exact ⟨s, by simpa using h1, h2⟩
theorem pairD_shaped (p : E2) : SeqAt.shaped (pairD p) = true := by
  unfold SeqAt.shaped
  rw [Bool.and_eq_true, decide_eq_true_eq, pairD_depth]
  exact ⟨pairD_lay p, by decide⟩
inductive Chg where
  | vertex (l : List Nat)
  | out (a : Nat)
  | two (c : Bool) (a b : Nat)
def wordOf (c : Bool) : Str := if c then "cut" else "edge"
def ChgOk : Chg → Prop
  | .vertex l => (∀ k ∈ l, k < 9) ∧ l.Pairwise (· < ·)
  | .out a => a ≤ 8
  | .two _ a b => a < b ∧ b ≤ 8
def chgS : Chg → Sh
  | .vertex l => .tup [.str "vertex", .tup (l.map fun k => Sh.int ((k : Nat) : Int))]
  | .out a => .tup [.str "out", .int (a : Int)]
  | .two c a b => .tup [.str (wordOf c), .int (a : Int), .int (b : Int)]
def ChgAt (K : PySem.W.Frag) (H : Hp) (v : V) : Chg → Prop
  | .vertex l => ∃ t u, v = .ref t ∧ SqT K H t [.str "vertex", .ref u] ∧ SqT K H u (numsN l)
  | .out a => ∃ t, v = .ref t ∧ SqT K H t [.str "out", .int (a : Int)]
  | .two c a b => ∃ t, v = .ref t ∧ SqT K H t [.str (wordOf c), .int (a : Int), .int (b : Int)]
theorem numsN_sh {K : PySem.W.Frag} {H : Hp} (ns : List Nat) : ShsAt K H (numsN ns) (ns.map fun k => Sh.int ((k : Nat) : Int)) := by
  induction ns with
  | nil => exact .nil
  | cons a r ih => exact .cons (.int _) ih
theorem ChgAt.sh {K : PySem.W.Frag} {H : Hp} {v : V} {c : Chg} (h : ChgAt K H v c) : ShAt K H v (chgS c) := by
  cases c with
  | vertex l =>
    obtain ⟨t, u, rfl, ht, hu⟩ := h
    exact .tup ht (.cons (.str _) (.cons (.tup hu (numsN_sh l)) .nil))
  | out a =>
    obtain ⟨t, rfl, ht⟩ := h
    exact .tup ht (.cons (.str _) (.cons (.int _) .nil))
  | two c a b =>
    obtain ⟨t, rfl, ht⟩ := h
    exact .tup ht (.cons (.str _) (.cons (.int _) (.cons (.int _) .nil)))
theorem ChgAt.kp {K : PySem.W.Frag} {H H' : Hp} (e : Kp K H H') {v : V} {c : Chg} (h : ChgAt K H v c) : ChgAt K H' v c := by
  cases c with
  | vertex l =>
    obtain ⟨t, u, rfl, ht, hu⟩ := h
    exact ⟨t, u, rfl, e.tup _ _ ht, e.tup _ _ hu⟩
  | out a =>
    obtain ⟨t, rfl, ht⟩ := h
    exact ⟨t, rfl, e.tup _ _ ht⟩
  | two c a b =>
    obtain ⟨t, rfl, ht⟩ := h
    exact ⟨t, rfl, e.tup _ _ ht⟩
theorem ChgAt.same {K : PySem.W.Frag} {H H' : Hp} (e : Same H H') {v : V} {c : Chg} (h : ChgAt K H v c) : ChgAt K H' v c := h.kp (Kp.of e)
theorem asc_natS : ∀ {l : List Nat}, l.Pairwise (· < ·) → ascB (l.map fun k => Sh.int ((k : Nat) : Int)) = true
  | [], _ => rfl
  | [a], _ => rfl
  | a :: b :: l, h => by
    obtain ⟨h1, h2⟩ := List.pairwise_cons.mp h
    have ih := asc_natS h2
    have ab := h1 b List.mem_cons_self
    show (decide (((a : Nat) : Int) < ((b : Nat) : Int)) && ascB ((b :: l).map fun k => Sh.int ((k : Nat) : Int))) = true
    rw [ih, Bool.and_true]
    exact decide_eq_true (by omega)
theorem asc_natI : ∀ {l : List Nat}, ascB (l.map fun k => Sh.int ((k : Nat) : Int)) = true → l.Pairwise (· < ·)
  | [], _ => .nil
  | [a], _ => List.pairwise_singleton _ _
  | a :: b :: l, h => by
    have h' : (decide (((a : Nat) : Int) < ((b : Nat) : Int)) && ascB ((b :: l).map fun k => Sh.int ((k : Nat) : Int))) = true := h
    rw [Bool.and_eq_true, decide_eq_true_eq] at h'
    have ih := asc_natI h'.2
    refine List.pairwise_cons.mpr ⟨fun x hx => ?_, ih⟩
    rcases List.mem_cons.mp hx with rfl | hx
    · omega
    · have := (List.pairwise_cons.mp ih).1 x hx
      omega
theorem whole_nat {l : List Nat} (h : ∀ k ∈ l, k < 9) : (l.map fun k => Sh.int ((k : Nat) : Int)).all (wholeR 0 8) = true := by
  rw [List.all_eq_true]
  intro z hz
  obtain ⟨k, hk, rfl⟩ := List.mem_map.mp hz
  have := h k hk
  show (decide (((k : Nat) : Int) ≥ 0) && decide (((k : Nat) : Int) ≤ 8)) = true
  rw [decide_eq_true (by omega), decide_eq_true (by omega)]
  rfl
theorem isChg_ok {c : Chg} (h : ChgOk c) : isChg (chgS c) = true := by
  cases c with
  | vertex l =>
    show (decide (lenV "vertex" = .int 2) && ((l.map fun k => Sh.int ((k : Nat) : Int)).all (wholeR 0 8) && ascB (l.map fun k => Sh.int ((k : Nat) : Int)))) = true
    rw [whole_nat h.1, asc_natS h.2]
    rfl
  | out a =>
    have w := whole_nat (l := [a]) (fun k hk => by have := List.mem_singleton.mp hk; have h : a ≤ 8 := h; omega)
    show (decide (lenV "out" = .int 2) && (([a].map fun k => Sh.int ((k : Nat) : Int)).all (wholeR 0 8) && ascB ([a].map fun k => Sh.int ((k : Nat) : Int)))) = true
    rw [w]
    rfl
  | two c a b =>
    obtain ⟨h1, h2⟩ : a < b ∧ b ≤ 8 := h
    have w := whole_nat (l := [a, b]) (fun k hk => by
      simp only [List.mem_cons, List.mem_nil_iff, or_false] at hk
      omega)
    have s := asc_natS (l := [a, b]) (List.pairwise_cons.mpr ⟨fun x hx => by rw [List.mem_singleton.mp hx]; exact h1, List.pairwise_singleton _ _⟩)
    cases c
    · show (decide (lenV "edge" = .int 3) && (([a, b].map fun k => Sh.int ((k : Nat) : Int)).all (wholeR 0 8) && ascB ([a, b].map fun k => Sh.int ((k : Nat) : Int)))) = true
      rw [w, s]
      rfl
    · show (decide (lenV "cut" = .int 3) && (([a, b].map fun k => Sh.int ((k : Nat) : Int)).all (wholeR 0 8) && ascB ([a, b].map fun k => Sh.int ((k : Nat) : Int)))) = true
      rw [w, s]
      rfl
/-- whether it fits -/
def fits (n : Nat) (es : List E2) : Chg → Bool
  | .vertex l => decide (n < 9) && l.all fun k => decide (k < n)
  | .out a => decide (a < n)
  | .two c a b => decide (b < n) && (decide ((a, b) ∈ es) == c)
/-- what it does -/
def lotO (n a : Nat) : List Nat := (List.range n).filter fun k => decide (k ≠ a)
def chgN (n : Nat) : Chg → Nat
  | .vertex _ => n + 1
  | .out a => (lotO n a).length
  | .two _ _ _ => n
def chgM (n : Nat) (es : List E2) (p : E2) : Chg → Prop
  | .vertex l => p ∈ es ∨ (p.2 = n ∧ p.1 ∈ l)
  | .out a => p ∈ withinP es (lotO n a)
  | .two false a b => p ∈ es ∨ p = (a, b)
  | .two true a b => p ∈ es ∧ p ≠ (a, b)
structure Done (n : Nat) (es : List E2) (c : Chg) (m : Nat) (fs : List E2) : Prop where
  good : Good m fs
  many : m = chgN n c
  mem : ∀ p, p ∈ fs ↔ chgM n es p c
theorem Done.uniq {n : Nat} {es : List E2} {c : Chg} {m m' : Nat} {fs fs' : List E2} (h : Done n es c m fs) (h' : Done n es c m' fs') : m = m' ∧ fs = fs' := ⟨h.many.trans h'.many.symm, up_ext h.good.up h'.good.up fun p => (h.mem p).trans (h'.mem p).symm⟩
theorem sorted_up {es : List E2} (h : es.Pairwise fun a b => ¬ ahead b a) (nd : es.Nodup) : es.Pairwise ahead := by
  refine List.Pairwise.imp_of_mem (fun {a b} _ _ z => ?_) (h.and nd)
  obtain ⟨z1, z2⟩ := z
  have ne : ¬ (a.1 = b.1 ∧ a.2 = b.2) := fun q => z2 (Prod.ext q.1 q.2)
  unfold ahead at z1 ⊢
  omega
theorem done_vertex {n : Nat} {es : List E2} (g : Good n es) (n9 : n < 9) {l : List Nat} (up : l.Pairwise (· < ·)) (lt : ∀ k ∈ l, k < n) {fs : List E2} (so : fs.Pairwise fun a b => ¬ ahead b a) (pm : fs.Perm (es ++ l.map fun k => (k, n))) : Done n es (.vertex l) (n + 1) fs := by
  have nd : (es ++ l.map fun k => (k, n)).Nodup := by
    refine List.nodup_append.mpr ⟨g.nodup, ?_, fun a ha b hb => ?_⟩
    · refine List.Pairwise.map _ (fun a b h e => ?_) (up.imp fun h => Nat.ne_of_lt h)
      injection e with e
      exact h e
    · rintro rfl
      obtain ⟨k, _, rfl⟩ := List.mem_map.mp hb
      have := (g.lt _ ha).2
      exact absurd this (by show ¬ n < n; omega)
  have mem : ∀ p, p ∈ fs ↔ (p ∈ es ∨ (p.2 = n ∧ p.1 ∈ l)) := fun p => by
    rw [pm.mem_iff, List.mem_append, List.mem_map]
    constructor
    · rintro (h | ⟨k, hk, rfl⟩)
      · exact .inl h
      · exact .inr ⟨rfl, hk⟩
    · rintro (h | ⟨h1, h2⟩)
      · exact .inl h
      · exact .inr ⟨p.1, h2, by rw [← h1]⟩
  refine ⟨⟨by omega, fun p hp => ?_, sorted_up so (pm.nodup_iff.mpr nd)⟩, rfl, mem⟩
  rcases (mem p).mp hp with h | ⟨h1, h2⟩
  · have := g.lt p h
    omega
  · have := lt _ h2
    omega
theorem done_edge {n : Nat} {es : List E2} (g : Good n es) {a b : Nat} (ab : a < b) (bn : b < n) (no : (a, b) ∉ es) {fs : List E2} (so : fs.Pairwise fun a b => ¬ ahead b a) (pm : fs.Perm (es ++ [(a, b)])) : Done n es (.two false a b) n fs := by
  have nd : (es ++ [(a, b)]).Nodup := List.nodup_append.mpr ⟨g.nodup, by simp, fun x hx y hy => by
    rw [List.mem_singleton.mp hy]
    rintro rfl
    exact no hx⟩
  have mem : ∀ p, p ∈ fs ↔ (p ∈ es ∨ p = (a, b)) := fun p => by rw [pm.mem_iff, List.mem_append, List.mem_singleton]
  refine ⟨⟨g.n9, fun p hp => ?_, sorted_up so (pm.nodup_iff.mpr nd)⟩, rfl, mem⟩
  rcases (mem p).mp hp with h | rfl
  · exact g.lt p h
  · exact ⟨ab, bn⟩
theorem done_cut {n : Nat} {es : List E2} (g : Good n es) {a b : Nat} : Done n es (.two true a b) n (es.filter fun p => !decide (p = (a, b))) := by
  refine ⟨⟨g.n9, fun p hp => g.lt p (List.mem_filter.mp hp).1, g.up.filter _⟩, rfl, fun p => ?_⟩
  rw [List.mem_filter]
  show _ ↔ (p ∈ es ∧ p ≠ (a, b))
  simp
theorem done_out {n : Nat} {es : List E2} (g : Good n es) (a : Nat) : Done n es (.out a) (lotO n a).length (withinP es (lotO n a)) := by
  have l9 : (lotO n a).length ≤ 9 := by
    have := List.length_filter_le (fun k => decide (k ≠ a)) (List.range n)
    rw [List.length_range] at this
    have n9 := g.n9
    show ((List.range n).filter fun k => decide (k ≠ a)).length ≤ 9
    omega
  exact ⟨tab_good l9 _, rfl, fun p => Iff.rfl⟩
theorem lotO_ok (n a : Nat) : (lotO n a).Pairwise (· < ·) ∧ ∀ k ∈ lotO n a, k < n := ⟨List.pairwise_lt_range.filter _, fun k hk => List.mem_range.mp (List.mem_filter.mp hk).1⟩
end My

set_option maxHeartbeats 8000000
namespace My
open PySem PySem.Spec PyProof.Rows L2
abbrev sLone : Stmt := top 46
theorem scLone : FnScope ["well", "found", "pair", "rest", "each"] ["well"] (defScope sLone) := ⟨rfl, rfl, rfl, by decide +kernel, rfl, by decide +kernel, by decide +kernel⟩
/-- a graph of the law's, whichever -/
def spLone (K : PySem.W.Frag) : Sp := fun vs H Q _ => ∃ p : Addr, vs = [.ref p] ∧ Wl H p ∧ ∀ (x : V) (n : Nat) (es : List E2) (H' : Hp), But p H H' → Wl H' p → GraphAt K H' x n es → Good n es → Q x H'
theorem some_pair {n : Nat} (n5 : 5 ≤ n) (es : List E2) : 0 < (es ++ leftP n es).length := by
  by_cases c : (0, 1) ∈ es
  · exact List.length_pos_of_mem (List.mem_append_left _ c)
  · refine List.length_pos_of_mem (List.mem_append_right _ (?_ : ((0, 1) : E2) ∈ leftP n es))
    unfold leftP
    exact List.mem_filter.mpr ⟨mem_allP.mpr ⟨by decide, by show 1 < n; omega⟩, decide_eq_true c⟩
section
variable {P : Program} {w : World} {K : PySem.W.Frag} {mg : Str → Option Value} {base : Heap} {f fD fK fR fU fC fO : Addr} {fd dD dK dR dU dC dO : FuncData}
theorem ok_lone (F : L2.Fun K "_law_lone" "_law_lone" sLone f fd)
    (GD : FnOk P w K mg base CX0 1 fD dD ["well", "many"] spDraw) (bD : L2.Binds K dD ["well", "many"] []) (kD : PySem.W.keepIn K (.ref fD) = true) (mD : mg "_law_draw" = some (.ref fD))
    (GK : FnOk P w K mg base CX0 2 fK dK ["well", "some"] (spPick K)) (bK : L2.Binds K dK ["well", "some"] []) (kK : PySem.W.keepIn K (.ref fK) = true) (mK : mg "_law_pick" = some (.ref fK))
    (GR : FnOk P w K mg base CX0 2 fR dR ["many"] (spRound K)) (bR : L2.Binds K dR ["many"] []) (kR : PySem.W.keepIn K (.ref fR) = true) (mR : mg "_law_round" = some (.ref fR))
    (GU : FnOk P w K mg base CX0 1 fU dU ["graph"] (spTurned K)) (bU : L2.Binds K dU ["graph"] []) (kU : PySem.W.keepIn K (.ref fU) = true) (mU : mg "_law_turned" = some (.ref fU))
    (GC : FnOk P w K mg base CX0 2 fC dC ["graph", "names"] (spCalled K)) (bC : L2.Binds K dC ["graph", "names"] []) (kC : PySem.W.keepIn K (.ref fC) = true) (mC : mg "_law_called" = some (.ref fC))
    (GO : FnOk P w K mg base CX0 2 fO dO ["well", "many"] (spOrder K)) (bO : L2.Binds K dO ["well", "many"] []) (kO : PySem.W.keepIn K (.ref fO) = true) (mO : mg "_law_order" = some (.ref fO))
    (mt : mg "tuple" = none) (mso : mg "sorted" = none) : FnOk P w K mg base CX0 3 f fd ["well"] (spLone K) := by
  refine F.ok scLone (fun vs H Q E h => ?_) (fun cdv A outer s0 H vs Q E hr h => ?_)
  · obtain ⟨p, rfl, _⟩ := h
    rfl
  obtain ⟨p, rfl, hW, q⟩ := h
  have h1 := hr.mono (show 1 ≤ 2 by decide)
  refine ⟨_, pss_cons (ps_set (i := 1) scLone.nd rfl (.inl rfl) (pe_call GR hr (by rfl) mR kR bR .nil pass0 (pa_cons (pe_call GK hr (by rfl) mK kK bK .nil pass0 (pa_cons (pv 0) (pa_cons (pe_tup (pa_cons pe_int (pa_cons pe_int (pa_cons pe_int (pa_cons pe_int (pa_cons pe_int (pa_cons pe_int pa_nil))))))) pa_nil))) pa_nil)))
    (pss_cons (ps_set (i := 1) scLone.nd rfl (.inl rfl) (pe_ifExp (pt_cmpR op_eq (pe_call GD h1 (by rfl) mD kD bD .nil pass0 (pa_cons (pv 0) (pa_cons pe_int pa_nil))) pe_int (nomark _)) (pe_call GU h1 (by rfl) mU kU bU .nil pass0 (pa_cons (pv 1) pa_nil)) (pv 1)))
    (pss_cons (ps_if (pt_cmpR op_eq (pe_call GD h1 (by rfl) mD kD bD .nil pass0 (pa_cons (pv 0) (pa_cons pe_int pa_nil))) pe_int (nomark _))
      (pss_cons (ps_set (i := 2) scLone.nd rfl (.inr rfl) (pe_call GK hr (by rfl) mK kK bK .nil pass0 (pa_cons (pv 0) (pa_cons (pe_op op_catW (pe_ix (r := rIxT K) ix_tup (pv 1) pe_int (fun _ _ => rfl)) (pe_ix (r := rIxT K) ix_tup (pe_call GU h1 (by rfl) mU kU bU .nil pass0 (pa_cons (pv 1) pa_nil)) pe_int (fun _ _ => rfl))) pa_nil))))
      (pss_cons (ps_setLc (i := 3) (own := [("each", 4)]) (g := gName 4) (tt := tTest (tOp (rNeD K) (tVar 4) (tVar 2))) rfl scLone.nd rfl rfl (sw_true rfl rfl rfl (by decide +kernel)) (pi_tup (pe_ix (r := rIxT K) ix_tup (pv 1) pe_int (fun _ _ => rfl)))
          (blkOk_by (N := ["well", "found", "pair", "rest", "each"]) (sc := defScope sLone) (by decide +kernel)) (fun _ _ _ _ _ => pg_name (i := 4) scLone.nd rfl (Or.inl rfl))
          (fun _ _ _ _ _ => pts_one (pt_cmpR (op_neD hr.units) (pv 4) (pv 2) (nomark _))) (fun _ _ _ _ _ => pv 4))
      (pss_one (ps_set (i := 1) scLone.nd rfl (.inl rfl) (pe_tup (pa_cons (pe_ix (r := rIxT K) ix_tup (pv 1) pe_int (fun _ _ => rfl)) (pa_cons (pe_callTy call_tuple_of (by rfl) mt (by decide +kernel) (pa_cons (pe_ifExp (pt_cmpR (r := rInP id K) (op_inP hr.units) (pv 2) (pe_ix (r := rIxT K) ix_tup (pv 1) pe_int (fun _ _ => rfl)) (by rfl)) (pv 3)
          (pe_callB cr_sortedPO (by rfl) mso (by decide +kernel) (pa_cons (pe_op op_cat (pv 3) (pe_lst (pa_cons (pv 2) pa_nil))) pa_nil))) pa_nil)) pa_nil)))))))
      pss_nil)
    (pss_one (ps_ret (pe_call GC hr (by rfl) mC kC bC .nil pass0 (pa_cons (pv 1) (pa_cons (pe_call GO hr (by rfl) mO kO bO .nil pass0 (pa_cons (pv 0) (pa_cons (pe_ix (r := rIxT K) ix_tup (pv 1) pe_int (fun _ _ => rfl)) pa_nil))) pa_nil))))))), ?_⟩
  have line : ∀ k, k ≤ 1000 → k ≤ sizeLine := fun k hk => small hk
  refine' joinS (i := 1) (R := fun v H' => ∃ (n : Nat) (es : List E2), 5 ≤ n ∧ But p H H' ∧ Wl H' p ∧ GraphT H' v n es ∧ Good n es) (fun go => ?_) ?_
  rotate_left 2
  · refine ⟨_, rfl, line 6 (by decide), fun t nt => ?_⟩
    have s1 := same_new nt (.tup [V.int 5, V.int 6, V.int 7, V.int 7, V.int 8, V.int 9])
    have ht := upd_same (H := H) (a := t) (o := .tup [V.int 5, V.int 6, V.int 7, V.int 7, V.int 8, V.int 9])
    have tp := hW.ne nt
    generalize upd H t (.tup [V.int 5, V.int 6, V.int 7, V.int 7, V.int 8, V.int 9]) = H1 at s1 ht ⊢
    refine ⟨p, t, _, rfl, hW.same s1, SqT.of (by rw [hide_ne tp]; exact ht), by decide, by decide, fun i v H2 hv b2 w2 => ?_⟩
    obtain ⟨m, rfl, m5, m9⟩ : ∃ m : Nat, v = .int (m : Int) ∧ 5 ≤ m ∧ m ≤ 9 := by
      have z := List.mem_of_getElem? hv
      simp only [List.mem_cons, List.mem_nil_iff, or_false] at z
      rcases z with rfl | rfl | rfl | rfl | rfl | rfl
      · exact ⟨5, rfl, by decide, by decide⟩
      · exact ⟨6, rfl, by decide, by decide⟩
      · exact ⟨7, rfl, by decide, by decide⟩
      · exact ⟨7, rfl, by decide, by decide⟩
      · exact ⟨8, rfl, by decide, by decide⟩
      · exact ⟨9, rfl, by decide, by decide⟩
    exact ⟨m, rfl, by omega, m9, fun x es H3 s3 hx g => go x H3 ⟨m, es, m5, (But.of s1).trans (b2.trans (But.of s3)), w2.same s3, hx, g⟩⟩
  rintro x H1 ⟨n, es1, n5, b1, w1, hx1, g1⟩
  refine' joinS (i := 1) (R := fun v H' => ∃ (es : List E2), But p H H' ∧ Wl H' p ∧ GraphT H' v n es ∧ Good n es) (fun go => ?_) ?_
  rotate_left 2
  · refine ⟨_, rfl, p, 2, rfl, w1, by decide, by decide, fun d H2 _ _ b2 w2 => ?_⟩
    have hx2 := hx1.but b2 w1
    refine ⟨rfl, _, rfl, iteB (fun _ => ?_) (fun _ => ⟨_, rfl, go x H2 ⟨es1, b1.trans b2, w2, hx2, g1⟩⟩)⟩
    exact ⟨_, rfl, x, n, es1, rfl, hx2.at, g1.n9, fun y H3 s3 hy => go y H3 ⟨_, b1.trans (b2.trans (But.of s3)), w2.same s3, hy, good_left g1.n9 es1⟩⟩
  rintro x H2 ⟨es, b2, w2, hx2, g⟩
  have n9 := g.n9
  refine' joinT (R := fun σ H' => ∃ (y : V) (s2 s3 : Option V) (n : Nat) (es : List E2), σ = [some (.ref p), some y, s2, s3, none] ∧ But p H H' ∧ Wl H' p ∧ GraphAt K H' y n es ∧ Good n es) (fun go => ?_) ?_
  rotate_left 1
  · refine ⟨_, rfl, p, 3, rfl, w2, by decide, by decide, fun d H3 _ _ b3 w3 => ?_⟩
    have hx3 := hx2.but b3 w2
    have b03 := b2.trans b3
    refine ⟨rfl, _, rfl, iteB (fun _ => ?_) (fun _ => go _ _ ⟨x, _, _, n, es, rfl, b03, w3, hx3.at, g⟩)⟩
    obtain ⟨t, e, xs, rfl, ht, he, hes⟩ := id hx3
    have a0 : atI [V.int (n : Int), V.ref e] 0 = some (.int (n : Int)) := atI_nat (j := 0) rfl
    have a1 : atI [V.int (n : Int), V.ref e] 1 = some (.ref e) := atI_nat (j := 1) rfl
    refine ⟨_, rfl, _, rfl, t, _, 1, _, rfl, rfl, SqT.of ht, a1, ?_⟩
    refine ⟨_, rfl, .ref t, n, es, rfl, hx3.at, n9, fun y H4 s4 hy => ?_⟩
    obtain ⟨t2, e2, ys, rfl, ht2, he2, hys⟩ := hy
    have a2 : atI [V.int (n : Int), V.ref e2] 1 = some (.ref e2) := atI_nat (j := 1) rfl
    have few := g.few
    have fewL := (good_left n9 es).few
    have lx := PairsT.len hes
    have ly := PairsT.len hys
    have s04 : Same H3 H4 := s4
    refine ⟨t2, _, 1, _, rfl, rfl, SqT.of ht2, a2, ?_⟩
    refine ⟨e, e2, xs, ys, rfl, rfl, SqT.of (s4 _ _ he), SqT.of he2, line _ (by omega), fun c H5 s5 hc => ?_⟩
    have w5 := (w3.same s4).same s5
    have b35 := But.of (p := p) (s4.trans s5)
    have pz := ((hes.same s4).append hys).same s5
    have lz := PairsT.len pz
    have pos := some_pair n5 es
    refine ⟨p, c, xs ++ ys, rfl, w5, w5.off hc, by omega, by rw [List.length_append]; omega, fun i v H6 hv b6 w6 => ?_⟩
    obtain ⟨⟨a, b⟩, hq, o, rfl, ho⟩ := PairsT.getC pz hv
    have b36 := b35.trans b6
    have ho6 := b6 _ _ (wl_tup w5 ho) ho
    have hx6 := hx3.but b36 w3
    have b06 := b03.trans b36
    have mq := List.mem_of_getElem? hq
    clear pz hc hv lz hq ho pos
    have ht6 := b36 _ _ (wl_tup w3 ht) ht
    have he6 := b36 _ _ (wl_tup w3 he) he
    have hes6 := hes.but b36 w3
    refine ⟨_, rfl, t, _, 1, _, rfl, rfl, SqT.of ht6, a1, e, rfl, ⟨_, SqT.of he6⟩, fun D nD => lo_it (walk_tup (xs := xs)) (fun i H7 => Same H6 H7 ∧ ∃ zs, H7 D = some (.lst zs) ∧ PairsT H7 zs ((es.take i).filter fun p => !decide (p = (a, b)))) ⟨same_new nD _, [], upd_same, .nil⟩ (fun i H7 _ ⟨s7, _⟩ => SqT.of (s7 _ _ he6)) ?_ ?_⟩
    · rintro i y _ H7 li ⟨s7, zs, hD, pz⟩ ⟨rfl, hy⟩
      obtain ⟨p', hp, r, rfl, hr2⟩ := PairsT.getC (hes6.same s7) hy
      refine ⟨rfl, ?_⟩
      refine ⟨_, rfl, _, rfl, pairD p', pairD (a, b), PairAt.dp ⟨r, rfl, SqT.of hr2⟩, PairAt.dp ⟨o, rfl, SqT.of (s7 _ _ ho6)⟩, pairD_shaped p', pairD_shaped _, _, rfl, ?_⟩
      rw [pairD_eqv]
      have lz := PairsT.len pz
      have le : zs.length ≤ i := Nat.le_trans (Nat.le_of_eq lz) (Nat.le_trans (List.length_filter_le _ _) (by rw [List.length_take]; omega))
      refine iteB (fun c => ?_) (fun c => ?_)
      · refine ⟨_, rfl, zs, hD, small1000 (by omega), same_put s7 nD, _, upd_same, ?_⟩
        rw [take_succ hp, List.filter_append, List.filter_cons_of_pos (p := fun p => !decide (p = (a, b))) c]
        exact (pz.put hD).append (.cons ⟨r, rfl, by rw [upd_ne (fun z => by rw [z, hD] at hr2; cases hr2)]; exact hr2⟩ .nil)
      · refine ⟨s7, zs, hD, ?_⟩
        rw [take_succ hp, List.filter_append, List.filter_cons_of_neg (p := fun p => !decide (p = (a, b))) (by rw [c]; decide)]
        rw [show ([] : List E2).filter (fun p => !decide (p = (a, b))) = [] from rfl, List.append_nil]
        exact pz
    rintro H7 ⟨s7, zs, hD, pz⟩
    rw [lx, List.take_length] at pz
    have ht7 := s7 _ _ ht6
    have he7 := s7 _ _ he6
    have w7 := w6.same s7
    refine ⟨_, rfl, t, _, 0, _, rfl, rfl, SqT.of ht7, a0, ?_⟩
    refine ⟨_, rfl, _, rfl, t, _, 1, _, rfl, rfl, SqT.of ht7, a1, (a, b), e, xs, es, ⟨o, rfl, SqT.of (s7 _ _ ho6)⟩, rfl, SqT.of he7, (hes6.same s7).at, _, rfl, iteB (fun c => ?_) (fun c => ?_)⟩
    · refine ⟨_, rfl, D, zs, rfl, .inl ⟨SqL.of hD, fun u nu => ⟨line 2 (by decide), fun y ny => ?_⟩⟩⟩
      have su := same_new nu (.tup zs)
      have sy := same_new ny (.tup [.int (n : Int), .ref u])
      exact go _ _ ⟨.ref y, _, _, n, _, rfl, b06.trans (But.of (s7.trans (su.trans sy))), w7.same (su.trans sy), ⟨y, u, zs, rfl, SqT.of upd_same, SqT.of (sy _ _ upd_same), (pz.same (su.trans sy)).at⟩, (done_cut g).good⟩
    · have no' : (a, b) ∉ es := of_decide_eq_false c
      have ml : (a, b) ∈ leftP n es := (List.mem_append.mp mq).resolve_left no'
      obtain ⟨ab, bn⟩ := mem_allP.mp (List.mem_filter.mp ml).1
      have ef : es.filter (fun p => !decide (p = (a, b))) = es := List.filter_eq_self.mpr fun p hp => by
        rw [decide_eq_false (fun z => no' (by rw [← z]; exact hp))]
        rfl
      rw [ef] at pz
      have lz := PairsT.len pz
      refine ⟨_, rfl, _, rfl, line 1 (by decide), fun N nN => ?_⟩
      have sN := same_new nN (.lst [.ref o])
      have hN := upd_same (H := H7) (a := N) (o := .lst [.ref o])
      generalize upd H7 N (.lst [.ref o]) = H8 at sN hN ⊢
      refine ⟨D, N, zs, [.ref o], rfl, rfl, sN _ _ hD, hN, line _ (by rw [List.length_singleton]; omega), fun d nd => ?_⟩
      have s9 := same_new nd (.lst (zs ++ [.ref o]))
      have hd := upd_same (H := H8) (a := d) (o := .lst (zs ++ [.ref o]))
      generalize upd H8 d (.lst (zs ++ [.ref o])) = H9 at s9 hd ⊢
      have s79 := sN.trans s9
      have pb := (pz.same s79).append (.cons ⟨o, rfl, s79 _ _ (s7 _ _ ho6)⟩ .nil : PairsT H9 [.ref o] [(a, b)])
      refine ⟨d, _, kOf H9, rfl, SqL.of hd, pb.ks, fun ys' S so' st nS => ?_⟩
      obtain ⟨g1, g2, g3⟩ := sorted_pairsD pb so' st
      have sS := same_new nS (.lst ys')
      have hS := upd_same (H := H9) (a := S) (o := .lst ys')
      generalize upd H9 S (.lst ys') = HA at sS hS ⊢
      refine ⟨S, ys', rfl, .inl ⟨SqL.of hS, fun u nu => ⟨line 2 (by decide), fun y ny => ?_⟩⟩⟩
      have su := same_new nu (.tup ys')
      have sy := same_new ny (.tup [.int (n : Int), .ref u])
      have s7B := s79.trans (sS.trans (su.trans sy))
      exact go _ _ ⟨.ref y, _, _, n, _, rfl, b06.trans (But.of (s7.trans s7B)), w7.same s7B, ⟨y, u, ys', rfl, SqT.of upd_same, SqT.of (sy _ _ upd_same), (g1.same (sS.trans (su.trans sy))).at⟩, (done_edge g ab bn no' g2 g3).good⟩
  rintro _ H3 ⟨y, s2', s3', m, fs, rfl, b3, w3, hy, gy⟩
  obtain ⟨t, e, xs, rfl, ht, he, hes⟩ := id hy
  have a0 : atI [V.int (m : Int), V.ref e] 0 = some (.int (m : Int)) := atI_nat (j := 0) rfl
  refine ⟨_, rfl, _, rfl, _, rfl, t, _, 0, _, rfl, rfl, ht, a0, p, m, rfl, w3, gy.n9, fun o ns H4 b4 w4 ho pm => ?_⟩
  exact ⟨.ref t, o, m, fs, ns, rfl, hy.ts (TS.but b4 w3), gy, ho, pm, fun z gs H5 s5 hz gz => q z m gs H5 (b3.trans (b4.trans (But.of s5))) (w4.same s5) hz gz⟩
end
end My

set_option maxHeartbeats 4000000
/-! A lot gone round, plain: the holes by lots, and that all holes stand in order. -/
namespace My
open PySem PySem.Spec PyProof.Rows L2
def nearL (es : List E2) (lot : List Nat) (v : Nat) : List Nat := lot.filter (adjB es v)
def nextG (es : List E2) (lot f : List Nat) : Nat := if (nearL es lot (f.getD (f.length - 1) 0)).getD 0 0 = f.getD (f.length - 2) 0 then (nearL es lot (f.getD (f.length - 1) 0)).getD 1 0 else (nearL es lot (f.getD (f.length - 1) 0)).getD 0 0
def goG (es : List E2) (lot : List Nat) : Nat → List Nat
  | 0 => [lot.getD 0 0, (nearL es lot (lot.getD 0 0)).getD 0 0]
  | k + 1 => goG es lot k ++ [nextG es lot (goG es lot k)]
def allTwo (es : List E2) (lot : List Nat) : Bool := lot.all fun v => decide ((nearL es lot v).length = 2)
def goingL (es : List E2) (lot : List Nat) : List Nat := if 4 ≤ lot.length ∧ allTwo es lot = true ∧ (goG es lot (lot.length - 2)).Perm lot then goG es lot (lot.length - 2) else []
theorem goG_len (es : List E2) (lot : List Nat) : ∀ k, (goG es lot k).length = k + 2
  | 0 => rfl
  | k + 1 => by
    show (goG es lot k ++ [_]).length = _
    rw [List.length_append, goG_len es lot k]
    rfl
theorem mem_near {es : List E2} {lot : List Nat} {v x : Nat} : x ∈ nearL es lot v ↔ x ∈ lot ∧ adjB es v x = true := List.mem_filter
theorem near_up {n : Nat} {es : List E2} {lot : List Nat} (lo : LotOk n lot) (v : Nat) : (nearL es lot v).Pairwise (· < ·) := lo.up.filter _
/-- two that ascend -/
theorem two_at {l : List Nat} (h : l.length = 2) (up : l.Pairwise (· < ·)) : ∃ p q, l = [p, q] ∧ p < q := by
  match l, h, up with
  | [p, q], _, up =>
    refine ⟨p, q, rfl, ?_⟩
    have z := List.pairwise_cons.mp up
    exact z.1 q (by simp)
theorem lot_head {n : Nat} {lot : List Nat} (lo : LotOk n lot) {k : Nat} (hk : k ∈ lot) : lot.getD 0 0 ≤ k := by
  cases lot with
  | nil => cases hk
  | cons a r =>
    rcases List.mem_cons.mp hk with rfl | hk
    · exact Nat.le_refl _
    · exact Nat.le_of_lt ((List.pairwise_cons.mp lo.up).1 k hk)
/-- what the way keeps -/
theorem goG_way {n : Nat} {es : List E2} {lot : List Nat} (lo : LotOk n lot) (l4 : 4 ≤ lot.length) (two : allTwo es lot = true) : ∀ k, (∀ v ∈ goG es lot k, v ∈ lot) ∧ (∀ i, i + 1 < k + 2 → adjB es ((goG es lot k).getD i 0) ((goG es lot k).getD (i + 1) 0) = true) ∧ (goG es lot k).getD 0 0 = lot.getD 0 0 ∧ (goG es lot k).getD 1 0 = (nearL es lot (lot.getD 0 0)).getD 0 0 := by
  have tw : ∀ v ∈ lot, (nearL es lot v).length = 2 := fun v hv => of_decide_eq_true (List.all_eq_true.mp two v hv)
  have h0 : lot.getD 0 0 ∈ lot := gD_mem (by omega)
  intro k
  induction k with
  | zero =>
    have m1 : (nearL es lot (lot.getD 0 0)).getD 0 0 ∈ nearL es lot (lot.getD 0 0) := gD_mem (by rw [tw _ h0]; decide)
    obtain ⟨a, b⟩ := mem_near.mp m1
    refine ⟨fun v hv => ?_, fun i hi => ?_, rfl, rfl⟩
    · have hv : v ∈ [lot.getD 0 0, (nearL es lot (lot.getD 0 0)).getD 0 0] := hv
      simp only [List.mem_cons, List.mem_nil_iff, or_false] at hv
      rcases hv with rfl | rfl
      · exact h0
      · exact a
    · obtain rfl : i = 0 := by omega
      exact b
  | succ k ih =>
    obtain ⟨i1, i2, i3, i4⟩ := ih
    have len := goG_len es lot k
    have hl : (goG es lot k).getD ((goG es lot k).length - 1) 0 ∈ lot := i1 _ (gD_mem (by omega))
    have nx : nextG es lot (goG es lot k) ∈ nearL es lot ((goG es lot k).getD ((goG es lot k).length - 1) 0) := by
      unfold nextG
      have l2 := tw _ hl
      split
      · exact gD_mem (by omega)
      · exact gD_mem (by omega)
    obtain ⟨a, b⟩ := mem_near.mp nx
    rw [show goG es lot (k + 1) = goG es lot k ++ [nextG es lot (goG es lot k)] from rfl]
    refine ⟨fun v hv => ?_, fun i hi => ?_, ?_, ?_⟩
    · rcases List.mem_append.mp hv with hv | hv
      · exact i1 v hv
      · rw [List.mem_singleton.mp hv]; exact a
    · by_cases c : i + 1 < k + 2
      · rw [sn_lt (by omega), sn_lt (by omega)]
        exact i2 i c
      · obtain rfl : i = k + 1 := by omega
        rw [sn_lt (by omega)]
        have e : (goG es lot k ++ [nextG es lot (goG es lot k)]).getD (k + 1 + 1) 0 = nextG es lot (goG es lot k) := by
          have z := sn_eq (p := goG es lot k) (v := nextG es lot (goG es lot k))
          rwa [len] at z
        rw [e]
        rw [len] at b
        exact b
    · rw [sn_lt (by omega)]; exact i3
    · rw [sn_lt (by omega)]; exact i4
theorem two_of {l : List Nat} (h : l.length = 2) {a b x : Nat} (ha : a ∈ l) (hb : b ∈ l) (ab : a ≠ b) (hx : x ∈ l) : x = a ∨ x = b := by
  match l, h with
  | [p, q], _ =>
    simp only [List.mem_cons, List.mem_nil_iff, or_false] at ha hb hx
    omega
theorem going_hole {n : Nat} {es : List E2} (g : Good n es) {lot : List Nat} (lo : LotOk n lot) (l4 : 4 ≤ lot.length) (two : allTwo es lot = true) (pm : (goG es lot (lot.length - 2)).Perm lot) : holeL n es (goG es lot (lot.length - 2)) = true := by
  have tw : ∀ v ∈ lot, (nearL es lot v).length = 2 := fun v hv => of_decide_eq_true (List.all_eq_true.mp two v hv)
  obtain ⟨w1, w2, w3, w4⟩ := goG_way lo l4 two (lot.length - 2)
  have len := goG_len es lot (lot.length - 2)
  have nl : lot.Nodup := lo.up.imp fun z e => by omega
  have nd := pm.nodup_iff.mpr nl
  generalize goG es lot (lot.length - 2) = f at w1 w2 w3 w4 len nd pm ⊢
  have em : lot.length - 2 + 2 = f.length := len.symm
  rw [em] at w2
  have m4 : 4 ≤ f.length := by omega
  have inl : ∀ {i}, i < f.length → f.getD i 0 ∈ lot := fun hi => w1 _ (gD_mem hi)
  have ad : ∀ {i j}, i < f.length → j < f.length → adjB es (f.getD i 0) (f.getD j 0) = true → f.getD j 0 ∈ nearL es lot (f.getD i 0) := fun hi hj h => mem_near.mpr ⟨inl hj, h⟩
  have back : ∀ {i}, i + 1 < f.length → adjB es (f.getD (i + 1) 0) (f.getD i 0) = true := fun h => by rw [adj_comm]; exact w2 _ h
  have mid : ∀ {i j}, 0 < i → i + 1 < f.length → j < f.length → adjB es (f.getD i 0) (f.getD j 0) = true → j + 1 = i ∨ i + 1 = j := fun {i j} h0 h1 hj h => by
    have b1 : adjB es (f.getD i 0) (f.getD (i - 1) 0) = true := by
      have z := back (i := i - 1) (by omega)
      rwa [show i - 1 + 1 = i by omega] at z
    have z := two_of (tw _ (inl (by omega))) (ad (j := i - 1) (by omega) (by omega) b1) (ad (by omega) h1 (w2 i h1)) (fun e => by
      have := gD_inj nd (by omega) h1 e
      omega) (ad (by omega) hj h)
    rcases z with e | e
    · have := gD_inj nd hj (by omega) e
      omega
    · have := gD_inj nd hj (by omega) e
      omega
  obtain ⟨p, q, epq, pq⟩ := two_at (tw _ (gD_mem (show 0 < lot.length by omega))) (near_up lo _)
  have e0 := w3
  have e1 : f.getD 1 0 = p := by rw [w4, epq]; rfl
  have mq : q ∈ nearL es lot (f.getD 0 0) := by rw [w3, epq]; simp
  obtain ⟨qi, qa⟩ := mem_near.mp mq
  obtain ⟨j, hj, ej⟩ := gD_place (pm.mem_iff.mpr qi)
  have jm : j + 1 = f.length := by
    rw [← ej] at qa
    have j0 : j ≠ 0 := fun z => by
      rw [z, adj_self g] at qa
      cases qa
    have j1 : j ≠ 1 := fun z => by
      rw [z, e1] at ej
      omega
    by_cases c : j + 1 < f.length
    · rw [adj_comm] at qa
      have := mid (by omega) c (show 0 < f.length by omega) qa
      omega
    · omega
  have close : adjB es (f.getD 0 0) (f.getD (f.length - 1) 0) = true := by
    rw [show f.length - 1 = j by omega, ej]
    exact qa
  have zero : ∀ {j}, j < f.length → adjB es (f.getD 0 0) (f.getD j 0) = true → j = 1 ∨ j + 1 = f.length := fun {j} hj h => by
    have z := two_of (tw _ (inl (show 0 < f.length by omega))) (ad (j := 1) (by omega) (by omega) (w2 0 (by omega))) (ad (by omega) (show f.length - 1 < f.length by omega) close) (fun e => by
      have := gD_inj nd (by omega) (by omega) e
      omega) (ad (by omega) hj h)
    rcases z with e | e
    · have := gD_inj nd hj (by omega) e
      omega
    · have := gD_inj nd hj (by omega) e
      omega
  have ba : bareE es f = true := bareE_iff.mpr fun i j hi hj => by
    unfold Beside
    constructor
    · intro h
      have h' := h
      rw [adj_comm] at h'
      by_cases i0 : i = 0
      · subst i0
        have := zero hj h
        omega
      by_cases j0 : j = 0
      · subst j0
        have := zero hi h'
        omega
      by_cases im : i + 1 < f.length
      · have := mid (by omega) im hj h
        omega
      by_cases jm : j + 1 < f.length
      · have := mid (by omega) jm hi h'
        omega
      obtain rfl : i = j := by omega
      rw [adj_self g] at h
      cases h
    · rintro (e | e | ⟨e1, e2⟩ | ⟨e1, e2⟩)
      · subst e
        exact w2 i hj
      · subst e
        exact back hi
      · subst e1
        rw [show j = f.length - 1 by omega]
        exact close
      · subst e1
        rw [show i = f.length - 1 by omega, adj_comm]
        exact close
  have hd : headLe f = true := by
    unfold headLe
    rw [List.all_eq_true]
    intro k hk
    have e : f.headD 0 = f.getD 0 0 := by
      cases f with
      | nil => rfl
      | cons a r => rfl
    rw [e, w3]
    exact decide_eq_true (lot_head lo (w1 k hk))
  have fe : f.length ≤ n := few_lt nd fun k hk => lo.lt k (w1 k hk)
  unfold holeL
  rw [hd, ba, decide_eq_true nd, decide_eq_true m4, decide_eq_true fe, decide_eq_true (show f.getD 1 0 ≤ f.getD (f.length - 1) 0 by rw [show f.length - 1 = j by omega, ej, e1]; omega)]
  rfl
theorem hole_going {n : Nat} {es : List E2} {lot l : List Nat} (lo : LotOk n lot) (h : holeL n es l = true) (pm : l.Perm lot) : goingL es lot = l := by
  obtain ⟨l4, ln, nd, hd, le, ad⟩ := hole_parts h
  have nl : lot.Nodup := lo.up.imp fun z e => by omega
  have len := pm.length_eq
  have ring : RingOf (adjB es) lot l := ⟨fun v => pm.mem_iff, nd, len, ad⟩
  have two : allTwo es lot = true := List.all_eq_true.mpr fun v hv => decide_eq_true (ring.deg nl (by omega) hv)
  have tw : ∀ v ∈ lot, (nearL es lot v).length = 2 := fun v hv => of_decide_eq_true (List.all_eq_true.mp two v hv)
  have inl : ∀ {i}, i < l.length → l.getD i 0 ∈ lot := fun hi => pm.mem_iff.mp (gD_mem hi)
  have nr : ∀ {i j}, i < l.length → j < l.length → Beside l.length i j → l.getD j 0 ∈ nearL es lot (l.getD i 0) := fun hi hj b => mem_near.mpr ⟨inl hj, (ad _ _ hi hj).mpr b⟩
  have ne : ∀ {i j}, i < l.length → j < l.length → i ≠ j → l.getD i 0 ≠ l.getD j 0 := fun hi hj ij e => ij (gD_inj nd hi hj e)
  have h0 : lot.getD 0 0 = l.getD 0 0 := Nat.le_antisymm (lot_head lo (inl (by omega))) (hd _ (pm.mem_iff.mpr (gD_mem (by omega))))
  have way : ∀ k, k + 2 ≤ l.length → goG es lot k = l.take (k + 2) := by
    intro k
    induction k with
    | zero =>
      intro _
      have e : l.take 2 = [l.getD 0 0, l.getD 1 0] := by
        rw [tk_succ (j := 1) (by omega), tk_succ (j := 0) (by omega)]
        rfl
      show [_, _] = l.take 2
      rw [e, h0]
      obtain ⟨p, q, epq, pq⟩ := two_at (tw _ (inl (show 0 < l.length by omega))) (near_up lo _)
      have m1 := nr (i := 0) (j := 1) (by omega) (by omega) (by unfold Beside; omega)
      have m2 := nr (i := 0) (j := l.length - 1) (by omega) (by omega) (by unfold Beside; omega)
      have d := ne (i := 1) (j := l.length - 1) (by omega) (by omega) (by omega)
      rw [epq] at m1 m2 ⊢
      simp only [List.mem_cons, List.mem_nil_iff, or_false] at m1 m2
      have : p = l.getD 1 0 := by omega
      rw [this]
      rfl
    | succ k ih =>
      intro hk
      have e := ih (by omega)
      show goG es lot k ++ [nextG es lot (goG es lot k)] = l.take (k + 2 + 1)
      rw [e, tk_succ (j := k + 2) (by omega)]
      congr 2
      unfold nextG
      rw [tk_len (show k + 2 ≤ l.length by omega), show k + 2 - 1 = k + 1 by omega, show k + 2 - 2 = k by omega, tk_getD (by omega), tk_getD (by omega)]
      obtain ⟨p, q, epq, pq⟩ := two_at (tw _ (inl (show k + 1 < l.length by omega))) (near_up lo _)
      have m1 := nr (i := k + 1) (j := k) (by omega) (by omega) (by unfold Beside; omega)
      have m2 := nr (i := k + 1) (j := k + 2) (by omega) (by omega) (by unfold Beside; omega)
      have d := ne (i := k) (j := k + 2) (by omega) (by omega) (by omega)
      rw [epq] at m1 m2 ⊢
      simp only [List.mem_cons, List.mem_nil_iff, or_false] at m1 m2
      show (if p = l.getD k 0 then q else p) = l.getD (k + 2) 0
      split <;> omega
  have fin := way (lot.length - 2) (by omega)
  rw [show lot.length - 2 + 2 = l.length by omega, List.take_length] at fin
  unfold goingL
  rw [if_pos ⟨by omega, two, by rw [fin]; exact pm⟩, fin]
theorem going_iff {n : Nat} {es : List E2} (g : Good n es) {lot l : List Nat} (lo : LotOk n lot) : goingL es lot = l ∧ l ≠ [] ↔ holeL n es l = true ∧ l.Perm lot := by
  constructor
  · rintro ⟨h, ne⟩
    unfold goingL at h
    split at h
    · rename_i c
      subst h
      exact ⟨going_hole g lo c.1 c.2.1 c.2.2, c.2.2⟩
    · exact absurd h.symm ne
  · rintro ⟨h, pm⟩
    refine ⟨hole_going lo h pm, fun e => ?_⟩
    have := (hole_parts h).1
    rw [e] at this
    exact absurd this (by decide)
/-! in order -/
theorem ltL_pre : ∀ (p : List Nat) {u v : Nat} {r s : List Nat}, u < v → ltL (p ++ u :: r) (p ++ v :: s)
  | [], u, v, r, s, h => by
    show HT.lexLt (((u : Nat) : Int) :: natI r) (((v : Nat) : Int) :: natI s) = true
    rw [HT.lexLt_cons, if_neg (by omega)]
    exact decide_eq_true (by omega)
  | a :: p, u, v, r, s, h => by
    have ih := ltL_pre p (r := r) (s := s) h
    show HT.lexLt (((a : Nat) : Int) :: natI (p ++ u :: r)) (((a : Nat) : Int) :: natI (p ++ v :: s)) = true
    rw [HT.lexLt_cons, if_pos rfl]
    exact ih
theorem nextL_up (n : Nat) (es : List E2) (p : List Nat) : (nextL n es p).Pairwise (· < ·) := by
  unfold nextL
  refine List.Pairwise.filter _ ?_
  rw [List.pairwise_map]
  exact (List.pairwise_lt_range).imp fun z => by omega
theorem holesF_pre {n : Nat} {es : List E2} : ∀ k p l, l ∈ holesF n es k p → ∃ v r, l = p ++ v :: r
  | 0, _, _, h => nomatch h
  | k + 1, p, l, h => by
    obtain ⟨v, hv, h⟩ := List.mem_flatMap.mp h
    unfold stepH at h
    split at h
    · obtain ⟨w, r, e⟩ := holesF_pre k _ l h
      exact ⟨v, w :: r, by rw [e, List.append_assoc]; rfl⟩
    · split at h
      · rw [List.mem_singleton.mp h]
        exact ⟨v, [], rfl⟩
      · cases h
theorem stepH_pre {n : Nat} {es : List E2} {k : Nat} {p : List Nat} {v : Nat} {l : List Nat} (h : l ∈ stepH (holesF n es k) es p v) : ∃ r, l = p ++ v :: r := by
  unfold stepH at h
  split at h
  · obtain ⟨w, r, e⟩ := holesF_pre k _ l h
    exact ⟨w :: r, by rw [e, List.append_assoc]; rfl⟩
  · split at h
    · rw [List.mem_singleton.mp h]
      exact ⟨[], rfl⟩
    · cases h
theorem holesF_asc {n : Nat} {es : List E2} : ∀ k p, (holesF n es k p).Pairwise ltL
  | 0, _ => List.Pairwise.nil
  | k + 1, p => by
    show ((nextL n es p).flatMap (stepH (holesF n es k) es p)).Pairwise ltL
    rw [List.pairwise_flatMap]
    refine ⟨fun v hv => ?_, (nextL_up n es p).imp fun {u v} uv x hx y hy => ?_⟩
    · unfold stepH
      split
      · exact holesF_asc k _
      · split
        · exact List.pairwise_singleton _ _
        · exact List.Pairwise.nil
    · obtain ⟨r, rfl⟩ := stepH_pre hx
      obtain ⟨s, rfl⟩ := stepH_pre hy
      exact ltL_pre p uv
theorem holesL_asc (n : Nat) (es : List E2) : (holesL n es).Pairwise ltL := by
  unfold holesL
  rw [List.pairwise_flatMap]
  refine ⟨fun a _ => holesF_asc 9 [a], (List.pairwise_lt_range).imp fun {u v} uv x hx y hy => ?_⟩
  obtain ⟨a, r, rfl⟩ := holesF_pre _ _ _ hx
  obtain ⟨b, s, rfl⟩ := holesF_pre _ _ _ hy
  exact ltL_pre [] uv
theorem lot_perm {n : Nat} {a b : List Nat} (ha : LotOk n a) (hb : LotOk n b) (pm : a.Perm b) : a = b := by
  refine pm.eq_of_pairwise (le := fun x y => x < y) (fun x y _ _ h1 h2 => by omega) ha.up hb.up
/-- the goings of all lots, those that are none left out -/
def goingsL (es : List E2) (L : List (List Nat)) : List (List Nat) := (L.map (goingL es)).filter fun l => !decide (l = [])
theorem mem_goings {n : Nat} {es : List E2} (g : Good n es) {L : List (List Nat)} (al : ∀ l, l ∈ L ↔ LotOk n l) {l : List Nat} : l ∈ goingsL es L ↔ l ∈ holesL n es := by
  rw [mem_holes g]
  unfold goingsL
  rw [List.mem_filter, List.mem_map, Bool.not_eq_true', decide_eq_false_iff_not]
  constructor
  · rintro ⟨⟨lot, hl, e⟩, ne⟩
    have lo := (al lot).mp hl
    obtain ⟨h, pm⟩ := (going_iff g lo).mp ⟨e, ne⟩
    exact ⟨h, fun k hk => lo.lt k (pm.mem_iff.mp hk)⟩
  · rintro ⟨h, lt⟩
    obtain ⟨l4, ln, nd, _⟩ := hole_parts h
    have lo : LotOk n (l.mergeSort fun a b => decide (a ≤ b)) := by
      have pm := List.mergeSort_perm l fun a b => decide (a ≤ b)
      refine ⟨fun k hk => lt k (pm.mem_iff.mp hk), ?_⟩
      have so := List.pairwise_mergeSort (le := fun a b : Nat => decide (a ≤ b)) (fun a b c h1 h2 => by simp only [decide_eq_true_eq] at *; omega) (fun a b => by simp only [Bool.or_eq_true, decide_eq_true_eq]; omega) l
      have n2 : (l.mergeSort fun a b => decide (a ≤ b)).Nodup := pm.nodup_iff.mpr nd
      refine (so.and n2).imp fun {a b} h => ?_
      have := of_decide_eq_true h.1
      have := h.2
      omega
    obtain ⟨e, ne⟩ := (going_iff g lo).mpr ⟨h, (List.mergeSort_perm l _).symm⟩
    exact ⟨⟨_, (al _).mpr lo, e⟩, ne⟩
theorem goings_nd {n : Nat} {es : List E2} (g : Good n es) : ∀ {L : List (List Nat)}, (∀ l ∈ L, LotOk n l) → L.Nodup → (goingsL es L).Nodup
  | [], _, _ => List.Pairwise.nil
  | a :: L, al, nd => by
    have ih := goings_nd g (L := L) (fun l hl => al l (List.mem_cons_of_mem _ hl)) (List.nodup_cons.mp nd).2
    unfold goingsL at ih ⊢
    rw [List.map_cons, List.filter_cons]
    split
    · rename_i c
      rw [Bool.not_eq_true', decide_eq_false_iff_not] at c
      refine List.nodup_cons.mpr ⟨fun m => ?_, ih⟩
      obtain ⟨m, _⟩ := List.mem_filter.mp m
      obtain ⟨b, hb, e⟩ := List.mem_map.mp m
      have la := al a (List.mem_cons_self ..)
      have lb := al b (List.mem_cons_of_mem _ hb)
      obtain ⟨_, p1⟩ := (going_iff g la).mp ⟨rfl, c⟩
      obtain ⟨_, p2⟩ := (going_iff g lb).mp ⟨e, c⟩
      have z := lot_perm la lb (p1.symm.trans p2)
      rw [z] at nd
      exact (List.nodup_cons.mp nd).1 hb
    · exact ih
theorem goings_sorted {n : Nat} {es : List E2} (g : Good n es) {L M : List (List Nat)} (al : ∀ l, l ∈ L ↔ LotOk n l) (up : M.Pairwise ltL) (pm : M.Perm (goingsL es L)) : M = holesL n es :=
  eq_of_ltL up (holesL_asc n es) fun _ => pm.mem_iff.trans (mem_goings g al)
end My

set_option maxHeartbeats 4000000
/-! sorted(t), t a tuple of ints. -/
namespace My
open PySem PySem.Spec PyProof.Rows L2 Builtin
section
variable {X : Cx}
def rSortIT (K : PySem.W.Frag) : List V → Hp → VK → Prop := fun vs H Q => ∃ (a : Addr) (ns : List Int), vs = [V.ref a] ∧ SqT K H a (ns.map V.int) ∧
  ∀ (ns' : List Int) (p : Addr), ns'.Perm ns → ns'.Pairwise (· ≤ ·) → H p = none → Q (.ref p) (upd H p (.lst (ns'.map V.int)))
theorem cr_sortIT : CallR X (.builtin "sorted") (rSortIT X.K) := by
  rintro pins s σ H vs us Q I r ⟨a, ns, rfl, hs, q⟩
  obtain ⟨its, rv, hl, hz⟩ := I.tuple hs
  rw [Vals.ref1 r]
  have hi := rv.ints
  have lz : its.length ≤ sizeLine := by rw [← rv.length]; exact hz
  refine sortT SrtO.swo_int hl lz (fun h2 g b hb kk => SrtO.ints_sortable hi h2) fun out so sb => ?_
  obtain ⟨k1, k2, k3⟩ := SrtO.ints_out hi so sb
  obtain ⟨n, hn⟩ := sortedAll_at s.heap its out.toArray
  have hlen : ((out.map SrtO.iv).map V.int).length ≤ sizeLine := by
    rw [List.length_map, k2.length_eq]
    rw [List.length_map] at hz
    exact hz
  exact ⟨.ref _, upd H (s.heap.objs.size + 1) (.lst ((out.map SrtO.iv).map V.int)), I.laid (t' := s.toks) (fun _ _ => sortedAll_old) (Nat.le_succ _) ⟨hlen, out, n, vals_of_ints k1, hn⟩, rfl, q _ _ k2 k3 (I.hok.fresh (Nat.le_succ _))⟩
end
end My

set_option maxHeartbeats 4000000
/-! Lists of texts compared, whatever texts they are; lists of such. -/
namespace My
open PySem PySem.Spec PyProof.Rows L2 SeqAt
/-- a list of these texts -/
def Fl (K : PySem.W.Frag) (H : Hp) (x : V) (fs : List Str) : Prop := ∃ a, x = .ref a ∧ SqL K H a (fs.map V.str)
abbrev Fls (K : PySem.W.Frag) (H : Hp) : List V → List (List Str) → Prop := Paired (Fl K H)
theorem Fl.same {K : PySem.W.Frag} {H H' : Hp} (s : Same H H') {x : V} {fs : List Str} (h : Fl K H x fs) : Fl K H' x fs := by
  obtain ⟨a, e, h⟩ := h
  exact ⟨a, e, L2.Same.seq s h⟩
theorem Fls.same {K : PySem.W.Frag} {H H' : Hp} (s : Same H H') : ∀ {xs : List V} {L : List (List Str)}, Fls K H xs L → Fls K H' xs L
  | _, _, .nil => .nil
  | _, _, .cons a b => .cons (a.same s) (Fls.same s b)
theorem Fls.get {K : PySem.W.Frag} {H : Hp} : ∀ {xs : List V} {L : List (List Str)}, Fls K H xs L → ∀ {i : Nat} {x : V}, xs[i]? = some x → ∃ f, L[i]? = some f ∧ Fl K H x f
  | _, _, .nil, i, x, e => by simp at e
  | _, _, .cons a r, 0, x, e => by simp at e; subst e; exact ⟨_, rfl, a⟩
  | _, _, .cons a r, i + 1, x, e => by
    obtain ⟨f, h1, h2⟩ := Fls.get r (i := i) (x := x) (by simpa using e)
    exact ⟨f, by simpa using h1, h2⟩
theorem Fls.app {K : PySem.W.Frag} {H : Hp} : ∀ {xs ys : List V} {L M : List (List Str)}, Fls K H xs L → Fls K H ys M → Fls K H (xs ++ ys) (L ++ M)
  | _, _, _, _, .nil, h => h
  | _, _, _, _, .cons a b, h => .cons a (Fls.app b h)
section
variable {X : Cx} {pins : List (Addr × Obj)} {σ : L2.St} {H : Hp} {s : Shared}
theorem strs_at : ∀ {fs : List Str} {us : List Value}, Vals (fs.map V.str) us → ∀ j (h : j < us.length), ∃ (x : Str) (t : Tok), fs[j]? = some x ∧ us[j] = .str x t
  | [], _, r, j, h => by
    cases r
    simp at h
  | x :: fs, _, r, j, h => by
    cases r with
    | cons r1 r2 =>
    obtain ⟨t, ht⟩ := (show ∃ t, _ = Value.str x t from r1)
    cases j with
    | zero => exact ⟨x, t, rfl, by simpa using ht⟩
    | succ j =>
      obtain ⟨y, t', e1, e2⟩ := strs_at r2 j (by simpa using h)
      exact ⟨y, t', by simpa using e1, by simpa using e2⟩
theorem fl_eq (I : Inv X pins σ H s) {A : Around} (hu : A.units < cLine) {x y : V} {u v : Value} {fs : List Str} (hx : Fl X.K H x fs) (hy : Fl X.K H y fs) (rx : RelV x u) (ry : RelV y v) : EqAt A s u v true := by
  obtain ⟨a, rfl, ha⟩ := hx
  obtain ⟨b, rfl, hb⟩ := hy
  cases (show u = Value.ref a from rx)
  cases (show v = Value.ref b from ry)
  by_cases e : a = b
  · subst e
    exact EqAt.same _
  obtain ⟨us, r1, p1, _⟩ := I.list ha
  obtain ⟨ws, r2, p2, _⟩ := I.list hb
  have hsz : us.toArray.size = ws.toArray.size := by rw [List.size_toArray, List.size_toArray, ← r1.length, ← r2.length]
  have z := RcAt.lists (A := A) (e := fun _ => true) p1.isList p2.isList hsz hu (fun j h1 h2 => by
    obtain ⟨x, t, e1, e2⟩ := strs_at r1 j (by simpa using h1)
    obtain ⟨y, t', e3, e4⟩ := strs_at r2 j (by simpa using h2)
    rw [e1] at e3
    cases e3
    have q := EqAt.str_str (A := A.in1) (s := s) x t x t'
    rw [show (x == x) = true from beq_self_eq_true x] at q
    have f1 : us.toArray[j] = .str x t := by simpa using e2
    have f2 : ws.toArray[j] = .str x t' := by simpa using e4
    rw [f1, f2]
    exact q)
  rw [show ((List.range us.toArray.size).all fun _ => true) = true from List.all_eq_true.mpr fun _ _ => rfl] at z
  exact EqAt.of_refs e z
theorem fls_eq (I : Inv X pins σ H s) {A : Around} (hu : A.units < cLine) : ∀ {xs ys : List V} {L : List (List Str)} {us ws : List Value}, Fls X.K H xs L → Fls X.K H ys L → Vals xs us → Vals ys ws → ∀ j (h1 : j < us.length) (h2 : j < ws.length), EqAt A s us[j] ws[j] true
  | _, _, _, _, _, .nil, .nil, r1, r2, j, h1, _ => by
    cases r1
    simp at h1
  | _, _, _, _, _, .cons a1 b1, .cons a2 b2, r1, r2, j, h1, h2 => by
    cases r1 with
    | cons c1 d1 =>
    cases r2 with
    | cons c2 d2 =>
    cases j with
    | zero => exact fl_eq I hu a1 a2 c1 c2
    | succ j => exact fls_eq I hu b1 b2 d1 d2 j (by simpa using h1) (by simpa using h2)
end
section
variable {X : Cx}
/-- two lists of the same lists of texts -/
def rNeFF (K : PySem.W.Frag) : R2 := fun x y H Q => ∃ a b xs ys L, x = .ref a ∧ y = .ref b ∧ SqL K H a xs ∧ SqL K H b ys ∧ Fls K H xs L ∧ Fls K H ys L ∧ Q (.bl false) H
def rEqFF (K : PySem.W.Frag) : R2 := fun x y H Q => ∃ a b xs ys L, x = .ref a ∧ y = .ref b ∧ SqL K H a xs ∧ SqL K H b ys ∧ Fls K H xs L ∧ Fls K H ys L ∧ Q (.bl true) H
theorem op_neFF (hu : X.A.units + 64 < cLine) : OpR X (compareOp .NotEq) (rNeFF X.K) := by
  intro pins s σ H x y v u Q I rx ry h
  obtain ⟨a, b, xs, ys, L, rfl, rfl, ha, hb, hx, hy, q⟩ := h
  cases (show v = Value.ref a from rx)
  cases (show u = Value.ref b from ry)
  obtain ⟨us, r1, p1, _⟩ := I.list ha
  obtain ⟨ws, r2, p2, _⟩ := I.list hb
  have hsz : us.toArray.size = ws.toArray.size := by rw [List.size_toArray, List.size_toArray, ← r1.length, ← r2.length, Paired.length hx, Paired.length hy]
  have z := RcNeAt.lists (A := X.A) (e := fun _ => true) p1.isList p2.isList hsz (by omega) (fun j h1 h2 => by
    have q := fls_eq I (A := X.A.in1) (by show X.A.units + 1 < cLine; omega) hx hy r1 r2 j (by simpa using h1) (by simpa using h2)
    simpa using q)
  rw [show ((List.range us.toArray.size).all fun _ => true) = true from List.all_eq_true.mpr fun _ _ => rfl] at z
  exact z _ _ _ _ ⟨.bl _, H, I, rfl, q⟩
theorem op_eqFF (hu : X.A.units + 64 < cLine) : OpR X (compareOp .Eq) (rEqFF X.K) := by
  intro pins s σ H x y v u Q I rx ry h
  obtain ⟨a, b, xs, ys, L, rfl, rfl, ha, hb, hx, hy, q⟩ := h
  cases (show v = Value.ref a from rx)
  cases (show u = Value.ref b from ry)
  obtain ⟨us, r1, p1, _⟩ := I.list ha
  obtain ⟨ws, r2, p2, _⟩ := I.list hb
  have hsz : us.toArray.size = ws.toArray.size := by rw [List.size_toArray, List.size_toArray, ← r1.length, ← r2.length, Paired.length hx, Paired.length hy]
  have z := RcAt.lists (A := X.A) (e := fun _ => true) p1.isList p2.isList hsz (by omega) (fun j h1 h2 => by
    have q := fls_eq I (A := X.A.in1) (by show X.A.units + 1 < cLine; omega) hx hy r1 r2 j (by simpa using h1) (by simpa using h2)
    simpa using q)
  rw [show ((List.range us.toArray.size).all fun _ => true) = true from List.all_eq_true.mpr fun _ _ => rfl] at z
  exact z _ _ _ _ ⟨.bl _, H, I, rfl, q⟩
/-- a list against the empty one -/
def rNeNil (K : PySem.W.Frag) : R2 := fun x y H Q => ∃ a b xs, x = .ref a ∧ y = .ref b ∧ SqL K H a xs ∧ SqL K H b [] ∧ Q (.bl (!xs.isEmpty)) H
def rEqNil (K : PySem.W.Frag) : R2 := fun x y H Q => ∃ a b xs, x = .ref a ∧ y = .ref b ∧ SqL K H a xs ∧ SqL K H b [] ∧ Q (.bl xs.isEmpty) H
theorem op_neNil (hu : X.A.units + 64 < cLine) : OpR X (compareOp .NotEq) (rNeNil X.K) := by
  intro pins s σ H x y v u Q I rx ry h
  obtain ⟨a, b, xs, rfl, rfl, ha, hb, q⟩ := h
  cases (show v = Value.ref a from rx)
  cases (show u = Value.ref b from ry)
  obtain ⟨us, r1, p1, _⟩ := I.list ha
  obtain ⟨ws, r2, p2, _⟩ := I.list hb
  have l1 := r1.length
  have l2 := r2.length
  simp only [List.length_nil] at l2
  cases xs with
  | nil =>
    simp only [List.length_nil] at l1
    have z := RcNeAt.lists (A := X.A) (e := fun _ => true) p1.isList p2.isList (by rw [List.size_toArray, List.size_toArray, ← l1, ← l2]) (by omega) (fun j h1 h2 => by
      simp at h1
      omega)
    rw [show ((List.range us.toArray.size).all fun _ => true) = true from List.all_eq_true.mpr fun _ _ => rfl] at z
    exact z _ _ _ _ ⟨.bl _, H, I, rfl, q⟩
  | cons f fs =>
    have z := RcNeAt.lists_lengths (A := X.A) p1.isList p2.isList (by rw [List.size_toArray, List.size_toArray, ← l1, ← l2]; simp) (by omega)
    exact z _ _ _ _ ⟨.bl _, H, I, rfl, q⟩
theorem op_eqNil (hu : X.A.units + 64 < cLine) : OpR X (compareOp .Eq) (rEqNil X.K) := by
  intro pins s σ H x y v u Q I rx ry h
  obtain ⟨a, b, xs, rfl, rfl, ha, hb, q⟩ := h
  cases (show v = Value.ref a from rx)
  cases (show u = Value.ref b from ry)
  obtain ⟨us, r1, p1, _⟩ := I.list ha
  obtain ⟨ws, r2, p2, _⟩ := I.list hb
  have l1 := r1.length
  have l2 := r2.length
  simp only [List.length_nil] at l2
  cases xs with
  | nil =>
    simp only [List.length_nil] at l1
    have z := RcAt.lists (A := X.A) (e := fun _ => true) p1.isList p2.isList (by rw [List.size_toArray, List.size_toArray, ← l1, ← l2]) (by omega) (fun j h1 h2 => by
      simp at h1
      omega)
    rw [show ((List.range us.toArray.size).all fun _ => true) = true from List.all_eq_true.mpr fun _ _ => rfl] at z
    exact z _ _ _ _ ⟨.bl _, H, I, rfl, q⟩
  | cons f fs =>
    have z := RcAt.lists_lengths (A := X.A) p1.isList p2.isList (by rw [List.size_toArray, List.size_toArray, ← l1, ← l2]; simp) (by omega)
    exact z _ _ _ _ ⟨.bl _, H, I, rfl, q⟩
end
end My

set_option maxHeartbeats 8000000
/-! The law's way round a lot. -/
namespace My
open PySem PySem.Spec PyProof.Rows L2
abbrev sGoing : Stmt := top 43
theorem scGoing : FnScope ["graph", "lot", "near", "found", "turn", "ahead", "v", "u", "each"] ["graph", "lot"] (defScope sGoing) := ⟨rfl, rfl, rfl, by decide +kernel, rfl, by decide +kernel, by decide +kernel⟩
/-- a list of numbers -/
def NrT (H : Hp) (x : V) (l : List Nat) : Prop := ∃ a, x = .ref a ∧ H a = some (.lst (numsN l))
abbrev NrsT (H : Hp) : List V → List (List Nat) → Prop := Paired (NrT H)
theorem NrT.same {H H' : Hp} (s : Same H H') {x : V} {l : List Nat} (h : NrT H x l) : NrT H' x l := by
  obtain ⟨a, e, h⟩ := h
  exact ⟨a, e, s _ _ h⟩
theorem NrsT.same {H H' : Hp} (s : Same H H') : ∀ {xs : List V} {L : List (List Nat)}, NrsT H xs L → NrsT H' xs L
  | _, _, .nil => .nil
  | _, _, .cons a b => .cons (a.same s) (NrsT.same s b)
theorem NrsT.get {H : Hp} : ∀ {xs : List V} {L : List (List Nat)}, NrsT H xs L → ∀ {i : Nat} {x : V}, xs[i]? = some x → ∃ f, L[i]? = some f ∧ NrT H x f
  | _, _, .nil, i, x, e => by simp at e
  | _, _, .cons a r, 0, x, e => by simp at e; subst e; exact ⟨_, rfl, a⟩
  | _, _, .cons a r, i + 1, x, e => by
    obtain ⟨f, h1, h2⟩ := NrsT.get r (i := i) (x := x) (by simpa using e)
    exact ⟨f, by simpa using h1, h2⟩
theorem NrsT.at {H : Hp} : ∀ {xs : List V} {L : List (List Nat)}, NrsT H xs L → ∀ {i : Nat} {f : List Nat}, L[i]? = some f → ∃ x, xs[i]? = some x ∧ NrT H x f
  | _, _, .nil, i, x, e => by simp at e
  | _, _, .cons a r, 0, x, e => by simp at e; subst e; exact ⟨_, rfl, a⟩
  | _, _, .cons a r, i + 1, x, e => by
    obtain ⟨f, h1, h2⟩ := NrsT.at r (i := i) (f := x) (by simpa using e)
    exact ⟨f, by simpa using h1, h2⟩
theorem NrsT.app {H : Hp} : ∀ {xs ys : List V} {L M : List (List Nat)}, NrsT H xs L → NrsT H ys M → NrsT H (xs ++ ys) (L ++ M)
  | _, _, _, _, .nil, h => h
  | _, _, _, _, .cons a b, h => .cons a (NrsT.app b h)
theorem NrT.put {H : Hp} {D : Addr} {zs ws : List V} (hD : H D = some (.lst zs)) {x : V} {l : List Nat} (h : NrT H x l) (ne : x ≠ .ref D) : NrT (upd H D (.lst ws)) x l := by
  obtain ⟨a, rfl, h⟩ := h
  exact ⟨a, rfl, by rw [upd_ne (fun z => ne (by rw [z]))]; exact h⟩
theorem NrsT.put {H : Hp} {D : Addr} {zs ws : List V} (hD : H D = some (.lst zs)) : ∀ {xs : List V} {L : List (List Nat)}, (∀ x ∈ xs, x ≠ .ref D) → NrsT H xs L → NrsT (upd H D (.lst ws)) xs L
  | _, _, _, .nil => .nil
  | _, _, ne, .cons a b => .cons (a.put hD (ne _ (List.mem_cons_self ..))) (NrsT.put hD (fun x hx => ne x (List.mem_cons_of_mem _ hx)) b)
theorem numsD_eqv : ∀ a b : List Nat, PyData.eqvAll (numsD a) (numsD b) = decide (a = b)
  | [], [] => by simp [numsD, PyData.eqvAll]
  | [], y :: b => by simp [numsD, PyData.eqvAll]
  | x :: a, [] => by simp [numsD, PyData.eqvAll]
  | x :: a, y :: b => by
    have ih := numsD_eqv a b
    have e1 : numsD (x :: a) = .int (x : Int) :: numsD a := rfl
    have e2 : numsD (y :: b) = .int (y : Int) :: numsD b := rfl
    rw [e1, e2]
    simp only [PyData.eqvAll, PyData.eqv]
    rw [ih]
    by_cases h : x = y
    · subst h
      simp
    · have : ((x : Int) == (y : Int)) = false := beq_eq_false_iff_ne.mpr (by omega)
      simp [h, this]
theorem atN {l : List Nat} {i : Nat} (h : i < l.length) : atI (numsN l) (i : Int) = some (.int ((l.getD i 0 : Nat) : Int)) := atI_nat (numsN_getD h)
theorem atN_neg {l : List Nat} {k : Nat} (h : k + 1 ≤ l.length) : atI (numsN l) (-((k + 1 : Nat) : Int)) = some (.int ((l.getD (l.length - (k + 1)) 0 : Nat) : Int)) := by
  unfold atI ixN
  rw [numsN_len, if_neg (by omega), if_pos (by omega)]
  have e : ((-((k + 1 : Nat) : Int)) + (l.length : Int)).toNat = l.length - (k + 1) := by omega
  show (numsN l)[_]? = _
  rw [e]
  exact numsN_getD (by omega)
def rLen8 (K : PySem.W.Frag) : List V → Hp → VK → Prop := fun xs H Q => ∃ p ys, xs = [.ref p] ∧ (SqL K H p ys ∨ SqT K H p ys) ∧ Q (.int ys.length) H
def ttNear (K : PySem.W.Frag) : TT := tAnd (tTest (tOp rNe (tVar 7) (tVar 6))) (tB (tCall (spTied K) [] E0 (tCons (tVar 0) (tCons (tVar 7) (tCons (tVar 6) tNil)))))
def ttTwo (K : PySem.W.Frag) : TT := tTest (tOp rNe (tCB (rLen8 K) (tCons (tVar 8) tNil)) (tC (.int 2)))
/-- how a lot goes round -/
def spGoing (K : PySem.W.Frag) : Sp := fun vs H Q _ => ∃ (x : V) (n : Nat) (es : List E2) (t : Addr) (lot : List Nat), vs = [x, .ref t] ∧ GraphAt K H x n es ∧ Good n es ∧ TupF H t (numsN lot) ∧ LotOk n lot ∧
  ∀ (T : Addr) H', Same H H' → H' T = some (.tup (numsN (goingL es lot))) → Q (.ref T) H'
section
variable {P : Program} {w : World} {K : PySem.W.Frag} {mg : Str → Option Value} {base : Heap} {f fT : Addr} {fd dT : FuncData}
theorem ok_going (F : L2.Fun K "_law_going" "_law_going" sGoing f fd)
    (GT : FnOk P w K mg base CX0 1 fT dT ["graph", "u", "v"] (spTied K)) (bT : L2.Binds K dT ["graph", "u", "v"] []) (kT : PySem.W.keepIn K (.ref fT) = true) (mT : mg "_law_is_tied" = some (.ref fT))
    (ml : mg "len" = none) (mr : mg "range" = none) (mt : mg "tuple" = none) (mso : mg "sorted" = none) (mli : mg "list" = none) : FnOk P w K mg base CX0 2 f fd ["graph", "lot"] (spGoing K) := by
  refine F.ok scGoing (fun vs H Q E h => ?_) (fun cdv A outer s0 H vs Q E hr h => ?_)
  · obtain ⟨x, n, es, t, lot, rfl, _⟩ := h
    rfl
  obtain ⟨x, n, es, t, lot, rfl, hx, g, ht, lo, q⟩ := h
  refine ⟨_, pss_cons (ps_setLc (i := 2) (own := [("v", 6)]) (g := gName 6) (tt := tYes) (te := tLc (iTup K (tVar 1)) (gName 7) (ttNear K) (tVar 7) [7]) rfl scGoing.nd rfl rfl (sw_true rfl rfl rfl (by decide +kernel)) (pi_tup (pv 1))
        (blkOk_by (N := ["graph", "lot", "near", "found", "turn", "ahead", "v", "u", "each"]) (sc := defScope sGoing) (by decide +kernel)) (fun _ _ _ _ _ => pg_name (i := 6) scGoing.nd rfl (Or.inr rfl)) (fun _ _ _ _ _ => pts_nil)
        (fun _ _ _ _ _ => pe_lc (own := [("u", 7)]) (g := gName 7) (tt := ttNear K) rfl scGoing.nd (pi_tup (pv 1))
          (blkOk_by (N := ["graph", "lot", "near", "found", "turn", "ahead", "v", "u", "each"]) rfl) (fun _ _ _ _ _ => pg_name (i := 7) scGoing.nd rfl (Or.inl rfl))
          (fun _ _ _ _ _ => pts_one (PW.pt (pw_and (pt_cmpR op_ne (pv 7) (pv 6) (nomark _)) (pw_and1 (pt_val (pe_call GT hr (by rfl) mT kT bT .nil pass0 (pa_cons (pv 0) (pa_cons (pv 7) (pa_cons (pv 6) pa_nil)))))))))
          (fun _ _ _ _ _ => pv 7)))
    (pss_cons (ps_if (PW.pt (pw_or (pt_cmpR op_lt (pe_callB call_len_seq (by rfl) ml PySem.boot_len (pa_cons (pv 1) pa_nil)) pe_int (nomark _))
          (pw_or1 (pt_cmpR (op_neNil hr.units) (pe_lc (own := [("each", 8)]) (g := gName 8) (tt := ttTwo K) rfl scGoing.nd (pi_list (pv 2))
            (blkOk_by (N := ["graph", "lot", "near", "found", "turn", "ahead", "v", "u", "each"]) (sc := defScope sGoing) (by decide +kernel)) (fun _ _ _ _ _ => pg_name (i := 8) scGoing.nd rfl (Or.inl rfl))
            (fun _ _ _ _ _ => pts_one (pt_cmpR op_ne (pe_callB (r := rLen8 K) call_len_seq (by rfl) ml PySem.boot_len (pa_cons (pv 8) pa_nil)) pe_int (nomark _)))
            (fun _ _ _ _ _ => pv 8)) (pe_lst pa_nil) (nomark _))))) (pss_one (ps_ret (pe_tup pa_nil))) pss_nil)
    (pss_cons (ps_set (i := 3) scGoing.nd rfl (.inl rfl) (pe_lst (pa_cons (pe_ix (r := rIxT K) ix_tup (pv 1) pe_int (fun _ _ => rfl)) (pa_cons (pe_ix (r := rIxL K) ix_list (pe_ix (r := rIxL K) ix_list (pv 2) pe_int (fun _ _ => rfl)) pe_int (fun _ _ => rfl)) pa_nil))))
    (pss_cons (ps_for PassesOwn.never rfl (pi_range1 (by rfl) mr (pa_cons (pe_op op_sub (pe_callB call_len_seq (by rfl) ml PySem.boot_len (pa_cons (pv 1) pa_nil)) pe_int) pa_nil)) (pg_name (i := 4) scGoing.nd rfl (.inl rfl))
      (pss_cons (ps_set (i := 5) scGoing.nd rfl (.inl rfl) (pe_ix (r := rIxL K) ix_list (pv 2) (pe_bmF PySem.F.plainAttrs_tuple PySem.F.slot_tuple_index PySem.F.type_tuple_index mt_tixF (pv 1) (pa_cons (pe_ix (r := rIxL K) ix_list (pv 3) (pe_un un_neg pe_int) (fun _ _ => rfl)) pa_nil)) (fun _ _ => rfl)))
      (pss_one (ps_expr (pe_bm PySem.F.plainAttrs_list PySem.F.slot_list_append PySem.F.type_list_append mt_append (pv 3) (pa_cons (pe_ifExp (pt_cmpR op_eq (pe_ix (r := rIxL K) ix_list (pv 5) pe_int (fun _ _ => rfl)) (pe_ix (r := rIxL K) ix_list (pv 3) (pe_un un_neg pe_int) (fun _ _ => rfl)) (nomark _)) (pe_ix (r := rIxL K) ix_list (pv 5) pe_int (fun _ _ => rfl)) (pe_ix (r := rIxL K) ix_list (pv 5) pe_int (fun _ _ => rfl))) pa_nil))))))
    (pss_one (ps_ret (pe_ifExp (pt_cmpR (op_eqD hr.units) (pe_callB cr_sortedI (by rfl) mso (by decide +kernel) (pa_cons (pv 3) pa_nil)) (pe_callTy call_list_of (by rfl) mli (by decide +kernel) (pa_cons (pv 1) pa_nil)) (nomark _)) (pe_callTy call_tuple_of (by rfl) mt (by decide +kernel) (pa_cons (pv 3) pa_nil)) (pe_tup pa_nil))))))), ?_⟩
  have line : ∀ k, k ≤ 1000 → k ≤ sizeLine := fun k hk => small hk
  have n9 := g.n9
  have l9 : lot.length ≤ 9 := Nat.le_trans lo.few n9
  have lotAt : ∀ {i : Nat} {y : V}, (numsN lot)[i]? = some y → ∃ k, lot[i]? = some k ∧ y = .int ((k : Nat) : Int) := fun {i y} h => by
    unfold numsN at h
    rw [List.getElem?_map] at h
    cases e : lot[i]? with
    | none => rw [e] at h; cases h
    | some k =>
      rw [e] at h
      exact ⟨k, rfl, (Option.some.inj h).symm⟩
  refine ⟨_, rfl, t, rfl, ⟨_, ht.sq⟩, fun D nD => lo_it (walk_tup (xs := numsN lot)) (fun i H' => Same H H' ∧ ∃ zs, H' D = some (.lst zs) ∧ (∀ z ∈ zs, z ≠ .ref D) ∧ NrsT H' zs ((lot.take i).map (nearL es lot))) ⟨same_new nD _, [], upd_same, (fun _ z => nomatch z), .nil⟩ (fun i H' _ ⟨s', _⟩ => (ht.same s').sq) ?_ ?_⟩
  · rintro i y _ H2 li ⟨s2, zs, hD, nz, hz⟩ ⟨rfl, hi⟩
    obtain ⟨v, hv, rfl⟩ := lotAt hi
    refine ⟨rfl, ?_⟩
    rw [numsN_len] at li
    have lz : zs.length ≤ i := by
      rw [Paired.length hz, List.length_map, List.length_take]
      omega
    refine ⟨_, rfl, t, rfl, ⟨_, (ht.same s2).sq⟩, fun B nB => lo_it (walk_tup (xs := numsN lot)) (fun j H' => Same H2 H' ∧ H' B = some (.lst (numsN ((lot.take j).filter (adjB es v))))) ⟨same_new nB _, upd_same⟩ (fun j H' _ ⟨s', _⟩ => (ht.same (s2.trans s')).sq) ?_ ?_⟩
    · rintro j y _ H3 lj ⟨s3, hB⟩ ⟨rfl, hj⟩
      obtain ⟨u, hu, rfl⟩ := lotAt hj
      have lf : (numsN ((lot.take j).filter (adjB es v))).length ≤ 9 := by
        rw [numsN_len]
        exact Nat.le_trans (List.length_filter_le _ _) (by rw [List.length_take]; omega)
      have skip : adjB es v u = false → Same H2 H3 ∧ H3 B = some (.lst (numsN ((lot.take (j + 1)).filter (adjB es v)))) := fun c => by
        refine ⟨s3, ?_⟩
        rw [take_succ hu, List.filter_append, List.filter_cons_of_neg (by rw [c]; decide), List.filter_nil, List.append_nil]
        exact hB
      refine ⟨rfl, ?_⟩
      refine ⟨_, rfl, _, rfl, rfl, _, rfl, iteB (fun c1 => ?_) (fun c1 => iteF (skip ?_))⟩
      · refine ⟨_, rfl, _, rfl, _, rfl, x, n, es, u, v, rfl, hx.same (s2.trans s3), fun H4 s4 => ?_⟩
        refine ⟨_, rfl, iteB (fun c2 => ?_) (fun c2 => ?_)⟩
        · rw [adj_comm] at c2
          refine ⟨_, rfl, _, s4 _ _ hB, small1000 (by omega), same_put (s3.trans s4) nB, ?_⟩
          rw [upd_same, take_succ hu, List.filter_append, List.filter_cons_of_pos c2, List.filter_nil]
          unfold numsN
          rw [List.map_append]
          rfl
        · rw [adj_comm] at c2
          obtain ⟨a, b⟩ := skip c2
          exact ⟨a.trans s4, s4 _ _ b⟩
      · have e : u = v := by
          have z : decide (V.int ((u : Nat) : Int) = V.int ((v : Nat) : Int)) = true := by simpa using c1
          have z := of_decide_eq_true z
          injection z with z
          omega
        rw [e]
        exact adj_self g v
    · rintro H3 ⟨s3, hB⟩
      rw [numsN_len, List.take_length] at hB
      refine ⟨zs, s3 _ _ hD, small1000 (by omega), same_put (s2.trans s3) nD, _, upd_same, fun z hm => ?_, ?_⟩
      · rcases List.mem_append.mp hm with hm | hm
        · exact nz z hm
        · rw [List.mem_singleton.mp hm]
          intro e
          injection e with e
          rw [e] at nB
          rw [nB] at hD
          cases hD
      · have BD : V.ref B ≠ V.ref D := fun e => by
          injection e with e
          rw [e] at nB
          rw [nB] at hD
          cases hD
        rw [take_succ hv, List.map_append]
        exact ((hz.same s3).put (s3 _ _ hD) nz).app (.cons (NrT.put (s3 _ _ hD) ⟨B, rfl, hB⟩ BD) .nil)
  rintro H1 ⟨s1, zs, hD, _, hz⟩
  rw [numsN_len, List.take_length] at hz
  have lzs : zs.length = lot.length := by rw [Paired.length hz, List.length_map]
  have ret0 : goingL es lot = [] → ∀ H2, Same H H2 → ∀ T, H2 T = none → Q (.ref T) (upd H2 T (.tup [])) := fun e H2 s2 T nT => q T _ (s2.trans (same_new nT _)) (by rw [upd_same, e]; rfl)
  have rowAt : ∀ {i : Nat} {v : Nat}, lot[i]? = some v → ∃ z a, zs[i]? = some z ∧ z = .ref a ∧ ∀ H2, Same H1 H2 → H2 a = some (.lst (numsN (nearL es lot v))) := fun {i v} hv => by
    obtain ⟨z, h1, a, h2, h3⟩ := hz.at (i := i) (f := nearL es lot v) (by rw [List.getElem?_map, hv]; rfl)
    exact ⟨z, a, h1, h2, fun H2 s2 => s2 _ _ h3⟩
  refine ⟨_, rfl, t, _, rfl, .inr ((ht.same s1).sq), ?_⟩
  rw [numsN_len]
  refine ⟨_, _, rfl, rfl, _, rfl, iteB (fun c => ⟨line 0 (by decide), fun T nT => ret0 ?_ H1 s1 T nT⟩) (fun c => ?_)⟩
  · have c := of_decide_eq_true c
    unfold goingL
    rw [if_neg]
    intro z
    omega
  have c := of_decide_eq_false c
  have l4 : 4 ≤ lot.length := by omega
  refine ⟨_, rfl, D, rfl, ⟨_, SqL.of hD⟩, fun B nB => lo_it (walk_list (xs := zs)) (fun i H' => Same H1 H' ∧ ∃ ws, H' B = some (.lst ws) ∧ ws.length ≤ i ∧ (ws = [] ↔ ∀ v ∈ lot.take i, (nearL es lot v).length = 2)) ⟨same_new nB _, [], upd_same, Nat.le_refl _, ⟨fun _ v hv => by simp at hv, fun _ => rfl⟩⟩ (fun i H' _ ⟨s', _⟩ => SqL.of (s' _ _ hD)) ?_ ?_⟩
  · rintro i y _ H2 li ⟨s2, ws, hB, lw, iw⟩ ⟨rfl, hy⟩
    have li' : i < lot.length := by omega
    have hv : lot[i]? = some lot[i] := List.getElem?_eq_getElem li'
    obtain ⟨z, a, h1, h2, h3⟩ := rowAt hv
    rw [hy] at h1
    obtain rfl := Option.some.inj h1
    subst h2
    have ha := h3 H2 s2
    refine ⟨rfl, ?_⟩
    refine ⟨_, rfl, a, _, rfl, .inl (SqL.of ha), rfl, _, rfl, ?_⟩
    rw [numsN_len, take_succ hv]
    refine iteB (fun c1 => ?_) (fun c1 => ⟨s2, ws, hB, by omega, ?_⟩)
    · refine ⟨_, rfl, ws, hB, small1000 (by omega), same_put s2 nB, _, upd_same, by rw [List.length_append]; exact Nat.succ_le_succ lw, ⟨fun z => by simp at z, fun z => ?_⟩⟩
      have z := z lot[i] (List.mem_append_right _ (List.mem_singleton.mpr rfl))
      rw [z] at c1
      exact absurd c1 (by decide)
    · have e : (nearL es lot lot[i]).length = 2 := by
        have z : decide (V.int (((nearL es lot lot[i]).length : Nat) : Int) = V.int 2) = true := by simpa using c1
        have z := of_decide_eq_true z
        injection z with z
        omega
      rw [iw]
      constructor
      · intro h v hv
        rcases List.mem_append.mp hv with hv | hv
        · exact h v hv
        · rw [List.mem_singleton.mp hv]
          exact e
      · intro h v hv
        exact h v (List.mem_append_left _ hv)
  rintro H2 ⟨s2, ws, hB, lw, iw⟩
  rw [lzs, List.take_length] at iw
  have two : allTwo es lot = true ↔ ws = [] := by
    rw [iw]
    unfold allTwo
    rw [List.all_eq_true]
    exact ⟨fun h v hv => of_decide_eq_true (h v hv), fun h v hv => decide_eq_true (h v hv)⟩
  clear iw
  refine ⟨line 0 (by decide), fun e ne => ?_⟩
  have se := same_new ne (.lst [])
  refine ⟨B, e, ws, rfl, rfl, SqL.of (se _ _ hB), SqL.of upd_same, _, rfl, ?_⟩
  have s02 := s1.trans (s2.trans se)
  have s12 := s2.trans se
  generalize upd H2 e (.lst []) = H3 at se s02 s12 ⊢
  clear hB ne se
  refine iteB (fun c => ⟨line 0 (by decide), fun T nT => ret0 ?_ H3 s02 T nT⟩) (fun c => ?_)
  · unfold goingL
    rw [if_neg]
    rintro ⟨_, z, _⟩
    rw [two.mp z] at c
    cases c
  have tw : allTwo es lot = true := two.mpr (by
    cases ws with
    | nil => rfl
    | cons a r => cases c)
  clear c two
  have ht3 := ht.same s02
  have hD3 := s12 _ _ hD
  have m0 : lot[0]? = some (lot.getD 0 0) := by rw [List.getD_eq_getElem?_getD, List.getElem?_eq_getElem (show 0 < lot.length by omega)]; rfl
  have t0 : (nearL es lot (lot.getD 0 0)).length = 2 := of_decide_eq_true (List.all_eq_true.mp tw _ (List.mem_of_getElem? m0))
  obtain ⟨z0, a0, hz0, rfl, ha0⟩ := rowAt m0
  refine ⟨_, rfl, t, _, 0, _, rfl, rfl, ht3.sq, atN (i := 0) (by omega), _, rfl, D, _, 0, _, rfl, rfl, SqL.of hD3, atI_nat (j := 0) hz0, a0, _, 0, _, rfl, rfl, SqL.of (ha0 H3 s12), atN (i := 0) (by omega), line 2 (by decide), fun F nF => ?_⟩
  have sF := same_new nF (.lst [.int ((lot.getD 0 0 : Nat) : Int), .int (((nearL es lot (lot.getD 0 0)).getD 0 0 : Nat) : Int)])
  refine ⟨_, rfl, t, _, rfl, .inr ((ht3.same sF).sq), ?_⟩
  rw [numsN_len]
  have tn : ((lot.length : Int) - 2).toNat = lot.length - 2 := by omega
  refine ⟨_, _, rfl, rfl, _, rfl, by omega, by omega, for_it (walk_range (lo := 0) (n := ((lot.length : Int) - 2).toNat)) (fun i σ H' => ∃ (s4 s5 : Option V), σ = [some x, some (.ref t), some (.ref D), some (.ref F), s4, s5, none, none, none] ∧ Same H3 H' ∧ H' F = some (.lst (numsN (goG es lot i)))) ⟨none, none, rfl, sF, upd_same⟩ (fun _ _ _ _ _ => trivial) ?_ ?_⟩
  · rintro i y σ H4' H4 li ⟨s4', s5', rfl, s4, hF⟩ ⟨rfl, ey⟩
    obtain rfl : y = V.int ((i : Nat) : Int) := ey.trans (congrArg V.int (Int.zero_add _))
    obtain ⟨w1, w2, w3, w4⟩ := goG_way lo l4 tw i
    have lg := goG_len es lot i
    have inl : (goG es lot i).getD ((goG es lot i).length - 1) 0 ∈ lot := w1 _ (gD_mem (by omega))
    obtain ⟨p1, p2⟩ := place_at inl
    have hv : lot[place lot ((goG es lot i).getD ((goG es lot i).length - 1) 0)]? = some ((goG es lot i).getD ((goG es lot i).length - 1) 0) := by
      rw [List.getElem?_map] at p1
      cases e : lot[place lot ((goG es lot i).getD ((goG es lot i).length - 1) 0)]? with
      | none => rw [e] at p1; cases p1
      | some k =>
        rw [e] at p1
        have := Option.some.inj p1
        congr 1
        exact Int.ofNat.inj this
    obtain ⟨z, a, hz1, rfl, ha⟩ := rowAt hv
    have ha4 := ha H4 (s12.trans s4)
    have ht4 := ht3.same s4
    have hD4 := s4 _ _ hD3
    have tl : (nearL es lot ((goG es lot i).getD ((goG es lot i).length - 1) 0)).length = 2 := of_decide_eq_true (List.all_eq_true.mp tw _ inl)
    have sq : TupF H4 t ((lot.map fun k => ((k : Nat) : Int)).map V.int) := by
      rw [List.map_map]
      exact ht4
    refine ⟨_, rfl, _, rfl, ⟨t, _, rfl, ht4⟩, _, rfl, 1, rfl, F, _, _, _, rfl, rfl, SqL.of hF, atN_neg (k := 0) (by omega), t, _, _, _, rfl, rfl, sq, p1, p2, D, _, _, _, rfl, rfl, SqL.of hD4, atI_nat hz1, ?_⟩
    have nx : ∀ v : V, v = .int ((nextG es lot (goG es lot i) : Nat) : Int) → numsN (goG es lot i) ++ [v] = numsN (goG es lot (i + 1)) := fun v e => by
      subst e
      show _ = numsN (goG es lot i ++ [nextG es lot (goG es lot i)])
      unfold numsN
      rw [List.map_append]
      rfl
    refine ⟨_, rfl, .inl ⟨rfl, _, SqL.of hF⟩, ?_⟩
    refine ⟨_, rfl, a, _, 0, _, rfl, rfl, SqL.of ha4, atN (i := 0) (by omega), _, rfl, 2, rfl, F, _, _, _, rfl, rfl, SqL.of hF, atN_neg (k := 1) (by omega), rfl, _, rfl, iteB (fun c => ?_) (fun c => ?_)⟩
    · have c : (nearL es lot ((goG es lot i).getD ((goG es lot i).length - 1) 0)).getD 0 0 = (goG es lot i).getD ((goG es lot i).length - 2) 0 := by
        have z := of_decide_eq_true c
        injection z with z
        exact Int.ofNat.inj z
      refine ⟨_, rfl, a, _, 1, _, rfl, rfl, SqL.of ha4, atN (i := 1) (by omega), F, _, _, rfl, rfl, hF, small1000 (by rw [numsN_len]; omega), _, _, rfl, same_put s4 nF, ?_⟩
      rw [upd_same, nx _ (by unfold nextG; rw [if_pos c])]
    · have c : ¬ (nearL es lot ((goG es lot i).getD ((goG es lot i).length - 1) 0)).getD 0 0 = (goG es lot i).getD ((goG es lot i).length - 2) 0 := fun z => by
        have y := of_decide_eq_false c
        rw [z] at y
        exact y rfl
      refine ⟨_, rfl, a, _, 0, _, rfl, rfl, SqL.of ha4, atN (i := 0) (by omega), F, _, _, rfl, rfl, hF, small1000 (by rw [numsN_len]; omega), _, _, rfl, same_put s4 nF, ?_⟩
      rw [upd_same, nx _ (by unfold nextG; rw [if_neg c])]
  · rintro σ H4 ⟨s4', s5', rfl, s4, hF⟩
    rw [tn] at hF
    have sq : SqL K H4 F ((natI (goG es lot (lot.length - 2))).map V.int) := by
      unfold natI
      rw [List.map_map]
      exact SqL.of hF
    refine ⟨_, rfl, F, _, rfl, sq, fun ns' p pm up np => ?_⟩
    obtain ⟨f', ef, pf, uf⟩ : ∃ f' : List Nat, ns' = natI f' ∧ f'.Perm (goG es lot (lot.length - 2)) ∧ f'.Pairwise (· ≤ ·) := by
      have all : ∀ z ∈ ns', ((z.toNat : Nat) : Int) = z := fun z hz => by
        obtain ⟨k, _, rfl⟩ := List.mem_map.mp (pm.mem_iff.mp hz)
        omega
      have e : ns' = natI (ns'.map Int.toNat) := by
        unfold natI
        rw [List.map_map]
        conv => lhs; rw [← List.map_id ns']
        exact List.map_congr_left fun z hz => (all z hz).symm
      refine ⟨_, e, ?_, ?_⟩
      · have z := pm.map Int.toNat
        unfold natI at z
        rw [List.map_map] at z
        have y : (goG es lot (lot.length - 2)).map (Int.toNat ∘ fun k : Nat => ((k : Nat) : Int)) = goG es lot (lot.length - 2) := by
          conv => rhs; rw [← List.map_id (goG es lot (lot.length - 2))]
          exact List.map_congr_left fun k _ => by simp
        rw [y] at z
        exact z
      · rw [List.pairwise_map]
        exact up.imp fun h => Int.toNat_le_toNat h
    subst ef
    have ep : (natI f').map V.int = numsN f' := by
      unfold natI numsN
      rw [List.map_map]
      rfl
    rw [ep]
    have sp := same_new np (.lst (numsN f'))
    have s5 := s4.trans sp
    refine ⟨_, rfl, t, _, rfl, .inr ((ht3.same s5).sq), fun b nb => ?_⟩
    have sb := same_new nb (.lst (numsN lot))
    have s56 := sp.trans sb
    refine ⟨.list (numsD f'), .list (numsD lot), .lst (SqL.of (sb _ _ upd_same)) (numsD_dp _), .lst (SqL.of upd_same) (numsD_dp _), numsD_shL _, numsD_shL _, _, rfl, ?_⟩
    have ev : PyData.eqv (.list (numsD f')) (.list (numsD lot)) = decide (f' = lot) := by
      simp only [PyData.eqv]
      exact numsD_eqv _ _
    rw [ev]
    have hF6 := s56 _ _ hF
    have s06 := s02.trans (s4.trans s56)
    generalize upd (upd H4 p (.lst (numsN f'))) b (.lst (numsN lot)) = H6 at hF6 s06 ⊢
    refine iteB (fun c => ?_) (fun c => ?_)
    · have c := of_decide_eq_true c
      have e : goingL es lot = goG es lot (lot.length - 2) := by
        unfold goingL
        have pm' : (goG es lot (lot.length - 2)).Perm lot := pf.symm.trans (by rw [c])
        rw [if_pos ⟨l4, tw, pm'⟩]
      exact ⟨_, rfl, F, _, rfl, .inl ⟨SqL.of hF6, fun T nT => q T _ (s06.trans (same_new nT _)) (by rw [upd_same, e])⟩⟩
    · have c := of_decide_eq_false c
      refine ⟨line 0 (by decide), fun T nT => ret0 ?_ H6 s06 T nT⟩
      unfold goingL
      rw [if_neg]
      rintro ⟨_, _, z⟩
      refine c ((pf.trans z).eq_of_pairwise (le := fun a b : Nat => a ≤ b) (fun a b _ _ h1 h2 => Nat.le_antisymm h1 h2) uf ?_)
      exact lo.up.imp fun h => Nat.le_of_lt h
end
end My

set_option maxHeartbeats 8000000
/-! All holes, of the law: exact. -/
namespace My
open PySem PySem.Spec PyProof.Rows L2
abbrev sLHoles : Stmt := top 44
theorem scLHoles : FnScope ["graph", "lot", "each"] ["graph"] (defScope sLHoles) := ⟨rfl, rfl, rfl, by decide +kernel, rfl, by decide +kernel, by decide +kernel⟩
section
variable {P : Program} {w : World} {K : PySem.W.Frag} {mg : Str → Option Value} {base : Heap} {f fL fG : Addr} {fd dL dG : FuncData}
theorem ok_lholes (F : L2.Fun K "_law_holes" "_law_holes" sLHoles f fd)
    (GL : FnOk P w K mg base CX0 1 fL dL ["n"] (spLotsF K)) (bL : L2.Binds K dL ["n"] []) (kL : PySem.W.keepIn K (.ref fL) = true) (mL : mg "_law_lots" = some (.ref fL))
    (GG : FnOk P w K mg base CX0 2 fG dG ["graph", "lot"] (spGoing K)) (bG : L2.Binds K dG ["graph", "lot"] []) (kG : PySem.W.keepIn K (.ref fG) = true) (mG : mg "_law_going" = some (.ref fG))
    (mt : mg "tuple" = none) (mso : mg "sorted" = none) : FnOk P w K mg base CX0 3 f fd ["graph"] (spHoles K fun _ es => es) := by
  refine F.ok scLHoles (fun vs H Q E h => ?_) (fun cdv A outer s0 H vs Q E hr h => ?_)
  · obtain ⟨x, n, es, rfl, _⟩ := h
    rfl
  obtain ⟨x, n, es, rfl, hx, g, q⟩ := h
  have h1 := hr.mono (show 1 ≤ 2 by decide)
  refine ⟨_, pss_one (ps_ret (pe_callTy call_tuple_of (by rfl) mt (by decide +kernel) (pa_cons (pe_callB (cr_sortTI hr.units) (by rfl) mso (by decide +kernel) (pa_cons
      (pe_lc (own := [("each", 2)]) (g := gName 2) (tt := tTest (tOp (rNeD K) (tVar 2) (tTup tNil))) rfl scLHoles.nd (pi_list
          (pe_lc (own := [("lot", 1)]) (g := gName 1) (tt := tYes) (te := tCall (spGoing K) [] E0 (tCons (tVar 0) (tCons (tVar 1) tNil))) rfl scLHoles.nd (pi_list (pe_call GL h1 (by rfl) mL kL bL .nil pass0 (pa_cons (pe_ix (r := rIxT K) ix_tup (pv 0) pe_int (fun _ _ => rfl)) pa_nil)))
            (blkOk_by (N := ["graph", "lot", "each"]) (sc := defScope sLHoles) (by decide +kernel)) (fun _ _ _ _ _ => pg_name (i := 1) scLHoles.nd rfl (Or.inl rfl)) (fun _ _ _ _ _ => pts_nil)
            (fun _ _ _ _ _ => pe_call GG hr (by rfl) mG kG bG .nil pass0 (pa_cons (pv 0) (pa_cons (pv 1) pa_nil)))))
        (blkOk_by (N := ["graph", "lot", "each"]) (sc := defScope sLHoles) (by decide +kernel)) (fun _ _ _ _ _ => pg_name (i := 2) scLHoles.nd rfl (Or.inl rfl))
        (fun _ _ _ _ _ => pts_one (pt_cmpR (op_neD hr.units) (pv 2) (pe_tup pa_nil) (nomark _))) (fun _ _ _ _ _ => pv 2)) pa_nil)) pa_nil))), ?_⟩
  have line : ∀ k, k ≤ 1000 → k ≤ sizeLine := fun k hk => small hk
  have n9 := g.n9
  obtain ⟨t, e, ps, rfl, ht, he, hes⟩ := id hx
  have a0 : atI [V.int (n : Int), V.ref e] 0 = some (.int (n : Int)) := atI_nat (j := 0) rfl
  refine ⟨_, rfl, t, _, 0, _, rfl, rfl, ht, a0, n, rfl, n9, fun F xs L H1 s1 hF hl al len => ?_⟩
  have l512 : L.length ≤ 512 := by
    rw [len]
    exact Nat.le_trans (Nat.pow_le_pow_right (by decide) n9) (by decide)
  have lx := hl.len
  refine ⟨F, rfl, ⟨_, SqL.of hF⟩, fun B nB => lo_it (walk_list (xs := xs)) (fun i H' => Same H1 H' ∧ ∃ zs, H' B = some (.lst zs) ∧ LotsT H' zs ((L.take i).map (goingL es))) ⟨same_new nB _, [], upd_same, .nil⟩ (fun i H' _ ⟨s', _⟩ => SqL.of (s' _ _ hF)) ?_ ?_⟩
  · rintro i y _ H2 li ⟨s2, zs, hB, hz⟩ ⟨rfl, hy⟩
    obtain ⟨lot, hlot, u, rfl, hu⟩ := (hl.same s2).get hy
    have lz : zs.length ≤ i := by
      rw [hz.len, List.length_map, List.length_take]
      omega
    refine ⟨rfl, ?_⟩
    refine ⟨_, rfl, _, rfl, .ref t, n, es, u, lot, rfl, hx.same (s1.trans s2), g, hu, (al.2 lot).mp (List.mem_of_getElem? hlot), fun T H3 s3 hT => ?_⟩
    refine ⟨zs, s3 _ _ hB, small1000 (by omega), same_put (s2.trans s3) nB, _, upd_same, ?_⟩
    rw [take_succ hlot, List.map_append]
    exact ((hz.same s3).put (s3 _ _ hB)).snoc (LotT.put (s3 _ _ hB) ⟨T, rfl, hT⟩)
  rintro H2 ⟨s2, zs, hB, hz⟩
  rw [lx, List.take_length] at hz
  have lz := hz.len
  rw [List.length_map] at lz
  refine ⟨B, rfl, ⟨_, SqL.of hB⟩, fun D nD => lo_it (walk_list (xs := zs)) (fun i H' => Same H2 H' ∧ ∃ ws, H' D = some (.lst ws) ∧ LotsT H' ws (((L.map (goingL es)).take i).filter fun l => !decide (l = []))) ⟨same_new nD _, [], upd_same, .nil⟩ (fun i H' _ ⟨s', _⟩ => SqL.of (s' _ _ hB)) ?_ ?_⟩
  · rintro i y _ H3 li ⟨s3, ws, hD, hw⟩ ⟨rfl, hy⟩
    obtain ⟨l, hlL, u, rfl, hu⟩ := (hz.same s3).get hy
    have lw : ws.length ≤ i := by
      rw [hw.len]
      exact Nat.le_trans (List.length_filter_le _ _) (by rw [List.length_take]; omega)
    refine ⟨rfl, ?_⟩
    refine ⟨_, rfl, line 0 (by decide), fun e ne => ?_⟩
    have se := same_new ne (.tup [])
    refine ⟨.tuple (numsD l), .tuple (numsD []), .tup (SqT.of (se _ _ hu)) (numsD_dp l), .tup (SqT.of upd_same) .nil, numsD_shT l, numsD_shT [], _, rfl, ?_⟩
    rw [numsD_nilT]
    generalize upd H3 e (.tup []) = H4 at se ⊢
    rw [take_succ hlL, List.filter_append]
    refine iteB (fun c => ?_) (fun c => ⟨s3.trans se, ws, se _ _ hD, ?_⟩)
    · have ne' : l ≠ [] := fun z => by
        rw [z] at c
        cases c
      refine ⟨_, rfl, ws, se _ _ hD, small1000 (by omega), same_put (s3.trans se) nD, _, upd_same, ?_⟩
      rw [List.filter_cons_of_pos (by rw [decide_eq_false ne']; rfl), List.filter_nil]
      exact ((hw.same se).put (se _ _ hD)).snoc (LotT.put (se _ _ hD) ⟨u, rfl, se _ _ hu⟩)
    · have e' : l = [] := by
        cases l with
        | nil => rfl
        | cons a r => cases c
      rw [List.filter_cons_of_neg (by rw [decide_eq_true e']; decide), List.filter_nil, List.append_nil]
      exact hw.same se
  rintro H3 ⟨s3, ws, hD, hw⟩
  rw [lz, ← List.length_map (f := goingL es), List.take_length] at hw
  have hw' : LotsT H3 ws (goingsL es L) := hw
  have nd := goings_nd g (L := L) (fun l hl => (al.2 l).mp hl) (al.1.imp fun {a b} h e => by
    rw [e] at h
    exact ltL_asym h h)
  obtain ⟨p1, p2⟩ := lots_sort (K := K) hw' (.inl (sortish_ne fun l hl => by
    have z := (List.mem_filter.mp hl).2
    simpa using z))
  refine ⟨D, ws, fun x => natI (kN H3 x), rfl, SqL.of hD, p1, p2, fun ys p so st np => ?_⟩
  obtain ⟨k1, k2, k3⟩ := sorted_lots hw' nd so st
  have sp := same_new np (.lst ys)
  have k1 := k1.same sp
  rw [goings_sorted g al.2 k2 k3] at k1
  have hp := upd_same (H := H3) (a := p) (o := .lst ys)
  generalize upd H3 p (.lst ys) = H4 at sp k1 hp ⊢
  refine ⟨p, ys, rfl, .inl ⟨SqL.of hp, fun T nT => ?_⟩⟩
  have sT := same_new nT (.tup ys)
  exact q T ys _ (s1.trans (s2.trans (s3.trans (sp.trans sT)))) upd_same (k1.same sT)
end
end My

set_option maxHeartbeats 4000000
/-! The lots that lack colours while all parts of them have enough: odd holes and antiholes. Plain. -/
namespace My
open PySem PySem.Spec PyProof.Rows L2
structure OddLot (n : Nat) (es : List E2) (l : List Nat) : Prop where
  lo : LotOk n l
  od : oddOf es (flipE n es) l ≠ []
theorem OddLot.nd {n : Nat} {es : List E2} {l : List Nat} (h : OddLot n es l) : l.Nodup := h.lo.up.imp fun z => Nat.ne_of_lt z
theorem OddLot.ring {n : Nat} {es : List E2} {l : List Nat} (g : Good n es) (h : OddLot n es l) : (l.length = 5 ∨ l.length = 7 ∨ l.length = 9) ∧ ∃ (b : Bool) (c : List Nat), RingOf (adjB (if b = true then es else flipE n es)) l c ∧ (b, c) ∈ oddOf es (flipE n es) l := by
  obtain ⟨q, hq⟩ : ∃ q, q ∈ oddOf es (flipE n es) l := by
    cases e : oddOf es (flipE n es) l with
    | nil => exact absurd e h.od
    | cons a _ => exact ⟨a, List.mem_cons_self ..⟩
  obtain ⟨lm, r⟩ := odd_ring g h.nd hq
  exact ⟨lm, q.1, q.2, r, hq⟩
theorem ring_lot {n : Nat} {es : List E2} (g : Good n es) {V : List Nat} (lt : ∀ v ∈ V, v < n) (b : Bool) (h : RingF (if b = true then adjB es else compF (adjB es)) V) : ∃ l, OddLot n es l ∧ ∀ v ∈ l, v ∈ V := by
  obtain ⟨c, cm, cn, cV, ca⟩ := h
  let l := (List.range n).filter fun v => decide (v ∈ c)
  have up : l.Pairwise (· < ·) := List.pairwise_lt_range.filter _
  have lo : LotOk n l := ⟨fun k hk => List.mem_range.mp (List.mem_filter.mp hk).1, up⟩
  have nl : l.Nodup := up.imp fun z => Nat.ne_of_lt z
  have mem : ∀ v, v ∈ c ↔ v ∈ l := fun v => by
    show v ∈ c ↔ v ∈ (List.range n).filter _
    rw [List.mem_filter, List.mem_range, decide_eq_true_eq]
    exact ⟨fun h => ⟨lt v (cV v h), h⟩, fun h => h.2⟩
  have len : c.length = l.length := by
    have a := sub_few cn fun v hv => (mem v).mp hv
    have b := sub_few nl fun v hv => (mem v).mpr hv
    omega
  refine ⟨l, ⟨lo, odd_of b g nl (by rw [← len]; exact cm) ⟨mem, cn, len, fun i j hi hj => ?_⟩⟩, fun v hv => cV v ((mem v).mpr hv)⟩
  rw [← ca i j hi hj]
  cases b with
  | true => rfl
  | false => rw [if_neg (by decide), if_neg (by decide), comp_adj g (lt _ (cV _ (gD_mem hi))) (lt _ (cV _ (gD_mem hj)))]
/-- by the strong perfect graph theorem -/
theorem lack_has {n : Nat} {es : List E2} (g : Good n es) {V : List Nat} (nV : V.Nodup) (lt : ∀ v ∈ V, v < n) (V9 : V.length ≤ 9) {c : Nat} (mo : Most (adjB es) V c) (no : ¬ ColF (adjB es) V c) : ∃ l, OddLot n es l ∧ ∀ v ∈ l, v ∈ V := by
  apply Classical.byContradiction
  intro none
  refine no (spgt (fun u v => adj_comm es u v) (adj_self g) _ V rfl nV V9 (fun h => none (ring_lot g lt true h)) (fun h => none (ring_lot g lt false h)) c mo)
theorem lack_mask {n : Nat} {es : List E2} (g : Good n es) {m c k : Nat} (hm : m < 2 ^ n) (hc : CnOk es m c) (hk : ChOk es m k) (ck : c < k) : ∃ l, OddLot n es l ∧ ∀ v ∈ l, m.testBit v = true := by
  have lt : ∀ v ∈ bitsN n m, v < n := fun v hv => (mem_bits.mp hv).1
  have nV : (bitsN n m).Nodup := (bits_up n m).imp fun z => Nat.ne_of_lt z
  have V9 : (bitsN n m).length ≤ 9 := by
    have z := sub_few nV (m := List.range n) fun v hv => List.mem_range.mpr (lt v hv)
    rw [List.length_range] at z
    exact Nat.le_trans z g.n9
  have mo : Most (adjB es) (bitsN n m) c := fun B nB sB cl => by
    have nx : (List.range n).filter (fun v => decide (v ∈ B)) |>.Pairwise (· < ·) := List.pairwise_lt_range.filter _
    have bit : ∀ u, (maskN ((List.range n).filter fun v => decide (v ∈ B))).testBit u = true ↔ u ∈ B := fun u => by
      rw [mask_bit nx, decide_eq_true_eq, List.mem_filter, List.mem_range, decide_eq_true_eq]
      exact ⟨fun z => z.2, fun z => ⟨lt u (sB u z), z⟩⟩
    have z := hc.2 (maskN ((List.range n).filter fun v => decide (v ∈ B))) (fun u hu => (mem_bits.mp (sB u ((bit u).mp hu))).2) fun u v hu hv ne => cl u ((bit u).mp hu) v ((bit v).mp hv) ne
    exact Nat.le_trans (size_ge g.n9 nB (fun v hv => lt v (sB v hv)) fun v hv => (bit v).mpr hv) z
  have inV : ∀ u, m.testBit u = true → u ∈ bitsN n m := fun u hu => by
    by_cases y : u < n
    · exact mem_bits.mpr ⟨y, hu⟩
    · rw [high_out hm (by omega)] at hu
      cases hu
  obtain ⟨l, hl, sub⟩ := lack_has g nV lt V9 mo fun ⟨f, f1, f2⟩ => by
    have := hk.2 c ⟨f, fun u hu => f1 u (inV u hu), fun u v hu hv e => f2 u (inV u hu) v (inV v hv) e⟩
    omega
  exact ⟨l, hl, fun v hv => (mem_bits.mp (sub v hv)).2⟩
theorem full_of {a b : List Nat} (na : a.Nodup) (nb : b.Nodup) (sub : ∀ v ∈ a, v ∈ b) (len : b.length ≤ a.length) : ∀ v ∈ b, v ∈ a := fun v hv => by
  apply Classical.byContradiction
  intro no
  have z := sub_few (l := v :: a) (m := b) (List.nodup_cons.mpr ⟨no, na⟩) fun w hw => by
    rcases List.mem_cons.mp hw with rfl | hw
    · exact hv
    · exact sub w hw
  rw [List.length_cons] at z
  omega
theorem lot_ext {n : Nat} {a b : List Nat} (ha : LotOk n a) (hb : LotOk n b) (h : ∀ v, v ∈ a ↔ v ∈ b) : a = b :=
  lot_perm ha hb ((List.perm_ext_iff_of_nodup (ha.up.imp fun z => Nat.ne_of_lt z) (hb.up.imp fun z => Nat.ne_of_lt z)).mpr h)
theorem split_len (p : Nat → Bool) : ∀ l : List Nat, (l.filter p).length + (l.filter fun u => !p u).length = l.length
  | [] => rfl
  | a :: l => by
    have ih := split_len p l
    rw [List.filter_cons, List.filter_cons]
    cases p a
    · rw [if_neg (by decide), if_pos (show (!false) = true from rfl), List.length_cons, List.length_cons]
      omega
    · rw [if_pos rfl, if_neg (by decide), List.length_cons, List.length_cons]
      omega
/-- how many of a ring's lot are adjacent to a vertex of it -/
theorem ring_adj {n : Nat} {es : List E2} (g : Good n es) {l c : List Nat} (lo : LotOk n l) (l4 : 4 ≤ l.length) {b : Bool} (r : RingOf (adjB (if b = true then es else flipE n es)) l c) {v : Nat} (hv : v ∈ l) (b' : Bool) : (l.filter (adjB (if b' = true then es else flipE n es) v)).length = if b = b' then 2 else l.length - 3 := by
  have nl : l.Nodup := lo.up.imp fun z => Nat.ne_of_lt z
  have d := r.deg nl l4 hv
  by_cases e : b = b'
  · subst e
    rw [if_pos rfl]
    exact d
  · rw [if_neg e]
    have op : ∀ u ∈ l, u ≠ v → adjB (if b' = true then es else flipE n es) v u = !adjB (if b = true then es else flipE n es) v u := fun u hu ne => by
      have z := comp_adj g (lo.lt v hv) (lo.lt u hu)
      unfold compF at z
      rw [decide_eq_true (Ne.symm ne), Bool.true_and] at z
      cases b with
      | true =>
        obtain rfl : b' = false := by cases b' <;> simp_all
        rw [if_neg (by decide), if_pos rfl]
        exact z
      | false =>
        obtain rfl : b' = true := by cases b' <;> simp_all
        rw [if_pos rfl, if_neg (by decide), z, Bool.not_not]
    have self : ∀ bb : Bool, adjB (if bb = true then es else flipE n es) v v = false := fun bb => by
      cases bb with
      | true => exact adj_self g v
      | false =>
        rw [if_neg (by decide)]
        exact adj_self (tab_good g.n9 _ : Good n (flipE n es)) v
    have e1 : l.filter (adjB (if b' = true then es else flipE n es) v) = (l.filter fun u => decide (u ≠ v)).filter fun u => !adjB (if b = true then es else flipE n es) v u := by
      rw [List.filter_filter]
      refine List.filter_congr fun u hu => ?_
      by_cases y : u = v
      · subst y
        rw [self b', decide_eq_false (by simp), Bool.and_false]
      · rw [op u hu y, decide_eq_true y, Bool.and_true]
    have e2 : l.filter (adjB (if b = true then es else flipE n es) v) = (l.filter fun u => decide (u ≠ v)).filter (adjB (if b = true then es else flipE n es) v) := by
      rw [List.filter_filter]
      refine List.filter_congr fun u hu => ?_
      by_cases y : u = v
      · subst y
        rw [self b, Bool.false_and]
      · rw [decide_eq_true y, Bool.and_true]
    rw [e2] at d
    rw [e1]
    have l1 := filter_ne_len nl v
    rw [if_pos hv] at l1
    have sp := split_len (adjB (if b = true then es else flipE n es) v) (l.filter fun u => decide (u ≠ v))
    omega
theorem odd_min {n : Nat} {es : List E2} (g : Good n es) {l r : List Nat} (hl : OddLot n es l) (hr : OddLot n es r) (sub : ∀ v ∈ r, v ∈ l) : r = l := by
  obtain ⟨lm, b, c, rl, _⟩ := hl.ring g
  obtain ⟨rm, b', c', rr, _⟩ := hr.ring g
  have cl : ∀ v ∈ r, v ∈ l → ∀ w ∈ l, adjB (if b = true then es else flipE n es) v w = true → w ∈ r := fun v hv hvl w hw a => by
    have d1 := ring_adj g hl.lo (by omega) rl hvl b
    rw [if_pos rfl] at d1
    have d2 := ring_adj g hr.lo (by omega) rr hv b
    have d2' : 2 ≤ (r.filter (adjB (if b = true then es else flipE n es) v)).length := by
      rw [d2]
      split <;> omega
    exact (List.mem_filter.mp (full_of (hr.nd.filter _) (hl.nd.filter _) (fun u hu => List.mem_filter.mpr ⟨sub u (List.mem_filter.mp hu).1, (List.mem_filter.mp hu).2⟩) (by omega) w (List.mem_filter.mpr ⟨hw, a⟩))).1
  have r0 : r.getD 0 0 ∈ r := gD_mem (by omega)
  have all := rl.whole r r0 (sub _ r0) cl
  exact lot_ext hr.lo hl.lo fun v => ⟨sub v, all v⟩
/-- an odd hole or antihole lacks -/
theorem odd_lack {n : Nat} {es : List E2} (g : Good n es) {l : List Nat} (h : OddLot n es l) : LackL es l := by
  have nl := h.nd
  have lo := h.lo
  obtain ⟨lm, b, cs, r, _⟩ := h.ring g
  obtain ⟨v, gv⟩ := great_has es true l
  refine ⟨by omega, v, gv, fun col => ?_⟩
  obtain ⟨⟨s, ss, ps, sl⟩, _⟩ := gv
  have nC : s.Nodup := nl.sublist ss
  have sC : ∀ v ∈ s, v ∈ l := fun v hv => ss.subset hv
  have cC : CliqF (adjB es) s := fun u hu v hv ne => (pairB_mem nC).mp ps u hu v hv ne
  have l4 : 4 ≤ l.length := by omega
  cases b with
  | true =>
    rw [if_pos rfl] at r
    have w := ring_clq r l4 nC sC cC
    have s := col_few (s := (l.length - 1) / 2) nl col fun B nB sB st => by
      have := ring_stb r nl l4 nB sB st
      omega
    rw [sl] at w
    have s2 : l.length ≤ 2 * ((l.length - 1) / 2) := Nat.le_trans s (Nat.mul_le_mul_right _ w)
    omega
  | false =>
    rw [if_neg (by decide)] at r
    have op : ∀ u ∈ l, ∀ v ∈ l, u ≠ v → adjB (flipE n es) u v = !adjB es u v := fun u hu v hv ne => by
      rw [comp_adj g (lo.lt u hu) (lo.lt v hv)]
      unfold compF
      rw [decide_eq_true ne, Bool.true_and]
    have w := ring_stb r nl l4 nC sC fun u hu v hv ne => by rw [op u (sC u hu) v (sC v hv) ne, cC u hu v hv ne]; rfl
    have s := col_few (s := 2) nl col fun B nB sB st => ring_clq r l4 nB sB fun u hu v hv ne => by rw [op u (sB u hu) v (sB v hv) ne, st u hu v hv ne]; rfl
    rw [sl] at w
    omega
theorem lack_odd {n : Nat} {es : List E2} (g : Good n es) {l : List Nat} (lo : LotOk n l) (h : LackL es l) : ∃ r, OddLot n es r ∧ ∀ v ∈ r, v ∈ l := by
  obtain ⟨l4, v, gv, no⟩ := h
  have nl : l.Nodup := lo.up.imp fun z => Nat.ne_of_lt z
  exact lack_has g nl lo.lt (Nat.le_trans lo.few g.n9) (great_most nl gv) no
/-- the least of those that lack -/
theorem least_odd {n : Nat} {es : List E2} (g : Good n es) {l : List Nat} : OddLot n es l ↔ (LotOk n l ∧ LackL es l) ∧ ∀ few, LotOk n few → LackL es few → (∀ v ∈ few, v ∈ l) → few = l := by
  constructor
  · intro h
    refine ⟨⟨h.lo, odd_lack g h⟩, fun few lo lk sub => ?_⟩
    obtain ⟨r, hr, sr⟩ := lack_odd g lo lk
    have e := odd_min g h hr fun v hv => sub v (sr v hv)
    subst e
    exact lot_ext lo h.lo fun v => ⟨sub v, sr v⟩
  · rintro ⟨⟨lo, lk⟩, h⟩
    obtain ⟨r, hr, sr⟩ := lack_odd g lo lk
    have e := h r hr.lo (odd_lack g hr) sr
    rw [← e]
    exact hr
/-- by holes and antiholes -/
theorem odd_hole {n : Nat} {es : List E2} (g : Good n es) {l : List Nat} : OddLot n es l ↔ LotOk n l ∧ ∃ (b : Bool) (c : List Nat), c ∈ holesL n (if b = true then es else leftP n es) ∧ isOddB c = true ∧ c.Perm l := by
  constructor
  · intro h
    obtain ⟨lm, b, c, r, hq⟩ := h.ring g
    obtain ⟨z, f1, f2⟩ := round_z g h.lo hq
    have hh := hole_of_z g z f1 (Nat.le_of_lt f2)
    have gg : Good n (if b = true then es else leftP n es) := by
      cases b with
      | true => exact g
      | false => exact left_goodO g
    have pm : c.Perm l := (List.perm_ext_iff_of_nodup r.nd h.nd).mpr r.mem
    refine ⟨h.lo, b, c, (mem_holes gg).mpr ⟨hh, z.lt⟩, decide_eq_true ?_, pm⟩
    have := z.m
    show c.length % 2 = 1
    have e : (b, c).2.length = c.length := rfl
    omega
  · rintro ⟨lo, b, c, hc, od, pm⟩
    have gg : Good n (if b = true then es else leftP n es) := by
      cases b with
      | true => exact g
      | false => exact left_goodO g
    obtain ⟨hh, lt⟩ := (mem_holes gg).mp hc
    obtain ⟨l4, ln, nd, _, _, ad⟩ := hole_parts hh
    have od : c.length % 2 = 1 := of_decide_eq_true od
    have n9 := g.n9
    have len := pm.length_eq
    have nl : l.Nodup := pm.nodup_iff.mp nd
    refine ⟨lo, odd_of b g nl (by omega) ⟨fun v => pm.mem_iff, nd, len, fun i j hi hj => ?_⟩⟩
    rw [← ad i j hi hj, flip_left]
end My

set_option maxHeartbeats 4000000
/-! There are few odd holes and antiholes, as lots: 52 at the most. Plain. -/
namespace My
open PySem PySem.Spec PyProof.Rows L2
theorem sum_add2 {β : Type} (f h : β → Nat) : ∀ B : List β, (B.map fun b => f b + h b).sum = (B.map f).sum + (B.map h).sum
  | [] => rfl
  | b :: B => by
    have ih := sum_add2 f h B
    simp only [List.map_cons, List.sum_cons]
    omega
theorem sum_count {β : Type} (p : β → Bool) : ∀ B : List β, (B.map fun b => if p b = true then 1 else 0).sum = B.countP p
  | [] => rfl
  | b :: B => by
    have ih := sum_count p B
    rw [List.map_cons, List.sum_cons, ih, List.countP_cons]
    omega
theorem swap_sum {α β : Type} (R : α → β → Bool) (B : List β) : ∀ A : List α, (A.map fun a => B.countP (R a)).sum = (B.map fun b => A.countP fun a => R a b).sum
  | [] => by
    have z : ∀ B : List β, (B.map fun _ => 0).sum = 0 := fun B => by
      induction B with
      | nil => rfl
      | cons b B ih => rw [List.map_cons, List.sum_cons, ih]
    exact (z B).symm
  | a :: A => by
    have ih := swap_sum R B A
    rw [List.map_cons, List.sum_cons, ih, ← sum_count (R a) B, Nat.add_comm, ← sum_add2]
    congr 1
    refine List.map_congr_left fun b _ => ?_
    rw [List.countP_cons]
theorem sum_most {α : Type} {f : α → Nat} {m : Nat} : ∀ {A : List α}, (∀ a ∈ A, f a ≤ m) → (A.map f).sum ≤ A.length * m
  | [], _ => by simp
  | a :: A, h => by
    have ih := sum_most (A := A) fun x hx => h x (List.mem_cons_of_mem _ hx)
    have := h a (List.mem_cons_self ..)
    rw [List.map_cons, List.sum_cons, List.length_cons, Nat.succ_mul]
    omega
theorem sum_same {β : Type} {f : β → Nat} {p : β → Bool} {k : Nat} : ∀ {B : List β}, (∀ b ∈ B, f b = if p b = true then k else 0) → (B.map f).sum = k * B.countP p
  | [], _ => by simp
  | b :: B, h => by
    have ih := sum_same (B := B) fun x hx => h x (List.mem_cons_of_mem _ hx)
    have e := h b (List.mem_cons_self ..)
    rw [List.map_cons, List.sum_cons, ih, List.countP_cons, e]
    by_cases c : p b = true
    · rw [if_pos c, if_pos c, Nat.mul_add, Nat.mul_one, Nat.add_comm]
    · simp [c]
def subB (l s : List Nat) : Bool := l.all fun v => decide (v ∈ s)
def lotsK (k : Nat) : List (List Nat) := (lotsN 9).filter fun l => decide (l.length = k)
theorem in6 : ∀ l ∈ lotsK 5, (lotsK 6).countP (subB l) = 4 := by decide +kernel
theorem in8 : ∀ l ∈ lotsK 7, (lotsK 8).countP (subB l) = 2 := by decide +kernel
theorem len6 : (lotsK 6).length = 84 ∧ (lotsK 8).length = 9 ∧ (lotsK 9).length = 1 := by decide +kernel
theorem apart5 : ∀ i < 5, ∀ j < 5, i ≠ j → ∃ k < 5, k ≠ i ∧ k ≠ j ∧ ¬ (Beside 5 k i ↔ Beside 5 k j) := by decide
theorem apart7 : ∀ i < 7, ∀ j < 7, i ≠ j → ∃ k < 7, k ≠ i ∧ k ≠ j ∧ ¬ (Beside 7 k i ↔ Beside 7 k j) := by decide
/-- the one that is left out -/
theorem left_out {l s : List Nat} (nl : l.Nodup) (ns : s.Nodup) (sub : ∀ v ∈ l, v ∈ s) (len : s.length = l.length + 1) : ∃ a, a ∈ s ∧ a ∉ l ∧ (a :: l).Perm s := by
  obtain ⟨a, ha, no⟩ : ∃ a, a ∈ s ∧ a ∉ l := by
    apply Classical.byContradiction
    intro h
    have z := sub_few ns (m := l) fun v hv => by
      apply Classical.byContradiction
      intro no
      exact h ⟨v, hv, no⟩
    omega
  have nd : (a :: l).Nodup := List.nodup_cons.mpr ⟨no, nl⟩
  have sb : ∀ v ∈ a :: l, v ∈ s := fun v hv => by
    rcases List.mem_cons.mp hv with rfl | hv
    · exact ha
    · exact sub v hv
  refine ⟨a, ha, no, (List.perm_ext_iff_of_nodup nd ns).mpr fun v => ⟨sb v, full_of nd ns sb (by rw [List.length_cons]; omega) v⟩⟩
theorem deg_out {p : Nat → Bool} {a : Nat} {l s : List Nat} (pm : (a :: l).Perm s) : (s.filter p).length = (l.filter p).length + if p a = true then 1 else 0 := by
  rw [← (pm.filter p).length_eq, List.filter_cons]
  split
  · rw [List.length_cons]
  · rfl
theorem three_no {n : Nat} {es : List E2} (g : Good n es) {s l1 l2 l3 : List Nat} {m : Nat} (hm : m = 5 ∨ m = 7) (ns : s.Nodup) (ls : s.length = m + 1) (h1 : OddLot n es l1) (h2 : OddLot n es l2) (h3 : OddLot n es l3)
    (e1 : l1.length = m) (e2 : l2.length = m) (e3 : l3.length = m) (s1 : ∀ v ∈ l1, v ∈ s) (s2 : ∀ v ∈ l2, v ∈ s) (s3 : ∀ v ∈ l3, v ∈ s) (n12 : l1 ≠ l2) (n13 : l1 ≠ l3) (n23 : l2 ≠ l3) : False := by
  obtain ⟨a1, i1, o1, p1⟩ := left_out h1.nd ns s1 (by omega)
  obtain ⟨a2, i2, o2, p2⟩ := left_out h2.nd ns s2 (by omega)
  obtain ⟨a3, i3, o3, p3⟩ := left_out h3.nd ns s3 (by omega)
  have apart : ∀ {l l' a a'}, OddLot n es l → OddLot n es l' → a ∉ l → a' ∉ l' → (a :: l).Perm s → (a' :: l').Perm s → l ≠ l' → a ≠ a' := fun {l l' a a'} hl hl' o o' pm pm' ne e => by
    subst e
    refine ne (lot_ext hl.lo hl'.lo fun v => ?_)
    have z : v ∈ a :: l ↔ v ∈ a :: l' := pm.mem_iff.trans pm'.mem_iff.symm
    rw [List.mem_cons, List.mem_cons] at z
    constructor
    · intro hv
      rcases z.mp (.inr hv) with rfl | h
      · exact absurd hv o
      · exact h
    · intro hv
      rcases z.mpr (.inr hv) with rfl | h
      · exact absurd hv o'
      · exact h
  have a12 := apart h1 h2 o1 o2 p1 p2 n12
  have a13 := apart h1 h3 o1 o3 p1 p3 n13
  have a23 := apart h2 h3 o2 o3 p2 p3 n23
  obtain ⟨_, b1, c1, r1, _⟩ := h1.ring g
  obtain ⟨_, b2, c2, r2, _⟩ := h2.ring g
  obtain ⟨_, b3, c3, r3, _⟩ := h3.ring g
  have deg : ∀ {l a b c}, OddLot n es l → l.length = m → RingOf (adjB (if b = true then es else flipE n es)) l c → (a :: l).Perm s → ∀ v ∈ s, v ≠ a → (s.filter (adjB es v)).length = (if b = true then 2 else m - 3) + if adjB es v a = true then 1 else 0 := fun {l a b c} hl el r pm v hv ne => by
    have vl : v ∈ l := by
      rcases List.mem_cons.mp (pm.mem_iff.mpr hv) with e | h
      · exact absurd e ne
      · exact h
    have z := ring_adj g hl.lo (by omega) r vl true
    rw [if_pos rfl, el] at z
    rw [deg_out pm, z]
  have alike : ∀ v ∈ s, v ≠ a1 → v ≠ a2 → v ≠ a3 → adjB es v a2 = adjB es v a3 := fun v hv x1 x2 x3 => by
    have d1 := deg h1 e1 r1 p1 v hv x1
    have d2 := deg h2 e2 r2 p2 v hv x2
    have d3 := deg h3 e3 r3 p3 v hv x3
    have f1 : ∀ b : Bool, (if b = true then 2 else m - 3) = 2 ∨ (m = 7 ∧ (if b = true then 2 else m - 3) = 4) := fun b => by
      cases b with
      | true => exact .inl rfl
      | false =>
        rcases hm with rfl | rfl
        · exact .inl rfl
        · exact .inr ⟨rfl, rfl⟩
    have q1 := f1 b1
    have q2 := f1 b2
    have q3 := f1 b3
    generalize (if b1 = true then 2 else m - 3) = D1 at d1 q1
    generalize (if b2 = true then 2 else m - 3) = D2 at d2 q2
    generalize (if b3 = true then 2 else m - 3) = D3 at d3 q3
    cases y2 : adjB es v a2 <;> cases y3 : adjB es v a3 <;> rw [y2] at d2 <;> rw [y3] at d3 <;> simp at d2 d3
    · omega
    · omega
  have in1 : ∀ {a}, a ∈ s → a ≠ a1 → a ∈ l1 := fun ha ne => by
    rcases List.mem_cons.mp (p1.mem_iff.mpr ha) with e | h
    · exact absurd e ne
    · exact h
  have lc : c1.length = m := by rw [r1.len, e1]
  obtain ⟨i, hi, ei⟩ := gD_place ((r1.mem a2).mpr (in1 i2 (Ne.symm a12)))
  obtain ⟨j, hj, ej⟩ := gD_place ((r1.mem a3).mpr (in1 i3 (Ne.symm a13)))
  have ij : i ≠ j := fun e => by
    rw [e, ej] at ei
    exact a23 ei.symm
  obtain ⟨k, hk, ki, kj, no⟩ : ∃ k, k < c1.length ∧ k ≠ i ∧ k ≠ j ∧ ¬ (Beside c1.length k i ↔ Beside c1.length k j) := by
    rw [lc] at hi hj ⊢
    rcases hm with rfl | rfl
    · obtain ⟨k, a, b, c, d⟩ := apart5 i hi j hj ij
      exact ⟨k, a, b, c, d⟩
    · obtain ⟨k, a, b, c, d⟩ := apart7 i hi j hj ij
      exact ⟨k, a, b, c, d⟩
  have vl : c1.getD k 0 ∈ l1 := (r1.mem _).mp (gD_mem hk)
  have v1 : c1.getD k 0 ≠ a1 := fun e => by
    rw [e] at vl
    exact o1 vl
  have v2 : c1.getD k 0 ≠ a2 := fun e => ki (gD_inj r1.nd hk hi (e.trans ei.symm))
  have v3 : c1.getD k 0 ≠ a3 := fun e => kj (gD_inj r1.nd hk hj (e.trans ej.symm))
  have al := alike _ (s1 _ vl) v1 v2 v3
  have x1 := r1.adj k i hk hi
  have x2 := r1.adj k j hk hj
  rw [ei] at x1
  rw [ej] at x2
  refine no (x1.symm.trans (Iff.trans ?_ x2))
  cases b1 with
  | true => rw [if_pos rfl, al]
  | false =>
    have l1' := h1.lo.lt
    have ln := l1' _ vl
    have l2n := l1' _ (in1 i2 (Ne.symm a12))
    have l3n := l1' _ (in1 i3 (Ne.symm a13))
    rw [if_neg (by decide), comp_adj g ln l2n, comp_adj g ln l3n]
    unfold compF
    rw [al, decide_eq_true v2, decide_eq_true v3]
def oddP (n : Nat) (es : List E2) (l : List Nat) : Bool := l.all (fun v => decide (v < n)) && !(oddOf es (flipE n es) l).isEmpty
theorem odd_iff {n : Nat} {es : List E2} {l : List Nat} (up : l.Pairwise (· < ·)) : oddP n es l = true ↔ OddLot n es l := by
  unfold oddP
  rw [Bool.and_eq_true, List.all_eq_true, Bool.not_eq_true', ← Bool.not_eq_true, List.isEmpty_iff]
  constructor
  · rintro ⟨h, e⟩
    exact ⟨⟨fun v hv => of_decide_eq_true (h v hv), up⟩, e⟩
  · intro h
    exact ⟨fun v hv => decide_eq_true (h.lo.lt v hv), h.od⟩
theorem lotsK_at {k : Nat} {l : List Nat} (h : l ∈ lotsK k) : LotOk 9 l ∧ l.length = k := by
  obtain ⟨a, b⟩ := List.mem_filter.mp h
  exact ⟨mem_lotsN.mp a, of_decide_eq_true b⟩
theorem two_most {n : Nat} {es : List E2} (g : Good n es) {m : Nat} (hm : m = 5 ∨ m = 7) {s : List Nat} (hs : s ∈ lotsK (m + 1)) : (lotsK m).countP (fun l => subB l s && oddP n es l) ≤ 2 := by
  obtain ⟨so, sl⟩ := lotsK_at hs
  rw [List.countP_eq_length_filter]
  apply Classical.byContradiction
  intro h
  have nd : ((lotsK m).filter fun l => subB l s && oddP n es l).Nodup := ((lotsN_nodup 9).filter _).filter _
  have al : ∀ l ∈ (lotsK m).filter fun l => subB l s && oddP n es l, (∀ v ∈ l, v ∈ s) ∧ OddLot n es l ∧ l.length = m := fun l hl => by
    obtain ⟨a, b⟩ := List.mem_filter.mp hl
    obtain ⟨lo, le⟩ := lotsK_at a
    rw [Bool.and_eq_true] at b
    exact ⟨fun v hv => of_decide_eq_true (List.all_eq_true.mp b.1 v hv), (odd_iff lo.up).mp b.2, le⟩
  match hf : (lotsK m).filter fun l => subB l s && oddP n es l with
  | [] => rw [hf] at h; simp at h
  | [_] => rw [hf] at h; simp at h
  | [_, _] => rw [hf] at h; simp at h
  | l1 :: l2 :: l3 :: r =>
    rw [hf] at nd al
    obtain ⟨x1, y1, z1⟩ := al l1 (by simp)
    obtain ⟨x2, y2, z2⟩ := al l2 (by simp)
    obtain ⟨x3, y3, z3⟩ := al l3 (by simp)
    have q := List.nodup_cons.mp nd
    have q2 := List.nodup_cons.mp q.2
    exact three_no g hm (so.up.imp fun z => Nat.ne_of_lt z) sl y1 y2 y3 z1 z2 z3 x1 x2 x3 (fun e => q.1 (by rw [e]; simp)) (fun e => q.1 (by rw [e]; simp)) (fun e => q2.1 (by rw [e]; simp))
theorem by_two {n : Nat} {es : List E2} (g : Good n es) {m k : Nat} (hm : m = 5 ∨ m = 7) (hk : ∀ l ∈ lotsK m, (lotsK (m + 1)).countP (subB l) = k) : k * (lotsK m).countP (oddP n es) ≤ (lotsK (m + 1)).length * 2 := by
  have e := swap_sum (fun s l => subB l s && oddP n es l) (lotsK m) (lotsK (m + 1))
  have e2 := sum_same (f := fun l => (lotsK (m + 1)).countP fun s => subB l s && oddP n es l) (p := oddP n es) (k := k) (B := lotsK m) fun l hl => by
    cases c : oddP n es l with
    | true =>
      rw [if_pos rfl, ← hk l hl]
      refine List.countP_congr fun s _ => ?_
      rw [Bool.and_true]
    | false =>
      rw [if_neg (by decide), List.countP_eq_zero]
      intro s _
      rw [Bool.and_false]
      decide
  rw [← e2, ← e]
  exact sum_most fun s hs => two_most g hm hs
theorem count_or {p q1 q2 q3 : List Nat → Bool} : ∀ {L : List (List Nat)}, (∀ l ∈ L, p l = true → q1 l = true ∨ q2 l = true ∨ q3 l = true) → L.countP p ≤ L.countP q1 + L.countP q2 + L.countP q3
  | [], _ => by simp
  | a :: L, h => by
    have ih := count_or (L := L) fun x hx => h x (List.mem_cons_of_mem _ hx)
    have z := h a (List.mem_cons_self ..)
    rw [List.countP_cons, List.countP_cons, List.countP_cons, List.countP_cons]
    cases c : p a with
    | false =>
      rw [if_neg (by decide)]
      omega
    | true =>
      rcases z c with e | e | e <;> rw [e] <;> simp only [if_true] <;> omega
theorem odd_count {n : Nat} {es : List E2} (g : Good n es) : (lotsN 9).countP (oddP n es) ≤ 52 := by
  have c5 := by_two g (m := 5) (.inl rfl) in6
  have c7 := by_two g (m := 7) (.inr rfl) in8
  obtain ⟨l6, l8, l9⟩ := len6
  rw [show 5 + 1 = 6 from rfl, l6] at c5
  rw [show 7 + 1 = 8 from rfl, l8] at c7
  have c9 : (lotsK 9).countP (oddP n es) ≤ 1 := by
    have := List.countP_le_length (p := oddP n es) (l := lotsK 9)
    omega
  have z := count_or (L := lotsN 9) (p := oddP n es) (q1 := fun l => oddP n es l && decide (l.length = 5)) (q2 := fun l => oddP n es l && decide (l.length = 7)) (q3 := fun l => oddP n es l && decide (l.length = 9)) fun l hl h => by
    have o := (odd_iff (mem_lotsN.mp hl).up).mp h
    rw [h, Bool.true_and, Bool.true_and, Bool.true_and, decide_eq_true_eq, decide_eq_true_eq, decide_eq_true_eq]
    exact (o.ring g).1
  have f : ∀ k, (lotsN 9).countP (fun l => oddP n es l && decide (l.length = k)) = (lotsK k).countP (oddP n es) := fun k => by
    unfold lotsK
    rw [List.countP_filter]
  rw [f, f, f] at z
  omega
theorem odd_few {n : Nat} {es : List E2} (g : Good n es) {M : List (List Nat)} (nd : M.Nodup) (h : ∀ l ∈ M, OddLot n es l) : M.length ≤ 52 := by
  have n9 := g.n9
  have z := sub_few nd (m := (lotsN 9).filter (oddP n es)) fun l hl => by
    have o := h l hl
    exact List.mem_filter.mpr ⟨mem_lotsN.mpr ⟨fun v hv => by have := o.lo.lt v hv; omega, o.lo.up⟩, (odd_iff o.lo.up).mpr o⟩
  rw [← List.countP_eq_length_filter] at z
  exact Nat.le_trans z (odd_count g)
end My

set_option maxHeartbeats 8000000
/-! The least lots that lack, of the program. -/
namespace My
open PySem PySem.Spec PyProof.Rows L2
abbrev sMinL : Stmt := top 20
abbrev sIsMin : Stmt := top 19
theorem scMinL : FnScope ["graph", "least", "mask", "found"] ["graph"] (defScope sMinL) := ⟨rfl, rfl, rfl, by decide +kernel, rfl, by decide +kernel, by decide +kernel⟩
theorem scIsMin : FnScope ["graph"] ["graph"] (defScope sIsMin) := ⟨rfl, rfl, rfl, by decide +kernel, rfl, by decide +kernel, by decide +kernel⟩
/-- all odd holes and antiholes, as lots in order -/
def OddAll (n : Nat) (es : List E2) (D : List (List Nat)) : Prop := D.Pairwise ltL ∧ ∀ l, l ∈ D ↔ OddLot n es l
theorem OddAll.uniq {n : Nat} {es : List E2} {D D' : List (List Nat)} (h : OddAll n es D) (h' : OddAll n es D') : D = D' := eq_of_ltL h.1 h'.1 fun l => (h.2 l).trans (h'.2 l).symm
def spMinL (K : PySem.W.Frag) : Sp := fun vs H Q _ => ∃ (x : V) (n : Nat) (es : List E2), vs = [x] ∧ GraphAt K H x n es ∧ Good n es ∧ ∀ (T : Addr) (zs : List V) (D : List (List Nat)) H', Same H H' → H' T = some (.tup zs) → LotsT H' zs D → OddAll n es D → Q (.ref T) H'
def spIsMin (K : PySem.W.Frag) : Sp := fun vs H Q _ => ∃ (x : V) (n : Nat) (es : List E2), vs = [x] ∧ GraphAt K H x n es ∧ Good n es ∧ ∀ (D : List (List Nat)) H', Same H H' → OddAll n es D → Q (.bl (decide (D = [List.range n]))) H'
theorem sub_mask {n m k : Nat} (hm : m < 2 ^ n) (hk : k < 2 ^ n) : m &&& k = k ↔ ∀ v ∈ bitsN n k, v ∈ bitsN n m := by
  rw [Nat.and_comm, sub_and]
  constructor
  · intro h v hv
    obtain ⟨a, b⟩ := mem_bits.mp hv
    exact mem_bits.mpr ⟨a, h v b⟩
  · intro h v hv
    by_cases y : v < n
    · exact (mem_bits.mp (h v (mem_bits.mpr ⟨y, hv⟩))).2
    · rw [high_out hk (by omega)] at hv
      cases hv
theorem bits_eq {n m k : Nat} (hm : m < 2 ^ n) (hk : k < 2 ^ n) (e : bitsN n m = bitsN n k) : m = k := by
  rw [← mask_bits hm, ← mask_bits hk, e]
theorem lot_mask {n : Nat} {l : List Nat} (lo : LotOk n l) : maskN l < 2 ^ n := Nat.lt_pow_two_of_testBit _ fun v hv => by
  rw [mask_bit lo.up]
  exact decide_eq_false fun z => by have := lo.lt v z; omega
/-- a mask is taken just if its lot is an odd hole or antihole -/
theorem mask_taken {n : Nat} {es : List E2} {ms : List Nat} (g : Good n es) (lk : Lacks n es ms) {i m : Nat} (hm : ms[i]? = some m) {ls : List Nat} (hl : ∀ k, k ∈ ls ↔ k ∈ ms.take i ∧ OddLot n es (bitsN n k)) : (∀ k ∈ ls, m &&& k ≠ k) ↔ OddLot n es (bitsN n m) := by
  obtain ⟨cn, ch, ok, rfl⟩ := lk
  have up : ((List.range (2 ^ n)).filter fun m => decide (cn m < ch m)).Pairwise (· < ·) := List.pairwise_lt_range.filter _
  generalize hms : (List.range (2 ^ n)).filter (fun m => decide (cn m < ch m)) = ms at hm hl up
  have at_ : ∀ k, k ∈ ms ↔ k < 2 ^ n ∧ cn k < ch k := fun k => by
    rw [← hms, List.mem_filter, List.mem_range, decide_eq_true_eq]
  have before : ∀ k, k ∈ ms.take i ↔ k ∈ ms ∧ k < m := fun k => by
    obtain ⟨li, em⟩ := List.getElem?_eq_some_iff.mp hm
    constructor
    · intro h
      obtain ⟨j, hj, e⟩ := List.getElem_of_mem h
      rw [List.length_take] at hj
      rw [List.getElem_take] at e
      refine ⟨List.mem_of_mem_take h, ?_⟩
      rw [← e, ← em]
      exact List.pairwise_iff_getElem.mp up j i (by omega) li (by omega)
    · rintro ⟨h, lt⟩
      obtain ⟨j, hj, e⟩ := List.getElem_of_mem h
      have ji : j < i := by
        apply Classical.byContradiction
        intro no
        rcases Nat.lt_or_eq_of_le (Nat.le_of_not_lt no) with c | c
        · have := List.pairwise_iff_getElem.mp up i j li hj c
          omega
        · subst c
          omega
      rw [← e]
      exact List.mem_take_iff_getElem.mpr ⟨j, by omega, rfl⟩
  obtain ⟨m2, mc⟩ := (at_ m).mp (List.mem_of_getElem? hm)
  constructor
  · intro h
    obtain ⟨a, b⟩ := ok m m2
    obtain ⟨l, ol, sub⟩ := lack_mask g m2 a b mc
    have k2 := lot_mask ol.lo
    have lb : bitsN n (maskN l) = l := bits_mask ol.lo.up ol.lo.lt
    have su : m &&& maskN l = maskN l := (sub_mask m2 k2).mpr fun v hv => by
      rw [lb] at hv
      exact mem_bits.mpr ⟨ol.lo.lt v hv, sub v hv⟩
    by_cases e : maskN l = m
    · rw [← e, lb]
      exact ol
    · exfalso
      have le : maskN l ≤ m := by
        rw [← su]
        exact Nat.and_le_left
      obtain ⟨a', b'⟩ := ok _ k2
      refine h (maskN l) ((hl _).mpr ⟨(before _).mpr ⟨(at_ _).mpr ⟨k2, perf_no g ol.lo ol.od a' b'⟩, by omega⟩, by rw [lb]; exact ol⟩) su
  · intro o k hk e
    obtain ⟨a, b⟩ := (hl k).mp hk
    obtain ⟨c, d⟩ := (before k).mp a
    obtain ⟨k2, _⟩ := (at_ k).mp c
    have z := odd_min g o b ((sub_mask m2 k2).mp e)
    have := bits_eq k2 m2 z
    omega
theorem lotsD_shT (L : List (List Nat)) : SeqAt.shaped (.tuple (lotsD L)) = true := by
  obtain ⟨h1, h2⟩ := lotsD_lay L
  unfold SeqAt.shaped
  rw [Bool.and_eq_true, decide_eq_true_eq]
  refine ⟨?_, ?_⟩
  · simp only [PyData.canLay0, h1]
  · simp only [PyData.depth]
    omega
theorem lotsD_eqv : ∀ L M : List (List Nat), PyData.eqvAll (lotsD L) (lotsD M) = decide (L = M)
  | [], [] => by simp [lotsD, PyData.eqvAll]
  | [], m :: M => by simp [lotsD, PyData.eqvAll]
  | l :: L, [] => by simp [lotsD, PyData.eqvAll]
  | l :: L, m :: M => by
    have ih := lotsD_eqv L M
    have e1 : lotsD (l :: L) = .tuple (numsD l) :: lotsD L := rfl
    have e2 : lotsD (m :: M) = .tuple (numsD m) :: lotsD M := rfl
    rw [e1, e2]
    simp only [PyData.eqvAll, PyData.eqv]
    rw [ih, numsD_eqv]
    by_cases h : l = m
    · subst h
      simp
    · simp [h]
section
variable {P : Program} {w : World} {K : PySem.W.Frag} {mg : Str → Option Value} {base : Heap} {f fL fO fM : Addr} {fd dL dO dM : FuncData}
theorem ok_minl (F : L2.Fun K "minimal_lots" "minimal_lots" sMinL f fd)
    (GL : FnOk P w K mg base CX0 6 fL dL ["graph"] (spLackM K)) (bL : L2.Binds K dL ["graph"] []) (kL : PySem.W.keepIn K (.ref fL) = true) (mL : mg "_lacking_masks" = some (.ref fL))
    (GO : FnOk P w K mg base CX0 1 fO dO ["mask"] (spLotOf K)) (bO : L2.Binds K dO ["mask"] []) (kO : PySem.W.keepIn K (.ref fO) = true) (mO : mg "lot_of" = some (.ref fO))
    (ma : mg "all" = none) (mt : mg "tuple" = none) (mso : mg "sorted" = none) : FnOk P w K mg base CX0 7 f fd ["graph"] (spMinL K) := by
  refine F.ok scMinL (fun vs H Q E h => ?_) (fun cdv A outer s H vs Q E hr h => ?_)
  · obtain ⟨x, n, es, rfl, _⟩ := h
    rfl
  obtain ⟨x, n, es, rfl, hx, g, q⟩ := h
  have h1 := hr.mono (show 1 ≤ 6 by decide)
  refine ⟨_, pss_cons (ps_set (i := 1) scMinL.nd rfl (.inl rfl) (pe_lst pa_nil))
    (pss_cons (ps_for PassesOwn.never rfl (pi_list (pe_call GL hr (by rfl) mL kL bL .nil pass0 (pa_cons (pv 0) pa_nil))) (pg_name (i := 2) scMinL.nd rfl (.inr rfl))
      (pss_one (ps_if (pt_val (pe_callB (cr_all rfl) (by rfl) ma (by decide +kernel) (pa_cons (pe_lc (own := [("found", 3)]) (g := gName 3) (tt := tYes) rfl scMinL.nd (pi_list (pv 1))
          (blkOk_by (N := ["graph", "least", "mask", "found"]) (sc := defScope sMinL) (by decide +kernel)) (fun _ _ _ _ _ => pg_name (i := 3) scMinL.nd rfl (Or.inl rfl)) (fun _ _ _ _ _ => pts_nil)
          (fun _ _ _ _ _ => pe_cmpR op_ne (pe_op op_and (pv 2) (pv 3)) (pv 3) (nomark _))) pa_nil)))
        (pss_one (ps_expr (pe_bm PySem.F.plainAttrs_list PySem.F.slot_list_append PySem.F.type_list_append mt_append (pv 1) (pa_cons (pv 2) pa_nil)))) pss_nil)))
    (pss_one (ps_ret (pe_callTy call_tuple_of (by rfl) mt (by decide +kernel) (pa_cons (pe_callB (cr_sortTI hr.units) (by rfl) mso (by decide +kernel) (pa_cons (pe_lc (own := [("mask", 2)]) (g := gName 2) (tt := tYes) rfl scMinL.nd (pi_list (pv 1))
        (blkOk_by (N := ["graph", "least", "mask", "found"]) (sc := defScope sMinL) (by decide +kernel)) (fun _ _ _ _ _ => pg_name (i := 2) scMinL.nd rfl (Or.inl rfl)) (fun _ _ _ _ _ => pts_nil)
        (fun _ _ _ _ _ => pe_call GO h1 (by rfl) mO kO bO .nil pass0 (pa_cons (pv 2) pa_nil))) pa_nil)) pa_nil))))), ?_⟩
  have line : ∀ k, k ≤ 1000 → k ≤ sizeLine := fun k hk => small hk
  have n9 := g.n9
  refine ⟨line 0 (by decide), fun F1 nF1 => ?_⟩
  have s1 := same_new nF1 (.lst [])
  have hF1 := upd_same (H := H) (a := F1) (o := .lst [])
  generalize upd H F1 (.lst []) = H1 at s1 hF1 ⊢
  refine ⟨_, rfl, x, n, es, rfl, hx.same s1, g, fun F ms H2 s2 hF lk => ?_⟩
  have s02 := s1.trans s2
  have hF1' := s2 _ _ hF1
  have mat : ∀ k ∈ ms, k < 2 ^ n := fun k hk => by
    obtain ⟨_, _, _, rfl⟩ := lk
    exact List.mem_range.mp (List.mem_filter.mp hk).1
  have mnd : ms.Nodup := by
    obtain ⟨_, _, _, rfl⟩ := lk
    exact List.nodup_range.filter _
  have m512 : ms.length ≤ 512 := by
    have z := sub_few mnd (m := List.range (2 ^ n)) fun k hk => List.mem_range.mpr (mat k hk)
    rw [List.length_range] at z
    exact Nat.le_trans z (Nat.le_trans (Nat.pow_le_pow_right (by decide) n9) (by decide))
  have natAt : ∀ {l : List Nat} {j : Nat} {y : V}, (numsN l)[j]? = some y → ∃ k, l[j]? = some k ∧ y = .int ((k : Nat) : Int) := fun {l j y} h => by
    unfold numsN at h
    rw [List.getElem?_map] at h
    cases e : l[j]? with
    | none => rw [e] at h; cases h
    | some k =>
      rw [e] at h
      exact ⟨k, rfl, (Option.some.inj h).symm⟩
  refine ⟨F, rfl, ⟨_, SqL.of hF⟩, for_it (walk_list (xs := numsN ms)) (fun i σ H' => ∃ (s2 : Option V) (ls : List Nat), σ = [some x, some (.ref F1), s2, none] ∧ Same H H' ∧ H' F = some (.lst (numsN ms)) ∧ H' F1 = some (.lst (numsN ls)) ∧ ls.length ≤ i ∧ ls.Nodup ∧ ∀ k, k ∈ ls ↔ k ∈ ms.take i ∧ OddLot n es (bitsN n k)) ⟨none, [], rfl, s02, hF, hF1', Nat.le_refl _, List.Pairwise.nil, fun k => ⟨fun h => (by cases h), fun h => (by simp at h)⟩⟩ (fun i σ H' _ ⟨_, _, _, _, h, _⟩ => SqL.of h) ?_ ?_⟩
  · rintro i y σ H3' H3 li ⟨s2', ls, rfl, s3, hF3, hL3, ll, nd, mem⟩ ⟨rfl, hy⟩
    obtain ⟨m, hm, rfl⟩ := natAt hy
    rw [numsN_len] at li
    have FF : F ≠ F1 := fun e => by
      rw [e, hF1'] at hF
      injection hF with hF
      injection hF with hF
      have := congrArg List.length hF
      rw [numsN_len] at this
      simp at this
      omega
    refine ⟨_, rfl, F1, rfl, ⟨_, SqL.of hL3⟩, fun B nB => lo_it (walk_list (xs := numsN ls)) (fun j H' => Same H3 H' ∧ H' B = some (.lst (((ls.take j).map fun k => !decide (V.int (((m &&& k : Nat) : Nat) : Int) = V.int ((k : Nat) : Int))).map V.bl))) ⟨same_new nB _, upd_same⟩ (fun j H' _ ⟨s', _⟩ => SqL.of (s' _ _ hL3)) ?_ ?_⟩
    · rintro j y _ H4 lj ⟨s4, hB⟩ ⟨rfl, hj⟩
      obtain ⟨k, hk, rfl⟩ := natAt hj
      rw [numsN_len] at lj
      refine ⟨rfl, ?_⟩
      refine ⟨_, rfl, _, rfl, _, _, rfl, rfl, _, rfl, rfl, ?_⟩
      simp only [and_nn]
      refine ⟨_, hB, small1000 (by rw [List.length_map, List.length_map, List.length_take]; omega), same_put s4 nB, ?_⟩
      rw [upd_same, take_succ hk, List.map_append, List.map_append]
      rfl
    rintro H4 ⟨s4, hB⟩
    rw [numsN_len, List.take_length] at hB
    refine ⟨B, _, rfl, SqL.of hB, _, rfl, ?_⟩
    rw [all_id]
    have taken := mask_taken g lk hm mem
    have ev : (ls.all fun k => !decide (V.int (((m &&& k : Nat) : Nat) : Int) = V.int ((k : Nat) : Int))) = true ↔ ∀ k ∈ ls, m &&& k ≠ k := by
      rw [List.all_eq_true]
      constructor
      · intro h k hk e
        have z := h k hk
        rw [e] at z
        simp at z
      · intro h k hk
        have z := h k hk
        rw [decide_eq_false (fun y => z (by injection y with y; exact Int.ofNat.inj y))]
        rfl
    have tk := take_succ hm
    refine iteB (fun c => ?_) (fun c => ?_)
    · have o := taken.mp (ev.mp c)
      have new : m ∉ ls := fun h => by
        obtain ⟨a, _⟩ := (mem m).mp h
        have z : (ms.take i ++ [m]).Nodup := by
          rw [← tk]
          exact mnd.sublist (List.take_sublist _ _)
        rw [List.nodup_append] at z
        exact z.2.2 m a m (by simp) rfl
      refine ⟨_, rfl, .inl ⟨rfl, _, SqL.of (s4 _ _ hL3)⟩, _, rfl, F1, numsN ls, _, rfl, rfl, s4 _ _ hL3, small1000 (by rw [numsN_len]; omega), ?_⟩
      have en : numsN ls ++ [V.int ((m : Nat) : Int)] = numsN (ls ++ [m]) := by
        unfold numsN
        rw [List.map_append]
        rfl
      rw [en]
      refine ⟨_, ls ++ [m], rfl, same_put (s3.trans s4) nF1, by rw [upd_ne FF]; exact s4 _ _ hF3, upd_same, by rw [List.length_append]; exact Nat.succ_le_succ ll, ?_, fun k => ?_⟩
      · rw [List.nodup_append]
        refine ⟨nd, by simp, fun a ha b hb e => ?_⟩
        rw [List.mem_singleton.mp hb] at e
        exact new (e ▸ ha)
      · rw [List.mem_append, List.mem_singleton, tk, List.mem_append, List.mem_singleton, mem]
        constructor
        · rintro (⟨a, b⟩ | rfl)
          · exact ⟨.inl a, b⟩
          · exact ⟨.inr rfl, o⟩
        · rintro ⟨a | rfl, b⟩
          · exact .inl ⟨a, b⟩
          · exact .inr rfl
    · refine ⟨_, ls, rfl, s3.trans s4, s4 _ _ hF3, s4 _ _ hL3, by omega, nd, fun k => ?_⟩
      rw [mem, tk, List.mem_append, List.mem_singleton]
      constructor
      · rintro ⟨a, b⟩
        exact ⟨.inl a, b⟩
      · rintro ⟨a | rfl, b⟩
        · exact ⟨a, b⟩
        · rw [ev.mpr (taken.mpr b)] at c
          cases c
  rintro σ H3 ⟨s2', ls, rfl, s3, hF3, hL3, ll, nd, mem⟩
  rw [numsN_len] at ll
  rw [numsN_len, List.take_length] at mem
  have lsm : ∀ k ∈ ls, k < 2 ^ n := fun k hk => mat k ((mem k).mp hk).1
  refine ⟨_, rfl, F1, rfl, ⟨_, SqL.of hL3⟩, fun B nB => lo_it (walk_list (xs := numsN ls)) (fun j H' => Same H3 H' ∧ ∃ xs, H' B = some (.lst xs) ∧ LotsT H' xs ((ls.take j).map (bitsN n))) ⟨same_new nB _, [], upd_same, .nil⟩ (fun j H' _ ⟨s', _⟩ => SqL.of (s' _ _ hL3)) ?_ ?_⟩
  · rintro j y _ H4 lj ⟨s4, xs, hB, hl⟩ ⟨rfl, hj⟩
    obtain ⟨k, hk, rfl⟩ := natAt hj
    rw [numsN_len] at lj
    refine ⟨rfl, ?_⟩
    refine ⟨_, rfl, k, n, rfl, lsm k (List.mem_of_getElem? hk), n9, fun t H5 _ s5 ht => ?_⟩
    have hB5 := s5 _ _ hB
    refine ⟨xs, hB5, small1000 (by rw [hl.len, List.length_map, List.length_take]; omega), same_put (s4.trans s5) nB, _, upd_same, ?_⟩
    rw [take_succ hk, List.map_append]
    have x5 : LotT H5 (V.ref t) (bitsN n k) := ⟨t, rfl, ht⟩
    exact ((hl.same s5).put hB5).snoc (x5.put hB5)
  rintro H4 ⟨s4, xs, hB, hl⟩
  rw [numsN_len, List.take_length] at hl
  have odd_at : ∀ l, l ∈ ls.map (bitsN n) ↔ OddLot n es l := fun l => by
    rw [List.mem_map]
    constructor
    · rintro ⟨k, hk, rfl⟩
      exact ((mem k).mp hk).2
    · intro o
      have lb : bitsN n (maskN l) = l := bits_mask o.lo.up o.lo.lt
      refine ⟨maskN l, (mem _).mpr ⟨?_, by rw [lb]; exact o⟩, lb⟩
      obtain ⟨cn, ch, ok, rfl⟩ := lk
      obtain ⟨a, b⟩ := ok _ (lot_mask o.lo)
      exact List.mem_filter.mpr ⟨List.mem_range.mpr (lot_mask o.lo), decide_eq_true (perf_no g o.lo o.od a b)⟩
  have ndl : (ls.map (bitsN n)).Nodup := by
    show List.Pairwise _ _
    rw [List.pairwise_map]
    exact List.Pairwise.imp_of_mem (fun {a b} ha hb ne e => ne (bits_eq (lsm a ha) (lsm b hb) e)) nd
  obtain ⟨p1, p2⟩ := lots_sort (K := K) hl (.inl (sortish_ne fun l hl' => by
    have o := (odd_at l).mp hl'
    obtain ⟨lm, _⟩ := o.ring g
    intro e
    rw [e] at lm
    simp at lm))
  refine ⟨B, xs, fun x => natI (kN H4 x), rfl, SqL.of hB, p1, p2, fun ys p so st np => ?_⟩
  obtain ⟨k1, k2, k3⟩ := sorted_lots hl ndl so st
  have sp := same_new np (.lst ys)
  have k1 := k1.same sp
  have hp := upd_same (H := H4) (a := p) (o := .lst ys)
  generalize upd H4 p (.lst ys) = H5 at sp k1 hp ⊢
  refine ⟨p, ys, rfl, .inl ⟨SqL.of hp, fun T nT => ?_⟩⟩
  have sT := same_new nT (.tup ys)
  exact q T ys _ _ (s3.trans (s4.trans (sp.trans sT))) upd_same (k1.same sT) ⟨k2, fun l => k3.mem_iff.trans (odd_at l)⟩
theorem rg_nat (n : Nat) : rgV 0 (n : Int) = numsN (List.range n) := by
  unfold rgV numsN
  rw [Int.sub_zero, Int.toNat_natCast]
  exact List.map_congr_left fun i _ => by rw [Int.zero_add]
theorem ok_ismin (F : L2.Fun K "is_minimal" "is_minimal" sIsMin f fd)
    (GM : FnOk P w K mg base CX0 7 fM dM ["graph"] (spMinL K)) (bM : L2.Binds K dM ["graph"] []) (kM : PySem.W.keepIn K (.ref fM) = true) (mM : mg "minimal_lots" = some (.ref fM))
    (mt : mg "tuple" = none) (mr : mg "range" = none) : FnOk P w K mg base CX0 8 f fd ["graph"] (spIsMin K) := by
  refine F.ok scIsMin (fun vs H Q E h => ?_) (fun cdv A outer s H vs Q E hr h => ?_)
  · obtain ⟨x, n, es, rfl, _⟩ := h
    rfl
  obtain ⟨x, n, es, rfl, hx, g, q⟩ := h
  refine ⟨_, pss_one (ps_ret (pe_cmpR (op_eqD hr.units) (pe_call GM hr (by rfl) mM kM bM .nil pass0 (pa_cons (pv 0) pa_nil)) (pe_tup (pa_cons (pe_tupRg rfl (by rfl) mt (prg_1 (by rfl) mr (pe_ix (r := rIxT K) ix_tup (pv 0) pe_int (fun _ _ => rfl)))) pa_nil)) (nomark _))), ?_⟩
  have n9 := g.n9
  refine ⟨_, rfl, x, n, es, rfl, hx, g, fun T zs D H1 s1 hT hz od => ?_⟩
  obtain ⟨t, e, ys, rfl, ht, _, _⟩ := hx.same s1
  have a0 : atI [V.int (n : Int), V.ref e] 0 = some (.int (n : Int)) := atI_nat (j := 0) rfl
  refine ⟨_, rfl, t, _, 0, _, rfl, rfl, ht, a0, (n : Int), rfl, RgOk.of_le (by omega) (by omega) (by omega) (by omega), fun r nr => ?_⟩
  rw [rg_nat]
  have s2 := same_new nr (.tup (numsN (List.range n)))
  have hr' := upd_same (H := H1) (a := r) (o := .tup (numsN (List.range n)))
  generalize upd H1 r (.tup (numsN (List.range n))) = H2 at s2 hr' ⊢
  refine ⟨small (by show 1 ≤ 1000; decide), fun y ny => ?_⟩
  have s3 := same_new ny (.tup [.ref r])
  have dp : ∀ {H' : Hp} {zs : List V} {L : List (List Nat)}, LotsT H' zs L → DpAll K H' zs (lotsD L) := fun h => by
    induction h with
    | nil => exact .nil
    | cons a b ih =>
      obtain ⟨t, rfl, ht⟩ := a
      exact .cons (.tup (SqT.of ht) (numsD_dp _)) ih
  refine ⟨.tuple (lotsD D), .tuple (lotsD [List.range n]), .tup (SqT.of ((s2.trans s3) _ _ hT)) (dp (hz.same (s2.trans s3))), .tup (SqT.of upd_same) (.cons (.tup (SqT.of (s3 _ _ hr')) (numsD_dp _)) .nil), lotsD_shT D, lotsD_shT _, ?_⟩
  have ev : PyData.eqv (.tuple (lotsD D)) (.tuple (lotsD [List.range n])) = decide (D = [List.range n]) := by
    simp only [PyData.eqv]
    exact lotsD_eqv _ _
  rw [ev]
  exact q D _ (s1.trans (s2.trans s3)) od
end
end My

set_option maxHeartbeats 8000000
/-! The lots that lack colours, of the law: exact. -/
namespace My
open PySem PySem.Spec PyProof.Rows L2
def spLackX (K : PySem.W.Frag) : Sp := fun vs H Q _ => ∃ (x : V) (n : Nat) (es : List E2), vs = [x] ∧ GraphAt K H x n es ∧ Good n es ∧ ∀ (F : Addr) (zs : List V) (L : List (List Nat)) H', Same H H' → H' F = some (.lst zs) → LotsT H' zs L → L.Pairwise ltL → (∀ l, l ∈ L ↔ LotOk n l ∧ LackL es l) → Q (.ref F) H'
section
variable {P : Program} {w : World} {K : PySem.W.Frag} {mg : Str → Option Value} {base : Heap} {f fL fC fG : Addr} {fd dL dC dG : FuncData}
theorem ok_lacking_x (F : L2.Fun K "_law_lacking" "_law_lacking" sLack f fd)
    (GL : FnOk P w K mg base CX0 1 fL dL ["n"] (spLots K)) (bL : L2.Binds K dL ["n"] []) (kL : PySem.W.keepIn K (.ref fL) = true) (mL : mg "_law_lots" = some (.ref fL))
    (GC : FnOk P w K mg base CX0 12 fC dC ["graph", "lot", "told", "many"] (spCold K 10)) (bC : L2.Binds K dC ["graph", "lot", "told", "many"] []) (kC : PySem.W.keepIn K (.ref fC) = true) (mC : mg "_law_is_coloured" = some (.ref fC))
    (GG : FnOk P w K mg base CX0 12 fG dG ["graph", "lot", "is_tied"] (spGreat K 10)) (bG : L2.Binds K dG ["graph", "lot", "is_tied"] []) (kG : PySem.W.keepIn K (.ref fG) = true) (mG : mg "_law_greatest" = some (.ref fG)) (ml : mg "len" = none) : FnOk P w K mg base CX0 13 f fd ["graph"] (spLackX K) := by
  refine F.ok scLack (fun vs H Q E h => ?_) (fun cdv A outer s H vs Q E hr h => ?_)
  · obtain ⟨x, n, es, rfl, _⟩ := h
    rfl
  obtain ⟨x, n, es, rfl, hx, g, q⟩ := h
  have h1 := hr.mono (show 1 ≤ 12 by decide)
  refine ⟨_, pss_cons (ps_set (i := 1) scLack.nd rfl (.inl rfl) (pe_lst pa_nil))
    (pss_cons (ps_for PassesOwn.never rfl (pi_list (pe_call GL h1 (by rfl) mL kL bL .nil pass0 (pa_cons (pe_ix (r := rIxT K) ix_tup (pv 0) pe_int (fun _ _ => rfl)) pa_nil))) (pg_name (i := 2) scLack.nd rfl (.inl rfl))
      (pss_one (ps_if (PW.pt (pw_and (pt_cmpR op_gt (pe_callB call_len_seq (by rfl) ml PySem.boot_len (pa_cons (pv 2) pa_nil)) pe_int (nomark _)) (pw_and1 (pt_not (pt_val (pe_call GC hr (by rfl) mC kC bC .nil pass0 (pa_cons (pv 0) (pa_cons (pv 2) (pa_cons (pe_lst pa_nil) (pa_cons (pe_call GG hr (by rfl) mG kG bG .nil pass0 (pa_cons (pv 0) (pa_cons (pv 2) (pa_cons pe_bl pa_nil)))) pa_nil)))))))))) (pss_one (ps_expr (pe_bm PySem.F.plainAttrs_list PySem.F.slot_list_append PySem.F.type_list_append mt_append (pv 1) (pa_cons (pv 2) pa_nil)))) pss_nil)))
    (pss_one (ps_ret (pv 1)))), ?_⟩
  have n9 := g.n9
  refine ⟨small (Nat.zero_le _), fun F0 nF0 => ?_⟩
  have sF0 := same_new nF0 (.lst [])
  have hF0 := upd_same (H := H) (a := F0) (o := .lst [])
  generalize upd H F0 (.lst []) = H1 at sF0 hF0 ⊢
  obtain ⟨tg, eg, ys, rfl, htg0, heg0, hes0⟩ := hx
  have htg := Same.tup sF0 htg0
  have a0 : atI [V.int (n : Int), V.ref eg] 0 = some (.int (n : Int)) := atI_nat (j := 0) rfl
  refine ⟨_, rfl, tg, _, 0, _, rfl, rfl, htg, a0, n, rfl, n9, fun W ls L H2 s2 hW hl al len => ?_⟩
  have ll := hl.len
  have l512 : L.length ≤ 512 := by rw [len]; exact Nat.le_trans (Nat.pow_le_pow_right (by decide) n9) (by decide)
  have lpos : 0 < ls.length := by rw [ll, len]; exact Nat.two_pow_pos n
  have neW : W ≠ F0 := fun e => by
    have z := s2 _ _ hF0
    rw [← e, hW] at z
    injection z with z
    injection z with z
    rw [z] at lpos
    exact absurd lpos (by decide)
  refine ⟨W, rfl, ⟨_, SqL.of hW⟩, for_it (walk_list (xs := ls)) (fun i σ H' => ∃ (s3 : Option V) (zs : List V) (M : List (List Nat)), σ = [some (.ref tg), some (.ref F0), s3] ∧ Same H H' ∧ H' W = some (.lst ls) ∧ LotsT H' ls L ∧ H' F0 = some (.lst zs) ∧ LotsT H' zs M ∧ M.length ≤ i ∧ M.Sublist (L.take i) ∧ ∀ l, l ∈ M ↔ l ∈ L.take i ∧ LackL es l) ⟨none, [], [], rfl, sF0.trans s2, hW, hl, s2 _ _ hF0, .nil, Nat.le_refl _, List.nil_sublist _, fun l => by simp⟩ (fun i σ H' _ ⟨_, _, _, _, _, h, _⟩ => SqL.of h) ?_ ?_⟩
  · rintro i y σ H3' H3 li ⟨s3', zs, M, rfl, s3, hW3, hl3, hF3, hz, lM, sb, mM⟩ ⟨rfl, hy⟩
    obtain ⟨l, hL, t, rfl, ht⟩ := hl3.get hy
    have lo := (al.2 l).mp (List.mem_of_getElem? hL)
    have l9 : l.length ≤ 9 := Nat.le_trans lo.few n9
    have nl : l.Nodup := lo.up.imp fun z => Nat.ne_of_lt z
    have sbk : M.Sublist (L.take (i + 1)) := by
      rw [take_succ hL]
      exact sb.trans (List.sublist_append_left _ _)
    have skip : ¬ LackL es l → ∀ m, m ∈ M ↔ m ∈ L.take (i + 1) ∧ LackL es m := fun no m => by
      rw [mM, take_succ hL, List.mem_append, List.mem_singleton]
      constructor
      · rintro ⟨a, b⟩
        exact ⟨.inl a, b⟩
      · rintro ⟨a | rfl, b⟩
        · exact ⟨a, b⟩
        · exact absurd b no
    have lz := hz.len
    have ln : (natV l).length = l.length := List.length_map _
    refine ⟨_, rfl, t, _, rfl, .inr (SqT.of ht), _, _, rfl, rfl, _, rfl, ?_⟩
    rw [ln]
    refine iteB (fun c => ?_) (fun c => ?_)
    rotate_left 1
    · have c := of_decide_eq_false c
      exact ⟨_, zs, M, rfl, s3, hW3, hl3, hF3, hz, Nat.le_succ_of_le lM, sbk, skip fun z => c (by have := z.1; omega)⟩
    have c := of_decide_eq_true c
    have hx3 : GraphAt K H3 (.ref tg) n es := GraphAt.same s3 ⟨tg, eg, ys, rfl, htg0, heg0, hes0⟩
    refine ⟨_, rfl, _, rfl, small (show 0 ≤ 1000 by decide), fun e ne => ?_⟩
    have se := same_new ne (.lst [])
    have he := upd_same (H := H3) (a := e) (o := .lst [])
    generalize upd H3 e (.lst []) = H4 at se he ⊢
    refine ⟨_, rfl, _, rfl, .ref tg, n, es, .ref t, l, true, rfl, hx3.same se, ⟨t, rfl, se _ _ ht⟩, by omega, l9, fun v H5 s5 gv => ?_⟩
    have s35 := se.trans s5
    have v9 := great_le gv
    refine ⟨.ref tg, n, es, .ref t, e, l, [], v, rfl, hx3.same s35, g, ⟨t, rfl, s35 _ _ ht⟩, l9, s5 _ _ he, Nat.zero_le _, by show l.length - 0 < 10; omega, by omega, ⟨fun u hu => absurd hu (by simp), fun u v hu => absurd hu (by simp)⟩, fun b H6 s6 hb => ⟨_, rfl, ?_⟩⟩
    have s36 := s35.trans s6
    have hF6 := s36 _ _ hF3
    rw [ext_colF nl] at hb
    refine iteB (fun cb => ?_) (fun cb => ?_)
    · have no : ¬ ColF (adjB es) l v := fun z => by
        rw [hb.mpr z] at cb
        cases cb
      have hx6 : LotT H6 (.ref t) l := ⟨t, rfl, s36 _ _ ht⟩
      refine ⟨_, rfl, .inl ⟨rfl, _, SqL.of hF6⟩, _, rfl, F0, zs, _, rfl, rfl, hF6, small1000 (by have : i < L.length := (by rw [← ll]; exact li); omega), _, _, M ++ [l], rfl, same_put (s3.trans s36) nF0, by rw [upd_ne neW]; exact s36 _ _ hW3, (hl3.same s36).put hF6, upd_same, ((hz.same s36).put hF6).snoc (hx6.put hF6), by rw [List.length_append, List.length_singleton]; omega, by rw [take_succ hL]; exact sb.append (List.Sublist.refl _), fun m => ?_⟩
      rw [take_succ hL, List.mem_append, List.mem_append, List.mem_singleton, mM]
      constructor
      · rintro (⟨a, b⟩ | rfl)
        · exact ⟨.inl a, b⟩
        · exact ⟨.inr rfl, by omega, v, gv, no⟩
      · rintro ⟨a | rfl, b⟩
        · exact .inl ⟨a, b⟩
        · exact .inr rfl
    · have yes : ColF (adjB es) l v := hb.mp (by simpa using cb)
      refine ⟨_, zs, M, rfl, s3.trans s36, s36 _ _ hW3, hl3.same s36, hF6, hz.same s36, Nat.le_succ_of_le lM, sbk, skip ?_⟩
      rintro ⟨_, v2, g2, n2⟩
      refine n2 (yes.mono ?_)
      obtain ⟨⟨s, a, b, c⟩, _⟩ := gv
      rw [← c]
      exact g2.2 s a b
  · rintro σ H3 ⟨s3', zs, M, rfl, s3, hW3, hl3, hF3, hz, lM, sb, mM⟩
    rw [ll, List.take_length] at mM sb
    exact ⟨_, rfl, q F0 zs M H3 s3 hF3 hz (al.1.sublist sb) fun l => by rw [mM, al.2]⟩
end
end My

set_option maxHeartbeats 4000000
/-! sorted(s), s a set of tuples of ints of any lengths, none of them empty. -/
namespace L2
open PySem PySem.Spec PyProof.Rows
section
variable {P : Program} {w : World} {A : Around} {E : Value → Shared → Prop} {s : Shared}
/-- the tuples' numbers, by their addresses -/
noncomputable def keyL (L : List (Addr × List Int)) (v : Value) : List Int := match v with
  | .ref a => ((L.find? fun p => p.1 == a).map (·.2)).getD []
  | _ => []
theorem sorted_setM {a : Addr} {L : List (Addr × List Int)} {es : Array (Int × Value)} {ep : Nat} {t : SetTable} {Q : Value → Shared → Prop} (R : SetTR P w s.heap a L es ep t) (hh : A.handled = none) (hu : A.units + 64 < cLine)
    (hB : ∀ p ∈ L, p.2 ≠ [])
    (hQ : ∀ s' p (out : Array Value) (c : Nat) (L' : List (Addr × List Int)), (∀ b o, s.heap.get? b = some o → s'.heap.get? b = some o) → s'.gens = s.gens → s'.os = s.os → s.heap.objs.size ≤ p →
      s'.heap.get? p = some (seqObj "list" out c) → out.toList = L'.map (fun q => Value.ref q.1) → L'.Perm L → L'.Pairwise (fun q r => HT.lexLt r.2 q.2 = false) → Q (.ref p) s') :
    wpAny (model P w) A (call (.builtin "sorted") [.ref a]) Q E s := by
  obtain ⟨o, ho, hex, hd⟩ := R.ob
  have hsz := R.size
  have hfew := R.few
  refine Calls.call_function_entry kind_sorted plain_sorted entry_sorted (args_sorted1 _) ?_
  unfold Builtin.«sorted»
  refine wpAny_bind (m := checkCount "sorted" 1 1 _) (wpAny_pure ?_)
  refine wpAny_bind (collect_set (A := A.in1) hh ⟨o, ho, hex.1, hd⟩ R.fits (by unfold scanBound; omega) R.tab.ris R.led fun s1 vs k1 hz g1 o1 pm => ?_)
  have hes : es.toList.map (·.2) = L.map fun q => Value.ref q.1 := by
    rw [R.rows]
    unfold rowsOf
    rw [List.map_map] <;> rfl
  rw [hes] at pm
  have one : ∀ q ∈ L, ∀ r ∈ L, q.1 = r.1 → q = r := fun q hq r hr e => by
    have a1 := R.tup q hq
    have a2 := R.tup r hr
    rw [e] at a1
    have e2 : q.2 = r.2 := a1.inj a2
    exact Prod.ext e e2
  have ky : ∀ q ∈ L, keyL L (.ref q.1) = q.2 := fun q hq => by
    show ((L.find? fun p => p.1 == q.1).map (·.2)).getD [] = q.2
    cases h : L.find? fun p => p.1 == q.1 with
    | none => exact absurd (List.find?_eq_none.mp h q hq) (by simp)
    | some r =>
      have e := one r (List.mem_of_find?_eq_some h) q hq (beq_iff_eq.mp (List.find?_some (p := fun p : Addr × List Int => p.1 == q.1) h))
      rw [e]
      rfl
  have ord : ∀ vs : List Value, (∀ v ∈ vs, ∃ q ∈ L, v = Value.ref q.1) → ∃ L1 : List (Addr × List Int), vs = L1.map (fun q => Value.ref q.1) ∧ ∀ q ∈ L1, q ∈ L := by
    intro vs
    induction vs with
    | nil => intro _; exact ⟨[], rfl, fun q hq => (by cases hq)⟩
    | cons v vs ih =>
      intro hv
      obtain ⟨q, hq, e⟩ := hv v List.mem_cons_self
      obtain ⟨L1, e1, hs⟩ := ih fun u hu => hv u (List.mem_cons_of_mem _ hu)
      refine ⟨q :: L1, by rw [List.map_cons, e, e1], fun r hr => ?_⟩
      rcases List.mem_cons.mp hr with z | z
      · rw [z]; exact hq
      · exact hs r z
  have perm_of : ∀ L1 : List (Addr × List Int), (∀ q ∈ L1, q ∈ L) → (L1.map (fun q => Value.ref q.1)).Perm (L.map fun q => Value.ref q.1) → L1.Perm L := by
    intro L1 hs pm1
    have nL : L.Nodup := nodup_of_map R.nd
    have nref : (L.map fun q => Value.ref q.1).Nodup := by
      refine List.pairwise_map.mpr (List.Pairwise.imp_of_mem (fun {q r} hq hr hne e => ?_) nL)
      injection e with e
      exact hne (one q hq r hr e)
    have n1 : L1.Nodup := nodup_of_map (pm1.nodup_iff.mpr nref)
    refine (List.perm_ext_iff_of_nodup n1 nL).mpr fun q => ⟨hs q, fun hq => ?_⟩
    have hm : Value.ref q.1 ∈ L1.map (fun q => Value.ref q.1) := pm1.mem_iff.mpr (List.mem_map.mpr ⟨q, hq, rfl⟩)
    obtain ⟨r, hr, e⟩ := List.mem_map.mp hm
    injection e with e
    rw [← one r (hs r hr) q hq e]
    exact hr
  have hvl : vs.length < 64 := by rw [pm.length_eq, List.length_map]; exact hfew
  have hvz : vs.length ≤ sizeLine := by rw [sizeLine_eq]; omega
  refine wpAny_bind (wpAny_newList ?_ hvz)
  have hoL : (s1.heap.push (seqObj "list" vs.toArray 0)).get? s1.heap.objs.size = some (seqObj "list" vs.toArray 0) := Heap.get?_push_size _ rfl
  have tk : ∀ q ∈ L, TS.TupInts (s1.heap.push (seqObj "list" vs.toArray 0)) (.ref q.1) q.2 := fun q hq => tupInts_of (P := P) (w := w) (isT_keep (R.tup q hq) fun b u e => Heap.get?_push_of_some _ (k1 b u e))
  have vq : ∀ v ∈ vs, ∃ q ∈ L, v = Value.ref q.1 := fun v hv => by
    obtain ⟨q, hq, e⟩ := List.mem_map.mp (pm.mem_iff.mp hv)
    exact ⟨q, hq, e.symm⟩
  refine wpAny_bind (wpAny_holding (wpAny_call_entry slot_list_sort ⟨_, hoL, rfl⟩ entry_list_sort (SrtO.list_sort_ord (s := { s1 with heap := s1.heap.push (seqObj "list" vs.toArray 0) }) (NtL.swo_lexL (keyL L)) hoL hvz (fun h2 => My.tups_sortable (s := { s1 with heap := s1.heap.push (seqObj "list" vs.toArray 0) }) (k := keyL L) ?_ h2 (fun v hv => ?_) (.inl fun k hk => ?_) fun v hv e => ?_) fun out so sb => ⟨_, rfl, ?_⟩) (args_list_sort _)))
  · first
    | (show A.units + _ + _ < cLine; omega)
    | (show A.units + _ < cLine; omega)
    | (show A.units + _ + _ + _ < cLine; omega)
  · obtain ⟨q, hq, rfl⟩ := vq v hv
    rw [ky q hq]
    exact tk q hq
  · obtain ⟨v, hv, rfl⟩ := List.mem_map.mp hk
    obtain ⟨q, hq, rfl⟩ := vq v hv
    rw [ky q hq]
    exact hB q hq
  · obtain ⟨q, hq, rfl⟩ := vq v hv
    injection e with e
    obtain ⟨o2, _, _, ho2, _⟩ := R.tup q hq
    have lt := Heap.lt_size (k1 _ _ ho2)
    rw [e] at lt
    exact absurd lt (Nat.lt_irrefl _)
  obtain ⟨c, hc⟩ := sortedHeap_at (vs := vs) (out := out.toArray) hoL
  have a1 := sb.perm
  obtain ⟨L', e', hs'⟩ := ord out fun v hv => vq v (a1.mem_iff.mp hv)
  have pL : L'.Perm L := perm_of L' hs' (by rw [← e']; exact a1.trans pm)
  have pw : L'.Pairwise (fun q r => HT.lexLt r.2 q.2 = false) := by
    rw [e'] at so
    refine List.Pairwise.imp_of_mem (fun {q r} hq hr hle => ?_) (List.pairwise_map.mp so)
    have hle : HT.lexLt (keyL L (.ref r.1)) (keyL L (.ref q.1)) = false := hle
    rw [ky q (hs' q hq), ky r (hs' r hr)] at hle
    exact hle
  refine wpAny_pure ⟨_, rfl, hQ _ s1.heap.objs.size out.toArray c L' (fun b u e => ?_) g1 o1 hz hc (by simpa using e') pL pw⟩
  have q := k1 b u e
  have hlt := Heap.lt_size q
  show (sortedHeap (s1.heap.push (seqObj "list" vs.toArray 0)) s1.heap.objs.size vs out.toArray).get? b = some u
  rw [sortedHeap_old (Nat.ne_of_lt hlt) (by rw [size_push']; exact Nat.lt_succ_of_lt hlt)]
  exact Heap.get?_push_of_some _ q
end
section
variable {X : Cx}
def rSortedM (K : PySem.W.Frag) (P : Program) (w : World) : List V → Hp → VK → Prop := fun vs H Q => ∃ (a : Addr) (L : List (Addr × List Int)), vs = [V.ref a] ∧ H a = some (SetTO P w a L) ∧ (∀ p ∈ L, SqT K H p.1 (p.2.map V.int)) ∧ (∀ p ∈ L, p.2 ≠ []) ∧
  ∀ (L' : List (Addr × List Int)) (p : Addr), L'.Perm L → (L'.map (·.2)).Nodup → L'.length < 64 → L'.Pairwise (fun q r => HT.lexLt r.2 q.2 = false) → H p = none → Q (.ref p) (upd H p (.lst (L'.map fun q => V.ref q.1)))
theorem cr_sortedM (hc : X.calm = true) (hu : X.A.units + 64 < cLine) : CallR X (.builtin "sorted") (rSortedM X.K X.prog X.w) := by
  intro pins s σ H xs us Q I r h
  obtain ⟨a, L, rfl, ha, hk, hB, q⟩ := h
  have R0 : SetT0 X.prog X.w s.heap a L := (I.hok a _ ha).1
  obtain ⟨es, ep, t, R⟩ := R0.full fun p hp => I.isT (hk p hp)
  rw [Vals.ref1 r]
  refine sorted_setM R (I.ok.hd hc) hu hB fun s' p out c L' k g o hp hg hout pm pw => ?_
  have hfew : L'.length < 64 := by rw [pm.length_eq]; exact R.few
  have hlen : (L'.map fun q => V.ref q.1).length ≤ sizeLine := by rw [List.length_map, sizeLine_eq]; omega
  have hn : H p = none := I.hok.fresh hp
  have hv : Vals (L'.map fun q => V.ref q.1) out.toList := by rw [hout]; exact vals_of_refs L'
  have J : Inv X pins σ (upd H p (.lst (L'.map fun q => V.ref q.1))) { s with heap := s'.heap, gens := s'.gens, drawn := s'.drawn, toks := s'.toks } :=
    I.call (ch := []) (Un.laid k hp hn) (I.hok.laid k hp ⟨hlen, out.toList, c, hv, hg⟩) (by rw [g]; exact I.bare) (fun _ z => nomatch z)
  have e : s' = { s with heap := s'.heap, gens := s'.gens, drawn := s'.drawn, toks := s'.toks } := by
    cases s'
    cases s
    cases o
    rfl
  rw [e]
  exact ⟨.ref p, _, J, rfl, q L' p pm ((pm.map (·.2)).nodup_iff.mpr R.nd) hfew pw hn⟩
end
end L2

set_option maxHeartbeats 8000000
/-! The odd holes and antiholes, as lots, of the law. -/
namespace My
open PySem PySem.Spec PyProof.Rows L2
abbrev sOlt : Stmt := top 45
theorem scOlt : FnScope ["graph", "found", "each"] ["graph"] (defScope sOlt) := ⟨rfl, rfl, rfl, by decide +kernel, rfl, by decide +kernel, by decide +kernel⟩
theorem odd_len : ∀ m : Nat, m ≤ 9 → 4 ≤ m → inV (V.int ((m : Nat) : Int)) [V.int 5, V.int 7, V.int 9] = decide (m % 2 = 1) := by decide +kernel
def toL (k : List Int) : List Nat := k.map Int.toNat
theorem toL_nat (l : List Nat) : toL (natI l) = l := by
  unfold toL natI
  rw [List.map_map]
  conv => rhs; rw [← List.map_id l]
  exact List.map_congr_left fun k _ => by simp
/-- the addresses and the numbers of lots -/
theorem LotsT.keys {H : Hp} : ∀ {ws : List V} {Ls : List (List Nat)}, LotsT H ws Ls → ∃ ks : List (Addr × List Int), ws = ks.map (fun p => V.ref p.1) ∧ ks.map (·.2) = Ls.map natI ∧ ∀ p ∈ ks, ∃ l ∈ Ls, p.2 = natI l ∧ H p.1 = some (.tup (natV l))
  | _, _, .nil => ⟨[], rfl, rfl, fun _ h => nomatch h⟩
  | _, _, .cons (l := l) (ls := Ls) a r => by
    obtain ⟨ks, h1, h2, h3⟩ := LotsT.keys r
    obtain ⟨t, rfl, ht⟩ := a
    refine ⟨(t, natI l) :: ks, by rw [h1]; rfl, by rw [List.map_cons, h2]; rfl, fun p hp => ?_⟩
    rcases List.mem_cons.mp hp with rfl | hp
    · exact ⟨l, List.mem_cons_self .., rfl, ht⟩
    · obtain ⟨m, hm, e⟩ := h3 p hp
      exact ⟨m, List.mem_cons_of_mem _ hm, e⟩
theorem lots_of {H H' : Hp} (s : Same H H') : ∀ M : List (Addr × List Int), (∀ r ∈ M, ∃ l, r.2 = natI l ∧ H r.1 = some (.tup (natV l))) → LotsT H' (M.map fun r => V.ref r.1) (M.map fun r => toL r.2)
  | [], _ => .nil
  | r :: M, h => by
    obtain ⟨l, e, hl⟩ := h r (List.mem_cons_self ..)
    refine .cons ?_ (lots_of s M fun r hr => h r (List.mem_cons_of_mem _ hr))
    show LotT H' _ (toL r.2)
    rw [e, toL_nat]
    exact ⟨r.1, rfl, s _ _ hl⟩
section
variable {P : Program} {w : World} {K : PySem.W.Frag} {mg : Str → Option Value} {base : Heap} {f fL fT : Addr} {fd dL dT : FuncData}
theorem ok_olt (F : L2.Fun K "_law_odd_lots" "_law_odd_lots" sOlt f fd)
    (GL : FnOk P w K mg base CX0 3 fL dL ["graph"] (spHoles K fun _ es => es)) (bL : L2.Binds K dL ["graph"] []) (kL : PySem.W.keepIn K (.ref fL) = true) (mL : mg "_law_holes" = some (.ref fL))
    (GT : FnOk P w K mg base CX0 1 fT dT ["graph"] (spTurned K)) (bT : L2.Binds K dT ["graph"] []) (kT : PySem.W.keepIn K (.ref fT) = true) (mT : mg "_law_turned" = some (.ref fT))
    (ml : mg "len" = none) (mt : mg "tuple" = none) (mso : mg "sorted" = none) (mst : mg "set" = none) : FnOk P w K mg base CX0 4 f fd ["graph"] (spMinL K) := by
  refine F.ok scOlt (fun vs H Q E h => ?_) (fun cdv A outer s0 H vs Q E hr h => ?_)
  · obtain ⟨x, n, es, rfl, _⟩ := h
    rfl
  obtain ⟨x, n, es, rfl, hx, g, q⟩ := h
  have h1 := hr.mono (show 1 ≤ 3 by decide)
  refine ⟨_, pss_cons (ps_set (i := 1) scOlt.nd rfl (.inl rfl) (pe_lst pa_nil))
    (pss_cons (ps_for PassesOwn.never rfl (pi_tup (pe_op op_catW (pe_call GL hr (by rfl) mL kL bL .nil pass0 (pa_cons (pv 0) pa_nil)) (pe_call GL hr (by rfl) mL kL bL .nil pass0 (pa_cons (pe_call GT h1 (by rfl) mT kT bT .nil pass0 (pa_cons (pv 0) pa_nil)) pa_nil)))) (pg_name (i := 2) scOlt.nd rfl (.inl rfl))
      (pss_one (ps_if (pt_cmpR (r := rIn K false) op_in_seq (pe_callB call_len_seq (by rfl) ml PySem.boot_len (pa_cons (pv 2) pa_nil)) (pe_tup (pa_cons pe_int (pa_cons pe_int (pa_cons pe_int pa_nil)))) (by rfl))
        (pss_one (ps_expr (pe_bm PySem.F.plainAttrs_list PySem.F.slot_list_append PySem.F.type_list_append mt_append (pv 1) (pa_cons (pe_callTy call_tuple_of (by rfl) mt (by decide +kernel) (pa_cons (pe_callB cr_sortIT (by rfl) mso (by decide +kernel) (pa_cons (pv 2) pa_nil)) pa_nil)) pa_nil)))) pss_nil)))
    (pss_one (ps_ret (pe_callTy call_tuple_of (by rfl) mt (by decide +kernel) (pa_cons (pe_callB (cr_sortedM rfl hr.units) (by rfl) mso (by decide +kernel) (pa_cons (pe_callTy (cr_setM rfl hr.units) (by rfl) mst (by decide +kernel) (pa_cons (pv 1) pa_nil)) pa_nil)) pa_nil))))), ?_⟩
  have line : ∀ k, k ≤ 1000 → k ≤ sizeLine := fun k hk => small hk
  have n9 := g.n9
  have gl : Good n (leftP n es) := left_goodO g
  refine ⟨line 0 (by decide), fun F1 nF1 => ?_⟩
  have s1 := same_new nF1 (.lst [])
  have hF1 := upd_same (H := H) (a := F1) (o := .lst [])
  generalize upd H F1 (.lst []) = H1 at s1 hF1 ⊢
  refine ⟨_, rfl, x, n, es, rfl, hx.same s1, g, fun A zs H2 s2 hA (hz : LotsT H2 zs (holesL n es)) => ?_⟩
  refine ⟨_, rfl, x, n, es, rfl, hx.same (s1.trans s2), n9, fun y H3 s3 hy => ⟨y, n, leftP n es, rfl, hy.at, gl, fun B ws H4 s4 hB (hw : LotsT H4 ws (holesL n (leftP n es))) => ?_⟩⟩
  have s24 := s3.trans s4
  have all4 : ∀ c ∈ holesL n es ++ holesL n (leftP n es), 4 ≤ c.length ∧ c.length ≤ 9 ∧ c.Nodup ∧ ∀ k ∈ c, k < n := fun c hc => by
    rcases List.mem_append.mp hc with hc | hc
    · obtain ⟨a, lt⟩ := (mem_holes g).mp hc
      obtain ⟨l4, ln, nd, _⟩ := hole_parts a
      exact ⟨l4, by omega, nd, lt⟩
    · obtain ⟨a, lt⟩ := (mem_holes gl).mp hc
      obtain ⟨l4, ln, nd, _⟩ := hole_parts a
      exact ⟨l4, by omega, nd, lt⟩
  have two : (holesL n es).length ≤ 512 ∧ (holesL n (leftP n es)).length ≤ 512 := by
    have few : ∀ fs, Good n fs → (holesL n fs).length ≤ 512 := fun fs gf => by
      have nd : (holesL n fs).Nodup := (holesL_asc n fs).imp fun {a b} h e => by
        rw [e] at h
        exact ltL_asym h h
      have pm : (holesL n fs).Perm (goingsL fs (lotsN n)) := (List.perm_ext_iff_of_nodup nd (goings_nd gf (fun l hl => mem_lotsN.mp hl) (lotsN_nodup n))).mpr fun l => (mem_goings gf fun l => mem_lotsN).symm
      rw [pm.length_eq]
      unfold goingsL
      refine Nat.le_trans (List.length_filter_le _ _) ?_
      rw [List.length_map, lotsN_len]
      exact Nat.le_trans (Nat.pow_le_pow_right (by decide) n9) (by decide)
    exact ⟨few es g, few _ gl⟩
  have lz := hz.len
  have lw := hw.len
  refine ⟨A, B, zs, ws, rfl, rfl, SqT.of (s24 _ _ hA), SqT.of hB, Nat.le_trans (by omega : _ ≤ 1024) (by rw [sizeLine_eq]; decide), fun C H5 s5 hC => ?_⟩
  have hc := ((hz.same s24).app hw).same s5
  have s15 := s2.trans (s24.trans s5)
  have s05 := s1.trans s15
  have hF5 := s15 _ _ hF1
  have lc := hc.len
  have lC : (holesL n es ++ holesL n (leftP n es)).length ≤ 1024 := by rw [List.length_append]; omega
  have tell : ∀ l, (LotOk n l ∧ ∃ c ∈ holesL n es ++ holesL n (leftP n es), isOddB c = true ∧ c.Perm l) ↔ OddLot n es l := fun l => by
    rw [odd_hole g]
    constructor
    · rintro ⟨lo, c, hc, od, pm⟩
      rcases List.mem_append.mp hc with hc | hc
      · exact ⟨lo, true, c, hc, od, pm⟩
      · exact ⟨lo, false, c, hc, od, pm⟩
    · rintro ⟨lo, b, c, hc, od, pm⟩
      refine ⟨lo, c, List.mem_append.mpr ?_, od, pm⟩
      cases b with
      | true => exact .inl hc
      | false => exact .inr hc
  generalize holesL n es ++ holesL n (leftP n es) = ALL at hc all4 lc lC tell
  generalize zs ++ ws = cs at hC hc lc
  clear hA hB hz hw s24 s3 s4 s2 lz lw two hy
  refine ⟨C, rfl, ⟨_, hC⟩, for_it (walk_tup (xs := cs)) (fun i σ H' => ∃ (s2 : Option V) (us : List V) (Ls : List (List Nat)), σ = [some x, some (.ref F1), s2] ∧ Same H H' ∧ LotsT H' cs ALL ∧ SqT K H' C cs ∧ H' F1 = some (.lst us) ∧ LotsT H' us Ls ∧ Ls.length ≤ i ∧ ∀ l, l ∈ Ls ↔ LotOk n l ∧ ∃ c ∈ ALL.take i, isOddB c = true ∧ c.Perm l) ⟨none, [], [], rfl, s05, hc, hC, hF5, .nil, Nat.le_refl _, fun l => by simp⟩ (fun i σ H' _ ⟨_, _, _, _, _, _, h, _⟩ => h) ?_ ?_⟩
  · rintro i v σ H6' H6 li ⟨s2', us, Ls, rfl, s6, hc6, hC6, hF6, hu6, lL, mL'⟩ ⟨rfl, hv⟩
    obtain ⟨c, hcA, t, rfl, ht⟩ := hc6.get hv
    obtain ⟨c4, c9, cnd, clt⟩ := all4 c (List.mem_of_getElem? hcA)
    have ten : i < ALL.length := (List.getElem?_eq_some_iff.mp hcA).1
    have lu := hu6.len
    refine ⟨_, rfl, t, _, rfl, .inr (SqT.of ht), line 3 (by decide), fun t3 nt3 => ?_⟩
    have s3 := same_new nt3 (.tup [V.int 5, V.int 7, V.int 9])
    refine ⟨t3, _, rfl, .inr (SqT.of upd_same), rfl, rfl, _, rfl, ?_⟩
    generalize upd H6 t3 (.tup [V.int 5, V.int 7, V.int 9]) = H7 at s3 ⊢
    rw [if_neg Bool.false_ne_true, show (natV c).length = c.length from List.length_map _, odd_len _ c9 c4]
    refine iteB (fun od => ?_) (fun od => ⟨_, us, Ls, rfl, s6.trans s3, hc6.same s3, Same.tup s3 hC6, s3 _ _ hF6, hu6.same s3, by omega, fun l => ?_⟩)
    rotate_left 1
    · rw [mL', take_succ hcA]
      refine and_congr_right fun _ => ⟨?_, ?_⟩
      · rintro ⟨c', h', r⟩
        exact ⟨c', List.mem_append_left _ h', r⟩
      · rintro ⟨c', h', od', r⟩
        rcases List.mem_append.mp h' with h' | h'
        · exact ⟨c', h', od', r⟩
        · rw [List.mem_singleton.mp h'] at od'
          have od' : decide (c.length % 2 = 1) = true := od'
          rw [od] at od'
          cases od'
    have ht7 := s3 _ _ ht
    have sq : SqT K H7 t ((natI c).map V.int) := by
      rw [natV_eq]
      exact SqT.of ht7
    refine ⟨_, rfl, .inl ⟨rfl, _, SqL.of (s3 _ _ hF6)⟩, _, rfl, t, natI c, rfl, sq, fun ns' p pm up np => ?_⟩
    obtain ⟨l', rfl, pl, ul⟩ : ∃ l' : List Nat, ns' = natI l' ∧ l'.Perm c ∧ l'.Pairwise (· < ·) := by
      have all : ∀ z ∈ ns', ((z.toNat : Nat) : Int) = z := fun z hz => by
        obtain ⟨k, _, rfl⟩ := List.mem_map.mp (pm.mem_iff.mp hz)
        omega
      have e : ns' = natI (ns'.map Int.toNat) := by
        unfold natI
        rw [List.map_map]
        conv => lhs; rw [← List.map_id ns']
        exact List.map_congr_left fun z hz => (all z hz).symm
      have p2 : (ns'.map Int.toNat).Perm c := by
        have z := pm.map Int.toNat
        rw [show (natI c).map Int.toNat = c from toL_nat c] at z
        exact z
      refine ⟨_, e, p2, ?_⟩
      have n2 := p2.nodup_iff.mpr cnd
      have u2 : (ns'.map Int.toNat).Pairwise (· ≤ ·) := by
        rw [List.pairwise_map]
        exact up.imp fun h => Int.toNat_le_toNat h
      exact (u2.and n2).imp fun {a b} h => by
        have := h.1
        have := h.2
        omega
    have lo : LotOk n l' := ⟨fun k hk => clt k (pl.mem_iff.mp hk), ul⟩
    rw [natV_eq]
    have s8 := same_new np (.lst (natV l'))
    have hp := upd_same (H := H7) (a := p) (o := .lst (natV l'))
    generalize upd H7 p (.lst (natV l')) = H8 at s8 hp ⊢
    refine ⟨p, _, rfl, .inl ⟨SqL.of hp, fun r nr => ?_⟩⟩
    have s9 := same_new nr (.tup (natV l'))
    have hr9 : LotT (upd H8 r (.tup (natV l'))) (.ref r) l' := ⟨r, rfl, upd_same⟩
    generalize upd H8 r (.tup (natV l')) = H9 at s9 hr9 ⊢
    have s69 := s3.trans (s8.trans s9)
    have hF9 := s69 _ _ hF6
    refine ⟨F1, us, _, rfl, rfl, hF9, Nat.lt_of_lt_of_le (by omega : us.length < 1024) (by rw [sizeLine_eq]; decide), ?_⟩
    refine ⟨_, us ++ [.ref r], Ls ++ [l'], rfl, same_put (s6.trans s69) nF1, (hc6.same s69).put hF9, ?_, upd_same, ((hu6.same s69).put hF9).snoc (hr9.put hF9), by rw [List.length_append, List.length_singleton]; omega, fun l => ?_⟩
    · exact (TS.put hF9).tup (Same.tup s69 hC6)
    · rw [List.mem_append, List.mem_singleton, mL', take_succ hcA]
      constructor
      · rintro (⟨h0, c', h', r⟩ | rfl)
        · exact ⟨h0, c', List.mem_append_left _ h', r⟩
        · exact ⟨lo, c, List.mem_append_right _ (List.mem_singleton.mpr rfl), od, pl.symm⟩
      · rintro ⟨h0, c', h', od', pm'⟩
        rcases List.mem_append.mp h' with h' | h'
        · exact .inl ⟨h0, c', h', od', pm'⟩
        · rw [List.mem_singleton.mp h'] at pm'
          exact .inr (lot_perm h0 lo (pm'.symm.trans pl.symm))
  rintro σ H6 ⟨s2', us, Ls, rfl, s6, hc6, hC6, hF6, hu6, lL, mL'⟩
  rw [lc, List.take_length] at mL'
  have mL' : ∀ l, l ∈ Ls ↔ OddLot n es l := fun l => (mL' l).trans (tell l)
  obtain ⟨ks, rfl, k2, k3⟩ := hu6.keys
  have k4 : ∀ p ∈ ks, ∃ l, OddLot n es l ∧ p.2 = natI l ∧ H6 p.1 = some (.tup (natV l)) := fun p hp => by
    obtain ⟨l, hl, e, h⟩ := k3 p hp
    exact ⟨l, (mL' l).mp hl, e, h⟩
  have sqs : ∀ p ∈ ks, SqT K H6 p.1 (p.2.map V.int) := fun p hp => by
    obtain ⟨l, _, e, h⟩ := k4 p hp
    rw [e, natV_eq]
    exact SqT.of h
  have ndm : ∀ M : List (Addr × List Int), (∀ p ∈ M, p ∈ ks) → (M.map (·.2)).Nodup → (M.map fun p => toL p.2).Nodup := fun M sub nd => by
    have nd' : M.Pairwise fun p r => p.2 ≠ r.2 := List.pairwise_map.mp nd
    refine List.pairwise_map.mpr (List.Pairwise.imp_of_mem (fun {p r} hp hr ne e => ne ?_) nd')
    obtain ⟨l, _, e1, _⟩ := k4 p (sub p hp)
    obtain ⟨m, _, e2, _⟩ := k4 r (sub r hr)
    have e : toL p.2 = toL r.2 := e
    rw [e1, e2, toL_nat, toL_nat] at e
    rw [e1, e2, e]
  have few : ∀ M : List (Addr × List Int), (∀ p ∈ M, p ∈ ks) → (M.map (·.2)).Nodup → M.length ≤ 62 := fun M sub nd => by
    have z := odd_few g (ndm M sub nd) fun l hl => by
      obtain ⟨p, hp, rfl⟩ := List.mem_map.mp hl
      obtain ⟨m, om, e1, _⟩ := k4 p (sub p hp)
      rw [e1, toL_nat]
      exact om
    rw [List.length_map] at z
    omega
  refine ⟨_, rfl, F1, ks, rfl, SqL.of hF6, sqs, few, fun a L na sub all => ?_⟩
  have s7 := same_new na (SetTO P w a L)
  have ha := upd_same (H := H6) (a := a) (o := SetTO P w a L)
  have ne : ∀ p ∈ L, p.2 ≠ [] := fun p hp e => by
    obtain ⟨l, o, e1, _⟩ := k4 p (sub p hp)
    obtain ⟨lm, _⟩ := o.ring g
    have := congrArg List.length (e1.symm.trans e)
    unfold natI at this
    rw [List.length_map] at this
    simp at this
    rw [this] at lm
    simp at lm
  refine ⟨a, L, rfl, upd_same, fun p hp => Same.tup s7 (sqs p (sub p hp)), ne, fun L' p pm nd lt pw np => ?_⟩
  have s8 := same_new np (.lst (L'.map fun q => V.ref q.1))
  refine ⟨p, _, rfl, .inl ⟨SqL.of upd_same, fun T nT => ?_⟩⟩
  have s9 := same_new nT (.tup (L'.map fun q => V.ref q.1))
  have s69 := s7.trans (s8.trans s9)
  have k5 : ∀ p ∈ L', p ∈ ks := fun p hp => sub p (pm.mem_iff.mp hp)
  have k6 : ∀ r ∈ L', ∃ l, r.2 = natI l ∧ H6 r.1 = some (.tup (natV l)) := fun r hr => by
    obtain ⟨l, _, e, hl⟩ := k4 r (k5 r hr)
    exact ⟨l, e, hl⟩
  refine q T _ _ _ (s6.trans s69) upd_same (lots_of s69 L' k6) ⟨?_, fun l => ?_⟩
  · have nd' : L'.Pairwise fun p r => p.2 ≠ r.2 := List.pairwise_map.mp nd
    refine List.pairwise_map.mpr (List.Pairwise.imp_of_mem (fun {p r} hp hr h => ?_) (pw.and nd'))
    obtain ⟨l, _, e1, _⟩ := k4 p (k5 p hp)
    obtain ⟨m, _, e2, _⟩ := k4 r (k5 r hr)
    obtain ⟨h1, h2⟩ := h
    rw [e1, e2] at h1 h2 ⊢
    rw [toL_nat, toL_nat]
    show HT.lexLt (natI l) (natI m) = true
    cases c : HT.lexLt (natI l) (natI m) with
    | true => rfl
    | false => exact absurd (lex_same c h1) h2
  · rw [List.mem_map]
    constructor
    · rintro ⟨p, hp, rfl⟩
      obtain ⟨m, om, e1, _⟩ := k4 p (k5 p hp)
      rw [e1, toL_nat]
      exact om
    · intro o
      have z : natI l ∈ ks.map (·.2) := by
        rw [k2]
        exact List.mem_map_of_mem ((mL' l).mpr o)
      obtain ⟨p, hp, e⟩ := List.mem_map.mp z
      obtain ⟨r, hr, e2⟩ := List.mem_map.mp (all p hp)
      refine ⟨r, pm.mem_iff.mpr hr, ?_⟩
      rw [e2, e, toL_nat]
end
end My

set_option maxHeartbeats 4000000
/-! f(name=e) of a def that may raise; isinstance(e, C) in an except suite, e with an own dict. -/
namespace My
open PySem PySem.Spec PyProof.Rows L2
section
variable {X : Cx} {CX : CXT} {k : Nat} {f : Addr} {fd : FuncData} {sp : Sp} {E : L2.St → XK} {x fld : Str} {p pos : Pos} {tk : TA}
theorem pe_kw1 (F : FnOk X.prog X.w X.K X.mg X.base CX k f fd [fld] sp) (hr : Room k X.A) (hg : Gl X x) (hm : X.mg x = some (.ref f)) (hk : PySem.W.keepIn X.K (.ref f) = true) (hb : ∀ (s : Shared) (u : Value), BindsTo s fd ⟨[], [(fld, u)]⟩ ([fld].zip [u])) (hx : ∀ σ, PassesAt CX X σ (E σ))
    {kws : List Keyword} (hkw : PK X kws tk) (hall : (backToKw pos (keywordEach kws X.env)).all (·.1.isSome) = true := by rfl) (hks : (backToKw pos (keywordEach kws X.env)).filterMap (·.1) = [fld] := by rfl)
    (hdb : (x == ("__debug__" : Str)) = false := by decide) (hpl : ((backTo pos (starEach [] X.env)).any (·.1) || (backToKw pos (keywordEach kws X.env)).any (·.1.isNone)) = false := by rfl) :
    PE X (.Call (.Name x p) [] kws pos) (tCallS sp E tk) := by
  refine ⟨?_⟩
  intro pins s σ H Q I h
  refine wpAny_Call_Name_kw (ld_glob I hg hm ?_ hdb)
  refine PySem.W.callWith_KW0 (h₀ := X.base) I.ok.mod.kin hk hall (thn (hkw.run pos pins s σ H _ I h) ?_) hpl
  rintro us s1 ⟨vs, H1, I1, r, q1⟩
  refine ⟨I1.kIn, ?_⟩
  rw [hks]
  have hl : us.length = 1 := by rw [← r.length]; exact F.len _ _ _ _ q1
  obtain ⟨u, rfl⟩ : ∃ u, us = [u] := by
    match us, hl with
    | [u], _ => exact ⟨u, rfl⟩
  refine wpAny_call (codeAny_mono (F.run X.A X.stack s1 H1 ⟨[], [(fld, u)]⟩ [u] vs Q (E σ) hr I1.env0 (hb _ _) r q1) fun r s' hq => ?_)
  cases r with
  | error e => exact hx σ pins H1 s1 e s' I1 hq
  | ok fl =>
    cases fl with
    | ret u => exact I1.after hq
    | next => exact False.elim hq
    | brk => exact False.elim hq
    | cont => exact False.elim hq
theorem passAt0 {X : Cx} {σ : L2.St} {E : XK} : PassesAt CX0 X σ E := fun _ _ _ _ _ _ h => h.elim
end
def rIsF (K : PySem.W.Frag) (a : Addr) (cls : Value) (d : Option Addr) : List V → Hp → VK → Prop := fun xs H Q => ∃ (C dd : Addr) (c : V) (u : Value) (b : Bool) (fs : List (Str × V)), xs = [.ref a, c] ∧ ClsV c u ∧ cls = .ref C ∧ d = some dd ∧ H dd = some (.xd fs) ∧ XIs K C ∧ PySem.W.kitOne K (.ref C) u = some b ∧ Q (.bl b) H
theorem call_isF {X : Cx} {a : Addr} {oe : Obj} {cls : Value} {d : Option Addr} {pn : List (Addr × Obj)} (hz : Zc cls d oe) (hf : ∃ vs, oe.data = .fields vs) : CallR (X.suite a ((a, oe) :: pn)) (.builtin "isinstance") (rIsF X.K a cls d) := by
  rintro pins s σ H xs us Q I r ⟨C, dd, c, u, b, fs, rfl, cv, rfl, rfl, ea, T, kit, q⟩
  obtain ⟨u1, u2, rfl, r1, r2⟩ := vals2 r
  obtain rfl : u2 = u := cv.eq r2
  obtain rfl : u1 = Value.ref a := r1
  obtain ⟨ha, _⟩ := I.pin (a, oe) (List.mem_append_left _ List.mem_cons_self)
  obtain ⟨vs, hd⟩ := hf
  have hx : ObjOk X.prog X.w H s.heap dd (.xd fs) := I.hok dd _ ea
  obtain ⟨mA, hns, hr⟩ := hx
  obtain ⟨od, ho, hl⟩ := lookIn_ns hns
  have J : PySem.W.InstAt s.heap a oe C (some od) := by
    refine ⟨ha, hz.1, ?_, ?_⟩
    · unfold PySem.W.notCls
      rw [hd]
    · rw [hz.2]
      exact ho
  exact PySem.W.kia_one (PySem.W.kitx_exc T.cl T.xf.ga T.xf.gg T.xf.exC T.ha T.hn T.ht T.hm) I.kIn J kit (fun z => nomatch z) fun tk => ⟨.bl b, H, I.tok tk, rfl, q⟩
end My

set_option maxHeartbeats 4000000
namespace My
open PySem PySem.Spec PyProof.Rows L2
/-- f(a=.., b=..), the other way round than f's parameters -/
def tKw2 (sp : Sp) (E : L2.St → XK) (t : TA) : TE := fun σ H Q => t σ H fun vs H1 => ∃ a b, vs = [a, b] ∧ sp [b, a] H1 Q (E σ)
section
variable {X : Cx} {CX : CXT} {k : Nat} {f : Addr} {fd : FuncData} {sp : Sp} {E : L2.St → XK} {x f1 f2 : Str} {p pos : Pos} {tk : TA}
theorem pe_kw2 (F : FnOk X.prog X.w X.K X.mg X.base CX k f fd [f1, f2] sp) (hr : Room k X.A) (hg : Gl X x) (hm : X.mg x = some (.ref f)) (hk : PySem.W.keepIn X.K (.ref f) = true) (hb : ∀ (s : Shared) (u v : Value), BindsTo s fd ⟨[], [(f2, u), (f1, v)]⟩ ([f1, f2].zip [v, u])) (hx : ∀ σ, PassesAt CX X σ (E σ))
    {kws : List Keyword} (hkw : PK X kws tk) (hall : (backToKw pos (keywordEach kws X.env)).all (·.1.isSome) = true := by rfl) (hks : (backToKw pos (keywordEach kws X.env)).filterMap (·.1) = [f2, f1] := by rfl)
    (hdb : (x == ("__debug__" : Str)) = false := by decide) (hpl : ((backTo pos (starEach [] X.env)).any (·.1) || (backToKw pos (keywordEach kws X.env)).any (·.1.isNone)) = false := by rfl) :
    PE X (.Call (.Name x p) [] kws pos) (tKw2 sp E tk) := by
  refine ⟨?_⟩
  intro pins s σ H Q I h
  refine wpAny_Call_Name_kw (ld_glob I hg hm ?_ hdb)
  refine PySem.W.callWith_KW0 (h₀ := X.base) I.ok.mod.kin hk hall (thn (hkw.run pos pins s σ H _ I h) ?_) hpl
  rintro us s1 ⟨vs, H1, I1, r, a, b, rfl, q1⟩
  refine ⟨I1.kIn, ?_⟩
  rw [hks]
  obtain ⟨u, v, rfl, ru, rv⟩ := vals2 r
  refine wpAny_call (codeAny_mono (F.run X.A X.stack s1 H1 ⟨[], [(f2, u), (f1, v)]⟩ [v, u] [b, a] Q (E σ) hr I1.env0 (hb _ _ _) (.cons rv (.cons ru .nil)) q1) fun r s' hq => ?_)
  cases r with
  | error e => exact hx σ pins H1 s1 e s' I1 hq
  | ok fl =>
    cases fl with
    | ret u => exact I1.after hq
    | next => exact False.elim hq
    | brk => exact False.elim hq
    | cont => exact False.elim hq
end
end My

set_option maxHeartbeats 16000000
/-! Right: the least lots. -/
namespace My
open PySem PySem.Spec PyProof.Rows L2
abbrev sRight : Stmt := top 47
theorem scRight : FnScope ["well", "graph", "due", "is_one", "lots", "least", "lot", "few", "v"] ["well"] (defScope sRight) := ⟨rfl, rfl, rfl, by decide +kernel, rfl, by decide +kernel, by decide +kernel⟩
def spRight : Sp := fun vs H Q _ => ∃ p : Addr, vs = [.ref p] ∧ Wl H p ∧ ∀ H', But p H H' → Q (.bl true) H'
theorem klots_dp {K : PySem.W.Frag} {H : Hp} {zs : List V} {L : List (List Nat)} (h : LotsT H zs L) : DpAll K H zs (lotsD L) := by
  induction h with
  | nil => exact .nil
  | cons a b ih =>
    obtain ⟨t, rfl, ht⟩ := a
    exact .cons (.tup (SqT.of ht) (numsD_dp _)) ih
theorem knums_fine : ∀ {l : List Nat}, (∀ k ∈ l, k ≤ 9) → ((PyData.shownAll (numsD l)).map (·.length)).sum ≤ l.length ∧ (PyData.shownAll (numsD l)).length = l.length ∧ PyData.showableAll (numsD l) = true ∧ PyData.hasDictAll (numsD l) = false
  | [], _ => ⟨Nat.le_refl _, rfl, by simp [numsD, PyData.showableAll], by simp [numsD, PyData.hasDictAll]⟩
  | k :: l, h => by
    obtain ⟨h1, h2, h3, h4⟩ := knums_fine (l := l) fun q hq => h q (List.mem_cons_of_mem _ hq)
    obtain ⟨f1, f2⟩ := num_fine k (h k (List.mem_cons_self ..))
    unfold numsD at h1 h2 h3 h4 ⊢
    rw [List.map_cons]
    simp only [PyData.shownAll, PyData.showableAll, PyData.hasDictAll, PyData.hasDict, List.map_cons, List.sum_cons, List.length_cons]
    refine ⟨by omega, by omega, ?_, ?_⟩
    · rw [f2, h3]; rfl
    · rw [h4]; rfl
theorem klot_fine {n : Nat} (n9 : n ≤ 9) {l : List Nat} (lo : LotOk n l) : (PyData.tuple (numsD l)).shown.length ≤ 40 ∧ (PyData.tuple (numsD l)).showable = true ∧ (PyData.tuple (numsD l)).depth ≤ 2 ∧ (PyData.tuple (numsD l)).hasDict = false := by
  obtain ⟨h1, h2, h3, h4⟩ := knums_fine (l := l) fun k hk => by have := lo.lt k hk; omega
  have lf := lo.few
  have t := tup_len (PyData.shownAll (numsD l))
  have dl := (numsD_lay l).2
  refine ⟨?_, ?_, ?_, ?_⟩
  · have e : (PyData.tuple (numsD l)).shown = tupleText (PyData.shownAll (numsD l)) := by simp [PyData.shown]
    rw [e]
    omega
  · simp only [PyData.showable, h3]
  · simp only [PyData.depth]
    omega
  · simp [PyData.hasDict, h4]
theorem klots_fine {n : Nat} (n9 : n ≤ 9) : ∀ {L : List (List Nat)}, (∀ l ∈ L, LotOk n l) → ((PyData.shownAll (lotsD L)).map (·.length)).sum ≤ 40 * L.length ∧ (PyData.shownAll (lotsD L)).length = L.length ∧ PyData.showableAll (lotsD L) = true ∧ PyData.depthAll (lotsD L) ≤ 2 ∧ PyData.hasDictAll (lotsD L) = false
  | [], _ => ⟨Nat.le_refl _, rfl, by simp [lotsD, PyData.showableAll], by simp [lotsD, PyData.depthAll], by simp [lotsD, PyData.hasDictAll]⟩
  | l :: L, h => by
    obtain ⟨h1, h2, h3, h4, h5⟩ := klots_fine n9 (L := L) fun q hq => h q (List.mem_cons_of_mem _ hq)
    obtain ⟨f1, f2, f3, f4⟩ := klot_fine n9 (h l (List.mem_cons_self ..))
    unfold lotsD at h1 h2 h3 h4 h5 ⊢
    rw [List.map_cons]
    simp only [PyData.shownAll, PyData.showableAll, PyData.depthAll, PyData.hasDictAll, List.map_cons, List.sum_cons, List.length_cons]
    refine ⟨by omega, by omega, ?_, by omega, ?_⟩
    · rw [f2, h3]; rfl
    · rw [f4, h5]; rfl
theorem ktup_fine {n : Nat} (n9 : n ≤ 9) {L : List (List Nat)} (h : ∀ l ∈ L, LotOk n l) (l5 : L.length ≤ 512) : Fine (.tuple (lotsD L)) ∧ (PyData.tuple (lotsD L)).hasDict = false := by
  obtain ⟨h1, h2, h3, h4, h5⟩ := klots_fine n9 h
  have t := tup_len (PyData.shownAll (lotsD L))
  refine ⟨⟨?_, ?_, ?_⟩, ?_⟩
  · simp only [PyData.showable, h3]
  · simp only [PyData.depth]
    omega
  · have e : (PyData.tuple (lotsD L)).shown = tupleText (PyData.shownAll (lotsD L)) := by simp [PyData.shown]
    rw [e]
    refine Nat.le_trans t (Nat.le_trans (show _ ≤ 100000 by omega) ?_)
    rw [sizeLine_eq]
    decide
  · simp [PyData.hasDict, h5]
theorem two_lots {n : Nat} (n9 : n ≤ 9) {L : List (List Nat)} (h : ∀ l ∈ L, LotOk n l) (l5 : L.length ≤ 512) : Fine (.list [.tuple (lotsD L), .tuple (lotsD L)]) ∧ (PyData.list [.tuple (lotsD L), .tuple (lotsD L)]).hasDict = false := by
  obtain ⟨h1, h2, h3, h4, h5⟩ := klots_fine n9 h
  have t := tup_len (PyData.shownAll (lotsD L))
  have e : (PyData.tuple (lotsD L)).shown = tupleText (PyData.shownAll (lotsD L)) := by simp [PyData.shown]
  have ls := lst_len [(PyData.tuple (lotsD L)).shown, (PyData.tuple (lotsD L)).shown]
  refine ⟨⟨?_, ?_, ?_⟩, ?_⟩
  · simp [PyData.showable, PyData.showableAll, h3]
  · simp only [PyData.depth, PyData.depthAll]
    omega
  · have e2 : (PyData.list [.tuple (lotsD L), .tuple (lotsD L)]).shown = listText [(PyData.tuple (lotsD L)).shown, (PyData.tuple (lotsD L)).shown] := by simp [PyData.shown, PyData.shownAll]
    rw [e2]
    simp only [List.map_cons, List.map_nil, List.sum_cons, List.sum_nil, List.length_cons, List.length_nil] at ls
    rw [e] at ls ⊢
    refine Nat.le_trans ls (Nat.le_trans (show _ ≤ 100000 by omega) ?_)
    rw [sizeLine_eq]
    decide
  · simp [PyData.hasDict, PyData.hasDictAll, h5]
theorem twoE_fine : ∀ b : Bool, Fine (.list [.bool b, .bool b]) ∧ (PyData.list [.bool b, .bool b]).hasDict = false := by decide +kernel
def subL (a b : List Nat) : Bool := decide (a ≠ b) && a.all fun v => decide (v ∈ b)
def lessL (L : List (List Nat)) (lot : List Nat) : List (List Nat) := L.filter fun few => subL few lot
def ttLess (K : PySem.W.Frag) : TT := tAnd (tTest (tOp (rNeD K) (tVar 7) (tVar 6))) (tB (tCB (rAll K) (tCons (tLc (iTup K (tVar 7)) (gName 8) tYes (tOp (rIn K false) (tVar 8) (tVar 6)) [8]) tNil)))
def ttLeast (K : PySem.W.Frag) : TT := tTest (tOp (rEqNil K) (tLc (iList K (tVar 4)) (gName 7) (ttLess K) (tVar 7) [7]) (tLst tNil))
/-- the least of the lots that lack -/
theorem least_all {n : Nat} {es : List E2} (g : Good n es) {L : List (List Nat)} (up : L.Pairwise ltL) (mem : ∀ l, l ∈ L ↔ LotOk n l ∧ LackL es l) : OddAll n es (L.filter fun lot => (lessL L lot).isEmpty) := by
  refine ⟨up.filter _, fun l => ?_⟩
  rw [List.mem_filter, least_odd g, mem]
  refine and_congr_right fun _ => ?_
  rw [List.isEmpty_iff]
  unfold lessL
  rw [List.filter_eq_nil_iff]
  constructor
  · intro h few lo lk sub
    apply Classical.byContradiction
    intro ne
    refine h few ((mem few).mpr ⟨lo, lk⟩) ?_
    unfold subL
    rw [Bool.and_eq_true, decide_eq_true_eq, List.all_eq_true]
    exact ⟨ne, fun v hv => decide_eq_true (sub v hv)⟩
  · intro h few hf c
    unfold subL at c
    rw [Bool.and_eq_true, decide_eq_true_eq, List.all_eq_true] at c
    obtain ⟨lo, lk⟩ := (mem few).mp hf
    exact c.1 (h few lo lk fun v hv => of_decide_eq_true (c.2 v hv))
theorem ifAny {c : Bool} {a b : V} {σ : L2.St} {H : Hp} {Q : VK} {R : V → Prop} (ha : R a) (hb : R b) (h : ∀ v, R v → Q v H) : if c = true then tC a σ H Q else tC b σ H Q := by
  cases c
  · exact h b hb
  · exact h a ha
section
variable {P : Program} {w : World} {K : PySem.W.Frag} {mg : Str → Option Value} {base : Heap} {f fD fG fL fO fM fI fK fS : Addr} {fd dD dG dL dO dM dI dK dS : FuncData}
theorem ok_right (F : L2.Fun K "_law_right" "_law_right" sRight f fd)
    (GD : FnOk P w K mg base CX0 1 fD dD ["well", "many"] spDraw) (bD : L2.Binds K dD ["well", "many"] []) (kD : PySem.W.keepIn K (.ref fD) = true) (mD : mg "_law_draw" = some (.ref fD))
    (GG : FnOk P w K mg base CX0 4 fG dG ["well", "most"] (spGraph K)) (bG : L2.Binds K dG ["well", "most"] []) (kG : PySem.W.keepIn K (.ref fG) = true) (mG : mg "_law_graph" = some (.ref fG))
    (GL : FnOk P w K mg base CX0 3 fL dL ["well"] (spLone K)) (bL : L2.Binds K dL ["well"] []) (kL : PySem.W.keepIn K (.ref fL) = true) (mL : mg "_law_lone" = some (.ref fL))
    (GO : FnOk P w K mg base CX0 4 fO dO ["graph"] (spMinL K)) (bO : L2.Binds K dO ["graph"] []) (kO : PySem.W.keepIn K (.ref fO) = true) (mO : mg "_law_odd_lots" = some (.ref fO))
    (GM : FnOk P w K mg base CX0 7 fM dM ["graph"] (spMinL K)) (bM : L2.Binds K dM ["graph"] []) (bMk : ∀ (s : Shared) (u : Value), BindsTo s dM ⟨[], [(("graph" : Str), u)]⟩ ([("graph" : Str)].zip [u])) (kM : PySem.W.keepIn K (.ref fM) = true) (mM : mg "minimal_lots" = some (.ref fM))
    (GI : FnOk P w K mg base CX0 8 fI dI ["graph"] (spIsMin K)) (bI : L2.Binds K dI ["graph"] []) (bIk : ∀ (s : Shared) (u : Value), BindsTo s dI ⟨[], [(("graph" : Str), u)]⟩ ([("graph" : Str)].zip [u])) (kI : PySem.W.keepIn K (.ref fI) = true) (mI : mg "is_minimal" = some (.ref fI))
    (GK : FnOk P w K mg base CX0 13 fK dK ["graph"] (spLackX K)) (bK : L2.Binds K dK ["graph"] []) (kK : PySem.W.keepIn K (.ref fK) = true) (mK : mg "_law_lacking" = some (.ref fK))
    (GS : FnG P w K mg base CX0 1 fS dS ["told", "due"] (spSame K)) (bS : L2.Binds K dS ["told", "due"] []) (kS : PySem.W.keepIn K (.ref fS) = true) (mS : mg "_law_same" = some (.ref fS))
    (mr : mg "range" = none) (mt : mg "tuple" = none) (ma : mg "all" = none) : FnG P w K mg base CX0 14 f fd ["well"] spRight := by
  refine okG F scRight (fun vs H Q E h => ?_) (fun cdv A outer s0 H vs Q E gd hr h => ?_)
  · obtain ⟨p, rfl, _⟩ := h
    rfl
  obtain ⟨p, rfl, hW, q⟩ := h
  have gd' : (A.deeper (envOfC "_law_right" (defScope sRight) s0.heap.objs.size f cdv)).guards = some [] := gd
  have h1 := hr.mono (show 1 ≤ 13 by decide)
  have h3 := hr.mono (show 3 ≤ 13 by decide)
  have h4 := hr.mono (show 4 ≤ 13 by decide)
  have h7 := hr.mono (show 7 ≤ 13 by decide)
  have h8 := hr.mono (show 8 ≤ 13 by decide)
  refine ⟨_, pss_cons (ps_for PassesOwn.never rfl (pi_tup (pe_tup (pa_cons (pe_call GG h4 (by rfl) mG kG bG .nil pass0 (pa_cons (pv 0) (pa_cons (pe_ifExp (pt_cmpR op_eq (pe_call GD h1 (by rfl) mD kD bD .nil pass0 (pa_cons (pv 0) (pa_cons pe_int pa_nil))) pe_int (nomark _)) pe_int pe_int) pa_nil))) (pa_cons (pe_call GL h3 (by rfl) mL kL bL .nil pass0 (pa_cons (pv 0) pa_nil)) pa_nil)))) (pg_name (i := 1) scRight.nd rfl (.inl rfl))
      (pss_cons (ps_set (i := 2) scRight.nd rfl (.inl rfl) (pe_call GO h4 (by rfl) mO kO bO .nil pass0 (pa_cons (pv 1) pa_nil)))
      (pss_cons (ps_if (pt_not (pt_val (pe_callG GS gd' h1 (by rfl) mS kS bS pass0 (pa_cons (pe_lst (pa_cons (pe_call GM h7 (by rfl) mM kM bM .nil pass0 (pa_cons (pv 1) pa_nil)) (pa_cons (pe_kw1 (E := fun _ => E0) GM h7 (by rfl) mM kM bMk (fun _ => passAt0) (pk_cons (pv 1) pk_nil)) pa_nil))) (pa_cons (pe_lst (pa_cons (pv 2) (pa_cons (pv 2) pa_nil))) pa_nil))))) (pss_one (ps_ret pe_bl)) pss_nil)
      (pss_cons (ps_set (i := 3) scRight.nd rfl (.inl rfl) (pe_cmpR (op_eqD hr.units) (pv 2) (pe_tup (pa_cons (pe_tupRg rfl (by rfl) mt (prg_1 (by rfl) mr (pe_ix (r := rIxT K) ix_tup (pv 1) pe_int (fun _ _ => rfl)))) pa_nil)) (nomark _)))
      (pss_cons (ps_if (pt_not (pt_val (pe_callG GS gd' h1 (by rfl) mS kS bS pass0 (pa_cons (pe_lst (pa_cons (pe_call GI h8 (by rfl) mI kI bI .nil pass0 (pa_cons (pv 1) pa_nil)) (pa_cons (pe_kw1 (E := fun _ => E0) GI h8 (by rfl) mI kI bIk (fun _ => passAt0) (pk_cons (pv 1) pk_nil)) pa_nil))) (pa_cons (pe_lst (pa_cons (pv 3) (pa_cons (pv 3) pa_nil))) pa_nil))))) (pss_one (ps_ret pe_bl)) pss_nil)
      (pss_one (ps_if (pt_cmpR op_lt (pe_ix (r := rIxT K) ix_tup (pv 1) pe_int (fun _ _ => rfl)) pe_int (nomark _))
        (pss_cons (ps_set (i := 4) scRight.nd rfl (.inr rfl) (pe_call GK hr (by rfl) mK kK bK .nil pass0 (pa_cons (pv 1) pa_nil)))
        (pss_cons (ps_setLc (i := 5) (own := [("lot", 6)]) (g := gName 6) (tt := ttLeast K) rfl scRight.nd rfl rfl (sw_true rfl rfl rfl (by decide +kernel)) (pi_list (pv 4))
            (blkOk_by (N := ["well", "graph", "due", "is_one", "lots", "least", "lot", "few", "v"]) (sc := defScope sRight) (by decide +kernel)) (fun _ _ _ _ _ => pg_name (i := 6) scRight.nd rfl (Or.inr rfl))
            (fun _ _ _ _ _ => pts_one (pt_cmpR (op_eqNil hr.units) (pe_lc (own := [("few", 7)]) (g := gName 7) (tt := ttLess K) rfl scRight.nd (pi_list (pv 4))
              (blkOk_by (N := ["well", "graph", "due", "is_one", "lots", "least", "lot", "few", "v"]) rfl) (fun _ _ _ _ _ => pg_name (i := 7) scRight.nd rfl (Or.inl rfl))
              (fun _ _ _ _ _ => pts_one (PW.pt (pw_and (pt_cmpR (op_neD hr.units) (pv 7) (pv 6) (nomark _)) (pw_and1 (pt_val (pe_callB (id := "all") (r := rAll K) (cr_all rfl) (by rfl) ma (by decide +kernel) (pa_cons (pe_lc (own := [("v", 8)]) (g := gName 8) (tt := tYes) rfl scRight.nd (pi_tup (pv 7))
                (blkOk_by (N := ["well", "graph", "due", "is_one", "lots", "least", "lot", "few", "v"]) rfl) (fun _ _ _ _ _ => pg_name (i := 8) scRight.nd rfl (Or.inl rfl)) (fun _ _ _ _ _ => pts_nil)
                (fun _ _ _ _ _ => pe_cmpR (r := rIn K false) op_in_seq (pv 8) (pv 6) (by rfl))) pa_nil)))))))
              (fun _ _ _ _ _ => pv 7)) (pe_lst pa_nil) (nomark _)))
            (fun _ _ _ _ _ => pv 6))
        (pss_one (ps_if (pt_cmpR (op_neD hr.units) (pe_callTy call_tuple_of (by rfl) mt (by decide +kernel) (pa_cons (pv 5) pa_nil)) (pv 2) (nomark _)) (pss_one (ps_ret pe_bl)) pss_nil))))
        pss_nil)))))))
    (pss_one (ps_ret pe_bl)), ?_⟩
  have line : ∀ k, k ≤ 1000 → k ≤ sizeLine := fun k hk => small hk
  refine ⟨_, rfl, _, rfl, p, 4, rfl, hW, by decide, by decide, fun d H0 _ _ b0 w0 => ?_⟩
  refine ⟨rfl, _, rfl, ifAny (R := fun v => ∃ m : Nat, v = .int (m : Int) ∧ m ≤ 9) ⟨9, rfl, by decide⟩ ⟨7, rfl, by decide⟩ ?_⟩
  rintro _ ⟨m, rfl, m9⟩
  refine ⟨p, m, rfl, w0, m9, fun x1 n1 es1 H1 _ b1 w1 hx1 g1 => ?_⟩
  have b1 := b0.trans b1
  refine ⟨_, rfl, p, rfl, w1, fun x2 n2 es2 H2 b2 w2 hx2 g2 => ?_⟩
  have hx1 := GraphAt.ts (TS.but b2 w1) hx1
  refine ⟨line 2 (by decide), fun t nt => ?_⟩
  have st := same_new nt (.tup [x1, x2])
  have ht := upd_same (H := H2) (a := t) (o := .tup [x1, x2])
  generalize upd H2 t (.tup [x1, x2]) = H3 at st ht ⊢
  have hx1 := hx1.same st
  have hx2 := hx2.same st
  have w3 := w2.same st
  have b3 := b1.trans (b2.trans (But.of st))
  clear b1 b2 w1 w2 st nt
  refine ⟨t, rfl, ⟨_, SqT.of ht⟩, for_it (walk_tup (xs := [x1, x2])) (fun i σ H' => ∃ (s1 s2 s3 s4 s5 : Option V), σ = [some (.ref p), s1, s2, s3, s4, s5, none, none, none] ∧ But p H H' ∧ Wl H' p ∧ SqT K H' t [x1, x2] ∧ GraphAt K H' x1 n1 es1 ∧ GraphAt K H' x2 n2 es2) ⟨none, none, none, none, none, rfl, b3, w3, SqT.of ht, hx1, hx2⟩ (fun i σ H' _ ⟨_, _, _, _, _, _, _, _, h, _⟩ => h) ?_ ?_⟩
  rotate_left 1
  · rintro σ H4 ⟨_, _, _, _, _, rfl, b4, _⟩
    exact q H4 b4
  clear hx1 hx2 w3 b3 ht
  rintro i x σ H4' H4 li ⟨s1', s2', s3', s4', s5', rfl, b4, w4, ht, hx1, hx2⟩ ⟨rfl, hi⟩
  obtain ⟨n, es, g, hx⟩ : ∃ (n : Nat) (es : List E2), Good n es ∧ GraphAt K H4 x n es := by
    match i, li, hi with
    | 0, _, hi =>
      cases (Option.some.inj hi)
      exact ⟨_, _, g1, hx1⟩
    | 1, _, hi =>
      cases (Option.some.inj hi)
      exact ⟨_, _, g2, hx2⟩
  have done : ∀ (s1 s2 s3 s4 s5 : Option V) H5, Same H4 H5 → ∃ (s1' s2' s3' s4' s5' : Option V), [some (V.ref p), s1, s2, s3, s4, s5, none, none, none] = [some (.ref p), s1', s2', s3', s4', s5', none, none, none] ∧ But p H H5 ∧ Wl H5 p ∧ SqT K H5 t [x1, x2] ∧ GraphAt K H5 x1 n1 es1 ∧ GraphAt K H5 x2 n2 es2 := fun s1 s2 s3 s4 s5 H5 s =>
    ⟨_, _, _, _, _, rfl, b4.trans (But.of s), w4.same s, Same.tup s ht, hx1.same s, hx2.same s⟩
  clear hx1 hx2 ht b4 w4 hi
  have n9 := g.n9
  refine ⟨_, rfl, x, n, es, rfl, hx, g, fun T0 zs D H5 s5 hT hz od => ?_⟩
  have Dlo : ∀ l ∈ D, LotOk n l := fun l hl => ((od.2 l).mp hl).lo
  have Dfew : D.length ≤ 52 := odd_few g (od.1.imp fun {a b} h e => by rw [e] at h; exact ltL_asym h h) fun l hl => (od.2 l).mp hl
  obtain ⟨fD, kD⟩ := two_lots n9 Dlo (by omega)
  refine ⟨_, rfl, x, n, es, rfl, hx.same s5, g, fun T1 zs1 D1 H6 s6 hT1 hz1 od1 => ?_⟩
  obtain rfl := od1.uniq od
  have s56 := s5.trans s6
  refine ⟨_, rfl, x, n, es, rfl, hx.same s56, g, fun T2 zs2 D2 H7 s7 hT2 hz2 od2 => ?_⟩
  obtain rfl := od2.uniq od
  have s57 := s56.trans s7
  refine ⟨line 2 (by decide), fun A nA => ?_⟩
  have sA := same_new nA (.lst [.ref T1, .ref T2])
  have hA := upd_same (H := H7) (a := A) (o := .lst [.ref T1, .ref T2])
  generalize upd H7 A (.lst [.ref T1, .ref T2]) = H8 at sA hA ⊢
  refine ⟨_, rfl, _, rfl, line 2 (by decide), fun B nB => ?_⟩
  have sB := same_new nB (.lst [.ref T0, .ref T0])
  have hB := upd_same (H := H8) (a := B) (o := .lst [.ref T0, .ref T0])
  generalize upd H8 B (.lst [.ref T0, .ref T0]) = H9 at sB hB ⊢
  have sAB := sA.trans sB
  have dp : ∀ {T : Addr} {ws : List V} {D : List (List Nat)} {H' : Hp}, H' T = some (.tup ws) → LotsT H' ws D → Dp K H' (.ref T) (.tuple (lotsD D)) := fun h hw => .tup (SqT.of h) (klots_dp hw)
  have d0 := dp ((s6.trans (s7.trans sAB)) _ _ hT) (hz.same (s6.trans (s7.trans sAB)))
  have d1 := dp ((s7.trans sAB) _ _ hT1) (hz1.same (s7.trans sAB))
  have d2 := dp (sAB _ _ hT2) (hz2.same sAB)
  refine ⟨.ref A, .ref B, _, _, rfl, .dat (.lst (SqL.of (sB _ _ hA)) (.cons d1 (.cons d2 .nil))) kD, .dat (.lst (SqL.of hB) (.cons d0 (.cons d0 .nil))) kD, fD, fD, _, rfl, ?_⟩
  rw [decide_eq_true rfl]
  refine iteF ?_
  have s69 := s6.trans (s7.trans sAB)
  have hT := s69 _ _ hT
  have hz := hz.same s69
  have hx := hx.same (s5.trans s69)
  have s49 := s5.trans s69
  clear d0 d1 d2 hA hB sAB sA sB nA nB hT1 hT2 hz1 hz2 s57 s56 s7 s6 s69 s5 fD kD od1 od2
  obtain ⟨tg, eg, ys, rfl, htg, heg, hes⟩ := id hx
  have a0 : atI [V.int (n : Int), V.ref eg] 0 = some (.int (n : Int)) := atI_nat (j := 0) rfl
  refine ⟨_, rfl, _, rfl, tg, _, 0, _, rfl, rfl, htg, a0, (n : Int), rfl, RgOk.of_le (by omega) (by omega) (by omega) (by omega), fun r nr => ?_⟩
  rw [rg_nat]
  have s2 := same_new nr (.tup (numsN (List.range n)))
  have hr' := upd_same (H := H9) (a := r) (o := .tup (numsN (List.range n)))
  generalize upd H9 r (.tup (numsN (List.range n))) = HA at s2 hr' ⊢
  refine ⟨line 1 (by decide), fun y ny => ?_⟩
  have s3 := same_new ny (.tup [.ref r])
  have hy := upd_same (H := HA) (a := y) (o := .tup [.ref r])
  generalize upd HA y (.tup [.ref r]) = HB at s3 hy ⊢
  have s23 := s2.trans s3
  refine ⟨.tuple (lotsD D2), .tuple (lotsD [List.range n]), dp (s23 _ _ hT) (hz.same s23), .tup (SqT.of hy) (.cons (.tup (SqT.of (s3 _ _ hr')) (numsD_dp _)) .nil), lotsD_shT D2, lotsD_shT _, ?_⟩
  have ev : PyData.eqv (.tuple (lotsD D2)) (.tuple (lotsD [List.range n])) = decide (D2 = [List.range n]) := by
    simp only [PyData.eqv]
    exact lotsD_eqv _ _
  rw [ev]
  have hT := s23 _ _ hT
  have hz := hz.same s23
  have hx := hx.same s23
  have htg := Same.tup s23 htg
  have s4B := s49.trans s23
  clear hr' hy s2 s3 s23 nr ny s49
  refine ⟨_, rfl, .ref tg, n, es, rfl, hx, g, fun D3 HC sC od3 => ?_⟩
  obtain rfl := od3.uniq od
  refine ⟨_, rfl, .ref tg, n, es, rfl, hx.same sC, g, fun D4 HD sD od4 => ?_⟩
  obtain rfl := od4.uniq od
  obtain ⟨fb, kb⟩ := twoE_fine (decide (D4 = [List.range n]))
  generalize decide (D4 = [List.range n]) = b at fb kb ⊢
  have sCD := sC.trans sD
  refine ⟨line 2 (by decide), fun A nA => ?_⟩
  have sA := same_new nA (.lst [.bl b, .bl b])
  have hA := upd_same (H := HD) (a := A) (o := .lst [.bl b, .bl b])
  generalize upd HD A (.lst [.bl b, .bl b]) = HE at sA hA ⊢
  refine ⟨_, rfl, _, rfl, line 2 (by decide), fun B nB => ?_⟩
  have sB := same_new nB (.lst [.bl b, .bl b])
  have hB := upd_same (H := HE) (a := B) (o := .lst [.bl b, .bl b])
  generalize upd HE B (.lst [.bl b, .bl b]) = HF at sB hB ⊢
  have dd : ∀ (W : Addr), HF W = some (.lst [.bl b, .bl b]) → Dd K HF (.ref W) (.list [.bool b, .bool b]) := fun W h => .dat (.lst (SqL.of h) (.cons (.bl _) (.cons (.bl _) .nil))) kb
  refine ⟨.ref A, .ref B, _, _, rfl, dd A (sB _ _ hA), dd B hB, fb, fb, _, rfl, ?_⟩
  rw [decide_eq_true rfl]
  refine iteF ?_
  have sBF := sCD.trans (sA.trans sB)
  have hT := sBF _ _ hT
  have hz := hz.same sBF
  have hx := hx.same sBF
  have htg := Same.tup sBF htg
  have s4F := s4B.trans sBF
  clear dd hA hB sA sB nA nB sC sD sCD sBF s4B od3 od4 fb kb
  refine ⟨_, rfl, tg, _, 0, _, rfl, rfl, htg, a0, _, _, rfl, rfl, _, rfl, iteB (fun _ => ?_) (fun _ => done _ _ _ _ _ _ s4F)⟩
  refine ⟨_, rfl, .ref tg, n, es, rfl, hx, g, fun F1 us L HG sG hF hu up mem => ?_⟩
  have lL : L.length ≤ 512 := by
    have z := sub_few (l := L) (m := lotsN n) (up.imp fun {a b} h e => by rw [e] at h; exact ltL_asym h h) fun l hl => mem_lotsN.mpr ((mem l).mp hl).1
    rw [lotsN_len] at z
    exact Nat.le_trans z (Nat.le_trans (Nat.pow_le_pow_right (by decide) n9) (by decide))
  have lu := hu.len
  have leA := least_all g up mem
  refine ⟨_, rfl, F1, rfl, ⟨_, SqL.of hF⟩, fun B nB => lo_it (walk_list (xs := us)) (fun i H' => Same HG H' ∧ ∃ vs, H' B = some (.lst vs) ∧ LotsT H' vs ((L.take i).filter fun lot => (lessL L lot).isEmpty)) ⟨same_new nB _, [], upd_same, .nil⟩ (fun i H' _ ⟨s', _⟩ => SqL.of (s' _ _ hF)) ?_ ?_⟩
  · rintro i v _ H6 li ⟨s6, vs, hB, hv⟩ ⟨rfl, hi⟩
    obtain ⟨lot, hL, tl, rfl, htl⟩ := (hu.same s6).get hi
    have lv := hv.len
    have lv2 := List.length_filter_le (fun lot => (lessL L lot).isEmpty) (L.take i)
    rw [List.length_take] at lv2
    refine ⟨rfl, ?_⟩
    refine ⟨_, rfl, F1, rfl, ⟨_, SqL.of (s6 _ _ hF)⟩, fun B2 nB2 => lo_it (walk_list (xs := us)) (fun j H' => Same H6 H' ∧ ∃ ws, H' B2 = some (.lst ws) ∧ LotsT H' ws ((L.take j).filter fun few => subL few lot)) ⟨same_new nB2 _, [], upd_same, .nil⟩ (fun j H' _ ⟨s', _⟩ => SqL.of (s' _ _ (s6 _ _ hF))) ?_ ?_⟩
    · rintro j v _ H7 lj ⟨s7, ws, hB2, hw⟩ ⟨rfl, hj⟩
      obtain ⟨few, hfew, tf, rfl, htf⟩ := (hu.same (s6.trans s7)).get hj
      have lw := hw.len
      have lw2 := List.length_filter_le (fun few => subL few lot) (L.take j)
      rw [List.length_take] at lw2
      have htl7 := s7 _ _ htl
      have skip : ∀ H8, Same H7 H8 → subL few lot = false → Same H6 H8 ∧ ∃ ws, H8 B2 = some (.lst ws) ∧ LotsT H8 ws ((L.take (j + 1)).filter fun few => subL few lot) := fun H8 s8 c => by
        refine ⟨s7.trans s8, ws, s8 _ _ hB2, ?_⟩
        rw [take_succ hfew, List.filter_append, List.filter_cons_of_neg (p := fun few => subL few lot) (by rw [c]; decide), List.filter_nil, List.append_nil]
        exact hw.same s8
      refine ⟨rfl, ?_⟩
      refine ⟨_, rfl, _, rfl, .tuple (numsD few), .tuple (numsD lot), .tup (SqT.of htf) (numsD_dp _), .tup (SqT.of htl7) (numsD_dp _), numsD_shT _, numsD_shT _, _, rfl, ?_⟩
      rw [show PyData.eqv (.tuple (numsD few)) (.tuple (numsD lot)) = decide (few = lot) from by simp only [PyData.eqv]; exact numsD_eqv _ _]
      refine iteB (fun c1 => ?_) (fun c1 => iteF (skip _ (Same.refl _) ?_))
      rotate_left 1
      · have e : few = lot := by simpa using c1
        unfold subL
        rw [e]
        simp
      have ne : few ≠ lot := by simpa using c1
      have l9 : few.length ≤ 9 := Nat.le_trans ((mem few).mp (List.mem_of_getElem? hfew)).1.few n9
      have ln : (natV few).length = few.length := List.length_map _
      refine ⟨_, rfl, tf, rfl, ⟨_, SqT.of htf⟩, fun B3 nB3 => lo_it (walk_tup (xs := natV few)) (fun k H' => Same H7 H' ∧ H' B3 = some (.lst (((few.take k).map fun v => decide (v ∈ lot)).map V.bl))) ⟨same_new nB3 _, upd_same⟩ (fun k H' _ ⟨s', _⟩ => SqT.of (s' _ _ htf)) ?_ ?_⟩
      · rintro k v _ H8 lk ⟨s8, hB3⟩ ⟨rfl, hk⟩
        obtain ⟨z, hz', rfl⟩ : ∃ z, few[k]? = some z ∧ v = .int ((z : Nat) : Int) := by
          unfold natV at hk
          rw [List.getElem?_map] at hk
          cases e : few[k]? with
          | none => rw [e] at hk; cases hk
          | some z =>
            rw [e] at hk
            exact ⟨z, rfl, (Option.some.inj hk).symm⟩
        refine ⟨rfl, ?_⟩
        refine ⟨_, rfl, _, rfl, tl, natV lot, rfl, .inr (SqT.of (s8 _ _ htl7)), rfl, flat_nats _, ?_⟩
        rw [if_neg Bool.false_ne_true, great_notin]
        refine ⟨_, hB3, small1000 (by rw [List.length_map, List.length_map, List.length_take]; omega), same_put s8 nB3, ?_⟩
        rw [upd_same, take_succ hz', List.map_append, List.map_append]
        rfl
      · rintro H8 ⟨s8, hB3⟩
        rw [ln, List.take_length] at hB3
        refine ⟨B3, _, rfl, SqL.of hB3, _, rfl, ?_⟩
        rw [all_id]
        have ev : subL few lot = few.all fun v => decide (v ∈ lot) := by
          unfold subL
          rw [decide_eq_true ne]
          rfl
        refine iteB (fun c => ?_) (fun c => skip _ s8 (ev.trans c))
        refine ⟨_, rfl, ws, s8 _ _ hB2, small1000 (by omega), same_put (s7.trans s8) nB2, _, upd_same, ?_⟩
        rw [take_succ hfew, List.filter_append, List.filter_cons_of_pos (p := fun few => subL few lot) (ev.trans c), List.filter_nil]
        have x8 : LotT H8 (V.ref tf) few := ⟨tf, rfl, s8 _ _ htf⟩
        exact ((hw.same s8).put (s8 _ _ hB2)).snoc (x8.put (s8 _ _ hB2))
    · rintro H7 ⟨s7, ws, hB2, hw⟩
      rw [lu, List.take_length] at hw
      have lw := hw.len
      refine ⟨line 0 (by decide), fun e1 ne1 => ?_⟩
      have se := same_new ne1 (.lst [])
      refine ⟨B2, e1, ws, rfl, rfl, SqL.of (se _ _ hB2), SqL.of upd_same, _, rfl, ?_⟩
      have ee : ws.isEmpty = (lessL L lot).isEmpty := by
        unfold lessL
        generalize L.filter (fun few => subL few lot) = M at lw
        cases ws <;> cases M <;> simp_all
      rw [ee]
      have s8 := s7.trans se
      have hB8 := s8 _ _ hB
      generalize upd H7 e1 (.lst []) = H8 at se s8 hB8 ⊢
      refine iteB (fun c => ?_) (fun c => ?_)
      · refine ⟨_, rfl, vs, hB8, small1000 (by omega), same_put (s6.trans s8) nB, _, upd_same, ?_⟩
        rw [take_succ hL, List.filter_append, List.filter_cons_of_pos (p := fun lot => (lessL L lot).isEmpty) c, List.filter_nil]
        have x8 : LotT H8 (V.ref tl) lot := ⟨tl, rfl, s8 _ _ htl⟩
        exact ((hv.same s8).put hB8).snoc (x8.put hB8)
      · refine ⟨s6.trans s8, vs, hB8, ?_⟩
        rw [take_succ hL, List.filter_append, List.filter_cons_of_neg (p := fun lot => (lessL L lot).isEmpty) (by rw [c]; decide), List.filter_nil, List.append_nil]
        exact hv.same s8
  · rintro H6 ⟨s6, vs, hB, hv⟩
    rw [lu, List.take_length] at hv
    obtain e := leA.uniq od
    rw [e] at hv
    have sG6 := sG.trans s6
    refine ⟨_, rfl, B, vs, rfl, .inl ⟨SqL.of hB, fun T nT => ?_⟩⟩
    have sT := same_new nT (.tup vs)
    refine ⟨_, rfl, .tuple (lotsD _), .tuple (lotsD _), dp upd_same (hv.same sT), dp (sT _ _ (sG6 _ _ hT)) ((hz.same sG6).same sT), lotsD_shT _, lotsD_shT _, _, rfl, ?_⟩
    rw [show ∀ M, PyData.eqv (.tuple (lotsD M)) (.tuple (lotsD M)) = true from fun M => by simp only [PyData.eqv]; rw [lotsD_eqv, decide_eq_true rfl]]
    exact iteF (done _ _ _ _ _ _ (s4F.trans (sG6.trans sT)))
end
end My

set_option maxHeartbeats 4000000
/-! law, of the second family: a few turns, each right. -/
namespace My
open PySem PySem.Spec PyProof.Rows L2
abbrev sLaw : Stmt := top 48
theorem scLaw : FnScope ["script", "turn"] ["script"] (defScope sLaw) := ⟨rfl, rfl, rfl, by decide +kernel, rfl, by decide +kernel, by decide +kernel⟩
def spLaw (K : PySem.W.Frag) : Sp := fun vs H Q _ => ∃ (a : Addr) (ns : List Int), vs = [.ref a] ∧ SqL K H a (ns.map V.int) ∧ ns.length ≤ 63 ∧ ∀ H', Q (.bl true) H'
section
variable {P : Program} {w : World} {K : PySem.W.Frag} {mg : Str → Option Value} {base : Heap} {f fW fR : Addr} {fd dW dR : FuncData} {n : Nat}
theorem ok_law (F : L2.Fun K "law" "law" sLaw f fd) (GW : FnOk P w K mg base CX0 1 fW dW ["script", "turn"] (spWell K)) (bW : L2.Binds K dW ["script", "turn"] []) (kW : PySem.W.keepIn K (.ref fW) = true) (mW : mg "_law_well" = some (.ref fW))
    (GR : FnG P w K mg base CX0 (n + 1) fR dR ["well"] spRight) (bR : L2.Binds K dR ["well"] []) (kR : PySem.W.keepIn K (.ref fR) = true) (mR : mg "_law_right" = some (.ref fR))
    (mr : mg "range" = none) (ml : mg "len" = none) (ma : mg "all" = none) (mx : mg "max" = none) (mn : mg "min" = none) : FnG P w K mg base CX0 (n + 2) f fd ["script"] (spLaw K) := by
  refine okG F scLaw (fun vs H Q E h => ?_) (fun cdv A outer s H vs Q E gd hr h => ?_)
  · obtain ⟨a, ns, rfl, _⟩ := h
    rfl
  obtain ⟨a, ns, rfl, hS, h63, q⟩ := h
  have gd' : (A.deeper (envOfC "law" (defScope sLaw) s.heap.objs.size f cdv)).guards = some [] := gd
  refine ⟨_, pss_one (ps_ret (pe_callB (cr_all rfl) (by rfl) ma (by decide +kernel) (pa_cons (pe_lc (own := [("turn", 1)]) (g := gName 1) (tt := tYes) rfl scLaw.nd
      (pi_range1 rfl mr (pa_cons (pe_callB (call_max2 rfl) (by rfl) mx (by decide +kernel) (pa_cons pe_int (pa_cons (pe_callB (call_min2 rfl) (by rfl) mn (by decide +kernel) (pa_cons (pe_callB call_len_seq (by rfl) ml PySem.boot_len (pa_cons (pv 0) pa_nil)) (pa_cons pe_int pa_nil))) pa_nil))) pa_nil))
      (blkOk_by (N := ["script", "turn"]) (sc := defScope sLaw) (by decide +kernel)) (fun _ _ _ _ _ => pg_name (i := 1) scLaw.nd rfl (Or.inl rfl)) (fun _ _ _ _ _ => pts_nil)
      (fun _ _ _ _ _ => pe_callG GR gd' hr (by rfl) mR kR bR pass0 (pa_cons (pe_call GW (hr.mono (Nat.le_add_left 1 n)) (by rfl) mW kW bW .nil pass0 (pa_cons (pv 0) (pa_cons (pv 1) pa_nil))) pa_nil))) pa_nil))), ?_⟩
  have hl : (ns.map V.int).length = ns.length := List.length_map _
  refine ⟨_, rfl, a, _, rfl, .inl hS, _, _, rfl, _, _, rfl, ?_⟩
  rw [hl]
  obtain ⟨j, hj, j0, j3⟩ : ∃ j : Int, (if (if (2 : Int) < ((ns.length : Nat) : Int) then (2 : Int) else ((ns.length : Nat) : Int)) > 1 then (if (2 : Int) < ((ns.length : Nat) : Int) then (2 : Int) else ((ns.length : Nat) : Int)) else 1) = j ∧ 0 ≤ j ∧ j ≤ 2 := by
    refine ⟨_, rfl, ?_, ?_⟩
    · split <;> (try split) <;> omega
    · split <;> (try split) <;> omega
  rw [hj]
  refine ⟨j, rfl, by omega, by omega, fun D nD => lc_range (lo := 0) (n := j.toNat) (fun k H' => Same H H' ∧ H' D = some (.lst ((List.replicate k true).map V.bl))) ⟨same_new nD _, upd_same⟩ ?_ ?_⟩
  · rintro k H1 lk ⟨s1, hD⟩
    rw [Int.zero_add]
    refine ⟨rfl, ?_⟩
    refine ⟨_, rfl, _, rfl, a, ns, k, rfl, L2.Same.seq s1 hS, h63, by omega, fun H2 p s2 np wl => ⟨p, rfl, wl, fun H3 bt => ?_⟩⟩
    have s3 : Same H1 H3 := fun b o e => bt b o (ne_of_none e np) (s2 b o e)
    refine ⟨_, s3 _ _ hD, ?_, same_put (s1.trans s3) nD, ?_⟩
    · rw [List.length_map, List.length_replicate]
      exact small1000 (by omega)
    · rw [upd_same, List.replicate_succ', List.map_append]
      rfl
  · rintro H1 ⟨s1, hD⟩
    refine ⟨D, List.replicate j.toNat true, rfl, SqL.of hD, ?_⟩
    have e : (List.replicate j.toNat true).all id = true := by simp
    rw [e]
    exact q H1
end
end My

set_option maxHeartbeats 16000000
namespace My
open PySem PySem.Spec PyProof.Rows L2
theorem all_mk {l : PySem.W.OpenLaw} {w : World} {K : PySem.W.Frag} {h : Heap} {mg : Str → Option Value} {fa f_is_whole f_is_whole_from f_is_tuple_of_two f_is_ascending f_is_graph f_is_vertex_pair f_check_graph f_neighbour_masks f_lot_of f_clique_numbers f_chromatic_numbers f__stable_masks_by_greatest f_is_minimal f_minimal_lots f__lacking_masks f__law_well f__law_draw f__law_pick f__law_same f__law_of_pairs f__law_turned f__law_round f__law_called f__law_order f__law_random f__law_sides f__law_beside f__law_folded f__law_grown f__law_graph f__law_lots f__law_is_tied f__law_greatest f__law_is_coloured f__law_lacking f__law_going f__law_holes f__law_odd_lots f__law_lone f__law_right f_law : Addr} {tkV : Tok} (X : K.In h) (GN : h.Ns mainGlobals mg) (hfa : mg "law" = some (.ref fa))
    {fo_is_whole fk_is_whole fe_is_whole fm_is_whole fc_is_whole ft_is_whole : Value} {fD_is_whole fN_is_whole : Option Addr} {fS_is_whole : Array (Option Value)}
    (fa_is_whole : PySem.W.nsIn K mainGlobals "is_whole" = some (some (.ref f_is_whole)))
    (fl_is_whole : K.lookup f_is_whole = some ⟨fo_is_whole, fD_is_whole, .func (PySem.W.fnOf "is_whole" "is_whole" (defArgs (top 5)) (defBody (top 5)) (defScope (top 5)) .none fk_is_whole fe_is_whole fm_is_whole fN_is_whole fc_is_whole ft_is_whole), fS_is_whole⟩)
    (fcc_is_whole : PySem.W.codeIn K fc_is_whole "is_whole" = true)
    (fq_is_whole : PySem.W.keepIn K (.ref f_is_whole) = true)
    {fo_is_whole_from fk_is_whole_from fe_is_whole_from fm_is_whole_from fc_is_whole_from ft_is_whole_from : Value} {fD_is_whole_from fN_is_whole_from : Option Addr} {fS_is_whole_from : Array (Option Value)}
    (fa_is_whole_from : PySem.W.nsIn K mainGlobals "is_whole_from" = some (some (.ref f_is_whole_from)))
    (fl_is_whole_from : K.lookup f_is_whole_from = some ⟨fo_is_whole_from, fD_is_whole_from, .func (PySem.W.fnOf "is_whole_from" "is_whole_from" (defArgs (top 6)) (defBody (top 6)) (defScope (top 6)) .none fk_is_whole_from fe_is_whole_from fm_is_whole_from fN_is_whole_from fc_is_whole_from ft_is_whole_from), fS_is_whole_from⟩)
    (fcc_is_whole_from : PySem.W.codeIn K fc_is_whole_from "is_whole_from" = true)
    (fq_is_whole_from : PySem.W.keepIn K (.ref f_is_whole_from) = true)
    {fo_is_tuple_of_two fk_is_tuple_of_two fe_is_tuple_of_two fm_is_tuple_of_two fc_is_tuple_of_two ft_is_tuple_of_two : Value} {fD_is_tuple_of_two fN_is_tuple_of_two : Option Addr} {fS_is_tuple_of_two : Array (Option Value)}
    (fa_is_tuple_of_two : PySem.W.nsIn K mainGlobals "is_tuple_of_two" = some (some (.ref f_is_tuple_of_two)))
    (fl_is_tuple_of_two : K.lookup f_is_tuple_of_two = some ⟨fo_is_tuple_of_two, fD_is_tuple_of_two, .func (PySem.W.fnOf "is_tuple_of_two" "is_tuple_of_two" (defArgs (top 7)) (defBody (top 7)) (defScope (top 7)) .none fk_is_tuple_of_two fe_is_tuple_of_two fm_is_tuple_of_two fN_is_tuple_of_two fc_is_tuple_of_two ft_is_tuple_of_two), fS_is_tuple_of_two⟩)
    (fcc_is_tuple_of_two : PySem.W.codeIn K fc_is_tuple_of_two "is_tuple_of_two" = true)
    (fq_is_tuple_of_two : PySem.W.keepIn K (.ref f_is_tuple_of_two) = true)
    {fo_is_ascending fk_is_ascending fe_is_ascending fm_is_ascending fc_is_ascending ft_is_ascending : Value} {fD_is_ascending fN_is_ascending : Option Addr} {fS_is_ascending : Array (Option Value)}
    (fa_is_ascending : PySem.W.nsIn K mainGlobals "is_ascending" = some (some (.ref f_is_ascending)))
    (fl_is_ascending : K.lookup f_is_ascending = some ⟨fo_is_ascending, fD_is_ascending, .func (PySem.W.fnOf "is_ascending" "is_ascending" (defArgs (top 8)) (defBody (top 8)) (defScope (top 8)) .none fk_is_ascending fe_is_ascending fm_is_ascending fN_is_ascending fc_is_ascending ft_is_ascending), fS_is_ascending⟩)
    (fcc_is_ascending : PySem.W.codeIn K fc_is_ascending "is_ascending" = true)
    (fq_is_ascending : PySem.W.keepIn K (.ref f_is_ascending) = true)
    {fo_is_graph fk_is_graph fe_is_graph fm_is_graph fc_is_graph ft_is_graph : Value} {fD_is_graph fN_is_graph : Option Addr} {fS_is_graph : Array (Option Value)}
    (fa_is_graph : PySem.W.nsIn K mainGlobals "is_graph" = some (some (.ref f_is_graph)))
    (fl_is_graph : K.lookup f_is_graph = some ⟨fo_is_graph, fD_is_graph, .func (PySem.W.fnOf "is_graph" "is_graph" (defArgs (top 9)) (defBody (top 9)) (defScope (top 9)) .none fk_is_graph fe_is_graph fm_is_graph fN_is_graph fc_is_graph ft_is_graph), fS_is_graph⟩)
    (fcc_is_graph : PySem.W.codeIn K fc_is_graph "is_graph" = true)
    (fq_is_graph : PySem.W.keepIn K (.ref f_is_graph) = true)
    {fo_is_vertex_pair fk_is_vertex_pair fe_is_vertex_pair fm_is_vertex_pair fc_is_vertex_pair ft_is_vertex_pair : Value} {fD_is_vertex_pair fN_is_vertex_pair : Option Addr} {fS_is_vertex_pair : Array (Option Value)}
    (fa_is_vertex_pair : PySem.W.nsIn K mainGlobals "is_vertex_pair" = some (some (.ref f_is_vertex_pair)))
    (fl_is_vertex_pair : K.lookup f_is_vertex_pair = some ⟨fo_is_vertex_pair, fD_is_vertex_pair, .func (PySem.W.fnOf "is_vertex_pair" "is_vertex_pair" (defArgs (top 10)) (defBody (top 10)) (defScope (top 10)) .none fk_is_vertex_pair fe_is_vertex_pair fm_is_vertex_pair fN_is_vertex_pair fc_is_vertex_pair ft_is_vertex_pair), fS_is_vertex_pair⟩)
    (fcc_is_vertex_pair : PySem.W.codeIn K fc_is_vertex_pair "is_vertex_pair" = true)
    (fq_is_vertex_pair : PySem.W.keepIn K (.ref f_is_vertex_pair) = true)
    {fo_check_graph fk_check_graph fe_check_graph fm_check_graph fc_check_graph ft_check_graph : Value} {fD_check_graph fN_check_graph : Option Addr} {fS_check_graph : Array (Option Value)}
    (fa_check_graph : PySem.W.nsIn K mainGlobals "check_graph" = some (some (.ref f_check_graph)))
    (fl_check_graph : K.lookup f_check_graph = some ⟨fo_check_graph, fD_check_graph, .func (PySem.W.fnOf "check_graph" "check_graph" (defArgs (top 11)) (defBody (top 11)) (defScope (top 11)) .none fk_check_graph fe_check_graph fm_check_graph fN_check_graph fc_check_graph ft_check_graph), fS_check_graph⟩)
    (fcc_check_graph : PySem.W.codeIn K fc_check_graph "check_graph" = true)
    (fq_check_graph : PySem.W.keepIn K (.ref f_check_graph) = true)
    {fo_neighbour_masks fk_neighbour_masks fe_neighbour_masks fm_neighbour_masks fc_neighbour_masks ft_neighbour_masks : Value} {fD_neighbour_masks fN_neighbour_masks : Option Addr} {fS_neighbour_masks : Array (Option Value)}
    (fa_neighbour_masks : PySem.W.nsIn K mainGlobals "neighbour_masks" = some (some (.ref f_neighbour_masks)))
    (fl_neighbour_masks : K.lookup f_neighbour_masks = some ⟨fo_neighbour_masks, fD_neighbour_masks, .func (PySem.W.fnOf "neighbour_masks" "neighbour_masks" (defArgs (top 12)) (defBody (top 12)) (defScope (top 12)) .none fk_neighbour_masks fe_neighbour_masks fm_neighbour_masks fN_neighbour_masks fc_neighbour_masks ft_neighbour_masks), fS_neighbour_masks⟩)
    (fcc_neighbour_masks : PySem.W.codeIn K fc_neighbour_masks "neighbour_masks" = true)
    (fq_neighbour_masks : PySem.W.keepIn K (.ref f_neighbour_masks) = true)
    {fo_lot_of fk_lot_of fe_lot_of fm_lot_of fc_lot_of ft_lot_of : Value} {fD_lot_of fN_lot_of : Option Addr} {fS_lot_of : Array (Option Value)}
    (fa_lot_of : PySem.W.nsIn K mainGlobals "lot_of" = some (some (.ref f_lot_of)))
    (fl_lot_of : K.lookup f_lot_of = some ⟨fo_lot_of, fD_lot_of, .func (PySem.W.fnOf "lot_of" "lot_of" (defArgs (top 13)) (defBody (top 13)) (defScope (top 13)) .none fk_lot_of fe_lot_of fm_lot_of fN_lot_of fc_lot_of ft_lot_of), fS_lot_of⟩)
    (fcc_lot_of : PySem.W.codeIn K fc_lot_of "lot_of" = true)
    (fq_lot_of : PySem.W.keepIn K (.ref f_lot_of) = true)
    {fo_clique_numbers fk_clique_numbers fe_clique_numbers fm_clique_numbers fc_clique_numbers ft_clique_numbers : Value} {fD_clique_numbers fN_clique_numbers : Option Addr} {fS_clique_numbers : Array (Option Value)}
    (fa_clique_numbers : PySem.W.nsIn K mainGlobals "clique_numbers" = some (some (.ref f_clique_numbers)))
    (fl_clique_numbers : K.lookup f_clique_numbers = some ⟨fo_clique_numbers, fD_clique_numbers, .func (PySem.W.fnOf "clique_numbers" "clique_numbers" (defArgs (top 15)) (defBody (top 15)) (defScope (top 15)) .none fk_clique_numbers fe_clique_numbers fm_clique_numbers fN_clique_numbers fc_clique_numbers ft_clique_numbers), fS_clique_numbers⟩)
    (fcc_clique_numbers : PySem.W.codeIn K fc_clique_numbers "clique_numbers" = true)
    (fq_clique_numbers : PySem.W.keepIn K (.ref f_clique_numbers) = true)
    {fo_chromatic_numbers fk_chromatic_numbers fe_chromatic_numbers fm_chromatic_numbers fc_chromatic_numbers ft_chromatic_numbers : Value} {fD_chromatic_numbers fN_chromatic_numbers : Option Addr} {fS_chromatic_numbers : Array (Option Value)}
    (fa_chromatic_numbers : PySem.W.nsIn K mainGlobals "chromatic_numbers" = some (some (.ref f_chromatic_numbers)))
    (fl_chromatic_numbers : K.lookup f_chromatic_numbers = some ⟨fo_chromatic_numbers, fD_chromatic_numbers, .func (PySem.W.fnOf "chromatic_numbers" "chromatic_numbers" (defArgs (top 16)) (defBody (top 16)) (defScope (top 16)) .none fk_chromatic_numbers fe_chromatic_numbers fm_chromatic_numbers fN_chromatic_numbers fc_chromatic_numbers ft_chromatic_numbers), fS_chromatic_numbers⟩)
    (fcc_chromatic_numbers : PySem.W.codeIn K fc_chromatic_numbers "chromatic_numbers" = true)
    (fq_chromatic_numbers : PySem.W.keepIn K (.ref f_chromatic_numbers) = true)
    {fo__stable_masks_by_greatest fk__stable_masks_by_greatest fe__stable_masks_by_greatest fm__stable_masks_by_greatest fc__stable_masks_by_greatest ft__stable_masks_by_greatest : Value} {fD__stable_masks_by_greatest fN__stable_masks_by_greatest : Option Addr} {fS__stable_masks_by_greatest : Array (Option Value)}
    (fa__stable_masks_by_greatest : PySem.W.nsIn K mainGlobals "_stable_masks_by_greatest" = some (some (.ref f__stable_masks_by_greatest)))
    (fl__stable_masks_by_greatest : K.lookup f__stable_masks_by_greatest = some ⟨fo__stable_masks_by_greatest, fD__stable_masks_by_greatest, .func (PySem.W.fnOf "_stable_masks_by_greatest" "_stable_masks_by_greatest" (defArgs (top 17)) (defBody (top 17)) (defScope (top 17)) .none fk__stable_masks_by_greatest fe__stable_masks_by_greatest fm__stable_masks_by_greatest fN__stable_masks_by_greatest fc__stable_masks_by_greatest ft__stable_masks_by_greatest), fS__stable_masks_by_greatest⟩)
    (fcc__stable_masks_by_greatest : PySem.W.codeIn K fc__stable_masks_by_greatest "_stable_masks_by_greatest" = true)
    (fq__stable_masks_by_greatest : PySem.W.keepIn K (.ref f__stable_masks_by_greatest) = true)
    {fo_is_minimal fk_is_minimal fe_is_minimal fm_is_minimal fc_is_minimal ft_is_minimal : Value} {fD_is_minimal fN_is_minimal : Option Addr} {fS_is_minimal : Array (Option Value)}
    (fa_is_minimal : PySem.W.nsIn K mainGlobals "is_minimal" = some (some (.ref f_is_minimal)))
    (fl_is_minimal : K.lookup f_is_minimal = some ⟨fo_is_minimal, fD_is_minimal, .func (PySem.W.fnOf "is_minimal" "is_minimal" (defArgs (top 19)) (defBody (top 19)) (defScope (top 19)) .none fk_is_minimal fe_is_minimal fm_is_minimal fN_is_minimal fc_is_minimal ft_is_minimal), fS_is_minimal⟩)
    (fcc_is_minimal : PySem.W.codeIn K fc_is_minimal "is_minimal" = true)
    (fq_is_minimal : PySem.W.keepIn K (.ref f_is_minimal) = true)
    {fo_minimal_lots fk_minimal_lots fe_minimal_lots fm_minimal_lots fc_minimal_lots ft_minimal_lots : Value} {fD_minimal_lots fN_minimal_lots : Option Addr} {fS_minimal_lots : Array (Option Value)}
    (fa_minimal_lots : PySem.W.nsIn K mainGlobals "minimal_lots" = some (some (.ref f_minimal_lots)))
    (fl_minimal_lots : K.lookup f_minimal_lots = some ⟨fo_minimal_lots, fD_minimal_lots, .func (PySem.W.fnOf "minimal_lots" "minimal_lots" (defArgs (top 20)) (defBody (top 20)) (defScope (top 20)) .none fk_minimal_lots fe_minimal_lots fm_minimal_lots fN_minimal_lots fc_minimal_lots ft_minimal_lots), fS_minimal_lots⟩)
    (fcc_minimal_lots : PySem.W.codeIn K fc_minimal_lots "minimal_lots" = true)
    (fq_minimal_lots : PySem.W.keepIn K (.ref f_minimal_lots) = true)
    {fo__lacking_masks fk__lacking_masks fe__lacking_masks fm__lacking_masks fc__lacking_masks ft__lacking_masks : Value} {fD__lacking_masks fN__lacking_masks : Option Addr} {fS__lacking_masks : Array (Option Value)}
    (fa__lacking_masks : PySem.W.nsIn K mainGlobals "_lacking_masks" = some (some (.ref f__lacking_masks)))
    (fl__lacking_masks : K.lookup f__lacking_masks = some ⟨fo__lacking_masks, fD__lacking_masks, .func (PySem.W.fnOf "_lacking_masks" "_lacking_masks" (defArgs (top 21)) (defBody (top 21)) (defScope (top 21)) .none fk__lacking_masks fe__lacking_masks fm__lacking_masks fN__lacking_masks fc__lacking_masks ft__lacking_masks), fS__lacking_masks⟩)
    (fcc__lacking_masks : PySem.W.codeIn K fc__lacking_masks "_lacking_masks" = true)
    (fq__lacking_masks : PySem.W.keepIn K (.ref f__lacking_masks) = true)
    {fo__law_well fk__law_well fe__law_well fm__law_well fc__law_well ft__law_well : Value} {fD__law_well fN__law_well : Option Addr} {fS__law_well : Array (Option Value)}
    (fa__law_well : PySem.W.nsIn K mainGlobals "_law_well" = some (some (.ref f__law_well)))
    (fl__law_well : K.lookup f__law_well = some ⟨fo__law_well, fD__law_well, .func (PySem.W.fnOf "_law_well" "_law_well" (defArgs (top 23)) (defBody (top 23)) (defScope (top 23)) .none fk__law_well fe__law_well fm__law_well fN__law_well fc__law_well ft__law_well), fS__law_well⟩)
    (fcc__law_well : PySem.W.codeIn K fc__law_well "_law_well" = true)
    (fq__law_well : PySem.W.keepIn K (.ref f__law_well) = true)
    {fo__law_draw fk__law_draw fe__law_draw fm__law_draw fc__law_draw ft__law_draw : Value} {fD__law_draw fN__law_draw : Option Addr} {fS__law_draw : Array (Option Value)}
    (fa__law_draw : PySem.W.nsIn K mainGlobals "_law_draw" = some (some (.ref f__law_draw)))
    (fl__law_draw : K.lookup f__law_draw = some ⟨fo__law_draw, fD__law_draw, .func (PySem.W.fnOf "_law_draw" "_law_draw" (defArgs (top 24)) (defBody (top 24)) (defScope (top 24)) .none fk__law_draw fe__law_draw fm__law_draw fN__law_draw fc__law_draw ft__law_draw), fS__law_draw⟩)
    (fcc__law_draw : PySem.W.codeIn K fc__law_draw "_law_draw" = true)
    (fq__law_draw : PySem.W.keepIn K (.ref f__law_draw) = true)
    {fo__law_pick fk__law_pick fe__law_pick fm__law_pick fc__law_pick ft__law_pick : Value} {fD__law_pick fN__law_pick : Option Addr} {fS__law_pick : Array (Option Value)}
    (fa__law_pick : PySem.W.nsIn K mainGlobals "_law_pick" = some (some (.ref f__law_pick)))
    (fl__law_pick : K.lookup f__law_pick = some ⟨fo__law_pick, fD__law_pick, .func (PySem.W.fnOf "_law_pick" "_law_pick" (defArgs (top 25)) (defBody (top 25)) (defScope (top 25)) .none fk__law_pick fe__law_pick fm__law_pick fN__law_pick fc__law_pick ft__law_pick), fS__law_pick⟩)
    (fcc__law_pick : PySem.W.codeIn K fc__law_pick "_law_pick" = true)
    (fq__law_pick : PySem.W.keepIn K (.ref f__law_pick) = true)
    {fo__law_same fk__law_same fe__law_same fm__law_same fc__law_same ft__law_same : Value} {fD__law_same fN__law_same : Option Addr} {fS__law_same : Array (Option Value)}
    (fa__law_same : PySem.W.nsIn K mainGlobals "_law_same" = some (some (.ref f__law_same)))
    (fl__law_same : K.lookup f__law_same = some ⟨fo__law_same, fD__law_same, .func (PySem.W.fnOf "_law_same" "_law_same" (defArgs (top 26)) (defBody (top 26)) (defScope (top 26)) .none fk__law_same fe__law_same fm__law_same fN__law_same fc__law_same ft__law_same), fS__law_same⟩)
    (fcc__law_same : PySem.W.codeIn K fc__law_same "_law_same" = true)
    (fq__law_same : PySem.W.keepIn K (.ref f__law_same) = true)
    {fo__law_of_pairs fk__law_of_pairs fe__law_of_pairs fm__law_of_pairs fc__law_of_pairs ft__law_of_pairs : Value} {fD__law_of_pairs fN__law_of_pairs : Option Addr} {fS__law_of_pairs : Array (Option Value)}
    (fa__law_of_pairs : PySem.W.nsIn K mainGlobals "_law_of_pairs" = some (some (.ref f__law_of_pairs)))
    (fl__law_of_pairs : K.lookup f__law_of_pairs = some ⟨fo__law_of_pairs, fD__law_of_pairs, .func (PySem.W.fnOf "_law_of_pairs" "_law_of_pairs" (defArgs (top 27)) (defBody (top 27)) (defScope (top 27)) .none fk__law_of_pairs fe__law_of_pairs fm__law_of_pairs fN__law_of_pairs fc__law_of_pairs ft__law_of_pairs), fS__law_of_pairs⟩)
    (fcc__law_of_pairs : PySem.W.codeIn K fc__law_of_pairs "_law_of_pairs" = true)
    (fq__law_of_pairs : PySem.W.keepIn K (.ref f__law_of_pairs) = true)
    {fo__law_turned fk__law_turned fe__law_turned fm__law_turned fc__law_turned ft__law_turned : Value} {fD__law_turned fN__law_turned : Option Addr} {fS__law_turned : Array (Option Value)}
    (fa__law_turned : PySem.W.nsIn K mainGlobals "_law_turned" = some (some (.ref f__law_turned)))
    (fl__law_turned : K.lookup f__law_turned = some ⟨fo__law_turned, fD__law_turned, .func (PySem.W.fnOf "_law_turned" "_law_turned" (defArgs (top 28)) (defBody (top 28)) (defScope (top 28)) .none fk__law_turned fe__law_turned fm__law_turned fN__law_turned fc__law_turned ft__law_turned), fS__law_turned⟩)
    (fcc__law_turned : PySem.W.codeIn K fc__law_turned "_law_turned" = true)
    (fq__law_turned : PySem.W.keepIn K (.ref f__law_turned) = true)
    {fo__law_round fk__law_round fe__law_round fm__law_round fc__law_round ft__law_round : Value} {fD__law_round fN__law_round : Option Addr} {fS__law_round : Array (Option Value)}
    (fa__law_round : PySem.W.nsIn K mainGlobals "_law_round" = some (some (.ref f__law_round)))
    (fl__law_round : K.lookup f__law_round = some ⟨fo__law_round, fD__law_round, .func (PySem.W.fnOf "_law_round" "_law_round" (defArgs (top 29)) (defBody (top 29)) (defScope (top 29)) .none fk__law_round fe__law_round fm__law_round fN__law_round fc__law_round ft__law_round), fS__law_round⟩)
    (fcc__law_round : PySem.W.codeIn K fc__law_round "_law_round" = true)
    (fq__law_round : PySem.W.keepIn K (.ref f__law_round) = true)
    {fo__law_called fk__law_called fe__law_called fm__law_called fc__law_called ft__law_called : Value} {fD__law_called fN__law_called : Option Addr} {fS__law_called : Array (Option Value)}
    (fa__law_called : PySem.W.nsIn K mainGlobals "_law_called" = some (some (.ref f__law_called)))
    (fl__law_called : K.lookup f__law_called = some ⟨fo__law_called, fD__law_called, .func (PySem.W.fnOf "_law_called" "_law_called" (defArgs (top 30)) (defBody (top 30)) (defScope (top 30)) .none fk__law_called fe__law_called fm__law_called fN__law_called fc__law_called ft__law_called), fS__law_called⟩)
    (fcc__law_called : PySem.W.codeIn K fc__law_called "_law_called" = true)
    (fq__law_called : PySem.W.keepIn K (.ref f__law_called) = true)
    {fo__law_order fk__law_order fe__law_order fm__law_order fc__law_order ft__law_order : Value} {fD__law_order fN__law_order : Option Addr} {fS__law_order : Array (Option Value)}
    (fa__law_order : PySem.W.nsIn K mainGlobals "_law_order" = some (some (.ref f__law_order)))
    (fl__law_order : K.lookup f__law_order = some ⟨fo__law_order, fD__law_order, .func (PySem.W.fnOf "_law_order" "_law_order" (defArgs (top 31)) (defBody (top 31)) (defScope (top 31)) .none fk__law_order fe__law_order fm__law_order fN__law_order fc__law_order ft__law_order), fS__law_order⟩)
    (fcc__law_order : PySem.W.codeIn K fc__law_order "_law_order" = true)
    (fq__law_order : PySem.W.keepIn K (.ref f__law_order) = true)
    {fo__law_random fk__law_random fe__law_random fm__law_random fc__law_random ft__law_random : Value} {fD__law_random fN__law_random : Option Addr} {fS__law_random : Array (Option Value)}
    (fa__law_random : PySem.W.nsIn K mainGlobals "_law_random" = some (some (.ref f__law_random)))
    (fl__law_random : K.lookup f__law_random = some ⟨fo__law_random, fD__law_random, .func (PySem.W.fnOf "_law_random" "_law_random" (defArgs (top 32)) (defBody (top 32)) (defScope (top 32)) .none fk__law_random fe__law_random fm__law_random fN__law_random fc__law_random ft__law_random), fS__law_random⟩)
    (fcc__law_random : PySem.W.codeIn K fc__law_random "_law_random" = true)
    (fq__law_random : PySem.W.keepIn K (.ref f__law_random) = true)
    {fo__law_sides fk__law_sides fe__law_sides fm__law_sides fc__law_sides ft__law_sides : Value} {fD__law_sides fN__law_sides : Option Addr} {fS__law_sides : Array (Option Value)}
    (fa__law_sides : PySem.W.nsIn K mainGlobals "_law_sides" = some (some (.ref f__law_sides)))
    (fl__law_sides : K.lookup f__law_sides = some ⟨fo__law_sides, fD__law_sides, .func (PySem.W.fnOf "_law_sides" "_law_sides" (defArgs (top 33)) (defBody (top 33)) (defScope (top 33)) .none fk__law_sides fe__law_sides fm__law_sides fN__law_sides fc__law_sides ft__law_sides), fS__law_sides⟩)
    (fcc__law_sides : PySem.W.codeIn K fc__law_sides "_law_sides" = true)
    (fq__law_sides : PySem.W.keepIn K (.ref f__law_sides) = true)
    {fo__law_beside fk__law_beside fe__law_beside fm__law_beside fc__law_beside ft__law_beside : Value} {fD__law_beside fN__law_beside : Option Addr} {fS__law_beside : Array (Option Value)}
    (fa__law_beside : PySem.W.nsIn K mainGlobals "_law_beside" = some (some (.ref f__law_beside)))
    (fl__law_beside : K.lookup f__law_beside = some ⟨fo__law_beside, fD__law_beside, .func (PySem.W.fnOf "_law_beside" "_law_beside" (defArgs (top 34)) (defBody (top 34)) (defScope (top 34)) .none fk__law_beside fe__law_beside fm__law_beside fN__law_beside fc__law_beside ft__law_beside), fS__law_beside⟩)
    (fcc__law_beside : PySem.W.codeIn K fc__law_beside "_law_beside" = true)
    (fq__law_beside : PySem.W.keepIn K (.ref f__law_beside) = true)
    {fo__law_folded fk__law_folded fe__law_folded fm__law_folded fc__law_folded ft__law_folded : Value} {fD__law_folded fN__law_folded : Option Addr} {fS__law_folded : Array (Option Value)}
    (fa__law_folded : PySem.W.nsIn K mainGlobals "_law_folded" = some (some (.ref f__law_folded)))
    (fl__law_folded : K.lookup f__law_folded = some ⟨fo__law_folded, fD__law_folded, .func (PySem.W.fnOf "_law_folded" "_law_folded" (defArgs (top 35)) (defBody (top 35)) (defScope (top 35)) .none fk__law_folded fe__law_folded fm__law_folded fN__law_folded fc__law_folded ft__law_folded), fS__law_folded⟩)
    (fcc__law_folded : PySem.W.codeIn K fc__law_folded "_law_folded" = true)
    (fq__law_folded : PySem.W.keepIn K (.ref f__law_folded) = true)
    {fo__law_grown fk__law_grown fe__law_grown fm__law_grown fc__law_grown ft__law_grown : Value} {fD__law_grown fN__law_grown : Option Addr} {fS__law_grown : Array (Option Value)}
    (fa__law_grown : PySem.W.nsIn K mainGlobals "_law_grown" = some (some (.ref f__law_grown)))
    (fl__law_grown : K.lookup f__law_grown = some ⟨fo__law_grown, fD__law_grown, .func (PySem.W.fnOf "_law_grown" "_law_grown" (defArgs (top 36)) (defBody (top 36)) (defScope (top 36)) .none fk__law_grown fe__law_grown fm__law_grown fN__law_grown fc__law_grown ft__law_grown), fS__law_grown⟩)
    (fcc__law_grown : PySem.W.codeIn K fc__law_grown "_law_grown" = true)
    (fq__law_grown : PySem.W.keepIn K (.ref f__law_grown) = true)
    {fo__law_graph fk__law_graph fe__law_graph fm__law_graph fc__law_graph ft__law_graph : Value} {fD__law_graph fN__law_graph : Option Addr} {fS__law_graph : Array (Option Value)}
    (fa__law_graph : PySem.W.nsIn K mainGlobals "_law_graph" = some (some (.ref f__law_graph)))
    (fl__law_graph : K.lookup f__law_graph = some ⟨fo__law_graph, fD__law_graph, .func (PySem.W.fnOf "_law_graph" "_law_graph" (defArgs (top 37)) (defBody (top 37)) (defScope (top 37)) .none fk__law_graph fe__law_graph fm__law_graph fN__law_graph fc__law_graph ft__law_graph), fS__law_graph⟩)
    (fcc__law_graph : PySem.W.codeIn K fc__law_graph "_law_graph" = true)
    (fq__law_graph : PySem.W.keepIn K (.ref f__law_graph) = true)
    {fo__law_lots fk__law_lots fe__law_lots fm__law_lots fc__law_lots ft__law_lots : Value} {fD__law_lots fN__law_lots : Option Addr} {fS__law_lots : Array (Option Value)}
    (fa__law_lots : PySem.W.nsIn K mainGlobals "_law_lots" = some (some (.ref f__law_lots)))
    (fl__law_lots : K.lookup f__law_lots = some ⟨fo__law_lots, fD__law_lots, .func (PySem.W.fnOf "_law_lots" "_law_lots" (defArgs (top 38)) (defBody (top 38)) (defScope (top 38)) .none fk__law_lots fe__law_lots fm__law_lots fN__law_lots fc__law_lots ft__law_lots), fS__law_lots⟩)
    (fcc__law_lots : PySem.W.codeIn K fc__law_lots "_law_lots" = true)
    (fq__law_lots : PySem.W.keepIn K (.ref f__law_lots) = true)
    {fo__law_is_tied fk__law_is_tied fe__law_is_tied fm__law_is_tied fc__law_is_tied ft__law_is_tied : Value} {fD__law_is_tied fN__law_is_tied : Option Addr} {fS__law_is_tied : Array (Option Value)}
    (fa__law_is_tied : PySem.W.nsIn K mainGlobals "_law_is_tied" = some (some (.ref f__law_is_tied)))
    (fl__law_is_tied : K.lookup f__law_is_tied = some ⟨fo__law_is_tied, fD__law_is_tied, .func (PySem.W.fnOf "_law_is_tied" "_law_is_tied" (defArgs (top 39)) (defBody (top 39)) (defScope (top 39)) .none fk__law_is_tied fe__law_is_tied fm__law_is_tied fN__law_is_tied fc__law_is_tied ft__law_is_tied), fS__law_is_tied⟩)
    (fcc__law_is_tied : PySem.W.codeIn K fc__law_is_tied "_law_is_tied" = true)
    (fq__law_is_tied : PySem.W.keepIn K (.ref f__law_is_tied) = true)
    {fo__law_greatest fk__law_greatest fe__law_greatest fm__law_greatest fc__law_greatest ft__law_greatest : Value} {fD__law_greatest fN__law_greatest : Option Addr} {fS__law_greatest : Array (Option Value)}
    (fa__law_greatest : PySem.W.nsIn K mainGlobals "_law_greatest" = some (some (.ref f__law_greatest)))
    (fl__law_greatest : K.lookup f__law_greatest = some ⟨fo__law_greatest, fD__law_greatest, .func (PySem.W.fnOf "_law_greatest" "_law_greatest" (defArgs (top 40)) (defBody (top 40)) (defScope (top 40)) .none fk__law_greatest fe__law_greatest fm__law_greatest fN__law_greatest fc__law_greatest ft__law_greatest), fS__law_greatest⟩)
    (fcc__law_greatest : PySem.W.codeIn K fc__law_greatest "_law_greatest" = true)
    (fq__law_greatest : PySem.W.keepIn K (.ref f__law_greatest) = true)
    {fo__law_is_coloured fk__law_is_coloured fe__law_is_coloured fm__law_is_coloured fc__law_is_coloured ft__law_is_coloured : Value} {fD__law_is_coloured fN__law_is_coloured : Option Addr} {fS__law_is_coloured : Array (Option Value)}
    (fa__law_is_coloured : PySem.W.nsIn K mainGlobals "_law_is_coloured" = some (some (.ref f__law_is_coloured)))
    (fl__law_is_coloured : K.lookup f__law_is_coloured = some ⟨fo__law_is_coloured, fD__law_is_coloured, .func (PySem.W.fnOf "_law_is_coloured" "_law_is_coloured" (defArgs (top 41)) (defBody (top 41)) (defScope (top 41)) .none fk__law_is_coloured fe__law_is_coloured fm__law_is_coloured fN__law_is_coloured fc__law_is_coloured ft__law_is_coloured), fS__law_is_coloured⟩)
    (fcc__law_is_coloured : PySem.W.codeIn K fc__law_is_coloured "_law_is_coloured" = true)
    (fq__law_is_coloured : PySem.W.keepIn K (.ref f__law_is_coloured) = true)
    {fo__law_lacking fk__law_lacking fe__law_lacking fm__law_lacking fc__law_lacking ft__law_lacking : Value} {fD__law_lacking fN__law_lacking : Option Addr} {fS__law_lacking : Array (Option Value)}
    (fa__law_lacking : PySem.W.nsIn K mainGlobals "_law_lacking" = some (some (.ref f__law_lacking)))
    (fl__law_lacking : K.lookup f__law_lacking = some ⟨fo__law_lacking, fD__law_lacking, .func (PySem.W.fnOf "_law_lacking" "_law_lacking" (defArgs (top 42)) (defBody (top 42)) (defScope (top 42)) .none fk__law_lacking fe__law_lacking fm__law_lacking fN__law_lacking fc__law_lacking ft__law_lacking), fS__law_lacking⟩)
    (fcc__law_lacking : PySem.W.codeIn K fc__law_lacking "_law_lacking" = true)
    (fq__law_lacking : PySem.W.keepIn K (.ref f__law_lacking) = true)
    {fo__law_going fk__law_going fe__law_going fm__law_going fc__law_going ft__law_going : Value} {fD__law_going fN__law_going : Option Addr} {fS__law_going : Array (Option Value)}
    (fa__law_going : PySem.W.nsIn K mainGlobals "_law_going" = some (some (.ref f__law_going)))
    (fl__law_going : K.lookup f__law_going = some ⟨fo__law_going, fD__law_going, .func (PySem.W.fnOf "_law_going" "_law_going" (defArgs (top 43)) (defBody (top 43)) (defScope (top 43)) .none fk__law_going fe__law_going fm__law_going fN__law_going fc__law_going ft__law_going), fS__law_going⟩)
    (fcc__law_going : PySem.W.codeIn K fc__law_going "_law_going" = true)
    (fq__law_going : PySem.W.keepIn K (.ref f__law_going) = true)
    {fo__law_holes fk__law_holes fe__law_holes fm__law_holes fc__law_holes ft__law_holes : Value} {fD__law_holes fN__law_holes : Option Addr} {fS__law_holes : Array (Option Value)}
    (fa__law_holes : PySem.W.nsIn K mainGlobals "_law_holes" = some (some (.ref f__law_holes)))
    (fl__law_holes : K.lookup f__law_holes = some ⟨fo__law_holes, fD__law_holes, .func (PySem.W.fnOf "_law_holes" "_law_holes" (defArgs (top 44)) (defBody (top 44)) (defScope (top 44)) .none fk__law_holes fe__law_holes fm__law_holes fN__law_holes fc__law_holes ft__law_holes), fS__law_holes⟩)
    (fcc__law_holes : PySem.W.codeIn K fc__law_holes "_law_holes" = true)
    (fq__law_holes : PySem.W.keepIn K (.ref f__law_holes) = true)
    {fo__law_odd_lots fk__law_odd_lots fe__law_odd_lots fm__law_odd_lots fc__law_odd_lots ft__law_odd_lots : Value} {fD__law_odd_lots fN__law_odd_lots : Option Addr} {fS__law_odd_lots : Array (Option Value)}
    (fa__law_odd_lots : PySem.W.nsIn K mainGlobals "_law_odd_lots" = some (some (.ref f__law_odd_lots)))
    (fl__law_odd_lots : K.lookup f__law_odd_lots = some ⟨fo__law_odd_lots, fD__law_odd_lots, .func (PySem.W.fnOf "_law_odd_lots" "_law_odd_lots" (defArgs (top 45)) (defBody (top 45)) (defScope (top 45)) .none fk__law_odd_lots fe__law_odd_lots fm__law_odd_lots fN__law_odd_lots fc__law_odd_lots ft__law_odd_lots), fS__law_odd_lots⟩)
    (fcc__law_odd_lots : PySem.W.codeIn K fc__law_odd_lots "_law_odd_lots" = true)
    (fq__law_odd_lots : PySem.W.keepIn K (.ref f__law_odd_lots) = true)
    {fo__law_lone fk__law_lone fe__law_lone fm__law_lone fc__law_lone ft__law_lone : Value} {fD__law_lone fN__law_lone : Option Addr} {fS__law_lone : Array (Option Value)}
    (fa__law_lone : PySem.W.nsIn K mainGlobals "_law_lone" = some (some (.ref f__law_lone)))
    (fl__law_lone : K.lookup f__law_lone = some ⟨fo__law_lone, fD__law_lone, .func (PySem.W.fnOf "_law_lone" "_law_lone" (defArgs (top 46)) (defBody (top 46)) (defScope (top 46)) .none fk__law_lone fe__law_lone fm__law_lone fN__law_lone fc__law_lone ft__law_lone), fS__law_lone⟩)
    (fcc__law_lone : PySem.W.codeIn K fc__law_lone "_law_lone" = true)
    (fq__law_lone : PySem.W.keepIn K (.ref f__law_lone) = true)
    {fo__law_right fk__law_right fe__law_right fm__law_right fc__law_right ft__law_right : Value} {fD__law_right fN__law_right : Option Addr} {fS__law_right : Array (Option Value)}
    (fa__law_right : PySem.W.nsIn K mainGlobals "_law_right" = some (some (.ref f__law_right)))
    (fl__law_right : K.lookup f__law_right = some ⟨fo__law_right, fD__law_right, .func (PySem.W.fnOf "_law_right" "_law_right" (defArgs (top 47)) (defBody (top 47)) (defScope (top 47)) .none fk__law_right fe__law_right fm__law_right fN__law_right fc__law_right ft__law_right), fS__law_right⟩)
    (fcc__law_right : PySem.W.codeIn K fc__law_right "_law_right" = true)
    (fq__law_right : PySem.W.keepIn K (.ref f__law_right) = true)
    {fo_law fk_law fe_law fm_law fc_law ft_law : Value} {fD_law fN_law : Option Addr} {fS_law : Array (Option Value)}
    (fa_law : PySem.W.nsIn K mainGlobals "law" = some (some (.ref f_law)))
    (fl_law : K.lookup f_law = some ⟨fo_law, fD_law, .func (PySem.W.fnOf "law" "law" (defArgs (top 48)) (defBody (top 48)) (defScope (top 48)) .none fk_law fe_law fm_law fN_law fc_law ft_law), fS_law⟩)
    (fcc_law : PySem.W.codeIn K fc_law "law" = true)
    (fq_law : PySem.W.keepIn K (.ref f_law) = true)
    (gV : PySem.W.nsIn K mainGlobals "MOST_VERTICES" = some (some (.int 9 tkV)))
    (z_len : PySem.W.nsIn K mainGlobals "len" = some none)
    (z_int : PySem.W.nsIn K mainGlobals "int" = some none)
    (z_abs : PySem.W.nsIn K mainGlobals "abs" = some none)
    (z_divmod : PySem.W.nsIn K mainGlobals "divmod" = some none)
    (z_repr : PySem.W.nsIn K mainGlobals "repr" = some none)
    (z_range : PySem.W.nsIn K mainGlobals "range" = some none)
    (z_all : PySem.W.nsIn K mainGlobals "all" = some none)
    (z_any : PySem.W.nsIn K mainGlobals "any" = some none)
    (z_max : PySem.W.nsIn K mainGlobals "max" = some none)
    (z_min : PySem.W.nsIn K mainGlobals "min" = some none)
    (z_list : PySem.W.nsIn K mainGlobals "list" = some none)
    (z_tuple : PySem.W.nsIn K mainGlobals "tuple" = some none)
    (z_sorted : PySem.W.nsIn K mainGlobals "sorted" = some none)
    (z_type : PySem.W.nsIn K mainGlobals "type" = some none)
    (z_set : PySem.W.nsIn K mainGlobals "set" = some none)
    (z_zip : PySem.W.nsIn K mainGlobals "zip" = some none)
    (z_sum : PySem.W.nsIn K mainGlobals "sum" = some none)
    (z_enumerate : PySem.W.nsIn K mainGlobals "enumerate" = some none)
    : ∃ fd : FuncData, (∀ (s : Shared) (v : Value), BindsTo s fd ⟨[v], []⟩ [("script", v)]) ∧ ∀ base : Heap, K.In base → base.Ns mainGlobals mg → FnG l.prog w K mg base CX0 15 fa fd ["script"] (spLaw K) := by
  have e := hfa.symm.trans (PySem.W.mg_of X GN fa_law)
  cases e
  have F_is_whole := fun_mk (st := top 5) fl_is_whole fcc_is_whole fq_is_whole
  have B_is_whole := F_is_whole.binds (ps := ["value", "low", "high"]) fun _ _ _ _ _ _ us hl => match us, hl with | [_, _, _], _ => rfl
  have F_is_whole_from := fun_mk (st := top 6) fl_is_whole_from fcc_is_whole_from fq_is_whole_from
  have B_is_whole_from := F_is_whole_from.binds (ps := ["value", "low"]) fun _ _ _ _ _ _ us hl => match us, hl with | [_, _], _ => rfl
  have F_is_tuple_of_two := fun_mk (st := top 7) fl_is_tuple_of_two fcc_is_tuple_of_two fq_is_tuple_of_two
  have B_is_tuple_of_two := F_is_tuple_of_two.binds (ps := ["value"]) fun _ _ _ _ _ _ us hl => match us, hl with | [_], _ => rfl
  have F_is_ascending := fun_mk (st := top 8) fl_is_ascending fcc_is_ascending fq_is_ascending
  have B_is_ascending := F_is_ascending.binds (ps := ["row"]) fun _ _ _ _ _ _ us hl => match us, hl with | [_], _ => rfl
  have F_is_graph := fun_mk (st := top 9) fl_is_graph fcc_is_graph fq_is_graph
  have B_is_graph := F_is_graph.binds (ps := ["value"]) fun _ _ _ _ _ _ us hl => match us, hl with | [_], _ => rfl
  have F_is_vertex_pair := fun_mk (st := top 10) fl_is_vertex_pair fcc_is_vertex_pair fq_is_vertex_pair
  have B_is_vertex_pair := F_is_vertex_pair.binds (ps := ["value", "many"]) fun _ _ _ _ _ _ us hl => match us, hl with | [_, _], _ => rfl
  have F_check_graph := fun_mk (st := top 11) fl_check_graph fcc_check_graph fq_check_graph
  have B_check_graph := F_check_graph.binds (ps := ["graph"]) fun _ _ _ _ _ _ us hl => match us, hl with | [_], _ => rfl
  have F_neighbour_masks := fun_mk (st := top 12) fl_neighbour_masks fcc_neighbour_masks fq_neighbour_masks
  have B_neighbour_masks := F_neighbour_masks.binds (ps := ["graph"]) fun _ _ _ _ _ _ us hl => match us, hl with | [_], _ => rfl
  have F_lot_of := fun_mk (st := top 13) fl_lot_of fcc_lot_of fq_lot_of
  have B_lot_of := F_lot_of.binds (ps := ["mask"]) fun _ _ _ _ _ _ us hl => match us, hl with | [_], _ => rfl
  have F_clique_numbers := fun_mk (st := top 15) fl_clique_numbers fcc_clique_numbers fq_clique_numbers
  have B_clique_numbers := F_clique_numbers.binds (ps := ["neighbours"]) fun _ _ _ _ _ _ us hl => match us, hl with | [_], _ => rfl
  have F_chromatic_numbers := fun_mk (st := top 16) fl_chromatic_numbers fcc_chromatic_numbers fq_chromatic_numbers
  have B_chromatic_numbers := F_chromatic_numbers.binds (ps := ["neighbours"]) fun _ _ _ _ _ _ us hl => match us, hl with | [_], _ => rfl
  have F__stable_masks_by_greatest := fun_mk (st := top 17) fl__stable_masks_by_greatest fcc__stable_masks_by_greatest fq__stable_masks_by_greatest
  have B__stable_masks_by_greatest := F__stable_masks_by_greatest.binds (ps := ["neighbours"]) fun _ _ _ _ _ _ us hl => match us, hl with | [_], _ => rfl
  have F_is_minimal := fun_mk (st := top 19) fl_is_minimal fcc_is_minimal fq_is_minimal
  have B_is_minimal := F_is_minimal.binds (ps := ["graph"]) fun _ _ _ _ _ _ us hl => match us, hl with | [_], _ => rfl
  have F_minimal_lots := fun_mk (st := top 20) fl_minimal_lots fcc_minimal_lots fq_minimal_lots
  have B_minimal_lots := F_minimal_lots.binds (ps := ["graph"]) fun _ _ _ _ _ _ us hl => match us, hl with | [_], _ => rfl
  have F__lacking_masks := fun_mk (st := top 21) fl__lacking_masks fcc__lacking_masks fq__lacking_masks
  have B__lacking_masks := F__lacking_masks.binds (ps := ["graph"]) fun _ _ _ _ _ _ us hl => match us, hl with | [_], _ => rfl
  have F__law_well := fun_mk (st := top 23) fl__law_well fcc__law_well fq__law_well
  have B__law_well := F__law_well.binds (ps := ["script", "turn"]) fun _ _ _ _ _ _ us hl => match us, hl with | [_, _], _ => rfl
  have F__law_draw := fun_mk (st := top 24) fl__law_draw fcc__law_draw fq__law_draw
  have B__law_draw := F__law_draw.binds (ps := ["well", "many"]) fun _ _ _ _ _ _ us hl => match us, hl with | [_, _], _ => rfl
  have F__law_pick := fun_mk (st := top 25) fl__law_pick fcc__law_pick fq__law_pick
  have B__law_pick := F__law_pick.binds (ps := ["well", "some"]) fun _ _ _ _ _ _ us hl => match us, hl with | [_, _], _ => rfl
  have F__law_same := fun_mk (st := top 26) fl__law_same fcc__law_same fq__law_same
  have B__law_same := F__law_same.binds (ps := ["told", "due"]) fun _ _ _ _ _ _ us hl => match us, hl with | [_, _], _ => rfl
  have F__law_of_pairs := fun_mk (st := top 27) fl__law_of_pairs fcc__law_of_pairs fq__law_of_pairs
  have B__law_of_pairs := F__law_of_pairs.binds (ps := ["n", "pairs"]) fun _ _ _ _ _ _ us hl => match us, hl with | [_, _], _ => rfl
  have F__law_turned := fun_mk (st := top 28) fl__law_turned fcc__law_turned fq__law_turned
  have B__law_turned := F__law_turned.binds (ps := ["graph"]) fun _ _ _ _ _ _ us hl => match us, hl with | [_], _ => rfl
  have F__law_round := fun_mk (st := top 29) fl__law_round fcc__law_round fq__law_round
  have B__law_round := F__law_round.binds (ps := ["many"]) fun _ _ _ _ _ _ us hl => match us, hl with | [_], _ => rfl
  have F__law_called := fun_mk (st := top 30) fl__law_called fcc__law_called fq__law_called
  have B__law_called := F__law_called.binds (ps := ["graph", "names"]) fun _ _ _ _ _ _ us hl => match us, hl with | [_, _], _ => rfl
  have F__law_order := fun_mk (st := top 31) fl__law_order fcc__law_order fq__law_order
  have B__law_order := F__law_order.binds (ps := ["well", "many"]) fun _ _ _ _ _ _ us hl => match us, hl with | [_, _], _ => rfl
  have F__law_random := fun_mk (st := top 32) fl__law_random fcc__law_random fq__law_random
  have B__law_random := F__law_random.binds (ps := ["well", "n"]) fun _ _ _ _ _ _ us hl => match us, hl with | [_, _], _ => rfl
  have F__law_sides := fun_mk (st := top 33) fl__law_sides fcc__law_sides fq__law_sides
  have B__law_sides := F__law_sides.binds (ps := ["well", "n"]) fun _ _ _ _ _ _ us hl => match us, hl with | [_, _], _ => rfl
  have F__law_beside := fun_mk (st := top 34) fl__law_beside fcc__law_beside fq__law_beside
  have B__law_beside := F__law_beside.binds (ps := ["one", "two", "is_joined"]) fun _ _ _ _ _ _ us hl => match us, hl with | [_, _, _], _ => rfl
  have F__law_folded := fun_mk (st := top 35) fl__law_folded fcc__law_folded fq__law_folded
  have B__law_folded := F__law_folded.binds (ps := ["well", "n"]) fun _ _ _ _ _ _ us hl => match us, hl with | [_, _], _ => rfl
  have F__law_grown := fun_mk (st := top 36) fl__law_grown fcc__law_grown fq__law_grown
  have B__law_grown := F__law_grown.binds (ps := ["well", "graph", "n"]) fun _ _ _ _ _ _ us hl => match us, hl with | [_, _, _], _ => rfl
  have F__law_graph := fun_mk (st := top 37) fl__law_graph fcc__law_graph fq__law_graph
  have B__law_graph := F__law_graph.binds (ps := ["well", "most"]) fun _ _ _ _ _ _ us hl => match us, hl with | [_, _], _ => rfl
  have F__law_lots := fun_mk (st := top 38) fl__law_lots fcc__law_lots fq__law_lots
  have B__law_lots := F__law_lots.binds (ps := ["n"]) fun _ _ _ _ _ _ us hl => match us, hl with | [_], _ => rfl
  have F__law_is_tied := fun_mk (st := top 39) fl__law_is_tied fcc__law_is_tied fq__law_is_tied
  have B__law_is_tied := F__law_is_tied.binds (ps := ["graph", "u", "v"]) fun _ _ _ _ _ _ us hl => match us, hl with | [_, _, _], _ => rfl
  have F__law_greatest := fun_mk (st := top 40) fl__law_greatest fcc__law_greatest fq__law_greatest
  have B__law_greatest := F__law_greatest.binds (ps := ["graph", "lot", "is_tied"]) fun _ _ _ _ _ _ us hl => match us, hl with | [_, _, _], _ => rfl
  have F__law_is_coloured := fun_mk (st := top 41) fl__law_is_coloured fcc__law_is_coloured fq__law_is_coloured
  have B__law_is_coloured := F__law_is_coloured.binds (ps := ["graph", "lot", "told", "many"]) fun _ _ _ _ _ _ us hl => match us, hl with | [_, _, _, _], _ => rfl
  have F__law_lacking := fun_mk (st := top 42) fl__law_lacking fcc__law_lacking fq__law_lacking
  have B__law_lacking := F__law_lacking.binds (ps := ["graph"]) fun _ _ _ _ _ _ us hl => match us, hl with | [_], _ => rfl
  have F__law_going := fun_mk (st := top 43) fl__law_going fcc__law_going fq__law_going
  have B__law_going := F__law_going.binds (ps := ["graph", "lot"]) fun _ _ _ _ _ _ us hl => match us, hl with | [_, _], _ => rfl
  have F__law_holes := fun_mk (st := top 44) fl__law_holes fcc__law_holes fq__law_holes
  have B__law_holes := F__law_holes.binds (ps := ["graph"]) fun _ _ _ _ _ _ us hl => match us, hl with | [_], _ => rfl
  have F__law_odd_lots := fun_mk (st := top 45) fl__law_odd_lots fcc__law_odd_lots fq__law_odd_lots
  have B__law_odd_lots := F__law_odd_lots.binds (ps := ["graph"]) fun _ _ _ _ _ _ us hl => match us, hl with | [_], _ => rfl
  have F__law_lone := fun_mk (st := top 46) fl__law_lone fcc__law_lone fq__law_lone
  have B__law_lone := F__law_lone.binds (ps := ["well"]) fun _ _ _ _ _ _ us hl => match us, hl with | [_], _ => rfl
  have F__law_right := fun_mk (st := top 47) fl__law_right fcc__law_right fq__law_right
  have B__law_right := F__law_right.binds (ps := ["well"]) fun _ _ _ _ _ _ us hl => match us, hl with | [_], _ => rfl
  have F_law := fun_mk (st := top 48) fl_law fcc_law fq_law
  have B_law := F_law.binds (ps := ["script"]) fun _ _ _ _ _ _ us hl => match us, hl with | [_], _ => rfl
  have m_len := PySem.W.mg_none_of X GN z_len
  have m_int := PySem.W.mg_none_of X GN z_int
  have m_abs := PySem.W.mg_none_of X GN z_abs
  have m_divmod := PySem.W.mg_none_of X GN z_divmod
  have m_repr := PySem.W.mg_none_of X GN z_repr
  have m_range := PySem.W.mg_none_of X GN z_range
  have m_all := PySem.W.mg_none_of X GN z_all
  have m_any := PySem.W.mg_none_of X GN z_any
  have m_max := PySem.W.mg_none_of X GN z_max
  have m_min := PySem.W.mg_none_of X GN z_min
  have m_list := PySem.W.mg_none_of X GN z_list
  have m_tuple := PySem.W.mg_none_of X GN z_tuple
  have m_sorted := PySem.W.mg_none_of X GN z_sorted
  have m_type := PySem.W.mg_none_of X GN z_type
  have m_set := PySem.W.mg_none_of X GN z_set
  have m_zip := PySem.W.mg_none_of X GN z_zip
  have m_sum := PySem.W.mg_none_of X GN z_sum
  have m_enumerate := PySem.W.mg_none_of X GN z_enumerate
  have mV := PySem.W.mg_of X GN gV
  refine ⟨PySem.W.fnOf "law" "law" (defArgs (top 48)) (defBody (top 48)) (defScope (top 48)) .none fk_law fe_law fm_law fN_law fc_law ft_law, fun s v => .of_eq rfl, fun base _ _ => ?_⟩
  have O__law_well := ok_well (P := l.prog) (w := w) (K := K) (mg := mg) (base := base) F__law_well m_len m_int m_abs
  have O__law_draw := ok_draw (P := l.prog) (w := w) (K := K) (mg := mg) (base := base) F__law_draw m_divmod m_int
  have O__law_pick := ok_pick (P := l.prog) (w := w) (K := K) (mg := mg) (base := base) F__law_pick O__law_draw B__law_draw fq__law_draw (PySem.W.mg_of X GN fa__law_draw) m_len
  have O__law_same := ok_same (P := l.prog) (w := w) (K := K) (mg := mg) (base := base) F__law_same m_repr
  have O_is_whole_from := ok_whole_from (P := l.prog) (w := w) (K := K) (mg := mg) (base := base) F_is_whole_from m_type m_int
  have O_is_whole := ok_is_whole (P := l.prog) (w := w) (K := K) (mg := mg) (base := base) F_is_whole O_is_whole_from B_is_whole_from fq_is_whole_from (PySem.W.mg_of X GN fa_is_whole_from)
  have O_is_tuple_of_two := ok_is_two (P := l.prog) (w := w) (K := K) (mg := mg) (base := base) F_is_tuple_of_two m_type m_tuple m_len
  have O_is_ascending := ok_asc (P := l.prog) (w := w) (K := K) (mg := mg) (base := base) F_is_ascending m_all m_zip
  have O_is_vertex_pair := ok_vp (P := l.prog) (w := w) (K := K) (mg := mg) (base := base) F_is_vertex_pair O_is_tuple_of_two B_is_tuple_of_two fq_is_tuple_of_two (PySem.W.mg_of X GN fa_is_tuple_of_two) O_is_whole B_is_whole fq_is_whole (PySem.W.mg_of X GN fa_is_whole) m_all
  have O_is_graph := ok_is_graph (P := l.prog) (w := w) (K := K) (mg := mg) (base := base) F_is_graph O_is_tuple_of_two B_is_tuple_of_two fq_is_tuple_of_two (PySem.W.mg_of X GN fa_is_tuple_of_two) O_is_whole B_is_whole fq_is_whole (PySem.W.mg_of X GN fa_is_whole) O_is_vertex_pair B_is_vertex_pair fq_is_vertex_pair (PySem.W.mg_of X GN fa_is_vertex_pair) O_is_ascending B_is_ascending fq_is_ascending (PySem.W.mg_of X GN fa_is_ascending) tkV mV m_type m_tuple m_all
  have O_check_graph := ok_check_graph (P := l.prog) (w := w) (K := K) (mg := mg) (base := base) F_check_graph O_is_graph B_is_graph fq_is_graph (PySem.W.mg_of X GN fa_is_graph)
  have O_neighbour_masks := ok_masks (P := l.prog) (w := w) (K := K) (mg := mg) (base := base) F_neighbour_masks 
  have O__law_of_pairs := ok_of_pairs (P := l.prog) (w := w) (K := K) (mg := mg) (base := base) F__law_of_pairs m_tuple m_sorted m_set m_min m_max
  have O__law_turned := ok_turned (P := l.prog) (w := w) (K := K) (mg := mg) (base := base) F__law_turned m_range m_tuple
  have O__law_round := ok_round (P := l.prog) (w := w) (K := K) (mg := mg) (base := base) F__law_round O__law_of_pairs B__law_of_pairs fq__law_of_pairs (PySem.W.mg_of X GN fa__law_of_pairs) m_range m_int
  have O__law_called := ok_called (P := l.prog) (w := w) (K := K) (mg := mg) (base := base) F__law_called O__law_of_pairs B__law_of_pairs fq__law_of_pairs (PySem.W.mg_of X GN fa__law_of_pairs)
  have O__law_order := ok_order (P := l.prog) (w := w) (K := K) (mg := mg) (base := base) F__law_order O__law_draw B__law_draw fq__law_draw (PySem.W.mg_of X GN fa__law_draw) m_len m_range m_list m_tuple
  have O__law_random := ok_random (P := l.prog) (w := w) (K := K) (mg := mg) (base := base) F__law_random O__law_draw B__law_draw fq__law_draw (PySem.W.mg_of X GN fa__law_draw) O__law_of_pairs B__law_of_pairs fq__law_of_pairs (PySem.W.mg_of X GN fa__law_of_pairs) O__law_pick B__law_pick fq__law_pick (PySem.W.mg_of X GN fa__law_pick) m_range
  have O__law_sides := ok_sides (P := l.prog) (w := w) (K := K) (mg := mg) (base := base) F__law_sides O__law_draw B__law_draw fq__law_draw (PySem.W.mg_of X GN fa__law_draw) O__law_of_pairs B__law_of_pairs fq__law_of_pairs (PySem.W.mg_of X GN fa__law_of_pairs) m_range
  have O__law_beside := ok_beside (P := l.prog) (w := w) (K := K) (mg := mg) (base := base) F__law_beside O__law_of_pairs B__law_of_pairs fq__law_of_pairs (PySem.W.mg_of X GN fa__law_of_pairs) m_range m_list
  have O__law_folded := ok_folded (P := l.prog) (w := w) (K := K) (mg := mg) (base := base) F__law_folded O__law_draw B__law_draw fq__law_draw (PySem.W.mg_of X GN fa__law_draw) O__law_beside B__law_beside fq__law_beside (PySem.W.mg_of X GN fa__law_beside) O__law_turned B__law_turned fq__law_turned (PySem.W.mg_of X GN fa__law_turned) m_range
  have O__law_grown := ok_grown (P := l.prog) (w := w) (K := K) (mg := mg) (base := base) F__law_grown O__law_draw B__law_draw fq__law_draw (PySem.W.mg_of X GN fa__law_draw) O__law_of_pairs B__law_of_pairs fq__law_of_pairs (PySem.W.mg_of X GN fa__law_of_pairs) m_range m_list m_min m_max
  have O__law_graph := ok_graph (P := l.prog) (w := w) (K := K) (mg := mg) (base := base) F__law_graph O__law_draw B__law_draw fq__law_draw (PySem.W.mg_of X GN fa__law_draw) O__law_random B__law_random fq__law_random (PySem.W.mg_of X GN fa__law_random) O__law_sides B__law_sides fq__law_sides (PySem.W.mg_of X GN fa__law_sides) O__law_folded B__law_folded fq__law_folded (PySem.W.mg_of X GN fa__law_folded) O__law_grown B__law_grown fq__law_grown (PySem.W.mg_of X GN fa__law_grown) O__law_round B__law_round fq__law_round (PySem.W.mg_of X GN fa__law_round) O__law_pick B__law_pick fq__law_pick (PySem.W.mg_of X GN fa__law_pick) O__law_turned B__law_turned fq__law_turned (PySem.W.mg_of X GN fa__law_turned) O__law_called B__law_called fq__law_called (PySem.W.mg_of X GN fa__law_called) O__law_order B__law_order fq__law_order (PySem.W.mg_of X GN fa__law_order) m_max
  have O__law_is_tied := ok_tied (P := l.prog) (w := w) (K := K) (mg := mg) (base := base) F__law_is_tied m_min m_max
  have O__law_greatest := ok_great (P := l.prog) (w := w) (K := K) (mg := mg) (base := base) F__law_greatest B__law_greatest fq__law_greatest (PySem.W.mg_of X GN fa__law_greatest) O__law_is_tied B__law_is_tied fq__law_is_tied (PySem.W.mg_of X GN fa__law_is_tied) m_len m_tuple m_max 10
  have O__law_is_coloured := ok_cold (P := l.prog) (w := w) (K := K) (mg := mg) (base := base) F__law_is_coloured B__law_is_coloured fq__law_is_coloured (PySem.W.mg_of X GN fa__law_is_coloured) O__law_is_tied B__law_is_tied fq__law_is_tied (PySem.W.mg_of X GN fa__law_is_tied) m_range m_len m_min m_max 10
  have O__law_lots := ok_lots (P := l.prog) (w := w) (K := K) (mg := mg) (base := base) F__law_lots m_range m_sorted
  have O_lotsF := ok_lotsF (P := l.prog) (w := w) (K := K) (mg := mg) (base := base) F__law_lots m_range m_sorted
  have O__law_lacking := ok_lacking_x (P := l.prog) (w := w) (K := K) (mg := mg) (base := base) F__law_lacking O__law_lots B__law_lots fq__law_lots (PySem.W.mg_of X GN fa__law_lots) O__law_is_coloured B__law_is_coloured fq__law_is_coloured (PySem.W.mg_of X GN fa__law_is_coloured) O__law_greatest B__law_greatest fq__law_greatest (PySem.W.mg_of X GN fa__law_greatest) m_len
  have O__law_going := ok_going (P := l.prog) (w := w) (K := K) (mg := mg) (base := base) F__law_going O__law_is_tied B__law_is_tied fq__law_is_tied (PySem.W.mg_of X GN fa__law_is_tied) m_len m_range m_tuple m_sorted m_list
  have O__law_holes := ok_lholes (P := l.prog) (w := w) (K := K) (mg := mg) (base := base) F__law_holes O_lotsF B__law_lots fq__law_lots (PySem.W.mg_of X GN fa__law_lots) O__law_going B__law_going fq__law_going (PySem.W.mg_of X GN fa__law_going) m_tuple m_sorted
  have O__law_lone := ok_lone (P := l.prog) (w := w) (K := K) (mg := mg) (base := base) F__law_lone O__law_draw B__law_draw fq__law_draw (PySem.W.mg_of X GN fa__law_draw) O__law_pick B__law_pick fq__law_pick (PySem.W.mg_of X GN fa__law_pick) O__law_round B__law_round fq__law_round (PySem.W.mg_of X GN fa__law_round) O__law_turned B__law_turned fq__law_turned (PySem.W.mg_of X GN fa__law_turned) O__law_called B__law_called fq__law_called (PySem.W.mg_of X GN fa__law_called) O__law_order B__law_order fq__law_order (PySem.W.mg_of X GN fa__law_order) m_tuple m_sorted
  have O_lot_of := ok_lot_of (P := l.prog) (w := w) (K := K) (mg := mg) (base := base) F_lot_of m_range m_tuple
  have O_clique_numbers := ok_clique_numbers (P := l.prog) (w := w) (K := K) (mg := mg) (base := base) F_clique_numbers m_range m_len m_max
  have O__stable_masks_by_greatest := ok_stb_rows (P := l.prog) (w := w) (K := K) (mg := mg) (base := base) F__stable_masks_by_greatest m_enumerate
  have O_chromatic_numbers := ok_chrom_numbers (P := l.prog) (w := w) (K := K) (mg := mg) (base := base) F_chromatic_numbers O__stable_masks_by_greatest B__stable_masks_by_greatest fq__stable_masks_by_greatest (PySem.W.mg_of X GN fa__stable_masks_by_greatest) m_range m_len m_min
  have O__lacking_masks := ok_lackm (P := l.prog) (w := w) (K := K) (mg := mg) (base := base) F__lacking_masks O_check_graph B_check_graph fq_check_graph (PySem.W.mg_of X GN fa_check_graph) O_neighbour_masks B_neighbour_masks fq_neighbour_masks (PySem.W.mg_of X GN fa_neighbour_masks) O_clique_numbers B_clique_numbers fq_clique_numbers (PySem.W.mg_of X GN fa_clique_numbers) O_chromatic_numbers B_chromatic_numbers fq_chromatic_numbers (PySem.W.mg_of X GN fa_chromatic_numbers) m_range m_len
  have O_minimal_lots := ok_minl (P := l.prog) (w := w) (K := K) (mg := mg) (base := base) F_minimal_lots O__lacking_masks B__lacking_masks fq__lacking_masks (PySem.W.mg_of X GN fa__lacking_masks) O_lot_of B_lot_of fq_lot_of (PySem.W.mg_of X GN fa_lot_of) m_all m_tuple m_sorted
  have O_is_minimal := ok_ismin (P := l.prog) (w := w) (K := K) (mg := mg) (base := base) F_is_minimal O_minimal_lots B_minimal_lots fq_minimal_lots (PySem.W.mg_of X GN fa_minimal_lots) m_tuple m_range
  have O__law_odd_lots := ok_olt (P := l.prog) (w := w) (K := K) (mg := mg) (base := base) F__law_odd_lots O__law_holes B__law_holes fq__law_holes (PySem.W.mg_of X GN fa__law_holes) O__law_turned B__law_turned fq__law_turned (PySem.W.mg_of X GN fa__law_turned) m_len m_tuple m_sorted m_set
  have O__law_right := ok_right (P := l.prog) (w := w) (K := K) (mg := mg) (base := base) F__law_right O__law_draw B__law_draw fq__law_draw (PySem.W.mg_of X GN fa__law_draw) O__law_graph B__law_graph fq__law_graph (PySem.W.mg_of X GN fa__law_graph) O__law_lone B__law_lone fq__law_lone (PySem.W.mg_of X GN fa__law_lone) O__law_odd_lots B__law_odd_lots fq__law_odd_lots (PySem.W.mg_of X GN fa__law_odd_lots) O_minimal_lots B_minimal_lots (fun s u0 => .of_eq rfl) fq_minimal_lots (PySem.W.mg_of X GN fa_minimal_lots) O_is_minimal B_is_minimal (fun s u0 => .of_eq rfl) fq_is_minimal (PySem.W.mg_of X GN fa_is_minimal) O__law_lacking B__law_lacking fq__law_lacking (PySem.W.mg_of X GN fa__law_lacking) O__law_same B__law_same fq__law_same (PySem.W.mg_of X GN fa__law_same) m_range m_tuple m_all
  exact ok_law (n := 13) F_law O__law_well B__law_well fq__law_well (PySem.W.mg_of X GN fa__law_well) O__law_right B__law_right fq__law_right (PySem.W.mg_of X GN fa__law_right) m_range m_len m_all m_max m_min
end My

open PySem PySem.W PyProof.Rows
set_option maxRecDepth 100000 in
set_option maxHeartbeats 0 in
theorem PySem.Challenge.cw_perfectgraphs_k11_whole_minimally_imperf_holds : PySem.Challenge.rw_perfectgraphs_k11_whole_minimally_imperf.Holds := by
  w_on; o_law; k_head; (case hw => w_witness2)
  k_fill
  refine My.walkG (l := PySem.Challenge.rw_perfectgraphs_k11_whole_minimally_imperf) (m := 63) (n := 15) (x := "script") (sp := fun K => My.spLaw K) rfl (by decide) rfl ⟨rfl, by decide, by decide⟩ (fun w h Y => PySem.W.kIn_of Y) ?F (fun K H a ns hl _ hS => ⟨a, ns, rfl, hS, hl, fun _ => rfl⟩)
  case F =>
    intro w mg fa h KX G hmg
    refine' My.all_mk KX G hmg ?fa_is_whole ?fl_is_whole ?fcc_is_whole ?fq_is_whole ?fa_is_whole_from ?fl_is_whole_from ?fcc_is_whole_from ?fq_is_whole_from ?fa_is_tuple_of_two ?fl_is_tuple_of_two ?fcc_is_tuple_of_two ?fq_is_tuple_of_two ?fa_is_ascending ?fl_is_ascending ?fcc_is_ascending ?fq_is_ascending ?fa_is_graph ?fl_is_graph ?fcc_is_graph ?fq_is_graph ?fa_is_vertex_pair ?fl_is_vertex_pair ?fcc_is_vertex_pair ?fq_is_vertex_pair ?fa_check_graph ?fl_check_graph ?fcc_check_graph ?fq_check_graph ?fa_neighbour_masks ?fl_neighbour_masks ?fcc_neighbour_masks ?fq_neighbour_masks ?fa_lot_of ?fl_lot_of ?fcc_lot_of ?fq_lot_of ?fa_clique_numbers ?fl_clique_numbers ?fcc_clique_numbers ?fq_clique_numbers ?fa_chromatic_numbers ?fl_chromatic_numbers ?fcc_chromatic_numbers ?fq_chromatic_numbers ?fa__stable_masks_by_greatest ?fl__stable_masks_by_greatest ?fcc__stable_masks_by_greatest ?fq__stable_masks_by_greatest ?fa_is_minimal ?fl_is_minimal ?fcc_is_minimal ?fq_is_minimal ?fa_minimal_lots ?fl_minimal_lots ?fcc_minimal_lots ?fq_minimal_lots ?fa__lacking_masks ?fl__lacking_masks ?fcc__lacking_masks ?fq__lacking_masks ?fa__law_well ?fl__law_well ?fcc__law_well ?fq__law_well ?fa__law_draw ?fl__law_draw ?fcc__law_draw ?fq__law_draw ?fa__law_pick ?fl__law_pick ?fcc__law_pick ?fq__law_pick ?fa__law_same ?fl__law_same ?fcc__law_same ?fq__law_same ?fa__law_of_pairs ?fl__law_of_pairs ?fcc__law_of_pairs ?fq__law_of_pairs ?fa__law_turned ?fl__law_turned ?fcc__law_turned ?fq__law_turned ?fa__law_round ?fl__law_round ?fcc__law_round ?fq__law_round ?fa__law_called ?fl__law_called ?fcc__law_called ?fq__law_called ?fa__law_order ?fl__law_order ?fcc__law_order ?fq__law_order ?fa__law_random ?fl__law_random ?fcc__law_random ?fq__law_random ?fa__law_sides ?fl__law_sides ?fcc__law_sides ?fq__law_sides ?fa__law_beside ?fl__law_beside ?fcc__law_beside ?fq__law_beside ?fa__law_folded ?fl__law_folded ?fcc__law_folded ?fq__law_folded ?fa__law_grown ?fl__law_grown ?fcc__law_grown ?fq__law_grown ?fa__law_graph ?fl__law_graph ?fcc__law_graph ?fq__law_graph ?fa__law_lots ?fl__law_lots ?fcc__law_lots ?fq__law_lots ?fa__law_is_tied ?fl__law_is_tied ?fcc__law_is_tied ?fq__law_is_tied ?fa__law_greatest ?fl__law_greatest ?fcc__law_greatest ?fq__law_greatest ?fa__law_is_coloured ?fl__law_is_coloured ?fcc__law_is_coloured ?fq__law_is_coloured ?fa__law_lacking ?fl__law_lacking ?fcc__law_lacking ?fq__law_lacking ?fa__law_going ?fl__law_going ?fcc__law_going ?fq__law_going ?fa__law_holes ?fl__law_holes ?fcc__law_holes ?fq__law_holes ?fa__law_odd_lots ?fl__law_odd_lots ?fcc__law_odd_lots ?fq__law_odd_lots ?fa__law_lone ?fl__law_lone ?fcc__law_lone ?fq__law_lone ?fa__law_right ?fl__law_right ?fcc__law_right ?fq__law_right ?fa_law ?fl_law ?fcc_law ?fq_law ?gV ?z_len ?z_int ?z_abs ?z_divmod ?z_repr ?z_range ?z_all ?z_any ?z_max ?z_min ?z_list ?z_tuple ?z_sorted ?z_type ?z_set ?z_zip ?z_sum ?z_enumerate
    (case fa_is_whole => k_is)
    (case fl_is_whole => k_is)
    (case fcc_is_whole => k_is)
    (case fq_is_whole => k_is)
    (case fa_is_whole_from => k_is)
    (case fl_is_whole_from => k_is)
    (case fcc_is_whole_from => k_is)
    (case fq_is_whole_from => k_is)
    (case fa_is_tuple_of_two => k_is)
    (case fl_is_tuple_of_two => k_is)
    (case fcc_is_tuple_of_two => k_is)
    (case fq_is_tuple_of_two => k_is)
    (case fa_is_ascending => k_is)
    (case fl_is_ascending => k_is)
    (case fcc_is_ascending => k_is)
    (case fq_is_ascending => k_is)
    (case fa_is_graph => k_is)
    (case fl_is_graph => k_is)
    (case fcc_is_graph => k_is)
    (case fq_is_graph => k_is)
    (case fa_is_vertex_pair => k_is)
    (case fl_is_vertex_pair => k_is)
    (case fcc_is_vertex_pair => k_is)
    (case fq_is_vertex_pair => k_is)
    (case fa_check_graph => k_is)
    (case fl_check_graph => k_is)
    (case fcc_check_graph => k_is)
    (case fq_check_graph => k_is)
    (case fa_neighbour_masks => k_is)
    (case fl_neighbour_masks => k_is)
    (case fcc_neighbour_masks => k_is)
    (case fq_neighbour_masks => k_is)
    (case fa_lot_of => k_is)
    (case fl_lot_of => k_is)
    (case fcc_lot_of => k_is)
    (case fq_lot_of => k_is)
    (case fa_clique_numbers => k_is)
    (case fl_clique_numbers => k_is)
    (case fcc_clique_numbers => k_is)
    (case fq_clique_numbers => k_is)
    (case fa_chromatic_numbers => k_is)
    (case fl_chromatic_numbers => k_is)
    (case fcc_chromatic_numbers => k_is)
    (case fq_chromatic_numbers => k_is)
    (case fa__stable_masks_by_greatest => k_is)
    (case fl__stable_masks_by_greatest => k_is)
    (case fcc__stable_masks_by_greatest => k_is)
    (case fq__stable_masks_by_greatest => k_is)
    (case fa_is_minimal => k_is)
    (case fl_is_minimal => k_is)
    (case fcc_is_minimal => k_is)
    (case fq_is_minimal => k_is)
    (case fa_minimal_lots => k_is)
    (case fl_minimal_lots => k_is)
    (case fcc_minimal_lots => k_is)
    (case fq_minimal_lots => k_is)
    (case fa__lacking_masks => k_is)
    (case fl__lacking_masks => k_is)
    (case fcc__lacking_masks => k_is)
    (case fq__lacking_masks => k_is)
    (case fa__law_well => k_is)
    (case fl__law_well => k_is)
    (case fcc__law_well => k_is)
    (case fq__law_well => k_is)
    (case fa__law_draw => k_is)
    (case fl__law_draw => k_is)
    (case fcc__law_draw => k_is)
    (case fq__law_draw => k_is)
    (case fa__law_pick => k_is)
    (case fl__law_pick => k_is)
    (case fcc__law_pick => k_is)
    (case fq__law_pick => k_is)
    (case fa__law_same => k_is)
    (case fl__law_same => k_is)
    (case fcc__law_same => k_is)
    (case fq__law_same => k_is)
    (case fa__law_of_pairs => k_is)
    (case fl__law_of_pairs => k_is)
    (case fcc__law_of_pairs => k_is)
    (case fq__law_of_pairs => k_is)
    (case fa__law_turned => k_is)
    (case fl__law_turned => k_is)
    (case fcc__law_turned => k_is)
    (case fq__law_turned => k_is)
    (case fa__law_round => k_is)
    (case fl__law_round => k_is)
    (case fcc__law_round => k_is)
    (case fq__law_round => k_is)
    (case fa__law_called => k_is)
    (case fl__law_called => k_is)
    (case fcc__law_called => k_is)
    (case fq__law_called => k_is)
    (case fa__law_order => k_is)
    (case fl__law_order => k_is)
    (case fcc__law_order => k_is)
    (case fq__law_order => k_is)
    (case fa__law_random => k_is)
    (case fl__law_random => k_is)
    (case fcc__law_random => k_is)
    (case fq__law_random => k_is)
    (case fa__law_sides => k_is)
    (case fl__law_sides => k_is)
    (case fcc__law_sides => k_is)
    (case fq__law_sides => k_is)
    (case fa__law_beside => k_is)
    (case fl__law_beside => k_is)
    (case fcc__law_beside => k_is)
    (case fq__law_beside => k_is)
    (case fa__law_folded => k_is)
    (case fl__law_folded => k_is)
    (case fcc__law_folded => k_is)
    (case fq__law_folded => k_is)
    (case fa__law_grown => k_is)
    (case fl__law_grown => k_is)
    (case fcc__law_grown => k_is)
    (case fq__law_grown => k_is)
    (case fa__law_graph => k_is)
    (case fl__law_graph => k_is)
    (case fcc__law_graph => k_is)
    (case fq__law_graph => k_is)
    (case fa__law_lots => k_is)
    (case fl__law_lots => k_is)
    (case fcc__law_lots => k_is)
    (case fq__law_lots => k_is)
    (case fa__law_is_tied => k_is)
    (case fl__law_is_tied => k_is)
    (case fcc__law_is_tied => k_is)
    (case fq__law_is_tied => k_is)
    (case fa__law_greatest => k_is)
    (case fl__law_greatest => k_is)
    (case fcc__law_greatest => k_is)
    (case fq__law_greatest => k_is)
    (case fa__law_is_coloured => k_is)
    (case fl__law_is_coloured => k_is)
    (case fcc__law_is_coloured => k_is)
    (case fq__law_is_coloured => k_is)
    (case fa__law_lacking => k_is)
    (case fl__law_lacking => k_is)
    (case fcc__law_lacking => k_is)
    (case fq__law_lacking => k_is)
    (case fa__law_going => k_is)
    (case fl__law_going => k_is)
    (case fcc__law_going => k_is)
    (case fq__law_going => k_is)
    (case fa__law_holes => k_is)
    (case fl__law_holes => k_is)
    (case fcc__law_holes => k_is)
    (case fq__law_holes => k_is)
    (case fa__law_odd_lots => k_is)
    (case fl__law_odd_lots => k_is)
    (case fcc__law_odd_lots => k_is)
    (case fq__law_odd_lots => k_is)
    (case fa__law_lone => k_is)
    (case fl__law_lone => k_is)
    (case fcc__law_lone => k_is)
    (case fq__law_lone => k_is)
    (case fa__law_right => k_is)
    (case fl__law_right => k_is)
    (case fcc__law_right => k_is)
    (case fq__law_right => k_is)
    (case fa_law => k_is)
    (case fl_law => k_is)
    (case fcc_law => k_is)
    (case fq_law => k_is)
    (case gV => k_is)
    (case z_len => k_is)
    (case z_int => k_is)
    (case z_abs => k_is)
    (case z_divmod => k_is)
    (case z_repr => k_is)
    (case z_range => k_is)
    (case z_all => k_is)
    (case z_any => k_is)
    (case z_max => k_is)
    (case z_min => k_is)
    (case z_list => k_is)
    (case z_tuple => k_is)
    (case z_sorted => k_is)
    (case z_type => k_is)
    (case z_set => k_is)
    (case z_zip => k_is)
    (case z_sum => k_is)
    (case z_enumerate => k_is)
#print axioms PySem.Challenge.cw_perfectgraphs_k11_whole_minimally_imperf_holds

