import PyProof.Rows.All
import Wide.All
import OpenK.AllK
import Wide.FinOn
import HandS.ForMost
import HandS.ForExc
import HandS.ExcInit
import HandS.ExcValue
import HandS.IsInst
import KE.KExcIs
import HandS.ExcField
import HandS.TupSets
import HandS.Deep
import HandS.Conv
import HandS.Style
import KE.DatumOrd
import HandS.Walk
import HandS.Iter
import HandS.Text
import HandS.StrMore
import HandS.SortRule
import PyProof.StrLawsRepr
import HandS.TupAny
import HandS.Zip
import PyProof.Rows.BitMore
import HandS.Sort
import PyProof.ListRange
import HandS.WideBits
import HandS.NamedTupSort
import HandS.Call
import HandS.ExcOwn
import HandS.List
import HandS.Flow
import HandS.Flt
import PySem.Challenge.RW_perfectgraphs_k42_whole_kernels_by_own_l
set_option Elab.async false
set_option linter.all false
set_option maxRecDepth 100000
set_option maxHeartbeats 2000000
/-! Defs that are asked where nothing is being displayed: repr of data, whatever it holds. -/
namespace My
open PySem PySem.Spec PyProof.Rows L2

/-- like FnOk, for calls outside of any display -/
structure FnG (P : Program) (w : World) (K : PySem.W.Frag) (mg : Str → Option Value) (base : Heap) (C : CXT) (n : Nat) (f : Addr) (fd : FuncData) (ps : List Str) (sp : Sp) : Prop where
  arity : ∀ xs H Q E, sp xs H Q E → xs.length = ps.length
  goes : ∀ (A : Around) (out : List Env) (s : Shared) (H : Hp) (args : Args) (us : List Value) (xs : List V) (Q : VK) (E : XK), A.guards = some [] → Room n A → Env0 P w K mg base A out s H →
    BindsTo s fd args (ps.zip us) → Vals xs us → sp xs H Q E → codeAny (model P w) A (.call (.ref f) args) (CR C out P w H s Q E) s
section
variable {P : Program} {w : World} {K : PySem.W.Frag} {mg : Str → Option Value} {base : Heap} {C : CXT} {n : Nat} {f : Addr} {fd : FuncData} {ps : List Str} {sp : Sp}
theorem FnG.of (F : FnOk P w K mg base C n f fd ps sp) : FnG P w K mg base C n f fd ps sp :=
  { arity := F.len, goes := fun A out s H args us xs Q E _ r e b v h => F.run A out s H args us xs Q E r e b v h }
end

section
variable {X : Cx} {C : CXT} {n : Nat} {f : Addr} {fd : FuncData} {ps : List Str} {sp : Sp} {E : XK} {nm : Str} {p pos : Pos} {a : Expr} {as : List Expr} {t : TA}
theorem FnG.call_at {pins : List (Addr × Obj)} {σ : L2.St} {H : Hp} {s : Shared} {Q : VK} {us : List Value} {xs : List V} (F : FnG X.prog X.w X.K X.mg X.base C n f fd ps sp) (gd : X.A.guards = some []) (r : Room n X.A) (b : Binds X.K fd ps []) (x : Passes C X E)
    (I : Inv X pins σ H s) (v : Vals xs us) (h : sp xs H Q E) : wpAny (model X.prog X.w) X.A (call (.ref f) us) (EP X pins σ Q) X.xe s := by
  have len : (us ++ []).length = ps.length := by
    rw [List.append_nil, ← v.length]
    exact F.arity _ _ _ _ h
  have bd := b s us I.kIn len
  rw [List.append_nil] at bd
  refine wpAny_call (codeAny_mono (F.goes X.A X.stack s H ⟨us, []⟩ us xs Q E gd r I.env0 bd v h) ?_)
  rintro (er | fl) s' hq
  · exact x pins σ H s er s' I hq
  · cases fl <;> first | exact hq.elim | exact I.after hq
/-- f(a, ..), f such a def -/
theorem pe_callG (F : FnG X.prog X.w X.K X.mg X.base C n f fd ps sp) (gd : X.A.guards = some []) (r : Room n X.A) (g : Gl X nm) (m : X.mg nm = some (.ref f)) (kp : PySem.W.keepIn X.K (.ref f) = true) (b : Binds X.K fd ps []) (x : Passes C X E)
    (ha : PA X (a :: as) t) (nd : (nm == ("__debug__" : Str)) = false := by decide) (st : starEach (a :: as) X.env = (false, eval a X.env) :: starEach as X.env := by rfl) (pl : (backTo pos (starEach as X.env)).any (·.1) = false := by rfl) :
    PE X (.Call (.Name nm p) (a :: as) [] pos) (tCall sp [] E t) := by
  constructor
  intro pins s σ H Q I h
  refine wpAny_Call_Name_kw (ld_glob I g m ?_ nd)
  refine PySem.W.callWith_K (h₀ := X.base) I.ok.mod.kin kp (thn (ha.run pos pins s σ H _ I h) ?_) st pl
  rintro us s1 ⟨xs, H1, I1, v, q⟩
  rw [List.append_nil] at q
  exact ⟨I1.kIn, F.call_at gd r b x I1 v q⟩
end

section
variable {P : Program} {w : World} {K : PySem.W.Frag} {mg : Str → Option Value} {base : Heap} {C : CXT} {n : Nat} {f : Addr} {ps N : List Str} {sp : Sp}
/-- such a def by its body -/
theorem fnG_of {name qual : Str} {pm : Arguments} {body : List Stmt} {sc : Scope} {dV kV doc md cdv ct oc : Value} {an od : Option Addr} {sl : Array (Option Value)}
    (lk : K.lookup f = some ⟨oc, od, .func (PySem.W.fnOf name qual pm body sc dV kV doc md an cdv ct), sl⟩) (cd : PySem.W.codeIn K cdv qual = true) (S : FnScope N ps sc) (ar : ∀ xs H Q E, sp xs H Q E → xs.length = ps.length)
    (hb : ∀ (A : Around) (out : List Env) (s : Shared) (H : Hp) (xs : List V) (Q : VK) (E : XK), A.guards = some [] → Room n (A.deeper (envOfC qual sc s.heap.objs.size f cdv)) → sp xs H Q E →
      ∃ t, PSs (cxOf C P w K mg base N qual sc f cdv A out s H E) body t ∧ t { nx := fun _ H' => Q .non H', rt := Q } (start N xs) H) :
    FnG P w K mg base C (n + 1) f (PySem.W.fnOf name qual pm body sc dV kV doc md an cdv ct) ps sp := by
  refine { arity := ar, goes := ?_ }
  intro A out s H args us xs Q E gd r e bd v h
  have all : K.In s.heap := e.mod.kin.keeps fun b o z => (e.bs b o z).1
  have nolim : s.heap.NoLimit := e.mod.nolimit.keeps fun b o z => (e.bs b o z).1
  have kinds : ∀ y ∈ ps.zip us, sc.names.lookup y.1 = some .local ∨ (sc.names.lookup y.1 = some .cell ∧ ((cellsFrom (s.heap.objs.size + 1) sc.names []).lookup y.1).isSome = true) := by
    rintro ⟨y, u⟩ hy
    exact (S.par y (List.of_mem_zip hy).1).imp id fun z => ⟨z, PySem.W.cellsFrom_some _ _ _ (.inl z)⟩
  refine codeAny_call_function r.depth (all _ _ lk) rfl S.co S.gen rfl (PySem.W.codeRec_of all cd) (bd _ _ _ _ (wpAny_newFunctionEnv_cells S.kind kinds ?_))
  intro env he s1 x
  cases he
  obtain ⟨t, ht, hq⟩ := hb A out s H xs Q E gd (r.deeper _) h
  refine ⟨nolim.keeps x.toInCall.keep, codeAny_func (wpAny_mono (ht.run [] s1 (start N xs) H _ (inv_start S r.hd e (ar _ _ _ _ h) v x) hq) ?_ fun _ _ z => z)⟩
  rintro fl s' hs
  cases fl with
  | ret u =>
    obtain ⟨y, σ', H', J, ry, q⟩ := hs
    exact ⟨y, H', J.os, J.bare, J.base, J.hok, ry, q⟩
  | next =>
    obtain ⟨σ', H', J, q⟩ := hs
    exact ⟨.non, H', J.os, J.bare, J.base, J.hok, rfl, q⟩
  | brk => exact hs.choose_spec.choose_spec.2.elim
  | cont => exact hs.choose_spec.choose_spec.2.elim
theorem okG {name qual : Str} {st : Stmt} {fd : FuncData} (F : L2.Fun K name qual st f fd) (S : FnScope N ps (defScope st)) (ar : ∀ xs H Q E, sp xs H Q E → xs.length = ps.length)
    (hb : ∀ (cdv : Value) (A : Around) (out : List Env) (s : Shared) (H : Hp) (xs : List V) (Q : VK) (E : XK), A.guards = some [] → Room n (A.deeper (envOfC qual (defScope st) s.heap.objs.size f cdv)) → sp xs H Q E →
      ∃ t, PSs (cxOf CX0 P w K mg base N qual (defScope st) f cdv A out s H E).nox (defBody st) t ∧ t { nx := fun _ H' => Q .non H', rt := Q } (start N xs) H) : FnG P w K mg base CX0 (n + 1) f fd ps sp := by
  obtain ⟨_, _, _, _, _, _, cdv, _, _, rfl, lk, cd⟩ := F.ex
  refine fnG_of lk cd S ar ?_
  intro A out s H xs Q E gd r h
  obtain ⟨t, ht, q⟩ := hb cdv A out s H xs Q E gd r h
  exact ⟨t, ht.nox, q⟩
end

/-! ### the end of a law's row -/
/-- the call of the law itself, over one abstract heap -/
theorem law_at {P : Program} {w : World} {K : PySem.W.Frag} {mg mb : Str → Option Value} {n : Nat} {fa a : Addr} {fd : FuncData} {x : Str} {sp : Sp} {s : Shared} {vs : List Value} {H : Hp}
    (KX : K.In s.heap) (hns : s.heap.Ns mainGlobals mg) (hb : s.heap.Ns builtinsNs mb) (hbb : ∀ x : Str, x ≠ "__name__" → mb x = bootBuiltins x) (lim : s.heap.NoLimit) (ng : s.gens = #[])
    (ha : s.heap.get? a = some { cls := .type "list", data := .seq vs.toArray }) (hr : Room n callerA)
    (F : ∀ base : Heap, K.In base → base.Ns mainGlobals mg → FnG P w K mg base CX0 n fa fd [x] sp) (bd : BindsTo s fd ⟨[.ref a], []⟩ [(x, .ref a)])
    (hsp : sp [.ref a] H (fun v _ => v = .bl true) E0) (hO : Only H) (hok : HOk P w H s.heap) (one : ∀ b, H b ≠ none → b = a) (apart : H a ≠ none → K.lookup a = none) :
    codeAny (model P w) callerA (.call (.ref fa) ⟨[.ref a], []⟩) (fun r s' => r = .ok (.ret (.bool true)) ∧ OldK s.heap s'.heap ∧ s'.os = s.os ∧ AllBare s'.gens) s := by
  have no : ∀ {b : Addr} {o : Obj}, s.heap.get? b = some o → (∀ its m, o.data ≠ .seq its m) → H b = none := by
    intro b o e d
    refine Classical.byContradiction fun z => ?_
    cases one b z
    rw [ha] at e
    cases e
    exact d _ _ rfl
  have keep : ∀ {b : Addr} {m : Str → Option Value}, s.heap.Ns b m → (hidT s.heap H).Ns b m := by
    rintro b m ⟨o, es, ep, e, d, r⟩
    exact ⟨o, es, ep, hidT_get e (no e fun its m z => by rw [d] at z; cases z), d, r⟩
  have inb : K.In (hidT s.heap H) := by
    intro b o e
    refine hidT_get (KX b o e) (Classical.byContradiction fun z => ?_)
    have eb := one b z
    rw [eb] at z e
    rw [apart z] at e
    cases e
  obtain ⟨mc, l1, l2⟩ := lim
  have M : Mod K mg (hidT s.heap H) := ⟨inb, keep hns, ⟨mb, keep hb, hbb⟩, ⟨mc, keep l1, l2⟩⟩
  have e0 : Env0 P w K mg (hidT s.heap H) callerA [] s H :=
    { frames := rfl, mod := M, bs := fun b o e => of_hidT e, bsz := Nat.le_of_eq (hidT_size _ _), funs := trivial, frf := fun b z => absurd (show b ∈ ([] : List Addr) from z) List.not_mem_nil, hok := hok, bare := .of_eq ng }
  refine codeAny_mono ((F _ inb (keep hns)).goes callerA [] s H ⟨[.ref a], []⟩ [.ref a] [.ref a] _ _ rfl hr e0 bd (.cons rfl .nil) hsp) ?_
  rintro (er | fl) s' h
  · exact False.elim h
  · cases fl with
    | ret u =>
      obtain ⟨v, H', os, bare, un, hok', rv, q⟩ := h
      cases (show v = .bl true from q)
      cases (show u = Value.bool true from rv)
      refine ⟨rfl, OldK.of_keep ?_, os, bare⟩
      intro b o e
      rcases hO b with z | ⟨ob, xs, z⟩
      · exact un.keep b o e z (fun y => absurd (show b ∈ ([] : List Addr) from y) List.not_mem_nil) List.not_mem_nil
      · have i1 := (hok b _ z).1
        rw [e] at i1
        rw [i1]
        exact (hok' b _ (un.frzs b ob _ z)).1
    | next => exact False.elim h
    | brk => exact False.elim h
    | cont => exact False.elim h
theorem walkG {l : PySem.W.OpenLaw} {m n : Nat} {q : Program} {loose : List Str} {XP : (Str → Option Value) → Heap → Prop} {YP : World → Heap → Prop} {d : DefRec} {K : Params → PySem.W.Frag} {sp : PySem.W.Frag → Sp} {x : Str}
    (hm : l.most = some m) (hm2 : m ≤ sizeLine) (hdf : d.params.defaults = []) (hr : Room n callerA) (hY : ∀ (w : World) (h : Heap), YP w h → (K w.params).In h)
    (F : ∀ (w : World) (mg : Str → Option Value) (fa : Addr) (h : Heap), (K w.params).In h → h.Ns mainGlobals mg → mg d.name = some (.ref fa) →
      ∃ fd : FuncData, (∀ (s : Shared) (u : Value), BindsTo s fd ⟨[u], []⟩ [(x, u)]) ∧
        ∀ base : Heap, (K w.params).In base → base.Ns mainGlobals mg → FnG l.prog w (K w.params) mg base CX0 n fa fd [x] (sp (K w.params)))
    (hsp : ∀ (K : PySem.W.Frag) (H : Hp) (a : Addr) (ns : List Int), ns.length ≤ m → Only H → SqL K H a (ns.map V.int) → sp K [.ref a] H (fun v _ => v = .bl true) E0) :
    PySem.W.WalkO q loose XP YP l.row.toRowW d [] (fun f vs => PySem.call f vs) := by
  refine Att.attach_call hm hdf ?_
  intro w s₀ s mg mb fa o pm cd doc a vs ns G Y ho hd hcd hmg hobj hints hlen hg
  have KX := hY w _ Y
  obtain ⟨fd, hb, hF⟩ := F w mg fa _ KX G.T.g hmg
  have rv := vals_ints hints
  have hl : (ns.map V.int).length ≤ sizeLine := by
    rw [List.length_map]
    exact Nat.le_trans hlen hm2
  cases hk : (K w.params).lookup a with
  | some ob =>
    have e := KX a ob hk
    rw [hobj] at e
    cases e
    refine law_at KX G.T.g G.T.b G.T.builtins G.T.nolimit hg hobj hr hF (hb s _) (H := fun _ => none) (hsp _ _ a ns hlen (fun _ => .inl rfl) (.inr ?_)) (fun _ => .inl rfl) (fun b u z => nomatch (show (none : Option HO) = some u from z)) (fun b z => absurd rfl z) fun z => absurd rfl z
    exact ⟨_, vs.toArray, _, hk, rfl, rfl, rfl, by rw [List.size_toArray, ← rv.length]; exact hl, by simpa using rv⟩
  | none =>
    let T : HO := .frz { cls := .type "list", data := .seq vs.toArray } (.lst (ns.map V.int))
    let H0 : Hp := fun _ => none
    have at_a : upd H0 a T a = some T := upd_same
    have off : ∀ b, b ≠ a → upd H0 a T b = none := fun b z => upd_ne z
    refine law_at KX G.T.g G.T.b G.T.builtins G.T.nolimit hg hobj hr hF (hb s _) (H := upd H0 a T) (hsp _ _ a ns hlen ?_ (.inl (.inr ⟨_, at_a⟩))) ?_ ?_ ?_ fun _ => hk
    · intro b
      by_cases z : b = a
      · cases z
        exact .inr ⟨_, _, at_a⟩
      · exact .inl (off b z)
    · intro b
      by_cases z : b = a
      · cases z
        exact .inr ⟨_, _, at_a⟩
      · exact .inl (off b z)
    · intro b u e
      by_cases z : b = a
      · cases z
        cases at_a.symm.trans e
        exact ⟨hobj, hl, vs, _, rv, hobj⟩
      · rw [off b z] at e
        cases e
    · intro b z
      exact Classical.byContradiction fun y => z (off b y)
end My

set_option maxHeartbeats 2000000
/-! repr of data: flat things, lists, tuples at any depth, and dicts of flat things. -/
namespace My
open PySem PySem.Spec PyProof.Rows L2

def flatD : V → Option PyData
  | .non => some .none
  | .bl b => some (.bool b)
  | .int i => some (.int i)
  | .str x => some (.str x)
  | _ => none
def keyD : Key → PyData
  | .inl i => .int i
  | .inr x => .str x
/-- the value v is the datum d -/
inductive Dd (K : PySem.W.Frag) (H : Hp) : V → PyData → Prop
  | dat {v : V} {d : PyData} : Dp K H v d → d.hasDict = false → Dd K H v d
  | dct {a : Addr} {kvs : List (Key × V)} {ds : List PyData} : H a = some (.dK kvs) → kvs.map (fun p => flatD p.2) = ds.map some → Dd K H (.ref a) (.dict ((kvs.map fun p => keyD p.1).zip ds))
theorem flat_reads {h : Heap} {v : V} {u : Value} {d : PyData} (e : flatD v = some d) (r : RelV v u) : Reads h u d [] := by
  cases v with
  | non => cases e; cases (show u = Value.none from r); exact .none
  | bl b => cases e; cases (show u = Value.bool b from r); exact .bool b
  | int i => cases e; obtain ⟨t, rfl⟩ := (show ∃ t, u = Value.int i t from r); exact .int i t
  | str x => cases e; obtain ⟨t, rfl⟩ := (show ∃ t, u = Value.str x t from r); exact .str x t
  | byt b => cases e
  | flt b => cases e
  | ref a => cases e
  | ty n => cases e
theorem key_reads {h : Heap} {k : Key} {u : Value} (e : keyIs k u = true) : Reads h u (keyD k) [] := by
  rcases keyIs_shape e with ⟨i, t, rfl, rfl⟩ | ⟨x, t, rfl, rfl⟩
  · exact .int i t
  · exact .str x t
theorem pairs_reads {P : Program} {w : World} {h : Heap} : ∀ {kvs : List (Key × V)} {vs : List (Key × Value)} {es : List DictEntry} {ds : List PyData}, KV kvs vs → Pairs (mixKind P w) es vs → kvs.map (fun p => flatD p.2) = ds.map some →
    ReadsAll h (es.map (·.key)) (((kvs.map fun p => keyD p.1).zip ds).map (·.1)) [] ∧ ReadsAll h (es.map (·.val)) (((kvs.map fun p => keyD p.1).zip ds).map (·.2)) []
  | [], _, _, [], .nil, .nil, _ => ⟨.nil, .nil⟩
  | [], _, _, _ :: _, _, _, e => by cases e
  | _ :: _, _, _, [], _, _, e => by cases e
  | p :: kvs, _, _, d :: ds, .cons r rs, .cons k v ps, e => by
    obtain ⟨e1, e2⟩ := List.cons.inj e
    obtain ⟨i1, i2⟩ := pairs_reads (h := h) rs ps e2
    rw [← r.1] at k
    rw [← v] at r
    exact ⟨ReadsAll.cons (as := []) (bs := []) (key_reads k) i1, ReadsAll.cons (as := []) (bs := []) (flat_reads e1 r.2) i2⟩
section
variable {X : Cx} {pins : List (Addr × Obj)} {σ : L2.St} {H : Hp} {s : Shared}
theorem Dd.reads (I : Inv X pins σ H s) {v : V} {u : Value} {d : PyData} (h : Dd X.K H v d) (r : RelV v u) : ∃ as, Reads s.heap u d as ∧ (d.hasDict = true → sysModules ∉ as) := by
  cases h with
  | dat hd n =>
    obtain ⟨as, q⟩ := Dp.reads I d v u hd r
    exact ⟨as, q, fun z => by rw [n] at z; cases z⟩
  | @dct a kvs ds ha e =>
    cases (show u = Value.ref a from r)
    obtain ⟨_, ns, vs, kv, o, es, ep, ho, ex, hd, _, ps, _⟩ := (show ObjOk X.prog X.w H s.heap a (.dK kvs) from I.hok a _ ha)
    obtain ⟨q1, q2⟩ := pairs_reads (h := s.heap) kv ps e
    refine ⟨_, Reads.dict (as := []) (bs := []) ho ex.1 hd q1 q2, fun _ z => ?_⟩
    have z' : sysModules = a := by simpa using z
    rw [z'] at ns
    simp at ns
/-- repr(v), v a datum -/
def rRepr (K : PySem.W.Frag) : List V → Hp → VK → Prop := fun xs H Q => ∃ v d, xs = [v] ∧ Dd K H v d ∧ d.showable = true ∧ d.depth ≤ 60 ∧ d.shown.length ≤ sizeLine ∧ Q (.str d.shown) H
theorem call_repr (gd : X.A.guards = some []) (hu : X.A.units + 64 < cLine) : CallR X (.builtin "repr") (rRepr X.K) := by
  rintro pins s σ H xs us Q I r ⟨v, d, rfl, hd, sh, dp, sz, q⟩
  obtain ⟨u, rfl, ru⟩ := vals1 r
  obtain ⟨as, rd, ns⟩ := hd.reads I ru
  cases rd with
  | none =>
    refine PySem.P.repr_of_none ⟨.str "None", H, I.tok _, ⟨_, rfl⟩, ?_⟩
    simpa only [PyData.shown] using q
  | bool b =>
    refine PySem.P.repr_of_bool ⟨.str (if b then "True" else "False"), H, I.tok _, ⟨_, rfl⟩, ?_⟩
    simpa only [PyData.shown] using q
  | int i t =>
    refine PySem.P.repr_of_int (by simpa [PyData.showable] using sh) ⟨.str (toString i), H, I.tok _, ⟨_, rfl⟩, ?_⟩
    simpa only [PyData.shown] using q
  | str x t =>
    refine PySem.P.repr_of_str ⟨.str (reprText x), H, I.tok _, ⟨_, rfl⟩, ?_⟩ (by simpa only [PyData.shown] using sz)
    simpa only [PyData.shown] using q
  | list h1 h2 h3 h4 => exact repr_of_reads' (.list h1 h2 h3 h4) sh ns gd (by omega) (fun _ _ e => e) (fun h1 u tk hk => ⟨.str _, H, I.kept hk, ⟨u, rfl⟩, q⟩) sz
  | tuple h1 h2 h3 h4 => exact repr_of_reads' (.tuple h1 h2 h3 h4) sh ns gd (by omega) (fun _ _ e => e) (fun h1 u tk hk => ⟨.str _, H, I.kept hk, ⟨u, rfl⟩, q⟩) sz
  | dict h1 h2 h3 h4 h5 => exact repr_of_reads' (.dict h1 h2 h3 h4 h5) sh ns gd (by omega) (fun _ _ e => e) (fun h1 u tk hk => ⟨.str _, H, I.kept hk, ⟨u, rfl⟩, q⟩) sz
end
theorem Same.tup {K : PySem.W.Frag} {H H' : Hp} {a : Addr} {xs : List V} (e : Same H H') (h : SqT K H a xs) : SqT K H' a xs := by
  rcases h with (h | ⟨o, h⟩) | h
  · exact .inl (.inl (e _ _ h))
  · exact .inl (.inr ⟨o, e _ _ h⟩)
  · exact .inr h
mutual
theorem Dp.same {K : PySem.W.Frag} {H H' : Hp} (e : Same H H') : ∀ (d : PyData) (v : V), Dp K H v d → Dp K H' v d
  | .none, _, h => by cases h; exact .non
  | .bool _, _, h => by cases h; exact .bl _
  | .int _, _, h => by cases h; exact .int _
  | .str _, _, h => by cases h; exact .str _
  | .list ds, _, h => by
    cases h with
    | lst s a => exact .lst (L2.Same.seq e s) (DpAll.same e ds _ a)
  | .tuple ds, _, h => by
    cases h with
    | tup s a => exact .tup (Same.tup e s) (DpAll.same e ds _ a)
  | .dict _, _, h => by cases h
theorem DpAll.same {K : PySem.W.Frag} {H H' : Hp} (e : Same H H') : ∀ (ds : List PyData) (vs : List V), DpAll K H vs ds → DpAll K H' vs ds
  | [], _, h => by cases h; exact .nil
  | d :: ds, _, h => by
    cases h with
    | cons a b => exact .cons (Dp.same e d _ a) (DpAll.same e ds _ b)
end
theorem Dd.same {K : PySem.W.Frag} {H H' : Hp} (e : Same H H') {v : V} {d : PyData} (h : Dd K H v d) : Dd K H' v d := by
  cases h with
  | dat a n => exact .dat (Dp.same e _ _ a) n
  | dct a n => exact .dct (e _ _ a) n
end My

set_option maxHeartbeats 4000000
/-! Exceptions of own classes over ValueError as values: made by position and by name, their fields, isinstance. -/
namespace MyX
open PySem PySem.W PySem.Calls PyProof.Rows PySem.HandSPX
open Builtin Builtin.ObjectAttr
section
variable {M : Model} {prog : Program} {w : World} {A : Around} {E : Value → Shared → Prop} {R : Result → Shared → Prop} {h : Heap} {g : Array GenState} {d : Drawn} {t : Nat} {os : OsState}
variable {nm q : Str} {C N : Addr} {bs bm bmB : List Value} {hdct : Bool} {sn : List Str} {sub : List Value} {ab : Bool} {col : Option Bool} {dd : Option Addr} {k0 k1 k2 k3 k5 : Option Value} {B newId initId : String} {key : Str} {val : Value}
theorem check_type_kw {Q : Unit → Shared → Prop} (hC : h.get? C = some (excClassObj nm q C N bs bm hdct sn sub ab col dd k0 k1 k2 k3 k5 newId)) (z : Q () ⟨h, g, d, t, os⟩) :
    wpAny M A (checkBuiltinCall "type.__call__" ⟨[.ref C], [(key, val)]⟩) Q E ⟨h, g, d, t, os⟩ := by
  have e3 := tc_sub
  have ty : (⟨h, g, d, t, os⟩ : Shared).TypeIs (.ref C) "type" := ⟨_, hC, rfl⟩
  simp only [checkBuiltinCall, tc_kind, tc_split]
  repeat (any_goals (first
    | assumption
    | with_reducible refine wpAny_loadPart_at hC ?_
    | with_reducible refine wpAny_onRaise ?_
    | with_reducible refine wpAny_map ?_
    | wp_step))
theorem check_new_kw (F : ExcBaseFacts B newId initId bmB) (hT : ∀ X : String, bm.contains (.type X) = bmB.contains (.type X)) {Q : Unit → Shared → Prop}
    (hC : h.get? C = some (excClassObj nm q C N bs bm hdct sn sub ab col dd k0 k1 k2 k3 k5 newId)) (z : Q () ⟨h, g, d, t, os⟩) : wpAny M A (checkBuiltinCall newId ⟨[.ref C], [(key, val)]⟩) Q E ⟨h, g, d, t, os⟩ := by
  have hc : (Value.ref C :: bm).contains (.type B) = true := by rw [List.contains_cons, hT, F.hasB, Bool.or_true]
  have ns := F.noStar
  simp only [checkBuiltinCall, F.newKind, F.newSplit, F.newRow]
  repeat (first
    | refine wpAny_loadPart_at hC ?_
    | (refine wpAny_isSubtype_exc hC ?_; rw [hc])
    | refine wpAny_staticBase_exc hC ?_
    | refine wpAny_madeBy_exc hC ?_
    | simp only [bne_self_eq_false, Bool.false_eq_true, if_false]
    | wp_step)
  exact z
theorem new_kw (F : ExcBaseFacts B newId initId bmB) (hT : ∀ X : String, bm.contains (.type X) = bmB.contains (.type X))
    (hC : h.get? C = some (excClassObj nm q C N bs bm hdct sn sub ab col dd k0 k1 k2 k3 k5 newId))
    (z : R (.ok (.ret (.ref (h.objs.size + 1)))) ⟨(h.push (kdv_tup [])).push (excO C h.objs.size), g, d, t, os⟩) :
    codeAny (model prog w) A (.builtin newId ⟨[.ref C], [(key, val)]⟩) R ⟨h, g, d, t, os⟩ := by
  have he := F.ends
  have c1 : (Value.ref C :: bm).contains (.type B) = true := by rw [List.contains_cons, hT, F.hasB, Bool.or_true]
  have c2 : (Value.ref C :: bm).contains (.type "AttributeError") = false := by
    rw [List.contains_cons, hT, F.noAttr]
    rfl
  have c3 : (Value.ref C :: bm).contains (.type "NameError") = false := by
    rw [List.contains_cons, hT, F.noName]
    rfl
  refine codeAny_builtinAt F.entry ?_
  unfold Builtin.«BaseException.__new__»
  refine PySem.wpAt_bind ?_
  show PySem.wpAt _ _ _ (stack >>= _) _ _ _
  refine PySem.wpAt_bind (PySem.wpAt_stack fun p below => PySem.wpAt_of_wpAny ?_)
  wp_walk
  refine PySem.wpAt_of_wpAny ?_
  rw [F.owner]
  repeat (first
    | with_reducible refine wpAny_madeHere_exc F.canon hC ?_
    | with_reducible refine wpAny_loadPart_at hC ?_
    | (with_reducible refine wpAny_isSubtype_exc hC ?_; first | rw [c1] | rw [c2] | rw [c3])
    | wp_step)
  show R _ _
  rw [Heap.size_push]
  exact z
theorem type_call_kw (F : ExcBaseFacts B newId initId bmB) (hT : ∀ X : String, bm.contains (.type X) = bmB.contains (.type X)) {fI : Addr} {Q : Fin → Shared → Prop}
    (hC : h.get? C = some (excClassObj nm q C N bs bm hdct sn sub ab col dd k0 k1 k2 k3 k5 newId))
    (hi : Looks (model prog w) h (typeLookup (.ref C) "__init__") (some (.ref fI))) (hb : ∀ self, Looks (model prog w) h (bindSpecial (.ref fI) self) (.ref fI, [self]))
    (z : codeAny (model prog w) A (.call (.ref fI) ⟨[.ref (h.objs.size + 1)], [(key, val)]⟩)
      (fun r s' => match r with | .ok (.ret v) => v = .none ∧ Q (.done (.ret (.ref (h.objs.size + 1)))) s' | .ok _ => False | .error e => E e s')
      ⟨(h.push (kdv_tup [])).push (excO C h.objs.size), g, d, t, os⟩) :
    wpAny (model prog w) A (Builtin.«type.__call__» ⟨[.ref C], [(key, val)]⟩) Q E ⟨h, g, d, t, os⟩ := by
  repeat (first
    | with_reducible refine wpAny_loadPart_at hC ?_
    | with_reducible refine wpAny_madeBy_exc hC ?_
    | wp_step)
  refine codeAny_call_builtin_code (Code.quiet_builtin _ F.quiet) (check_new_kw F hT hC ?_)
  refine new_kw F hT hC ?_
  show wpAny _ _ _ _ _ _
  have k : ∀ b o, h.get? b = some o → ((h.push (kdv_tup [])).push (excO C h.objs.size)).get? b = some o := fun b o e => Heap.get?_push_of_some _ (Heap.get?_push_of_some _ e)
  have hC2 := k _ _ hC
  have at1 : ((h.push (kdv_tup [])).push (excO C h.objs.size)).get? (h.objs.size + 1) = some (excO C h.objs.size) := by heap_get
  have cc : (Value.ref C :: bm).contains (.ref C) = true := by simp
  have i1 := hi.keeps k
  have b1 := (hb (.ref (h.objs.size + 1))).keeps k
  unfold isInstance
  repeat (first
    | with_reducible refine wpAny_loadPart_at at1 ?_
    | (with_reducible refine wpAny_isSubtype_exc hC2 ?_; rw [cc])
    | wp_step)
  show wpAny _ _ (typeLookup (.ref C) _) _ _ _
  refine i1.at ?_
  refine wpAny_holding (wpAny_bind (b1.at ?_))
  refine wpAny_bind (wpAny_call (codeAny_mono z ?_))
  rintro (e | (v | _ | _ | _)) s' y <;> first | exact y | exact y.elim | skip
  all_goals first
    | (obtain ⟨rfl, y⟩ := y; first | exact wpAny_pure (wpAny_pure y) | (wp_walk; exact y))
    | exact y
theorem call_kw (F : ExcBaseFacts B newId initId bmB) (hT : ∀ X : String, bm.contains (.type X) = bmB.contains (.type X)) {fI : Addr}
    (hC : h.get? C = some (excClassObj nm q C N bs bm hdct sn sub ab col dd k0 k1 k2 k3 k5 newId))
    (hi : Looks (model prog w) h (typeLookup (.ref C) "__init__") (some (.ref fI))) (hb : ∀ self, Looks (model prog w) h (bindSpecial (.ref fI) self) (.ref fI, [self]))
    (z : codeAny (model prog w) (A.under (.builtin "type.__call__" ⟨[.ref C], [(key, val)]⟩)) (.call (.ref fI) ⟨[.ref (h.objs.size + 1)], [(key, val)]⟩) (InitBack (h.objs.size + 1) R)
      ⟨(h.push (kdv_tup [])).push (excO C h.objs.size), g, d, t, os⟩) :
    codeAny (model prog w) A (.call (.ref C) ⟨[], [(key, val)]⟩) R ⟨h, g, d, t, os⟩ := by
  have e1 := tc_lookup
  have e2 := tc_bind (.ref C)
  have ty : (⟨h, g, d, t, os⟩ : Shared).TypeIs (.ref C) "type" := ⟨_, hC, rfl⟩
  refine codeAny_of_tree ?_
  show wpAny _ _ (callAny (.ref C) _) _ _ _
  repeat (any_goals (first
    | assumption
    | with_reducible refine wpAny_loadPart_at hC ?_
    | wp_step))
  refine ⟨rfl, ?_⟩
  refine codeAny_call_builtin_at (Code.quiet_builtin _ (by decide +kernel)) entry_typeCall (check_type_kw hC (type_call_kw F hT hC hi hb ?_))
  refine codeAny_mono z ?_
  rintro (e | (v | _ | _ | _)) s' y <;> exact y
end
end MyX

set_option maxHeartbeats 4000000
/-! The layer's rules for exceptions as values. -/
namespace My
open PySem PySem.Spec PyProof.Rows L2

/-- an exception's own __init__: one field -/
def spInit (C : Addr) (fld : Str) : Sp := fun xs H Q _ => ∃ (a : Addr) (v : V), xs = [.ref a, v] ∧ H a = some (exo a C none) ∧
  ∀ d, H d = none → d ≠ a → Q .non (upd (upd H d (exd d [(fld, v)])) a (exo a C (some d)))
/-- what the class at C, its __init__ at fI must be -/
structure XCls (K : PySem.W.Frag) (C fI : Addr) (fld : Str) : Prop where
  ox : OexC K C
  iC : PySem.W.findIn K (.ref C) "__init__" = some (some (.ref fI))
  tI : PySem.W.typeIn K (.ref fI) = some (.type "function")
  xf : XfC K C
  no : PySem.W.findIn K (.ref C) fld = some none
/-- a new exception of the class at C, its dict with the one field -/
def NewX (C : Addr) (fld : Str) (v : V) (H : Hp) (Q : VK) : Prop := ∀ a d, H a = none → H d = none → d ≠ a → Q (.ref a) (upd (upd (upd H a (exo a C none)) d (exd d [(fld, v)])) a (exo a C (some d)))
def tMkX (C : Addr) (fld : Str) (ta : TA) : TE := fun σ H Q => ta σ H fun vs H1 => ∃ v, vs = [v] ∧ NewX C fld v H1 Q
section
variable {X : Cx} {nm : Str} {C fI : Addr} {k : Nat} {fd : FuncData} {fld : Str} {e : Expr} {te : TE} {ta : TA} {p pos kpos : Pos} {pins : List (Addr × Obj)} {σ : L2.St} {H : Hp}
theorem mkx_start {hp : Heap} {g : Array GenState} {dr : Drawn} {tk : Nat} {os : OsState} {us : List Value} {v : V} {Q : VK} (I : Inv X pins σ H ⟨hp, g, dr, tk, os⟩) (q : NewX C fld v H Q) :
    Inv X pins σ (upd H (hp.objs.size + 1) (exo (hp.objs.size + 1) C none)) ⟨(hp.push (PySem.W.kdv_tup us)).push (PySem.HandSPX.excO C hp.objs.size), g, dr, tk, os⟩ ∧
    spInit C fld [.ref (hp.objs.size + 1), v] (upd H (hp.objs.size + 1) (exo (hp.objs.size + 1) C none)) (fun r H2 => r = .non ∧ Q (.ref (hp.objs.size + 1)) H2) E0 := by
  have big : hp.objs.size ≤ hp.objs.size + 1 := Nat.le_succ _
  have none1 : H (hp.objs.size + 1) = none := I.hok.fresh big
  have here : ((hp.push (PySem.W.kdv_tup us)).push (PySem.HandSPX.excO C hp.objs.size)).get? (hp.objs.size + 1) = some (PySem.HandSPX.excO C hp.objs.size) := by heap_get
  refine ⟨I.laid (fun b o e => Heap.get?_push_of_some _ (Heap.get?_push_of_some _ e)) big (exo_ok here), _, v, rfl, upd_same, ?_⟩
  intro d hd hne
  rw [upd_ne hne] at hd
  exact ⟨rfl, q _ d none1 hd hne⟩
/-- behind __init__ -/
theorem mkx_end {s : Shared} {n : Addr} {Q : VK} (I : Inv X pins σ H s) {r : Result} {s' : Shared} (h : CR CX0 X.stack X.prog X.w H s (fun r H2 => r = .non ∧ Q (.ref n) H2) E0 r s') :
    PySem.W.InitBack n (fun r s' => match r with | .ok (.ret v) => EP X pins σ Q v s' | .ok _ => False | .error e => X.xe e s') r s' := by
  rcases r with er | fl
  · exact False.elim h
  · cases fl with
    | ret u =>
      obtain ⟨v, H', J, rv, ev, q⟩ := I.after h
      subst ev
      exact ⟨rv, .ref n, H', J, rfl, q⟩
    | next => exact False.elim h
    | brk => exact False.elim h
    | cont => exact False.elim h
theorem pe_mkX (T : XCls X.K C fI fld) (G : FnOk X.prog X.w X.K X.mg X.base CX0 k fI fd ["self", fld] (spInit C fld)) (hr : Room (k + 1) X.A) (hb : Binds X.K fd ["self", fld] []) (hg : Gl X nm) (hm : X.mg nm = some (.ref C)) (ha : PA X [e] ta)
    (hdb : (nm == ("__debug__" : Str)) = false := by decide) (hs : starEach [e] X.env = (false, eval e X.env) :: starEach [] X.env := by rfl) (hpl : (backTo pos (starEach [] X.env)).any (·.1) = false := by rfl) :
    PE X (.Call (.Name nm p) [e] [] pos) (tMkX C fld ta) := by
  refine ⟨?_⟩
  intro pins s σ H Q I h
  obtain ⟨cn, q, N, bs, bm, sn, sub, ab, col, dd, k0, k1, k2, k3, k5, hC, hbm⟩ := T.ox.cls
  refine wpAny_Call_Name_kw (ld_glob I hg hm ?_ hdb)
  refine PySem.W.callWith_K (h₀ := X.base) I.ok.mod.kin T.ox.kC (thn (ha.run pos pins s σ H _ I h) ?_) hs hpl
  rintro us s1 ⟨vs, H1, I1, r, v, rfl, q1⟩
  refine ⟨I1.kIn, ?_⟩
  obtain ⟨u, rfl, ru⟩ := vals1 r
  obtain ⟨hp, g, dr, tk, os⟩ := s1
  obtain ⟨I2, h2⟩ := mkx_start (us := [u]) I1 q1
  show wpAny _ _ (call (.ref C) [u]) _ _ _
  have bd := hb _ [.ref (hp.objs.size + 1), u] I2.kIn rfl
  refine wpAny_call (PySem.HandSPX.call_own PySem.F.excBase_ValueError (fun Y => PySem.HandSPX.refsVE_contains Y bm hbm) (I1.kIn _ _ hC) (PySem.W.looks_findIn I1.kIn T.iC) (fun self => PySem.W.bind_fn I1.kIn self T.tI) (by show 1 ≤ sizeLine; decide) ?_)
  refine codeAny_mono (G.run _ X.stack _ _ ⟨[.ref (hp.objs.size + 1), u], []⟩ [.ref (hp.objs.size + 1), u] [.ref (hp.objs.size + 1), v] _ E0 (hr.make C [u] []) (I2.env0.make C [u] []) bd (.cons rfl (.cons ru .nil)) h2) ?_
  intro r s' hq
  exact mkx_end I2 hq
/-- the same by the field's name -/
theorem pe_mkXK {tk : TA} (T : XCls X.K C fI fld) (G : FnOk X.prog X.w X.K X.mg X.base CX0 k fI fd ["self", fld] (spInit C fld)) (hr : Room (k + 1) X.A) (hb : ∀ (s : Shared) (a u : Value), BindsTo s fd ⟨[a], [(fld, u)]⟩ ([("self" : Str), fld].zip [a, u])) (hg : Gl X nm) (hm : X.mg nm = some (.ref C))
    {kws : List Keyword} (hk : PK X kws tk) (hall : (backToKw pos (keywordEach kws X.env)).all (·.1.isSome) = true := by rfl) (hks : (backToKw pos (keywordEach kws X.env)).filterMap (·.1) = [fld] := by rfl)
    (hdb : (nm == ("__debug__" : Str)) = false := by decide) (hpl : ((backTo pos (starEach [] X.env)).any (·.1) || (backToKw pos (keywordEach kws X.env)).any (·.1.isNone)) = false := by rfl) :
    PE X (.Call (.Name nm p) [] kws pos) (tMkX C fld tk) := by
  refine ⟨?_⟩
  intro pins s σ H Q I h
  obtain ⟨cn, q, N, bs, bm, sn, sub, ab, col, dd, k0, k1, k2, k3, k5, hC, hbm⟩ := T.ox.cls
  refine wpAny_Call_Name_kw (ld_glob I hg hm ?_ hdb)
  refine PySem.W.callWith_KW0 (h₀ := X.base) I.ok.mod.kin T.ox.kC hall (thn (hk.run pos pins s σ H _ I h) ?_) hpl
  rintro us s1 ⟨vs, H1, I1, r, v, rfl, q1⟩
  refine ⟨I1.kIn, ?_⟩
  obtain ⟨u, rfl, ru⟩ := vals1 r
  rw [hks]
  obtain ⟨hp, g, dr, tk, os⟩ := s1
  obtain ⟨I2, h2⟩ := mkx_start (us := []) I1 q1
  show wpAny _ _ (call (.ref C) [] [(fld, u)]) _ _ _
  refine wpAny_call (MyX.call_kw PySem.F.excBase_ValueError (fun Y => PySem.HandSPX.refsVE_contains Y bm hbm) (I1.kIn _ _ hC) (PySem.W.looks_findIn I1.kIn T.iC) (fun self => PySem.W.bind_fn I1.kIn self T.tI) ?_)
  refine codeAny_mono (G.run _ X.stack _ _ ⟨[.ref (hp.objs.size + 1)], [(fld, u)]⟩ [.ref (hp.objs.size + 1), u] [.ref (hp.objs.size + 1), v] _ E0 (hr.make C [] [(fld, u)]) (I2.env0.make C [] [(fld, u)]) (hb _ _ _) (.cons rfl (.cons ru .nil)) h2) ?_
  intro r s' hq
  exact mkx_end I2 hq
/-- C(), an own exception class without an __init__ -/
theorem pe_mkX0 {bmB : List Value} {B newId initId : String} (F : ExcBaseFacts B newId initId bmB) (q : PySem.W.excIn X.K C bmB newId = true) (gC : X.mg nm = some (.ref C)) (kC : PySem.W.keepIn X.K (.ref C) = true) (hg : Gl X nm) (hdb : (nm == ("__debug__" : Str)) = false := by decide) :
    PE X (.Call (.Name nm p) [] [] pos) (fun _ H Q => ∀ a, H a = none → Q (.ref a) (upd H a (ExO (.ref C) a))) := by
  refine ⟨?_⟩
  intro pins s σ H Q I h
  refine wpAny_Call_Name_kw (ld_glob I hg gC ?_ hdb)
  refine PySem.W.callWith_K0 I.kIn kC ?_
  show wpAny _ _ (call (.ref C) []) _ _ _
  obtain ⟨bm, N, nm, qn, bs, hdct, sn, sub, ab, col, dd, k0, k1, k2, k3, k5, mN, hC, hN, hni, T⟩ := exc_obj I.kIn q
  refine wpAny_call_exc_subT F T hC hN hni ?_ (by show 0 ≤ sizeLine; decide)
  intro h' a hm
  have hn : H a = none := I.hok.gone hm.new
  obtain ⟨t, ht, _, _⟩ := hm.there
  exact ⟨.ref a, _, I.laidN hm.keeps hm.new hn (exO_ok ht ⟨rfl, rfl⟩ rfl rfl rfl (show 4 < 6 by decide)), rfl, h a hn⟩

/-- e.f, e such an exception -/
def tXget (K : PySem.W.Frag) (f : Str) (te : TE) : TE := fun σ H Q => te σ H fun x H1 => ∃ (a C d : Addr) (fs : List (Str × V)) (v : V), x = .ref a ∧ H1 a = some (exo a C (some d)) ∧ H1 d = some (exd d fs) ∧ XfC K C ∧
  PySem.W.findIn K (.ref C) f = some none ∧ fs.lookup f = some v ∧ Q v H1
theorem pe_xget {f : Str} (he : PE X e te) (hb : attributeBase e f X.env (eval e X.env) = eval e X.env := by rfl) : PE X (.Attribute e f pos) (tXget X.K f te) := by
  refine ⟨?_⟩
  intro pins s σ H Q I h
  refine attr_of hb (thn (he.run pins s σ H _ I h) ?_)
  rintro u s1 ⟨x, H1, I1, rx, a, C, d, fs, v, rfl, ha, hd, T, no, l, q⟩
  obtain rfl : u = Value.ref a := rx
  obtain ⟨t1, oa⟩ := exo_at I1.hok ha
  obtain ⟨mA, ns, rel⟩ := exd_at I1.hok hd
  obtain ⟨od, hod, hl⟩ := lookIn_ns ns
  obtain ⟨u, hu, ru⟩ := RelO.some_of (v := v) (o := mA f) (by rw [← l]; exact rel f)
  have J : PySem.W.InstAt s1.heap a { cls := .ref C, dict := some d, data := .fields #[.ref t1, .none, .none, .none, .bool false, .none] } C (some od) := ⟨oa, rfl, rfl, hod⟩
  exact HandSPX.exc_get I1.kIn J T.ga T.gg T.exC (PySem.W.findObj_own T.hdC no rfl (by rw [hl, hu])) (handed_of ru) ⟨v, H1, I1.tok _, ru, q⟩

/-- at a: an exception of the class at C -/
def IsX (H : Hp) (a C : Addr) : Prop := (∃ d fs, H a = some (exo a C (some d)) ∧ H d = some (exd d fs)) ∨ H a = some (ExO (.ref C) a)
/-- what isinstance asks of such a class -/
structure XIs (K : PySem.W.Frag) (C : Addr) : Prop where
  cl : (PySem.W.clsIn K C).isSome = true
  xf : XfC K C
  ha : PySem.W.findIn K (.ref C) "__class__" = some (some (.builtin "object.__class__"))
  hn : PySem.W.specialIn K (.builtin "object.__class__") "__get__" = some (some (.builtin "getset_descriptor.__get__"))
  ht : PySem.W.takesIn K (.builtin "object.__class__") = some true
  hm : PySem.W.mroIn K C (.type "object") = some true
def rIsX (K : PySem.W.Frag) : List V → Hp → VK → Prop := fun xs H Q => ∃ (a C : Addr) (c : V) (u : Value) (b : Bool), xs = [.ref a, c] ∧ ClsV c u ∧ IsX H a C ∧ XIs K C ∧ PySem.W.kitOne K (.ref C) u = some b ∧ Q (.bl b) H
theorem call_isX : CallR X (.builtin "isinstance") (rIsX X.K) := by
  rintro pins s σ H xs us Q I r ⟨a, C, c, u, b, rfl, cv, hx, T, kit, q⟩
  obtain ⟨u1, u2, rfl, r1, r2⟩ := vals2 r
  obtain rfl : u2 = u := cv.eq r2
  obtain rfl : u1 = Value.ref a := r1
  have go : ∀ (ox : Obj) (od : Option Obj), PySem.W.InstAt s.heap a ox C od → wpAny (model X.prog X.w) X.A (call (.builtin "isinstance") [.ref a, u2]) (EP X pins σ Q) X.xe s := fun ox od J =>
    PySem.W.kia_one (PySem.W.kitx_exc T.cl T.xf.ga T.xf.gg T.xf.exC T.ha T.hn T.ht T.hm) I.kIn J kit (fun z => nomatch z) fun tk => ⟨.bl b, H, I.tok tk, rfl, q⟩
  rcases hx with ⟨d, fs, ha, hd⟩ | ha
  · obtain ⟨t1, oa⟩ := exo_at I.hok ha
    obtain ⟨mA, ⟨od, es, ep, hod, _⟩, _⟩ := exd_at I.hok hd
    exact go _ (some od) ⟨oa, rfl, rfl, hod⟩
  · have z : ObjOk X.prog X.w H s.heap a (ExO (.ref C) a) := I.hok a _ ha
    obtain ⟨⟨oe, vs, ho, ⟨z1, z2⟩, hd, _⟩, _⟩ := z
    refine go oe none ⟨ho, z1, ?_, ?_⟩
    · unfold PySem.W.notCls
      rw [hd]
    · rw [z2]
      trivial
end
end My

set_option maxHeartbeats 2000000
/-! Graphs as pairs of numbers: what a GRAPH is, in plain Lean. -/
namespace My
open PySem PySem.Spec PyProof.Rows L2
abbrev E2 := Nat × Nat
theorem same_put {H H1 : Hp} {D : Addr} {o : HO} (s : Same H H1) (n : H D = none) : Same H (upd H1 D o) := fun b u e => by
  rw [upd_ne (ne_of_none e n)]
  exact s b u e
/-- a stands ahead of b, as tuples -/
def ahead (a b : E2) : Prop := a.1 < b.1 ∨ (a.1 = b.1 ∧ a.2 < b.2)
instance (a b : E2) : Decidable (ahead a b) := inferInstanceAs (Decidable (_ ∨ _))
structure Good (n : Nat) (es : List E2) : Prop where
  n9 : n ≤ 9
  lt : ∀ p ∈ es, p.1 < p.2 ∧ p.2 < n
  up : es.Pairwise ahead
/-- the pairs with u ahead, below n; all pairs below n, ascending -/
def rowP (n u : Nat) : List E2 := (List.range (n - (u + 1))).map fun j => (u, u + 1 + j)
def allP (n : Nat) : List E2 := (List.range n).flatMap (rowP n)
theorem mem_rowP {n u : Nat} {p : E2} : p ∈ rowP n u ↔ p.1 = u ∧ u < p.2 ∧ p.2 < n := by
  unfold rowP
  rw [List.mem_map]
  constructor
  · rintro ⟨j, hj, rfl⟩
    have := List.mem_range.mp hj
    refine ⟨rfl, ?_, ?_⟩ <;> show _ < _ <;> omega
  · rintro ⟨h1, h2, h3⟩
    refine ⟨p.2 - (u + 1), List.mem_range.mpr (by omega), ?_⟩
    obtain ⟨a, b⟩ := p
    simp only at h1 h2 h3 ⊢
    rw [h1, show u + 1 + (b - (u + 1)) = b by omega]
theorem mem_allP {n : Nat} {p : E2} : p ∈ allP n ↔ p.1 < p.2 ∧ p.2 < n := by
  unfold allP
  rw [List.mem_flatMap]
  constructor
  · rintro ⟨u, hu, h⟩
    obtain ⟨h1, h2, h3⟩ := mem_rowP.mp h
    omega
  · rintro ⟨h1, h2⟩
    exact ⟨p.1, List.mem_range.mpr (by omega), mem_rowP.mpr ⟨rfl, h1, h2⟩⟩
theorem allP_up : ∀ n, n ≤ 9 → (allP n).Pairwise ahead := by decide +kernel
theorem allP_few : ∀ n, n ≤ 9 → (allP n).length ≤ 36 := by decide +kernel
theorem ahead_ne {a b : E2} (h : ahead a b) : a ≠ b := by
  rintro rfl
  rcases h with h | h <;> omega
theorem sub_few {α : Type} [DecidableEq α] : ∀ {l m : List α}, l.Nodup → (∀ x ∈ l, x ∈ m) → l.length ≤ m.length
  | [], _, _, _ => Nat.zero_le _
  | a :: l, m, nd, sub => by
    obtain ⟨na, nl⟩ := List.nodup_cons.mp nd
    have ma : a ∈ m := sub a (List.mem_cons_self ..)
    have ih := sub_few (l := l) (m := m.erase a) nl fun x hx => by
      have hne : x ≠ a := fun e => na (e ▸ hx)
      exact (List.mem_erase_of_ne hne).mpr (sub x (List.mem_cons_of_mem _ hx))
    have le := List.length_erase_of_mem ma
    have pos : 0 < m.length := List.length_pos_of_mem ma
    rw [List.length_cons]
    omega
theorem Good.nodup {n : Nat} {es : List E2} (g : Good n es) : es.Nodup := g.up.imp fun h => ahead_ne h
theorem Good.few {n : Nat} {es : List E2} (g : Good n es) : es.length ≤ 36 := Nat.le_trans (sub_few g.nodup fun p hp => mem_allP.mpr (g.lt p hp)) (allP_few n g.n9)
theorem Good.filter {n : Nat} (h : n ≤ 9) (f : E2 → Bool) : Good n ((allP n).filter f) := ⟨h, fun p hp => mem_allP.mp (List.mem_filter.mp hp).1, (allP_up n h).filter _⟩
theorem Good.nil {n : Nat} (h : n ≤ 9) : Good n [] := ⟨h, fun _ z => (nomatch z), .nil⟩
theorem Good.more {n m : Nat} {es : List E2} (g : Good n es) (h : n ≤ m) (h9 : m ≤ 9) : Good m es := ⟨h9, fun p hp => ⟨(g.lt p hp).1, by have := (g.lt p hp).2; omega⟩, g.up⟩

/-! ### on the heap -/
/-- the pair p as a tuple -/
def PairAt (K : PySem.W.Frag) (H : Hp) (x : V) (p : E2) : Prop := ∃ t, x = .ref t ∧ SqT K H t [.int (p.1 : Int), .int (p.2 : Int)]
abbrev PairsAt (K : PySem.W.Frag) (H : Hp) : List V → List E2 → Prop := Paired (PairAt K H)
theorem PairAt.same {K : PySem.W.Frag} {H H' : Hp} (e : Same H H') {x : V} {p : E2} (h : PairAt K H x p) : PairAt K H' x p := by
  obtain ⟨t, rfl, h⟩ := h
  exact ⟨t, rfl, Same.tup e h⟩
theorem PairsAt.same {K : PySem.W.Frag} {H H' : Hp} (e : Same H H') : ∀ {xs : List V} {ps : List E2}, PairsAt K H xs ps → PairsAt K H' xs ps
  | _, _, .nil => .nil
  | _, _, .cons a b => .cons (a.same e) (PairsAt.same e b)
theorem PairsAt.append {K : PySem.W.Frag} {H : Hp} : ∀ {xs ys : List V} {ps qs : List E2}, PairsAt K H xs ps → PairsAt K H ys qs → PairsAt K H (xs ++ ys) (ps ++ qs)
  | _, _, _, _, .nil, h => h
  | _, _, _, _, .cons a b, h => .cons a (PairsAt.append b h)
/-- a graph -/
def GraphAt (K : PySem.W.Frag) (H : Hp) (x : V) (n : Nat) (es : List E2) : Prop := ∃ (t e : Addr) (xs : List V), x = .ref t ∧ SqT K H t [.int (n : Int), .ref e] ∧ SqT K H e xs ∧ PairsAt K H xs es
theorem GraphAt.same {K : PySem.W.Frag} {H H' : Hp} (s : Same H H') {x : V} {n : Nat} {es : List E2} (h : GraphAt K H x n es) : GraphAt K H' x n es := by
  obtain ⟨t, e, xs, rfl, h1, h2, h3⟩ := h
  exact ⟨t, e, xs, rfl, Same.tup s h1, Same.tup s h2, h3.same s⟩
def pairD (p : E2) : PyData := .tuple [.int (p.1 : Int), .int (p.2 : Int)]
def graphD (n : Nat) (es : List E2) : PyData := .tuple [.int (n : Int), .tuple (es.map pairD)]
theorem PairAt.dp {K : PySem.W.Frag} {H : Hp} {x : V} {p : E2} (h : PairAt K H x p) : Dp K H x (pairD p) := by
  obtain ⟨t, rfl, h⟩ := h
  exact .tup h (.cons (.int _) (.cons (.int _) .nil))
theorem PairsAt.dp {K : PySem.W.Frag} {H : Hp} : ∀ {xs : List V} {ps : List E2}, PairsAt K H xs ps → DpAll K H xs (ps.map pairD)
  | _, _, .nil => .nil
  | _, _, .cons a b => .cons a.dp (PairsAt.dp b)
theorem GraphAt.dp {K : PySem.W.Frag} {H : Hp} {x : V} {n : Nat} {es : List E2} (h : GraphAt K H x n es) : Dp K H x (graphD n es) := by
  obtain ⟨t, e, xs, rfl, h1, h2, h3⟩ := h
  exact .tup h1 (.cons (.int _) (.cons (.tup h2 h3.dp) .nil))
theorem PairsAt.get {K : PySem.W.Frag} {H : Hp} {xs : List V} {ps : List E2} {i : Nat} {x : V} (h : PairsAt K H xs ps) (e : xs[i]? = some x) : ∃ p, ps[i]? = some p ∧ PairAt K H x p := by
  have go : ∀ {xs : List V} {ps : List E2} {i : Nat} {x : V}, PairsAt K H xs ps → xs[i]? = some x → ∃ p, ps[i]? = some p ∧ PairAt K H x p := by
    intro xs
    induction xs with
    | nil => intro ps i x _ e; simp at e
    | cons a l ih =>
      intro ps i x h e
      cases h with
      | cons r t =>
        cases i with
        | zero => simp at e; subst e; exact ⟨_, rfl, r⟩
        | succ i => obtain ⟨p, h1, h2⟩ := ih t (by simpa using e); exact ⟨p, by simpa using h1, h2⟩
  exact go h e
end My

set_option maxHeartbeats 2000000
/-! Rules that pairs want: the lesser and the greater number of one; a list of pairs made a set, sorted, made a tuple. -/
namespace My
open PySem PySem.Spec PyProof.Rows L2
section
variable {X : Cx}
def rOfPair (f : Int → Int → Int) (K : PySem.W.Frag) : List V → Hp → VK → Prop := fun xs H Q => ∃ (t : Addr) (u v : Int), xs = [.ref t] ∧ SqT K H t [.int u, .int v] ∧ Q (.int (f u v)) H
theorem pair_reads {pins : List (Addr × Obj)} {σ : L2.St} {H : Hp} {s : Shared} {t : Addr} {u v : Int} (I : Inv X pins σ H s) (h : SqT X.K H t [.int u, .int v]) : ∃ vs : Array Value, s.heap.IsTuple t vs ∧ ∃ as, ReadsAll s.heap vs.toList [.int u, .int v] as := by
  obtain ⟨its, r, p, _⟩ := I.tuple h
  obtain ⟨as, q⟩ := Dp.readsAll I [.int u, .int v] [.int u, .int v] its (.cons (.int _) (.cons (.int _) .nil)) r
  obtain ⟨o, ho, hc, n, hd⟩ := p
  exact ⟨its.toArray, ⟨o, ho, hc, n, hd⟩, as, by simpa using q⟩
theorem call_minPair (hc : X.calm = true) (hu : X.A.units + 64 < cLine) : CallR X (.builtin "min") (rOfPair min X.K) := by
  rintro pins s σ H xs us Q I r ⟨t, u, v, rfl, h, q⟩
  rw [Vals.ref1 r]
  obtain ⟨vs, ht, as, rs⟩ := pair_reads I h
  refine PySem.W.min_tuple_data (I.ok.hd hc) ht rs (PySem.W.alikeAll_datum [u, v]) (by simp only [PyData.depthAll, PyData.depth]; omega) ?_
  intro i x h' tk bs hi rd hk
  have e := PySem.W.minD_ints u [v]
  have e' : PySem.W.minD (.int u) [.int v] = .int (min u v) := e
  rw [e'] at rd
  cases rd
  exact ⟨.int _, H, I.kept hk, ⟨_, rfl⟩, q⟩
theorem call_maxPair (hc : X.calm = true) (hu : X.A.units + 64 < cLine) : CallR X (.builtin "max") (rOfPair max X.K) := by
  rintro pins s σ H xs us Q I r ⟨t, u, v, rfl, h, q⟩
  rw [Vals.ref1 r]
  obtain ⟨vs, ht, as, rs⟩ := pair_reads I h
  refine PySem.W.max_tuple_data (I.ok.hd hc) ht rs (PySem.W.alikeAll_datum [u, v]) (by simp only [PyData.depthAll, PyData.depth]; omega) ?_
  intro i x h' tk bs hi rd hk
  have e := PySem.W.maxD_ints u [v]
  have e' : PySem.W.maxD (.int u) [.int v] = .int (max u v) := e
  rw [e'] at rd
  cases rd
  exact ⟨.int _, H, I.kept hk, ⟨_, rfl⟩, q⟩
end
/-! ### a pair among the pairs of a tuple -/
theorem pairD_lay (p : E2) : (pairD p).canLay0 = true := by simp [pairD, PyData.canLay0, PyData.canLayAll0]
theorem pairD_depth (p : E2) : (pairD p).depth = 1 := by simp [pairD, PyData.depth, PyData.depthAll]
theorem pairsD_lay : ∀ ps : List E2, PyData.canLayAll0 (ps.map pairD) = true
  | [] => by rw [List.map_nil]; simp [PyData.canLayAll0]
  | p :: ps => by simp [PyData.canLayAll0, pairD_lay p, pairsD_lay ps]
theorem pairsD_depth : ∀ ps : List E2, PyData.depthAll (ps.map pairD) ≤ 1
  | [] => by rw [List.map_nil]; simp [PyData.depthAll]
  | p :: ps => by
    have a := pairsD_depth ps
    have b := pairD_depth p
    rw [List.map_cons]
    simp only [PyData.depthAll]
    omega
theorem pairD_eqv (p q : E2) : PyData.eqv (pairD p) (pairD q) = decide (p = q) := by
  obtain ⟨a, b⟩ := p
  obtain ⟨c, d⟩ := q
  simp only [pairD, PyData.eqv, PyData.eqvAll, Bool.and_true]
  by_cases h1 : a = c
  · subst h1
    by_cases h2 : b = d
    · subst h2
      simp
    · have z : ((b : Int) == (d : Int)) = false := beq_eq_false_iff_ne.mpr fun e => h2 (by omega)
      simp [z, h2]
  · have z : ((a : Int) == (c : Int)) = false := beq_eq_false_iff_ne.mpr fun e => h1 (by omega)
    simp [z, h1]
theorem any_pairs (p : E2) : ∀ es : List E2, ((es.map pairD).any fun z => PyData.eqv z (pairD p)) = decide (p ∈ es)
  | [] => rfl
  | q :: es => by
    rw [List.map_cons, List.any_cons, any_pairs p es, pairD_eqv]
    by_cases h : q = p
    · subst h
      simp
    · have h' : p ≠ q := fun e => h e.symm
      simp [h, h']
section
variable {X : Cx}
def rInP (k : Bool → Bool) (K : PySem.W.Frag) : R2 := fun x y H Q => ∃ (p : E2) (t : Addr) (xs : List V) (es : List E2), PairAt K H x p ∧ y = .ref t ∧ SqT K H t xs ∧ PairsAt K H xs es ∧ Q (.bl (k (decide (p ∈ es)))) H
theorem op_inP (hu : X.A.units + 64 < cLine) : OpR X (compareOp .In) (rInP id X.K) := by
  rintro pins s σ H x y v u Q I rx ry ⟨p, t, xs, es, hp, rfl, ht, hes, q⟩
  obtain ⟨as, r1⟩ := Dp.reads I _ x v hp.dp rx
  obtain ⟨bs, r2⟩ := Dp.reads I (.tuple (es.map pairD)) (.ref t) u (.tup ht hes.dp) ry
  refine SeqAt.in_tuple_reads r2 r1 (pairsD_lay es) (pairD_lay p) ?_ ?_
  · have := pairD_depth p
    have := Nat.min_le_right (PyData.depthAll (es.map pairD)) (pairD p).depth
    omega
  · rw [any_pairs]
    exact ⟨.bl _, H, I, rfl, q⟩
theorem op_notInP (hu : X.A.units + 64 < cLine) : OpR X (compareOp .NotIn) (rInP not X.K) := by
  rintro pins s σ H x y v u Q I rx ry ⟨p, t, xs, es, hp, rfl, ht, hes, q⟩
  obtain ⟨as, r1⟩ := Dp.reads I _ x v hp.dp rx
  obtain ⟨bs, r2⟩ := Dp.reads I (.tuple (es.map pairD)) (.ref t) u (.tup ht hes.dp) ry
  refine SeqAt.notIn_tuple_reads r2 r1 (pairsD_lay es) (pairD_lay p) ?_ ?_
  · have := pairD_depth p
    have := Nat.min_le_right (PyData.depthAll (es.map pairD)) (pairD p).depth
    omega
  · rw [any_pairs]
    exact ⟨.bl _, H, I, rfl, q⟩
end
end My

set_option maxHeartbeats 2000000
/-! graph6 in plain Lean. -/
namespace My
open PySem PySem.Spec PyProof.Rows L2
/-- a walk from any heap on: S says a turn, by what follows it -/
theorem lo_it {J : It} {n : Nat} {G : Hp → Prop} {Y : Nat → Hp → V → Hp → Prop} (w : Walk J n G Y) {S : V → Hp → (Hp → Prop) → Prop} {Qd : Hp → Prop} {H0 : Hp} (Pv : Nat → Hp → Prop) (h0 : Pv 0 H0) (hG : ∀ i H, i ≤ n → Pv i H → G H)
    (hs : ∀ i x H H', i < n → Pv i H → Y i H x H' → S x H' (Pv (i + 1))) (hd : ∀ H, Pv n H → Qd H) :
    ∃ W : Nat → Nat → Hp → Prop, (∃ m, W 0 m H0) ∧ ∀ i m H, W i m H → (J.stop i H ∧ Qd H) ∨ (J.go i H ∧ ∃ Nx : Hp → Prop, (∀ H', Nx H' → ∃ m', m' < m ∧ W (i + 1) m' H') ∧ ∀ x H', J.yld i H x H' → S x H' Nx) := by
  refine ⟨fun i m H => i + m = n ∧ Pv i H, ⟨n, Nat.zero_add n, h0⟩, fun i m H hw => ?_⟩
  obtain ⟨e, pv⟩ := hw
  have g := hG i H (by omega) pv
  rcases Nat.eq_zero_or_pos m with z | z
  · have en : i = n := by omega
    subst en
    exact .inl ⟨w.stops H g, hd H pv⟩
  · refine .inr ⟨w.goes i H (by omega) g, Pv (i + 1), fun H' pv' => ⟨m - 1, by omega, by omega, pv'⟩, fun x H' y => ?_⟩
    exact hs i x H H' (by omega) pv (w.yields i H x H' (by omega) g y)
/-- the pairs by their greater number, then by the lesser -/
def pairsG (n : Nat) : List E2 := (List.range n).flatMap fun v => (List.range v).map fun u => (u, v)
def bit1 (es : List E2) (p : E2) : Nat := if p ∈ es then 1 else 0
def bitsOf (n : Nat) (es : List E2) : List Nat := (pairsG n).map (bit1 es)
def pad (b : List Nat) : List Nat := b ++ List.replicate ((b.length + 5) / 6 * 6 - b.length) 0
def numOf (b : List Nat) : Nat := b.foldl (fun a x => 2 * a + x) 0
def chunk (b : List Nat) (i : Nat) : List Nat := (b.drop (6 * i)).take 6
def groups (b : List Nat) : Nat := (b.length + 5) / 6
/-- the text of signs told by numbers -/
def tx (ks : List Nat) : Str := ⟨(ks.map (63 + ·)).toArray⟩
/-- the 64 signs -/
def SG : Str := tx (List.range 64)
def codeL (n : Nat) (es : List E2) : List Nat := n :: (List.range (groups (bitsOf n es))).map fun i => numOf (chunk (pad (bitsOf n es)) i)
theorem tx_len (ks : List Nat) : (tx ks).length = ks.length := by
  show ((ks.map (63 + ·)).toArray).size = _
  rw [List.size_toArray, List.length_map]
theorem tx_append (ks ls : List Nat) : tx ks ++ tx ls = tx (ks ++ ls) := by
  show Str.append _ _ = _
  unfold Str.append tx
  rw [List.map_append]
  simp
theorem join_tx : ∀ ks : List Nat, Str.join "" (ks.map fun k => tx [k]) = tx ks
  | [] => rfl
  | [k] => rfl
  | k :: l :: ks => by
    show tx [k] ++ (("" : String) : Str) ++ Str.join "" ((l :: ks).map fun k => tx [k]) = _
    rw [join_tx (l :: ks)]
    have e : tx [k] ++ (("" : String) : Str) = tx [k] := by
      show Str.append _ _ = _
      unfold Str.append
      have z : ((("" : String) : Str)).cps = #[] := by decide +kernel
      rw [z, Array.append_empty]
    rw [e, tx_append]
    rfl
theorem pairsG_succ (n : Nat) : pairsG (n + 1) = pairsG n ++ (List.range n).map fun u => (u, n) := by
  unfold pairsG
  rw [List.range_succ, List.flatMap_append, List.flatMap_cons, List.flatMap_nil, List.append_nil]
theorem pairsG_few : ∀ n, n ≤ 9 → (pairsG n).length ≤ 36 := by decide +kernel
theorem mem_pairsG {n : Nat} {p : E2} : p ∈ pairsG n ↔ p.1 < p.2 ∧ p.2 < n := by
  unfold pairsG
  rw [List.mem_flatMap]
  constructor
  · rintro ⟨v, hv, h⟩
    obtain ⟨u, hu, rfl⟩ := List.mem_map.mp h
    exact ⟨List.mem_range.mp hu, List.mem_range.mp hv⟩
  · rintro ⟨h1, h2⟩
    exact ⟨p.2, List.mem_range.mpr h2, List.mem_map.mpr ⟨p.1, List.mem_range.mpr h1, rfl⟩⟩
theorem bits_len (n : Nat) (es : List E2) : (bitsOf n es).length = (pairsG n).length := List.length_map _
theorem bits_few {n : Nat} (h : n ≤ 9) (es : List E2) : (bitsOf n es).length ≤ 36 := by rw [bits_len]; exact pairsG_few n h
theorem bits_le (n : Nat) (es : List E2) : ∀ b ∈ bitsOf n es, b ≤ 1 := by
  intro b hb
  obtain ⟨p, _, rfl⟩ := List.mem_map.mp hb
  unfold bit1
  split <;> omega
theorem pad_len (b : List Nat) : (pad b).length = 6 * groups b := by
  unfold pad groups
  rw [List.length_append, List.length_replicate]
  omega
theorem pad_le {b : List Nat} (h : ∀ x ∈ b, x ≤ 1) : ∀ x ∈ pad b, x ≤ 1 := by
  intro x hx
  rcases List.mem_append.mp hx with hx | hx
  · exact h x hx
  · rw [(List.mem_replicate.mp hx).2]
    exact Nat.zero_le _
theorem foldl_lt : ∀ (b : List Nat) (a k : Nat), (∀ x ∈ b, x ≤ 1) → a < 2 ^ k → b.foldl (fun a x => 2 * a + x) a < 2 ^ (k + b.length)
  | [], a, k, _, h => h
  | x :: b, a, k, hb, h => by
    have hx := hb x (List.mem_cons_self ..)
    have z := foldl_lt b (2 * a + x) (k + 1) (fun y hy => hb y (List.mem_cons_of_mem _ hy)) (by rw [Nat.pow_succ]; omega)
    rw [List.foldl_cons, List.length_cons, show k + (b.length + 1) = k + 1 + b.length by omega]
    exact z
theorem numOf_lt {b : List Nat} (h : ∀ x ∈ b, x ≤ 1) : numOf b < 2 ^ b.length := by
  have z := foldl_lt b 0 0 h (by decide)
  rw [Nat.zero_add] at z
  exact z
theorem numOf_snoc (b : List Nat) (x : Nat) : numOf (b ++ [x]) = 2 * numOf b + x := by
  unfold numOf
  rw [List.foldl_append]
  rfl
theorem chunk_sub (b : List Nat) (i : Nat) : ∀ x ∈ chunk b i, x ∈ b := fun x hx => List.mem_of_mem_drop (List.mem_of_mem_take hx)
theorem chunk_len {b : List Nat} {i : Nat} (h : 6 * i + 6 ≤ b.length) : (chunk b i).length = 6 := by
  unfold chunk
  rw [List.length_take, List.length_drop]
  omega
theorem chunk_lt {b : List Nat} {i : Nat} (hb : ∀ x ∈ b, x ≤ 1) : numOf (chunk b i) < 64 := by
  have z := numOf_lt (b := chunk b i) fun x hx => hb x (chunk_sub b i x hx)
  have l : (chunk b i).length ≤ 6 := by
    unfold chunk
    rw [List.length_take]
    omega
  exact Nat.lt_of_lt_of_le z (Nat.pow_le_pow_right (by decide) l)
theorem SG_at : ∀ k : Nat, k < 64 → atI SG.cps.toList (k : Int) = some (63 + k) := by
  intro k hk
  refine atI_nat ?_
  show ((List.range 64).map (63 + ·))[k]? = _
  rw [List.getElem?_map, List.getElem?_range hk]
  rfl
theorem six : ∀ k : Nat, k ≤ 42 → RgC 0 (k : Int) 6 ((k + 5) / 6) := by
  have h : ∀ k : Nat, k ≤ 42 → Builtin.Range.small 0 (k : Int) 6 = true ∧ Builtin.Range.rangeSize 0 (k : Int) 6 = (((k + 5) / 6 : Nat) : Int) := by decide +kernel
  exact fun k hk => ⟨by decide, by decide, (h k hk).1, (h k hk).2⟩
end My

set_option maxHeartbeats 2000000
/-! Reading graph6, in plain Lean: by the signs' codes. -/
namespace My
open PySem PySem.Spec PyProof.Rows L2
/-- the sign c can stand at place a behind the first one, with L pairs to tell -/
def goodS (L a c : Nat) : Bool := decide (63 ≤ c ∧ c < 127) && decide (6 * a < L) && decide ((c - 63) % 2 ^ (6 - (L - 6 * a)) = 0)
/-- where it is wrong, by how many signs are right -/
def scan (L : Nat) : Nat → List Nat → Option Nat
  | a, [] => if 6 * a < L then some (a + 1) else none
  | a, c :: cs => if goodS L a c = true then scan L (a + 1) cs else some (a + 1)
def bits6 (c : Nat) : List Nat := [5, 4, 3, 2, 1, 0].map fun p => (c - 63) / 2 ^ p % 2
def bitsC (cs : List Nat) : List Nat := cs.flatMap bits6
def tellP (ps : List E2) (bs : List Nat) : List E2 := ((ps.zip bs).filter fun q => q.2 != 0).map (·.1)
inductive RdG where
  | bad (k : Nat)
  | told (n : Nat) (ps : List E2)
def readG : List Nat → RdG
  | [] => .bad 0
  | c :: cs => if 63 ≤ c ∧ c ≤ 72 then match scan (pairsG (c - 63)).length 0 cs with
    | some k => .bad k
    | none => .told (c - 63) (tellP (pairsG (c - 63)) (bitsC cs))
    else .bad 0
theorem bitsC_len (cs : List Nat) : (bitsC cs).length = 6 * cs.length := by
  unfold bitsC
  induction cs with
  | nil => rfl
  | cons c cs ih => rw [List.flatMap_cons, List.length_append, ih, List.length_cons]; show 6 + _ = _; omega
theorem eq_of_up : ∀ {es fs : List E2}, es.Pairwise ahead → fs.Pairwise ahead → (∀ q, q ∈ es ↔ q ∈ fs) → es = fs
  | [], [], _, _, _ => rfl
  | [], f :: fs, _, _, h => absurd ((h f).mpr (List.mem_cons_self ..)) (fun z => nomatch z)
  | e :: es, [], _, _, h => absurd ((h e).mp (List.mem_cons_self ..)) (fun z => nomatch z)
  | e :: es, f :: fs, he, hf, h => by
    obtain ⟨e1, e2⟩ := List.pairwise_cons.mp he
    obtain ⟨f1, f2⟩ := List.pairwise_cons.mp hf
    have ef : e = f := by
      rcases List.mem_cons.mp ((h e).mp (List.mem_cons_self ..)) with z | z
      · exact z
      · rcases List.mem_cons.mp ((h f).mpr (List.mem_cons_self ..)) with y | y
        · exact y.symm
        · have a1 := f1 e z
          have a2 := e1 f y
          unfold ahead at a1 a2
          omega
    subst ef
    refine congrArg (e :: ·) (eq_of_up e2 f2 fun q => ⟨fun z => ?_, fun z => ?_⟩)
    · rcases List.mem_cons.mp ((h q).mp (List.mem_cons_of_mem _ z)) with y | y
      · exact absurd (e1 q z) (fun w => ahead_ne w y.symm)
      · exact y
    · rcases List.mem_cons.mp ((h q).mpr (List.mem_cons_of_mem _ z)) with y | y
      · exact absurd (f1 q z) (fun w => ahead_ne w y.symm)
      · exact y
theorem tellP_snoc {ps : List E2} {bs : List Nat} {p : E2} {b : Nat} (h : ps.length = bs.length) : tellP (ps ++ [p]) (bs ++ [b]) = tellP ps bs ++ (if b != 0 then [p] else []) := by
  unfold tellP
  rw [List.zip_append h, List.filter_append, List.map_append]
  congr 1
  show (([(p, b)] : List (E2 × Nat)).filter _).map _ = _
  cases e : (b != 0)
  · rw [List.filter_cons_of_neg (by simpa using e)]
    rfl
  · rw [List.filter_cons_of_pos (by simpa using e)]
    rfl
theorem tellP_sub (ps : List E2) (bs : List Nat) : ∀ q ∈ tellP ps bs, q ∈ ps := by
  intro q hq
  obtain ⟨r, hr, rfl⟩ := List.mem_map.mp hq
  exact (List.of_mem_zip (List.mem_filter.mp hr).1).1
/-! ### there and back -/
theorem bits6_of : ∀ a b c d e f : Nat, a ≤ 1 → b ≤ 1 → c ≤ 1 → d ≤ 1 → e ≤ 1 → f ≤ 1 → bits6 (63 + numOf [a, b, c, d, e, f]) = [a, b, c, d, e, f] := by
  have h : ∀ a b c d e f : Fin 2, bits6 (63 + numOf [a.val, b.val, c.val, d.val, e.val, f.val]) = [a.val, b.val, c.val, d.val, e.val, f.val] := by decide +kernel
  exact fun a b c d e f h1 h2 h3 h4 h5 h6 => h ⟨a, by omega⟩ ⟨b, by omega⟩ ⟨c, by omega⟩ ⟨d, by omega⟩ ⟨e, by omega⟩ ⟨f, by omega⟩
theorem bits6_chunk {b : List Nat} (l : b.length = 6) (h : ∀ x ∈ b, x ≤ 1) : bits6 (63 + numOf b) = b := by
  match b, l, h with
  | [a, b, c, d, e, f], _, h => exact bits6_of a b c d e f (h a (by simp)) (h b (by simp)) (h c (by simp)) (h d (by simp)) (h e (by simp)) (h f (by simp))
theorem chunks_all {b : List Nat} : ∀ m, b.length = 6 * m → (List.range m).flatMap (chunk b) = b
  | 0, h => by
    rw [List.range_zero, List.flatMap_nil]
    exact (List.eq_nil_of_length_eq_zero (by omega)).symm
  | m + 1, h => by
    have ih := chunks_all (b := b.drop 6) m (by rw [List.length_drop]; omega)
    rw [List.range_succ_eq_map, List.flatMap_cons, List.flatMap_map]
    have e : (List.range m).flatMap (fun i => chunk b (Nat.succ i)) = (List.range m).flatMap (chunk (b.drop 6)) := by
      congr 1
      funext i
      unfold chunk
      rw [List.drop_drop]
      congr 2
      omega
    rw [e, ih]
    unfold chunk
    rw [Nat.mul_zero, List.drop_zero, List.take_append_drop]
theorem bitsC_code {b : List Nat} {m : Nat} (l : b.length = 6 * m) (h : ∀ x ∈ b, x ≤ 1) : bitsC ((List.range m).map fun i => 63 + numOf (chunk b i)) = b := by
  unfold bitsC
  rw [List.flatMap_map]
  have e : ∀ i ∈ List.range m, bits6 (63 + numOf (chunk b i)) = chunk b i := fun i hi => by
    have im := List.mem_range.mp hi
    exact bits6_chunk (chunk_len (by omega)) fun x hx => h x (chunk_sub b i x hx)
  have e2 : (List.range m).flatMap (fun i => bits6 (63 + numOf (chunk b i))) = (List.range m).flatMap (chunk b) := by
    rw [List.flatMap_def, List.flatMap_def, List.map_congr_left e]
  rw [e2, chunks_all m l]
theorem numOf_zeros (b : List Nat) : ∀ k, numOf (b ++ List.replicate k 0) = numOf b * 2 ^ k
  | 0 => by rw [List.replicate_zero, List.append_nil, Nat.pow_zero, Nat.mul_one]
  | k + 1 => by
    rw [List.replicate_succ', ← List.append_assoc, numOf_snoc, numOf_zeros b k, Nat.pow_succ, Nat.add_zero, Nat.mul_comm 2, Nat.mul_assoc]
theorem goodS_code {bs : List Nat} {i : Nat} (h : ∀ x ∈ bs, x ≤ 1) (hi : i < groups bs) : goodS bs.length i (63 + numOf (chunk (pad bs) i)) = true := by
  have lt := chunk_lt (i := i) (pad_le h)
  unfold groups at hi
  unfold goodS
  rw [Bool.and_eq_true, Bool.and_eq_true]
  refine ⟨⟨decide_eq_true (by omega), decide_eq_true (by omega)⟩, decide_eq_true ?_⟩
  rw [Nat.add_sub_cancel_left]
  by_cases f : 6 * i + 6 ≤ bs.length
  · rw [show 6 - (bs.length - 6 * i) = 0 by omega, Nat.pow_zero, Nat.mod_one]
  · have e : chunk (pad bs) i = bs.drop (6 * i) ++ List.replicate (6 - (bs.length - 6 * i)) 0 := by
      unfold chunk pad
      rw [List.drop_append_of_le_length (by omega)]
      rw [List.take_of_length_le (by rw [List.length_append, List.length_drop, List.length_replicate]; omega)]
      congr 2
      omega
    rw [e, numOf_zeros, Nat.mul_mod_left]
theorem scan_code {L m : Nat} (f : Nat → Nat) (hm : m = (L + 5) / 6) (h : ∀ i, i < m → goodS L i (f i) = true) : ∀ k, k ≤ m → scan L k (((List.range m).drop k).map f) = none := by
  intro k hk
  induction e : m - k generalizing k with
  | zero =>
    have : k = m := by omega
    subst this
    rw [List.drop_eq_nil_of_le (by rw [List.length_range]; exact Nat.le_refl _)]
    show (if 6 * k < L then some (k + 1) else none) = none
    rw [if_neg (by omega)]
  | succ d ih =>
    have lk : k < (List.range m).length := by rw [List.length_range]; omega
    rw [List.drop_eq_getElem_cons lk, List.getElem_range, List.map_cons]
    show (if goodS L k (f k) = true then scan L (k + 1) _ else some (k + 1)) = none
    rw [if_pos (h k (by omega))]
    exact ih (k + 1) (by omega) (by omega)
theorem tellP_bits (es : List E2) : ∀ (ps : List E2) (k : Nat), tellP ps (ps.map (bit1 es) ++ List.replicate k 0) = ps.filter fun p => decide (p ∈ es)
  | [], k => by
    unfold tellP
    rw [List.zip_nil_left]
    rfl
  | p :: ps, k => by
    have ih := tellP_bits es ps k
    unfold tellP at ih ⊢
    rw [List.map_cons, List.cons_append, List.zip_cons_cons]
    unfold bit1 at *
    by_cases h : p ∈ es
    · rw [List.filter_cons_of_pos (by simp [h]), List.map_cons, List.filter_cons_of_pos (by simpa using h), ih]
    · rw [List.filter_cons_of_neg (by simp [h]), List.filter_cons_of_neg (by simpa using h), ih]
/-- the text of a graph, read -/
theorem read_code {n : Nat} {es : List E2} (g : Good n es) : readG ((codeL n es).map (63 + ·)) = .told n ((pairsG n).filter fun p => decide (p ∈ es)) := by
  unfold codeL
  rw [List.map_cons, List.map_map]
  have n9 := g.n9
  have hb := bits_le n es
  show (if 63 ≤ 63 + n ∧ 63 + n ≤ 72 then _ else _) = _
  rw [if_pos (by omega), Nat.add_sub_cancel_left]
  have e1 : ((fun x => 63 + x) ∘ fun i => numOf (chunk (pad (bitsOf n es)) i)) = fun i => 63 + numOf (chunk (pad (bitsOf n es)) i) := rfl
  rw [e1]
  have s := scan_code (L := (pairsG n).length) (m := groups (bitsOf n es)) (fun i => 63 + numOf (chunk (pad (bitsOf n es)) i)) (by unfold groups; rw [bits_len]) (fun i hi => by rw [← bits_len n es]; exact goodS_code hb hi) 0 (Nat.zero_le _)
  rw [List.drop_zero] at s
  rw [s, bitsC_code (pad_len _) (pad_le hb)]
  show RdG.told n (tellP (pairsG n) (pad (bitsOf n es))) = _
  unfold pad
  rw [show bitsOf n es = (pairsG n).map (bit1 es) from rfl, tellP_bits]
end My

set_option maxHeartbeats 2000000
/-! Pairs that stand in the heap by themselves; sorted lists of them. -/
namespace My
open PySem PySem.Spec PyProof.Rows L2
def PairT (H : Hp) (x : V) (p : E2) : Prop := ∃ t, x = .ref t ∧ H t = some (.tup [.int (p.1 : Int), .int (p.2 : Int)])
abbrev PairsT (H : Hp) : List V → List E2 → Prop := Paired (PairT H)
theorem PairT.at {K : PySem.W.Frag} {H : Hp} {x : V} {p : E2} (h : PairT H x p) : PairAt K H x p := by
  obtain ⟨t, e, h⟩ := h
  exact ⟨t, e, SqT.of h⟩
theorem PairsT.at {K : PySem.W.Frag} {H : Hp} : ∀ {xs : List V} {ps : List E2}, PairsT H xs ps → PairsAt K H xs ps
  | _, _, .nil => .nil
  | _, _, .cons a b => .cons a.at (PairsT.at b)
theorem PairsT.same {H H' : Hp} (s : Same H H') : ∀ {xs : List V} {ps : List E2}, PairsT H xs ps → PairsT H' xs ps
  | _, _, .nil => .nil
  | _, _, .cons ⟨t, e, h⟩ b => .cons ⟨t, e, s _ _ h⟩ (PairsT.same s b)
theorem PairsT.put {H : Hp} {D : Addr} {o : HO} {zs : List V} (hD : H D = some (.lst zs)) : ∀ {xs : List V} {ps : List E2}, PairsT H xs ps → PairsT (upd H D o) xs ps
  | _, _, .nil => .nil
  | _, _, .cons ⟨t, e, h⟩ b => .cons ⟨t, e, by rw [upd_ne (fun z => by rw [z, hD] at h; cases h)]; exact h⟩ (PairsT.put hD b)
theorem PairsT.append {H : Hp} : ∀ {xs ys : List V} {ps qs : List E2}, PairsT H xs ps → PairsT H ys qs → PairsT H (xs ++ ys) (ps ++ qs)
  | _, _, _, _, .nil, h => h
  | _, _, _, _, .cons a b, h => .cons a (PairsT.append b h)
theorem PairsT.len {H : Hp} : ∀ {xs : List V} {ps : List E2}, PairsT H xs ps → xs.length = ps.length
  | _, _, .nil => rfl
  | _, _, .cons _ b => congrArg (· + 1) (PairsT.len b)
theorem push_pairT {H : Hp} {D r : Addr} {zs : List V} {ps : List E2} (p : E2) (hD : H D = some (.lst zs)) (nr : H r = none) (h : PairsT H zs ps) :
    PairsT (upd (upd H r (.tup [.int (p.1 : Int), .int (p.2 : Int)])) D (.lst (zs ++ [.ref r]))) (zs ++ [.ref r]) (ps ++ [p]) := by
  have s1 : Same H (upd H r (.tup [.int (p.1 : Int), .int (p.2 : Int)])) := fun b u q => by rw [upd_ne (ne_of_none q nr)]; exact q
  have h2 : PairsT (upd H r (.tup [.int (p.1 : Int), .int (p.2 : Int)])) (zs ++ [.ref r]) (ps ++ [p]) := (h.same s1).append (.cons ⟨r, rfl, upd_same⟩ .nil)
  exact h2.put (s1 _ _ hD)
/-- the numbers of a pair at a value -/
def kOf (H : Hp) (x : V) : Int × Int := match x with
  | .ref t => match H t with
    | some (.tup [.int i, .int j]) => (i, j)
    | _ => (0, 0)
  | _ => (0, 0)
def gOf (H : Hp) (x : V) : E2 := ((kOf H x).1.toNat, (kOf H x).2.toNat)
theorem kOf_at {H : Hp} {x : V} {p : E2} (h : PairT H x p) : kOf H x = ((p.1 : Int), (p.2 : Int)) := by
  obtain ⟨t, rfl, h⟩ := h
  show (match H t with
    | some (.tup [.int i, .int j]) => (i, j)
    | _ => ((0 : Int), (0 : Int))) = _
  rw [h]
theorem gOf_at {H : Hp} {x : V} {p : E2} (h : PairT H x p) : gOf H x = p := by
  unfold gOf
  rw [kOf_at h]
  rfl
theorem map_gOf {H : Hp} : ∀ {xs : List V} {ps : List E2}, PairsT H xs ps → xs.map (gOf H) = ps
  | _, _, .nil => rfl
  | _, _, .cons a b => by rw [List.map_cons, gOf_at a, map_gOf b]
theorem PairsT.mem {H : Hp} : ∀ {xs : List V} {ps : List E2}, PairsT H xs ps → ∀ x ∈ xs, PairT H x (gOf H x)
  | _, _, .nil => fun _ z => nomatch z
  | _, _, .cons a b => fun x hx => by
    rcases List.mem_cons.mp hx with rfl | hx
    · rw [gOf_at a]; exact a
    · exact PairsT.mem b x hx
theorem PairsT.of_mem {H : Hp} : ∀ {ys : List V}, (∀ y ∈ ys, PairT H y (gOf H y)) → PairsT H ys (ys.map (gOf H))
  | [], _ => .nil
  | y :: ys, h => .cons (h y (List.mem_cons_self ..)) (PairsT.of_mem fun z hz => h z (List.mem_cons_of_mem _ hz))
/-- sorted pairs, none twice, ascend -/
theorem sorted_pairs {H : Hp} {xs ys : List V} {ps : List E2} (h : PairsT H xs ps) (nd : ps.Nodup) (so : SrtO.Srtd (ltP (kOf H)) ys) (st : SrtO.Stb (ltP (kOf H)) ys xs) :
    PairsT H ys (ys.map (gOf H)) ∧ (ys.map (gOf H)).Pairwise ahead ∧ ∀ q, q ∈ ys.map (gOf H) ↔ q ∈ ps := by
  have pm : (ys.map (gOf H)).Perm ps := by
    have z := st.perm.map (gOf H)
    rw [map_gOf h] at z
    exact z
  have hy : ∀ y ∈ ys, PairT H y (gOf H y) := fun y hy => h.mem y (st.perm.mem_iff.mp hy)
  refine ⟨PairsT.of_mem hy, ?_, fun q => pm.mem_iff⟩
  have nd2 : (ys.map (gOf H)).Nodup := pm.nodup_iff.mpr nd
  rw [List.pairwise_map]
  refine (so.and (List.pairwise_map.mp nd2)).imp_of_mem ?_
  intro a b ha hb ⟨le, ne⟩
  have ka := kOf_at (hy a ha)
  have kb := kOf_at (hy b hb)
  have le2 : SrtO.lexB (kOf H b) (kOf H a) = false := le
  rw [ka, kb] at le2
  have le3 := mt (SrtO.lexB_iff (p := (((gOf H b).1 : Int), ((gOf H b).2 : Int))) (q := (((gOf H a).1 : Int), ((gOf H a).2 : Int)))).mpr (by rw [le2]; decide)
  dsimp only at le3
  have ne2 : ¬ ((gOf H a).1 = (gOf H b).1 ∧ (gOf H a).2 = (gOf H b).2) := fun ⟨x, y⟩ => ne (Prod.ext x y)
  unfold ahead
  omega
theorem find_sg : ∀ c : Nat, c < 128 → Txt.find SG ⟨#[c]⟩ = if 63 ≤ c ∧ c < 127 then (c : Int) - 63 else -1 := by decide +kernel
theorem and_one : ∀ x : Nat, x < 64 → Builtin.bitAnd (x : Int) 1 = ((x % 2 : Nat) : Int) := by decide +kernel
/-- the number that a sign tells -/
def nm (c : Nat) : Int := if 63 ≤ c ∧ c < 127 then (c : Int) - 63 else -1
def numsZ (cs : List Nat) : List V := cs.map fun c => V.int (nm c)
theorem scan_good {L : Nat} : ∀ (cs : List Nat) (a : Nat), scan L a cs = none → ∀ i c, cs[i]? = some c → goodS L (a + i) c = true
  | [], _, _, i, c, h => by simp at h
  | d :: cs, a, h, i, c, hi => by
    have h' : (if goodS L a d = true then scan L (a + 1) cs else some (a + 1)) = none := h
    by_cases g : goodS L a d = true
    · rw [if_pos g] at h'
      cases i with
      | zero =>
        have e : d = c := by simpa using hi
        rw [← e]
        exact g
      | succ i =>
        have z := scan_good cs (a + 1) h' i c (by simpa using hi)
        rw [show a + (i + 1) = a + 1 + i by omega]
        exact z
    · rw [if_neg g] at h'
      cases h'
theorem scan_enough {L : Nat} : ∀ (cs : List Nat) (a : Nat), scan L a cs = none → L ≤ 6 * (a + cs.length)
  | [], a, h => by
    have h' : (if 6 * a < L then some (a + 1) else none) = none := h
    by_cases l : 6 * a < L
    · rw [if_pos l] at h'
      cases h'
    · rw [List.length_nil]
      omega
  | d :: cs, a, h => by
    have h' : (if goodS L a d = true then scan L (a + 1) cs else some (a + 1)) = none := h
    by_cases g : goodS L a d = true
    · rw [if_pos g] at h'
      have := scan_enough cs (a + 1) h'
      rw [List.length_cons]
      omega
    · rw [if_neg g] at h'
      cases h'
theorem bits6_at (c : Nat) : ∀ j, j < 6 → (bits6 c)[j]? = some ((c - 63) / 2 ^ (5 - j) % 2) := by
  intro j hj
  unfold bits6
  match j, hj with
  | 0, _ => rfl
  | 1, _ => rfl
  | 2, _ => rfl
  | 3, _ => rfl
  | 4, _ => rfl
  | 5, _ => rfl
theorem places_at {x : V} {j : Nat} (h : ([.int 5, .int 4, .int 3, .int 2, .int 1, .int 0] : List V)[j]? = some x) : j < 6 ∧ x = .int ((5 - j : Nat) : Int) := by
  match j, h with
  | 0, h => exact ⟨by decide, (Option.some.inj h).symm⟩
  | 1, h => exact ⟨by decide, (Option.some.inj h).symm⟩
  | 2, h => exact ⟨by decide, (Option.some.inj h).symm⟩
  | 3, h => exact ⟨by decide, (Option.some.inj h).symm⟩
  | 4, h => exact ⟨by decide, (Option.some.inj h).symm⟩
  | 5, h => exact ⟨by decide, (Option.some.inj h).symm⟩
  | j + 6, h => exact absurd h (by simp)
theorem bitsC_succ {cs : List Nat} {i c : Nat} (h : cs[i]? = some c) : bitsC (cs.take (i + 1)) = bitsC (cs.take i) ++ bits6 c := by
  unfold bitsC
  rw [List.take_succ, h, List.flatMap_append]
  show _ ++ ([c].flatMap bits6) = _
  rw [List.flatMap_cons, List.flatMap_nil, List.append_nil]
theorem pairsG_nodup : ∀ n, n ≤ 9 → (pairsG n).Nodup := by decide +kernel
theorem tellP_sublist : ∀ (ps : List E2) (bs : List Nat), (tellP ps bs).Sublist ps
  | [], bs => by unfold tellP; rw [List.zip_nil_left]; exact List.Sublist.refl _
  | p :: ps, [] => by unfold tellP; rw [List.zip_nil_right]; exact List.nil_sublist _
  | p :: ps, b :: bs => by
    have ih := tellP_sublist ps bs
    unfold tellP at ih ⊢
    rw [List.zip_cons_cons, List.filter_cons]
    split
    · rw [List.map_cons]
      exact ih.cons_cons p
    · exact ih.cons p
theorem tellP_nodup {ps : List E2} {bs : List Nat} (h : ps.Nodup) : (tellP ps bs).Nodup := h.sublist (tellP_sublist ps bs)
end My

set_option maxHeartbeats 4000000
/-! What is told is fit to be shown. -/
namespace My
open PySem PySem.Spec PyProof.Rows L2
theorem app_len (a b : Str) : (a ++ b).length = a.length + b.length := by
  show (a.cps ++ b.cps).size = _
  rw [Array.size_append]
  rfl
theorem tup_len (ts : List Str) : (tupleText ts).length ≤ (ts.map (·.length)).sum + 2 * ts.length + 3 := by
  have h := StrLaws.join_length_le ", " ts
  have c : ((", " : String) : Str).length = 2 := by decide +kernel
  have o : (("(" : String) : Str).length = 1 := by decide +kernel
  have e1 : ((",)" : String) : Str).length = 2 := by decide +kernel
  have e2 : ((")" : String) : Str).length = 1 := by decide +kernel
  unfold tupleText
  rw [app_len, app_len, o]
  rw [c] at h
  split
  · rw [e1]; omega
  · rw [e2]; omega
theorem from_len : ∀ (ts : List Str) (k : Nat) (acc : Str), (textFrom k acc ts).length ≤ acc.length + (ts.map (·.length)).sum + 2 * ts.length
  | [], k, acc => by show acc.length ≤ acc.length + 0 + 0; omega
  | t :: ts, k, acc => by
    have h := from_len ts (k + 1) (acc ++ (((if k > 0 then ", " else "" : String)) : Str) ++ t)
    have c : ((", " : String) : Str).length = 2 := by decide +kernel
    have c0 : (("" : String) : Str).length = 0 := by decide +kernel
    have e : (acc ++ (((if k > 0 then ", " else "" : String)) : Str) ++ t : Str).length ≤ acc.length + 2 + t.length := by
      rw [app_len, app_len]
      split
      · rw [c]; omega
      · rw [c0]; omega
    show (textFrom (k + 1) (acc ++ (((if k > 0 then ", " else "" : String)) : Str) ++ t) ts).length ≤ _
    rw [List.map_cons, List.sum_cons, List.length_cons]
    omega
theorem lst_len (ts : List Str) : (listText ts).length ≤ (ts.map (·.length)).sum + 2 * ts.length + 2 := by
  have h := from_len ts 0 "["
  have o : (("[" : String) : Str).length = 1 := by decide +kernel
  have e2 : (("]" : String) : Str).length = 1 := by decide +kernel
  unfold listText
  rw [app_len, e2]
  rw [o] at h
  omega
theorem pair_fine : ∀ a, a ≤ 9 → ∀ b, b ≤ 9 → (pairD (a, b)).shown.length ≤ 6 ∧ (pairD (a, b)).showable = true := by decide +kernel
theorem pairs_fine : ∀ {es : List E2}, (∀ p ∈ es, p.1 ≤ 9 ∧ p.2 ≤ 9) → ((PyData.shownAll (es.map pairD)).map (·.length)).sum ≤ 6 * es.length ∧ (PyData.shownAll (es.map pairD)).length = es.length ∧ PyData.showableAll (es.map pairD) = true
  | [], _ => ⟨Nat.le_refl _, rfl, by rw [List.map_nil]; simp [PyData.showableAll]⟩
  | p :: es, h => by
    obtain ⟨h1, h2, h3⟩ := pairs_fine (es := es) fun q hq => h q (List.mem_cons_of_mem _ hq)
    obtain ⟨a, b⟩ := h p (List.mem_cons_self ..)
    obtain ⟨f1, f2⟩ := pair_fine p.1 a p.2 b
    rw [List.map_cons]
    simp only [PyData.shownAll, PyData.showableAll, List.map_cons, List.sum_cons, List.length_cons]
    refine ⟨?_, by omega, ?_⟩
    · have f1' : (pairD p).shown.length ≤ 6 := f1
      omega
    · have f2' : (pairD p).showable = true := f2
      rw [f2', h3]
      rfl
theorem num_fine : ∀ n : Nat, n ≤ 9 → (PyData.int (n : Int)).shown.length ≤ 1 ∧ (PyData.int (n : Int)).showable = true := by decide +kernel
theorem graph_fine {n : Nat} {es : List E2} (g : Good n es) : (graphD n es).shown.length ≤ 400 ∧ (graphD n es).showable = true ∧ (graphD n es).depth ≤ 3 := by
  have n9 := g.n9
  obtain ⟨h1, h2, h3⟩ := pairs_fine (es := es) fun p hp => by have := g.lt p hp; omega
  obtain ⟨f1, f2⟩ := num_fine n n9
  have few := g.few
  have t1 := tup_len (PyData.shownAll (es.map pairD))
  have t2 := tup_len [(PyData.int (n : Int)).shown, tupleText (PyData.shownAll (es.map pairD))]
  have pd := pairsD_depth es
  unfold graphD
  refine ⟨?_, ?_, ?_⟩
  · have e : (PyData.tuple [.int (n : Int), .tuple (es.map pairD)]).shown = tupleText [(PyData.int (n : Int)).shown, tupleText (PyData.shownAll (es.map pairD))] := by simp [PyData.shown, PyData.shownAll]
    rw [e]
    simp only [List.map_cons, List.map_nil, List.sum_cons, List.sum_nil, List.length_cons, List.length_nil] at t2
    omega
  · simp [PyData.showable, PyData.showableAll, h3]
    simpa [PyData.showable] using f2
  · simp only [PyData.depth, PyData.depthAll]
    omega
def FineD (d : PyData) : Prop := d.showable = true ∧ d.depth ≤ 60 ∧ d.shown.length ≤ sizeLine
instance (d : PyData) : Decidable (FineD d) := inferInstanceAs (Decidable (_ ∧ _ ∧ _))
theorem bad_fine : ∀ k : Nat, k ≤ 950 → FineD (.list [.str "wrong", .int (k : Int)]) := by decide +kernel
theorem told_fine {n : Nat} {es : List E2} (g : Good n es) : FineD (.list [.str "told", graphD n es]) := by
  obtain ⟨h1, h2, h3⟩ := graph_fine g
  have c : (reprText "told").length = 6 := by decide +kernel
  have t := lst_len [reprText "told", (graphD n es).shown]
  refine ⟨?_, ?_, ?_⟩
  · simp [PyData.showable, PyData.showableAll, h2]
  · simp only [PyData.depth, PyData.depthAll]
    omega
  · have e : (PyData.list [.str "told", graphD n es]).shown = listText [reprText "told", (graphD n es).shown] := by simp [PyData.shown, PyData.shownAll]
    rw [e]
    simp only [List.map_cons, List.map_nil, List.sum_cons, List.sum_nil, List.length_cons, List.length_nil] at t
    exact Nat.le_trans t (Nat.le_of_lt (small1000 (by omega)))
theorem three_fine {n : Nat} {es : List E2} (g : Good n es) {z : Str} (hz : ∀ c ∈ z.cps.toList, c < 128) (zl : z.length ≤ 30) : FineD (.list [.str z, .str z, .list [.str "told", graphD n es]]) := by
  obtain ⟨h1, h2, h3⟩ := told_fine g
  obtain ⟨k1, k2, k3⟩ := graph_fine g
  have r := StrLaws.reprText_len z fun c hc => Nat.lt_trans (hz c hc) (by decide)
  have c : (reprText "told").length = 6 := by decide +kernel
  have t0 := lst_len [reprText "told", (graphD n es).shown]
  have t := lst_len [reprText z, reprText z, listText [reprText "told", (graphD n es).shown]]
  refine ⟨?_, ?_, ?_⟩
  · simp [PyData.showable, PyData.showableAll, k2]
  · simp only [PyData.depth, PyData.depthAll]
    omega
  · have e : (PyData.list [.str z, .str z, .list [.str "told", graphD n es]]).shown = listText [reprText z, reprText z, listText [reprText "told", (graphD n es).shown]] := by simp [PyData.shown, PyData.shownAll]
    rw [e]
    simp only [List.map_cons, List.map_nil, List.sum_cons, List.sum_nil, List.length_cons, List.length_nil] at t t0
    exact Nat.le_of_lt (Nat.lt_of_le_of_lt t (by
      refine Nat.lt_of_lt_of_le (show _ < 5000 by omega) ?_
      rw [sizeLine_eq]
      decide))
end My

set_option maxHeartbeats 2000000
/-! Values of any kind, by their shape; what is a graph, a lot. -/
namespace My
open PySem PySem.Spec PyProof.Rows L2
inductive Sh where
  | int (i : Int)
  | bool (b : Bool)
  | str (x : Str)
  | tup (ss : List Sh)
  | oth
mutual
inductive ShAt (K : PySem.W.Frag) (H : Hp) : V → Sh → Prop
  | int (i : Int) : ShAt K H (.int i) (.int i)
  | bool (b : Bool) : ShAt K H (.bl b) (.bool b)
  | tup {t : Addr} {xs : List V} {ss : List Sh} (h : SqT K H t xs) (r : ShsAt K H xs ss) : ShAt K H (.ref t) (.tup ss)
  | non : ShAt K H .non .oth
  | str (x : Str) : ShAt K H (.str x) (.str x)
  | lst {a : Addr} {xs : List V} (h : SqL K H a xs) : ShAt K H (.ref a) .oth
  | dct {a : Addr} {kvs : List (Key × V)} (h : H a = some (.dK kvs)) : ShAt K H (.ref a) .oth
inductive ShsAt (K : PySem.W.Frag) (H : Hp) : List V → List Sh → Prop
  | nil : ShsAt K H [] []
  | cons {x : V} {s : Sh} {xs : List V} {ss : List Sh} (a : ShAt K H x s) (r : ShsAt K H xs ss) : ShsAt K H (x :: xs) (s :: ss)
end
/-- tuples and dicts stay, lists stay lists -/
structure Kp (K : PySem.W.Frag) (H H' : Hp) : Prop where
  tup : ∀ t xs, SqT K H t xs → SqT K H' t xs
  lst : ∀ a xs, SqL K H a xs → ∃ ys, SqL K H' a ys
  dct : ∀ a kvs, H a = some (.dK kvs) → H' a = some (.dK kvs)
theorem Kp.of {K : PySem.W.Frag} {H H' : Hp} (s : Same H H') : Kp K H H' := ⟨fun t xs h => Same.tup s h, fun a xs h => ⟨xs, L2.Same.seq s h⟩, fun a kvs h => s _ _ h⟩
theorem Kp.trans {K : PySem.W.Frag} {H1 H2 H3 : Hp} (a : Kp K H1 H2) (b : Kp K H2 H3) : Kp K H1 H3 := ⟨fun t xs h => b.tup t xs (a.tup t xs h), fun c xs h => by
    obtain ⟨ys, h2⟩ := a.lst c xs h
    exact b.lst c ys h2, fun c kvs h => b.dct c kvs (a.dct c kvs h)⟩
mutual
theorem ShAt.kp {K : PySem.W.Frag} {H H' : Hp} (e : Kp K H H') : ∀ {v : V} {s : Sh}, ShAt K H v s → ShAt K H' v s
  | _, _, .int i => .int i
  | _, _, .bool b => .bool b
  | _, _, .tup h r => .tup (e.tup _ _ h) (ShsAt.kp e r)
  | _, _, .non => .non
  | _, _, .str x => .str x
  | _, _, .lst h => by
    obtain ⟨ys, h2⟩ := e.lst _ _ h
    exact .lst h2
  | _, _, .dct h => .dct (e.dct _ _ h)
theorem ShsAt.kp {K : PySem.W.Frag} {H H' : Hp} (e : Kp K H H') : ∀ {xs : List V} {ss : List Sh}, ShsAt K H xs ss → ShsAt K H' xs ss
  | _, _, .nil => .nil
  | _, _, .cons a r => .cons (a.kp e) (ShsAt.kp e r)
end
theorem ShAt.same {K : PySem.W.Frag} {H H' : Hp} (e : Same H H') {v : V} {s : Sh} (h : ShAt K H v s) : ShAt K H' v s := h.kp (Kp.of e)
theorem ShsAt.same {K : PySem.W.Frag} {H H' : Hp} (e : Same H H') {xs : List V} {ss : List Sh} (h : ShsAt K H xs ss) : ShsAt K H' xs ss := h.kp (Kp.of e)
theorem ShsAt.len {K : PySem.W.Frag} {H : Hp} : ∀ {xs : List V} {ss : List Sh}, ShsAt K H xs ss → xs.length = ss.length
  | _, _, .nil => rfl
  | _, _, .cons _ r => congrArg (· + 1) (ShsAt.len r)
theorem ShsAt.get {K : PySem.W.Frag} {H : Hp} : ∀ {xs : List V} {ss : List Sh}, ShsAt K H xs ss → ∀ {i : Nat} {x : V}, xs[i]? = some x → ∃ s, ss[i]? = some s ∧ ShAt K H x s
  | _, _, .nil, i, x, e => by simp at e
  | _, _, .cons a r, 0, x, e => by simp at e; subst e; exact ⟨_, rfl, a⟩
  | _, _, .cons a r, i + 1, x, e => by
    obtain ⟨s, h1, h2⟩ := ShsAt.get r (i := i) (x := x) (by simpa using e)
    exact ⟨s, by simpa using h1, h2⟩
theorem ShsAt.app {K : PySem.W.Frag} {H : Hp} : ∀ {xs ys : List V} {ss ts : List Sh}, ShsAt K H xs ss → ShsAt K H ys ts → ShsAt K H (xs ++ ys) (ss ++ ts)
  | _, _, _, _, .nil, h => h
  | _, _, _, _, .cons a r, h => .cons a (ShsAt.app r h)
/-- the type's name -/
def tyOk (T : String) : Sh → Prop
  | .int _ => T = "int"
  | .bool _ => T = "bool"
  | .tup _ => T = "tuple"
  | .str _ => T = "str"
  | .oth => T ≠ "int" ∧ T ≠ "bool" ∧ T ≠ "tuple" ∧ T ≠ "str"
theorem ShAt.ty {K : PySem.W.Frag} {H : Hp} {v : V} {s : Sh} (h : ShAt K H v s) : ∃ T, TyB K H v T ∧ tyOk T s := by
  cases h with
  | int i => exact ⟨_, .int i, rfl⟩
  | bool b => exact ⟨_, .bl b, rfl⟩
  | tup h r => exact ⟨_, .tup h, rfl⟩
  | non => exact ⟨_, .non, (by decide : ("NoneType" : String) ≠ "int" ∧ ("NoneType" : String) ≠ "bool" ∧ ("NoneType" : String) ≠ "tuple" ∧ ("NoneType" : String) ≠ "str")⟩
  | str x => exact ⟨_, .str x, rfl⟩
  | lst h => exact ⟨_, .lst h, (by decide : ("list" : String) ≠ "int" ∧ ("list" : String) ≠ "bool" ∧ ("list" : String) ≠ "tuple" ∧ ("list" : String) ≠ "str")⟩
  | dct h => exact ⟨_, .dK h, (by decide : ("dict" : String) ≠ "int" ∧ ("dict" : String) ≠ "bool" ∧ ("dict" : String) ≠ "tuple" ∧ ("dict" : String) ≠ "str")⟩
def wholeF (lo : Int) : Sh → Bool
  | .int i => decide (i ≥ lo)
  | _ => false
def wholeR (lo hi : Int) : Sh → Bool
  | .int i => decide (i ≥ lo) && decide (i ≤ hi)
  | _ => false
def isTwo : Sh → Bool
  | .tup [_, _] => true
  | _ => false
def vpB (n : Int) : Sh → Bool
  | .tup [a, b] => wholeR 0 (n - 1) a && wholeR 0 (n - 1) b
  | _ => false
def lt2 : Sh → Bool
  | .tup [.int a, .int b] => decide (a < b)
  | _ => false
def edgeB (n : Int) (s : Sh) : Bool := vpB n s && lt2 s
/-- one stands ahead of the other, as numbers or as pairs of numbers -/
def ltS : Sh → Sh → Bool
  | .int a, .int b => decide (a < b)
  | .tup [.int a, .int b], .tup [.int c, .int d] => HT.lexLt [a, b] [c, d]
  | _, _ => false
def ascB : List Sh → Bool
  | s :: t :: r => ltS s t && ascB (t :: r)
  | _ => true
def isGr : Sh → Bool
  | .tup [.int n, .tup es] => (decide (n ≥ 0) && decide (n ≤ 9)) && (es.all (edgeB n) && ascB es)
  | _ => false
def isLot (n : Nat) : Sh → Bool
  | .tup ss => ss.all (wholeR 0 ((n : Int) - 1)) && ascB ss
  | _ => false
end My

set_option maxHeartbeats 4000000
/-! What the second family of laws draws from: the pot; values of any kind made from written ones. -/
namespace My
open PySem PySem.Spec PyProof.Rows L2
theorem same_new {H : Hp} {p : Addr} (h : H p = none) (o : HO) : Same H (upd H p o) := fun b u q => by rw [upd_ne (ne_of_none q h)]; exact q
theorem small {n : Nat} (h : n ≤ 1000) : n ≤ sizeLine := Nat.le_of_lt (small1000 h)
theorem iteB {c : Bool} {A B : Prop} (h1 : c = true → A) (h2 : c = false → B) : if c = true then A else B := by
  cases c with
  | true => exact iteT (h1 rfl)
  | false => exact iteF (h2 rfl)
theorem join {i : Nat} {σ : L2.St} {N : L2.St → Hp → Prop} {H : Hp} {G : Prop} {R : V → Prop} (h : (∀ v, R v → gName i v σ H N) → G) (g : ∀ v, R v → gName i v σ H N) : G := h g
theorem joinS {i : Nat} {σ : L2.St} {N : L2.St → Hp → Prop} {G : Prop} {R : V → Hp → Prop} (h : (∀ v H, R v H → gName i v σ H N) → G) (g : ∀ v H, R v H → gName i v σ H N) : G := h g
theorem joinT {N : L2.St → Hp → Prop} {G : Prop} {R : L2.St → Hp → Prop} (h : (∀ σ H, R σ H → N σ H) → G) (g : ∀ σ H, R σ H → N σ H) : G := h g
/-- a pot at p -/
def Wl (H : Hp) (p : Addr) : Prop := ∃ (a : Int) (b : Fin 2147483629) (c : Int), H p = some (.lst [.int a, .int ((b.val : Nat) : Int), .int c])
theorem wl_mk {H : Hp} {p : Addr} {a x c : Int} (h : H p = some (.lst [.int a, .int x, .int c])) (h0 : 0 ≤ x) (h1 : x < 2147483629) : Wl H p := by
  refine ⟨a, ⟨x.toNat, by omega⟩, c, ?_⟩
  rw [h]
  have : ((x.toNat : Nat) : Int) = x := by omega
  show _ = some (HO.lst [.int a, .int ((x.toNat : Nat) : Int), .int c])
  rw [this]
/-- all but p is as it was -/
def But (p : Addr) (H H' : Hp) : Prop := ∀ q o, q ≠ p → H q = some o → H' q = some o
theorem But.refl (p : Addr) (H : Hp) : But p H H := fun _ _ _ e => e
theorem But.trans {p : Addr} {H1 H2 H3 : Hp} (x : But p H1 H2) (y : But p H2 H3) : But p H1 H3 := fun q o n e => y q o n (x q o n e)
theorem But.new {p q : Addr} {H : Hp} {o : HO} (n : H q = none) : But p H (upd H q o) := fun b u _ e => by rw [upd_ne (ne_of_none e n)]; exact e
theorem But.put {p : Addr} {H : Hp} {o : HO} : But p H (upd H p o) := fun b u n e => by rw [upd_ne n]; exact e
theorem But.of {p : Addr} {H H' : Hp} (s : Same H H') : But p H H' := fun b u _ e => s b u e
/-- the heap without p -/
def hide (p : Addr) (H : Hp) : Hp := fun q => if q = p then none else H q
theorem hide_ne {p q : Addr} {H : Hp} (h : q ≠ p) : hide p H q = H q := if_neg h
theorem hide_at {p : Addr} {H : Hp} : hide p H p = none := if_pos rfl
theorem hide_some {p q : Addr} {H : Hp} {o : HO} (h : hide p H q = some o) : q ≠ p ∧ H q = some o := by
  by_cases e : q = p
  · rw [e, hide_at] at h
    cases h
  · rw [hide_ne e] at h
    exact ⟨e, h⟩
theorem hide_sub (p : Addr) (H : Hp) : Same (hide p H) H := fun q o h => (hide_some h).2
theorem But.hide {p : Addr} {H H' : Hp} (h : But p H H') : Same (hide p H) (hide p H') := fun q o e => by
  obtain ⟨n, e⟩ := hide_some e
  rw [hide_ne n]
  exact h q o n e
def Fine (d : PyData) : Prop := d.showable = true ∧ d.depth ≤ 60 ∧ d.shown.length ≤ sizeLine
instance (d : PyData) : Decidable (Fine d) := inferInstanceAs (Decidable (_ ∧ _ ∧ _))
theorem take_succ {α : Type} {l : List α} {i : Nat} {x : α} (h : l[i]? = some x) : l.take (i + 1) = l.take i ++ [x] := by
  rw [List.take_succ, h]
  rfl
/-- every tuple stays -/
def TS (H H' : Hp) : Prop := ∀ q xs, Rd H q (.tup xs) → Rd H' q (.tup xs)
theorem TS.refl (H : Hp) : TS H H := fun _ _ h => h
theorem TS.trans {H1 H2 H3 : Hp} (a : TS H1 H2) (b : TS H2 H3) : TS H1 H3 := fun q xs h => b q xs (a q xs h)
theorem TS.of {H H' : Hp} (s : Same H H') : TS H H' := fun q xs h => by
  rcases h with h | ⟨o, h⟩
  · exact .inl (s _ _ h)
  · exact .inr ⟨o, s _ _ h⟩
theorem TS.put {H : Hp} {D : Addr} {zs : List V} {o : HO} (h : H D = some (.lst zs)) : TS H (upd H D o) := fun q xs r => by
  have ne : q ≠ D := fun z => by
    rw [z] at r
    rcases r with r | ⟨_, r⟩ <;> (rw [h] at r; cases r)
  unfold Rd
  rw [upd_ne ne]
  exact r
theorem TS.but {p : Addr} {H H' : Hp} (b : But p H H') (w : Wl H p) : TS H H' := fun q xs r => by
  obtain ⟨x, y, z, hp⟩ := w
  have ne : q ≠ p := fun e => by
    rw [e] at r
    rcases r with r | ⟨_, r⟩ <;> (rw [hp] at r; cases r)
  rcases r with r | ⟨o, r⟩
  · exact .inl (b _ _ ne r)
  · exact .inr ⟨o, b _ _ ne r⟩
theorem TS.tup {K : PySem.W.Frag} {H H' : Hp} (s : TS H H') {t : Addr} {xs : List V} (h : SqT K H t xs) : SqT K H' t xs := by
  rcases h with h | h
  · exact .inl (s _ _ h)
  · exact .inr h
theorem PairsAt.ts {K : PySem.W.Frag} {H H' : Hp} (e : TS H H') : ∀ {xs : List V} {ps : List E2}, PairsAt K H xs ps → PairsAt K H' xs ps
  | _, _, .nil => .nil
  | _, _, .cons ⟨t, h1, h2⟩ b => .cons ⟨t, h1, e.tup h2⟩ (PairsAt.ts e b)
theorem PairsAt.len {K : PySem.W.Frag} {H : Hp} : ∀ {xs : List V} {ps : List E2}, PairsAt K H xs ps → xs.length = ps.length
  | _, _, .nil => rfl
  | _, _, .cons _ b => congrArg (· + 1) (PairsAt.len b)
theorem GraphAt.ts {K : PySem.W.Frag} {H H' : Hp} (s : TS H H') {x : V} {n : Nat} {es : List E2} (h : GraphAt K H x n es) : GraphAt K H' x n es := by
  obtain ⟨t, e, xs, rfl, h1, h2, h3⟩ := h
  exact ⟨t, e, xs, rfl, s.tup h1, s.tup h2, h3.ts s⟩
theorem Wl.same {H H' : Hp} {p : Addr} (s : Same H H') (w : Wl H p) : Wl H' p := by
  obtain ⟨a, b, c, h⟩ := w
  exact ⟨a, b, c, s _ _ h⟩
theorem Wl.put {H : Hp} {p D : Addr} {o : HO} (w : Wl H p) (ne : D ≠ p) : Wl (upd H D o) p := by
  obtain ⟨a, b, c, h⟩ := w
  exact ⟨a, b, c, by rw [upd_ne (Ne.symm ne)]; exact h⟩
theorem Wl.ne {H : Hp} {p D : Addr} (w : Wl H p) (n : H D = none) : D ≠ p := by
  obtain ⟨a, b, c, h⟩ := w
  rintro rfl
  rw [h] at n
  cases n
theorem Wl.off {K : PySem.W.Frag} {H : Hp} {p t : Addr} {xs : List V} (w : Wl H p) (h : SqT K H t xs) : SqT K (hide p H) t xs := by
  obtain ⟨a, b, c, hp⟩ := w
  rcases h with h | h
  · left
    have ne : t ≠ p := fun e => by
      rw [e] at h
      rcases h with r | ⟨_, r⟩ <;> (rw [hp] at r; cases r)
    unfold Rd
    rw [hide_ne ne]
    exact h
  · exact .inr h
theorem Wl.ts {K : PySem.W.Frag} {H H' : Hp} {p t : Addr} {xs : List V} (w : Wl H p) (b : But p H H') (h : SqT K H t xs) : SqT K H' t xs := (TS.but b w).tup h
theorem Kp.but {K : PySem.W.Frag} {p : Addr} {H H' : Hp} (b : But p H H') (w : Wl H p) (w' : Wl H' p) : Kp K H H' := by
  refine ⟨fun t xs h => (TS.but b w).tup h, fun a xs h => ?_, fun a kvs h => ?_⟩
  · obtain ⟨x, y, z, hp⟩ := w
    obtain ⟨x', y', z', hp'⟩ := w'
    rcases h with (h | ⟨o, h⟩) | h
    · by_cases e : a = p
      · subst e
        exact ⟨_, SqL.of hp'⟩
      · exact ⟨xs, SqL.of (b _ _ e h)⟩
    · by_cases e : a = p
      · subst e
        rw [hp] at h
        cases h
      · exact ⟨xs, .inl (.inr ⟨o, b _ _ e h⟩)⟩
    · exact ⟨xs, .inr h⟩
  · obtain ⟨x, y, z, hp⟩ := w
    have e : a ≠ p := fun e => by
      subst e
      rw [hp] at h
      cases h
    exact b _ _ e h
theorem ShAt.but {K : PySem.W.Frag} {p : Addr} {H H' : Hp} (b : But p H H') (w : Wl H p) (w' : Wl H' p) {v : V} {s : Sh} (h : ShAt K H v s) : ShAt K H' v s := h.kp (Kp.but b w w')
theorem ShsAt.but {K : PySem.W.Frag} {p : Addr} {H H' : Hp} (b : But p H H') (w : Wl H p) (w' : Wl H' p) {v : List V} {s : List Sh} (h : ShsAt K H v s) : ShsAt K H' v s := h.kp (Kp.but b w w')
/-! ### rules -/
/-- t + u, whatever of them is () -/
def rCatW (K : PySem.W.Frag) : R2 := fun x y H Q => ∃ a b xs ys, x = .ref a ∧ y = .ref b ∧ SqT K H a xs ∧ SqT K H b ys ∧ xs.length + ys.length ≤ sizeLine ∧ ∀ p H', Same H H' → SqT K H' p (xs ++ ys) → Q (.ref p) H'
theorem op_catW {X : Cx} : OpR X (binaryOp .Add) (rCatW X.K) := by
  intro pins s σ H x y v u Q I rx ry h
  obtain ⟨a, b, xs, ys, rfl, rfl, ha, hb, hz, q⟩ := h
  refine op_catA pins s σ H _ _ v u Q I rx ry ⟨a, b, xs, ys, rfl, rfl, ha, hb, hz, fun e => ?_, fun _ e => ?_, fun _ _ p np => q p _ (same_new np _) (SqT.of upd_same)⟩
  · subst e
    exact q b H (Same.refl H) hb
  · subst e
    exact q a H (Same.refl H) (by rw [List.append_nil]; exact ha)
/-- t[lo:hi], the whole of it too -/
def rSlW (K : PySem.W.Frag) : V → Option Int → Option Int → Hp → VK → Prop := fun x lo hi H Q => ∃ a xs, x = .ref a ∧ SqT K H a xs ∧ ∀ p H', Same H H' → SqT K H' p (cutV xs lo hi) → Q (.ref p) H'
theorem sl_tupW {X : Cx} : SlR X (rSlW X.K) := by
  intro pins s σ H x v vl vu lo hi sl Q I rx hs pl pu h
  obtain ⟨a, xs, rfl, hx, q⟩ := h
  refine sl_tupA pins s σ H _ v vl vu lo hi sl Q I rx hs pl pu ⟨a, xs, rfl, hx, fun w => q a H (Same.refl H) ?_, fun _ p np => q p _ (same_new np _) (SqT.of upd_same)⟩
  have e : cutV xs lo hi = xs := by
    unfold cutV
    rw [w.1, w.2, List.drop_zero, Nat.sub_zero, List.take_length]
  rw [e]
  exact hx
theorem ShsAt.drop {K : PySem.W.Frag} {H : Hp} : ∀ {xs : List V} {ss : List Sh} (k : Nat), ShsAt K H xs ss → ShsAt K H (xs.drop k) (ss.drop k)
  | _, _, 0, h => h
  | _, _, k + 1, .nil => .nil
  | _, _, k + 1, .cons _ r => ShsAt.drop k r
theorem ShsAt.take {K : PySem.W.Frag} {H : Hp} : ∀ {xs : List V} {ss : List Sh} (k : Nat), ShsAt K H xs ss → ShsAt K H (xs.take k) (ss.take k)
  | _, _, 0, _ => .nil
  | _, _, k + 1, .nil => .nil
  | _, _, k + 1, .cons a r => .cons a (ShsAt.take k r)
theorem ShsAt.cut {K : PySem.W.Frag} {H : Hp} {xs : List V} {ss : List Sh} (h : ShsAt K H xs ss) (lo hi : Option Int) : ∃ ts, ShsAt K H (cutV xs lo hi) ts := ⟨_, (h.drop _).take _⟩
theorem ShsAt.rev {K : PySem.W.Frag} {H : Hp} : ∀ {xs : List V} {ss : List Sh}, ShsAt K H xs ss → ShsAt K H xs.reverse ss.reverse
  | _, _, .nil => .nil
  | _, _, .cons a r => by
    rw [List.reverse_cons, List.reverse_cons]
    exact (ShsAt.rev r).app (.cons a .nil)
theorem ShsAt.mem {K : PySem.W.Frag} {H : Hp} {xs : List V} {ss : List Sh} (h : ShsAt K H xs ss) {x : V} (m : x ∈ xs) : ∃ s, s ∈ ss ∧ ShAt K H x s := by
  obtain ⟨i, hi, e⟩ := List.getElem_of_mem m
  obtain ⟨s, h1, h2⟩ := h.get (i := i) (x := x) (by rw [List.getElem?_eq_getElem hi, e])
  exact ⟨s, List.mem_of_getElem? h1, h2⟩
/-- t[::-1], t a tuple -/
theorem getItem_tuple_rev {prog : Program} {w : World} {A : Around} {E : Value → Shared → Prop} {s : Shared} {t sl : Addr} {items : Array Value} {k : Tok} {Q : Value → Shared → Prop} (ht : IsTup s.heap t items) (hs : s.heap.IsSliceOf sl .none .none (.int (-1) k))
    (h : Q (.ref s.heap.objs.size) { s with heap := s.heap.push { cls := .type "tuple", data := .seq items.toList.reverse.toArray } }) (hsz : items.size ≤ sizeLine) : wpAny (model prog w) A (getItem (.ref t) (.ref sl)) Q E s := by
  have htake : sizeOk (.seq items.toList.reverse.toArray) := by
    show items.toList.reverse.toArray.size ≤ sizeLine
    rw [List.size_toArray, List.length_reverse, Array.length_toList]
    exact hsz
  obtain ⟨os, hos, hcs, hds⟩ := id hs
  have hTs : s.TypeIs (.ref sl) "slice" := ⟨os, hos, hcs⟩
  unfold getItem
  try with_reducible refine wpAny_holding ?_
  first | refine wpAny_bind (wpAny_pure ?_) | skip
  refine wpAny_bind (wpAny_sequenceKey ht.typeIs (by decide) ?_)
  refine wpAny_bind (wpAny_callSpecial?_slot (name := Str.ofString "__getitem__") ht.typeIs PyProof.Rows.slot_tuple_getitem
    (wpAny_call_entry PyProof.Rows.slot_tuple_getitem ht.typeIs entry_tuple_getitem ?_ (args_tuple_getitem _ _)))
  show wpAny _ _ (Builtin.Tuple.tupleItemsOf (.ref t) >>= _) _ _ s
  refine wpAny_bind (tupleItemsOf_ ht ?_)
  refine wpAny_bind (wpAny_typeOf hTs ?_)
  rw [if_pos (by decide)]
  have ap : Builtin.Slice.sliceAdjust none none (-1) (items.size : Int) = ((items.size : Int) - 1, -1) := rfl
  have pl : Builtin.Slice.slicePlaces ((items.size : Int) - 1) (-1) (-1) = items.size := by
    unfold Builtin.Slice.slicePlaces
    rw [if_neg (by decide)]
    by_cases z : items.size = 0
    · rw [z]
      rfl
    · rw [if_pos (by omega)]
      have : ((items.size : Int) - 1 - -1 - 1) / (- -1) + 1 = (items.size : Int) := by
        rw [show - (-1 : Int) = 1 by decide, Int.ediv_one]
        omega
      rw [this, Int.toNat_natCast]
  have pk : ((List.range items.size).filterMap fun (m : Nat) => items[(((items.size : Int) - 1) + (m : Int) * -1).toNat]?).toArray = items.toList.reverse.toArray := by
    congr 1
    refine List.ext_getElem? fun j => ?_
    have e : ∀ n, n ≤ items.size → (List.range n).filterMap (fun (m : Nat) => items[(((items.size : Int) - 1) + (m : Int) * -1).toNat]?) = (items.toList.reverse).take n := fun n => by
      induction n with
      | zero => intro _; rfl
      | succ n ih =>
        intro h
        have hn : n < items.toList.reverse.length := by rw [List.length_reverse, Array.length_toList]; omega
        rw [List.range_succ, List.filterMap_append, ih (by omega), List.take_add_one, List.getElem?_eq_getElem hn]
        congr 1
        have i1 : (((items.size : Int) - 1) + (n : Int) * -1).toNat = items.size - 1 - n := by omega
        have lt : items.size - 1 - n < items.size := by omega
        rw [List.getElem_reverse]
        simp only [List.filterMap_cons, List.filterMap_nil, i1, Array.getElem?_eq_getElem lt, Option.toList_some]
        simp
    rw [e _ (Nat.le_refl _), List.take_of_length_le (by rw [List.length_reverse, Array.length_toList]; exact Nat.le_refl _)]
  refine wpAny_bind ?_
  unfold Builtin.Slice.sliceApplied Builtin.Slice.sliceFields
  refine wpAny_bind (wpAny_bind (wpAny_field hos hds (x := .none) rfl (wpAny_bind (wpAny_field hos hds (x := .none) rfl (wpAny_bind (wpAny_field hos hds (x := .int (-1) k) rfl (wpAny_pure ?_)))))))
  refine wpAny_bind (HT.slicePart_ (.int (-1) k) ?_)
  show wpAny _ _ (if ((-1 : Int) == 0) = true then _ else _) _ _ s
  rw [if_neg (by decide)]
  refine wpAny_bind (HT.slicePart_ .none (wpAny_bind (HT.slicePart_ .none (wpAny_bind (wpAny_pure ?_)))))
  show wpAny _ _ (match Builtin.Slice.sliceAdjust none none (-1) (items.size : Int) with | (lo, hi) => pure (lo, (-1 : Int), Builtin.Slice.slicePlaces lo hi (-1))) _ _ s
  rw [ap]
  show wpAny _ _ (pure ((items.size : Int) - 1, (-1 : Int), Builtin.Slice.slicePlaces ((items.size : Int) - 1) (-1) (-1))) _ _ s
  rw [pl]
  refine wpAny_pure ?_
  have hno : ¬ (((items.size : Int) - 1 == 0 && (-1 : Int) == 1 && items.size == items.size) = true) := by simp
  show wpAny _ _ (if ((items.size : Int) - 1 == 0 && (-1 : Int) == 1 && items.size == items.size) = true then _ else _) _ _ s
  rw [if_neg hno, pk]
  first
    | exact wpAny_bind (m := Builtin.Tuple.tupleExact _) (wpAny_newObj_type (wpAny_pure ⟨_, rfl, wpAny_pure h⟩) htake)
    | exact wpAny_bind (m := Builtin.Tuple.tupleExact _) (wpAny_newObj_type (wpAny_bind (wpAny_pure (wpAny_pure ⟨_, rfl, wpAny_pure h⟩))) htake)
    | exact wpAny_bind (wpAny_bind (m := Builtin.Tuple.tupleExact _) (wpAny_newObj_type (wpAny_pure (wpAny_pure ⟨_, rfl, wpAny_pure h⟩)) htake))
    | exact wpAny_bind (wpAny_bind (m := Builtin.Tuple.tupleExact _) (wpAny_newObj_type (wpAny_pure ⟨_, rfl, wpAny_pure h⟩) htake))
section
variable {X : Cx}
def tRevT (K : PySem.W.Frag) (te : TE) : TE := fun σ H Q => te σ H fun x H1 => ∃ a xs, x = .ref a ∧ SqT K H1 a xs ∧ ∀ p, H1 p = none → Q (.ref p) (upd H1 p (.tup xs.reverse))
theorem pe_revT {e : Expr} {te : TE} {k : Nat} {p1 p2 p3 pos : Pos} (he : PE X e te) : PE X (.Subscript e (.Slice none none (some (.UnaryOp .USub (.Constant (.int 1) k p1) p2)) p3) pos) (tRevT X.K te) := by
  refine ⟨fun pins s σ H Q I h => ?_⟩
  refine Subscript_ (thn (he.run pins s σ H _ I h) fun v s1 ⟨x, H1, I1, r1, q1⟩ => ?_)
  obtain ⟨a, xs, ex, hx, q⟩ := q1
  subst ex
  cases r1
  have hst : PO X (some (.UnaryOp .USub (.Constant (.int 1) k p1) p2)) (tPart (tUn (rU fun i => .int (-i)) (tC (.int 1)))) := po_some (pe_un un_neg pe_int)
  refine wpAny_Slice (thn (po_none.run pins s1 σ H1 (fun o H2 => o = none ∧ H2 = H1) I1 ⟨rfl, rfl⟩) fun vl s2 ⟨l, H2, I2, pl, el, e2⟩ => ?_)
  subst el e2
  refine thn (po_none.run pins s2 σ H2 (fun o H3 => o = none ∧ H3 = H2) I2 ⟨rfl, rfl⟩) fun vu s3 ⟨u, H3, I3, pu, eu, e3⟩ => ?_
  subst eu e3
  refine thn (hst.run pins s3 σ H3 (fun o H4 => o = some (-1) ∧ H4 = H3) I3 ⟨1, rfl, -1, rfl, rfl, rfl⟩) fun vs s4 ⟨o, H4, I4, ps, eo, e4⟩ => ?_
  subst eo e4
  cases pl
  cases pu
  obtain ⟨tk, rfl⟩ : ∃ tk, vs = Value.int (-1) tk := by
    cases ps
    exact ⟨_, rfl⟩
  have I5 : L2.Inv X pins σ H4 { s4 with heap := s4.heap.push { cls := .type "slice", data := .fields #[.none, .none, .int (-1) tk] } } := I4.kept (t' := s4.toks) fun b ob q => Heap.get?_push_of_some _ q
  obtain ⟨its, r, ht, hz⟩ := I5.tuple hx
  have hlen := r.length
  show wpAny (model X.prog X.w) X.A (subscriptTail e (.Slice none none (some (.UnaryOp .USub (.Constant (.int 1) k p1) p2)) p3) (.ref a) (.ref s4.heap.objs.size)) (EP X pins σ Q) X.xe { s4 with heap := s4.heap.push { cls := .type "slice", data := .fields #[.none, .none, .int (-1) tk] } }
  refine tail_any (ops := [.ref a, .ref s4.heap.objs.size]) ht.typeIs (PyProof.Rows.slot_tuple_getitem.lookup) ?_ (by with_unfolding_all rfl)
  refine getItem_tuple_rev ht (Heap.IsSliceOf.new _ .none .none (.int (-1) tk)) ?_ (by rw [List.size_toArray]; omega)
  refine ⟨.ref _, _, I5.laid (t' := s4.toks) (o := .tup xs.reverse) (fun b ob q => Heap.get?_push_of_some _ q) (Nat.le_refl _) ?_, rfl, q _ (I5.hok.fresh (Nat.le_refl _))⟩
  exact ⟨by rw [List.length_reverse]; exact hz, _, r.reverse, IsTup.new _ _⟩
end
theorem but_put {p l : Addr} {H H1 : Hp} {o : HO} (b : But p H H1) (n : H l = none) : But p H (upd H1 l o) := fun q u ne e => by
  rw [upd_ne (ne_of_none e n)]
  exact b q u ne e
theorem cut_to {xs : List V} {k : Nat} (h : k ≤ xs.length) : cutV xs none (some (k : Int)) = xs.take k := by
  unfold cutV
  rw [HT.sIx_none, HT.sIx_nat, List.drop_zero, Nat.sub_zero, Nat.min_eq_left h]
theorem cut_from {xs : List V} {k : Nat} (h : k ≤ xs.length) : cutV xs (some (k : Int)) none = xs.drop k := by
  unfold cutV
  rw [HT.sIx_none, HT.sIx_nat, Nat.min_eq_left h, List.take_of_length_le (by rw [List.length_drop]; exact Nat.le_refl _)]
/-! ### what is asked of a value's kind -/
def isTup : Sh → Bool
  | .tup _ => true
  | _ => false
def isInt : Sh → Bool
  | .int _ => true
  | .bool _ => true
  | _ => false
def isBool : Sh → Bool
  | .bool _ => true
  | _ => false
theorem tyx_tup {K : PySem.W.Frag} {H : Hp} {t : Addr} {xs : List V} (h : SqT K H t xs) : TyX K H (.ref t) (.type "tuple") := by
  rcases h with (h | ⟨o, h⟩) | ⟨o, its, n, h, c, _⟩
  · exact .base (.tup h)
  · exact .fTuple h
  · exact .kTuple h c
theorem tyx_lst {K : PySem.W.Frag} {H : Hp} {t : Addr} {xs : List V} (h : SqL K H t xs) : TyX K H (.ref t) (.type "list") := by
  rcases h with (h | ⟨o, h⟩) | ⟨o, its, n, h, c, _⟩
  · exact .base (.lst h)
  · exact .base (.frz h)
  · exact .kList h c
theorem isi_of {K : PySem.W.Frag} {H : Hp} {v : V} {s : Sh} (h : ShAt K H v s) : ∃ t, TyX K H v t ∧ PySem.W.kitOne K t (.type "tuple") = some (isTup s) ∧ PySem.W.kitOne K t (.type "int") = some (isInt s) ∧ PySem.W.kitOne K t (.type "bool") = some (isBool s) := by
  cases h with
  | int i => exact ⟨_, .base (.int i), rfl, rfl, rfl⟩
  | bool b => exact ⟨_, .base (.bl b), rfl, rfl, rfl⟩
  | tup h r => exact ⟨_, tyx_tup h, rfl, rfl, rfl⟩
  | non => exact ⟨_, .base .non, rfl, rfl, rfl⟩
  | str x => exact ⟨_, .base (.str x), rfl, rfl, rfl⟩
  | lst h => exact ⟨_, tyx_lst h, rfl, rfl, rfl⟩
  | dct h => exact ⟨_, .base (.dK h), rfl, rfl, rfl⟩
/-! ### shapes of pairs -/
def pairS (p : E2) : Sh := .tup [.int (p.1 : Int), .int (p.2 : Int)]
theorem PairsAt.sh {K : PySem.W.Frag} {H : Hp} : ∀ {xs : List V} {ps : List E2}, PairsAt K H xs ps → ShsAt K H xs (ps.map pairS)
  | _, _, .nil => .nil
  | _, _, .cons ⟨t, h1, h2⟩ b => by
    subst h1
    exact .cons (.tup h2 (.cons (.int _) (.cons (.int _) .nil))) (PairsAt.sh b)
theorem sh_pairs {K : PySem.W.Frag} {H : Hp} : ∀ {xs : List V} {ps : List E2}, ShsAt K H xs (ps.map pairS) → PairsAt K H xs ps
  | _, [], h => by cases h; exact .nil
  | _, p :: ps, h => by
    cases h with
    | cons a r =>
      refine .cons ?_ (sh_pairs r)
      cases a with
      | tup ht ra =>
        cases ra with
        | cons r1 ra =>
          cases ra with
          | cons r2 ra =>
            cases ra
            cases r1
            cases r2
            exact ⟨_, rfl, ht⟩
theorem PairsT.but {p : Addr} {H H' : Hp} (b : But p H H') (w : Wl H p) : ∀ {xs : List V} {ps : List E2}, PairsT H xs ps → PairsT H' xs ps
  | _, _, .nil => .nil
  | _, _, .cons ⟨t, e, h⟩ r => .cons ⟨t, e, b _ _ (fun z => by
      obtain ⟨x, y, c, hp⟩ := w
      rw [z, hp] at h
      cases h) h⟩ (PairsT.but b w r)
/-- sorted pairs, some of them maybe alike -/
theorem sorted_pairsD {H : Hp} {xs ys : List V} {ps : List E2} (h : PairsT H xs ps) (so : SrtO.Srtd (ltP (kOf H)) ys) (st : SrtO.Stb (ltP (kOf H)) ys xs) :
    PairsT H ys (ys.map (gOf H)) ∧ ((ys.map (gOf H)).Pairwise fun a b => ¬ ahead b a) ∧ (ys.map (gOf H)).Perm ps := by
  have pm : (ys.map (gOf H)).Perm ps := by
    have z := st.perm.map (gOf H)
    rw [map_gOf h] at z
    exact z
  have hy : ∀ y ∈ ys, PairT H y (gOf H y) := fun y hy => h.mem y (st.perm.mem_iff.mp hy)
  refine ⟨PairsT.of_mem hy, ?_, pm⟩
  rw [List.pairwise_map]
  refine List.Pairwise.imp_of_mem ?_ so
  intro a b ha hb le
  have ka := kOf_at (hy a ha)
  have kb := kOf_at (hy b hb)
  have le2 : SrtO.lexB (kOf H b) (kOf H a) = false := le
  rw [ka, kb] at le2
  have le3 := mt (SrtO.lexB_iff (p := (((gOf H b).1 : Int), ((gOf H b).2 : Int))) (q := (((gOf H a).1 : Int), ((gOf H a).2 : Int)))).mpr (by rw [le2]; decide)
  dsimp only at le3
  unfold ahead
  omega
theorem PairsT.ks {H : Hp} {xs : List V} {ps : List E2} (h : PairsT H xs ps) : ∀ x ∈ xs, ∃ t, x = V.ref t ∧ H t = some (.tup [.int (kOf H x).1, .int (kOf H x).2]) := fun x hx => by
  have z := h.mem x hx
  have k := kOf_at z
  obtain ⟨t, e, ht⟩ := z
  exact ⟨t, e, by rw [k]; exact ht⟩
theorem wl_tup {p t : Addr} {H : Hp} {xs : List V} (w : Wl H p) (h : H t = some (.tup xs)) : t ≠ p := fun z => by
  obtain ⟨x, y, c, hp⟩ := w
  rw [z, hp] at h
  cases h
theorem rows_few : ∀ u, u ≤ 9 → ∀ n, n ≤ 9 → ((List.range u).flatMap (rowP n)).length ≤ 81 := by decide +kernel
/-- lists of numbers -/
def numsN (l : List Nat) : List V := l.map fun k => V.int ((k : Nat) : Int)
theorem numsN_len (l : List Nat) : (numsN l).length = l.length := List.length_map _
theorem numsN_app (l m : List Nat) : numsN (l ++ m) = numsN l ++ numsN m := List.map_append
theorem numsN_get {l : List Nat} {i : Nat} {x : V} (h : (numsN l)[i]? = some x) : ∃ k, l[i]? = some k ∧ x = .int ((k : Nat) : Int) := by
  unfold numsN at h
  rw [List.getElem?_map] at h
  cases e : l[i]? with
  | none => rw [e] at h; cases h
  | some k => rw [e] at h; cases h; exact ⟨k, rfl, rfl⟩
/-! ### values of some kind, not too long -/
inductive Lb : Sh → Prop
  | int (i : Int) : Lb (.int i)
  | bool (b : Bool) : Lb (.bool b)
  | str (x : Str) : Lb (.str x)
  | oth : Lb .oth
  | tup {ss : List Sh} (l : ss.length ≤ 900) (h : ∀ z ∈ ss, Lb z) : Lb (.tup ss)
def Va (K : PySem.W.Frag) (H : Hp) (v : V) : Prop := ∃ s, ShAt K H v s ∧ Lb s
section
variable {K : PySem.W.Frag} {H : Hp}
theorem Va.int (i : Int) : Va K H (.int i) := ⟨_, .int i, .int i⟩
theorem Va.bl (b : Bool) : Va K H (.bl b) := ⟨_, .bool b, .bool b⟩
theorem Va.str (x : Str) : Va K H (.str x) := ⟨_, .str x, .str x⟩
theorem Va.non : Va K H .non := ⟨_, .non, .oth⟩
theorem Va.lst {a : Addr} {xs : List V} (h : SqL K H a xs) : Va K H (.ref a) := ⟨_, .lst h, .oth⟩
theorem Va.dct {a : Addr} {kvs : List (Key × V)} (h : H a = some (.dK kvs)) : Va K H (.ref a) := ⟨_, .dct h, .oth⟩
theorem va_all : ∀ {xs : List V}, (∀ x ∈ xs, Va K H x) → ∃ ss, ShsAt K H xs ss ∧ ∀ z ∈ ss, Lb z
  | [], _ => ⟨[], .nil, fun _ z => nomatch z⟩
  | x :: xs, h => by
    obtain ⟨s, h1, h2⟩ := h x (List.mem_cons_self ..)
    obtain ⟨ss, h3, h4⟩ := va_all (xs := xs) fun y hy => h y (List.mem_cons_of_mem _ hy)
    refine ⟨s :: ss, .cons h1 h3, fun z hz => ?_⟩
    rcases List.mem_cons.mp hz with rfl | hz
    · exact h2
    · exact h4 z hz
theorem Va.tup {t : Addr} {xs : List V} (h : SqT K H t xs) (l : xs.length ≤ 900) (a : ∀ x ∈ xs, Va K H x) : Va K H (.ref t) := by
  obtain ⟨ss, h1, h2⟩ := va_all a
  exact ⟨.tup ss, .tup h h1, .tup (by rw [← h1.len]; exact l) h2⟩
theorem Va.kp {H' : Hp} (e : Kp K H H') {v : V} (h : Va K H v) : Va K H' v := by
  obtain ⟨s, h1, h2⟩ := h
  exact ⟨s, h1.kp e, h2⟩
theorem Va.same {H' : Hp} (e : Same H H') {v : V} (h : Va K H v) : Va K H' v := h.kp (Kp.of e)
theorem Va.but {p : Addr} {H' : Hp} (b : But p H H') (w : Wl H p) (w' : Wl H' p) {v : V} (h : Va K H v) : Va K H' v := h.kp (Kp.but b w w')
theorem va_cut {xs : List V} (lo hi : Option Int) (h : ∀ x ∈ xs, Va K H x) : ∀ x ∈ cutV xs lo hi, Va K H x := fun x hx => h x (List.mem_of_mem_drop (List.mem_of_mem_take hx))
theorem va_app {xs ys : List V} (h : ∀ x ∈ xs, Va K H x) (g : ∀ x ∈ ys, Va K H x) : ∀ x ∈ xs ++ ys, Va K H x := fun x hx => (List.mem_append.mp hx).elim (h x) (g x)
theorem va_nil : ∀ x ∈ ([] : List V), Va K H x := fun _ z => nomatch z
theorem va_cons {x : V} {xs : List V} (a : Va K H x) (h : ∀ x ∈ xs, Va K H x) : ∀ y ∈ x :: xs, Va K H y := fun y hy => by
  rcases List.mem_cons.mp hy with rfl | hy
  · exact a
  · exact h y hy
end
/-! ### values made from written ones -/
def Mk (K : PySem.W.Frag) (t : TE) : Prop := ∀ (σ : L2.St) (H : Hp) (Q : VK), (∀ v H', Same H H' → Va K H' v → Q v H') → t σ H Q
def MkA (K : PySem.W.Frag) (n : Nat) (t : TA) : Prop := ∀ (σ : L2.St) (H : Hp) (Q : List V → Hp → Prop), (∀ vs H', Same H H' → vs.length = n → (∀ v ∈ vs, Va K H' v) → Q vs H') → t σ H Q
section
variable {K : PySem.W.Frag}
theorem mk_int (i : Int) : Mk K (tC (.int i)) := fun σ H Q h => h _ H (Same.refl H) (.int i)
theorem mk_bl (b : Bool) : Mk K (tC (.bl b)) := fun σ H Q h => h _ H (Same.refl H) (.bl b)
theorem mk_str (x : Str) : Mk K (tC (.str x)) := fun σ H Q h => h _ H (Same.refl H) (.str x)
theorem mk_non : Mk K (tC .non) := fun σ H Q h => h _ H (Same.refl H) .non
theorem mk_nil : MkA K 0 tNil := fun σ H Q h => h _ H (Same.refl H) rfl va_nil
theorem mk_cons {t : TE} {ts : TA} {n : Nat} (a : Mk K t) (b : MkA K n ts) : MkA K (n + 1) (tCons t ts) := fun σ H Q h =>
  a σ H _ fun v H1 s1 hv => b σ H1 _ fun vs H2 s2 l hs => h _ H2 (s1.trans s2) (congrArg (· + 1) l) (va_cons (hv.same s2) hs)
theorem mk_tup {ts : TA} {n : Nat} (hn : n ≤ 900) (b : MkA K n ts) : Mk K (tTup ts) := fun σ H Q h =>
  b σ H _ fun vs H1 s1 l hs => ⟨by rw [l]; exact small (by omega), fun p np => h _ _ (s1.trans (same_new np _)) (.tup (SqT.of upd_same) (by omega) fun x hx => (hs x hx).same (same_new np _))⟩
theorem mk_lst {ts : TA} {n : Nat} (hn : n ≤ 1000) (b : MkA K n ts) : Mk K (tLst ts) := fun σ H Q h =>
  b σ H _ fun vs H1 s1 l hs => ⟨by rw [l]; exact small hn, fun p np => h _ _ (s1.trans (same_new np _)) (.lst (SqL.of upd_same))⟩
theorem mk_dct : Mk K tDNewK := fun σ H Q h => fun p np => h _ _ (same_new np _) (.dct upd_same)
theorem mk_pow (i j : Int) (h : CPow i j) : Mk K (tOp (rI CPow fun i j => .int (i ^ j.toNat)) (tC (.int i)) (tC (.int j))) := fun σ H Q q => ⟨_, _, rfl, rfl, h, q _ H (Same.refl H) (.int _)⟩
theorem mk_neg (i : Int) : Mk K (tUn (rU fun i => .int (-i)) (tC (.int i))) := fun σ H Q q => ⟨i, rfl, q _ H (Same.refl H) (.int _)⟩
theorem set_mk {n i : Nat} {ts : TA} {rest : L2.TS} {D : Ends} {σ : L2.St} {H : Hp} (m : MkA K n ts) (hn : n ≤ 1000) (go : ∀ vs F H1, Same H H1 → vs.length = n → (∀ v ∈ vs, Va K H1 v) → H F = none → H1 F = some (.lst vs) → rest D (σ.set i (some (.ref F))) H1) : tSeq (tAsg (tLst ts) (gName i)) rest D σ H :=
  m σ H _ fun vs H1 s1 l h1 => ⟨by rw [l]; exact small hn, fun F nF => go vs F _ (s1.trans (same_new nF _)) l (fun x hx => (h1 x hx).same (same_new nF _)) (s1.free nF) upd_same⟩
end
end My

set_option maxHeartbeats 4000000
/-! The law's draws: the pot, a draw, a pick, a mixing. -/
namespace My
open PySem PySem.Spec PyProof.Rows L2
def top (i : Nat) : Stmt := PySem.Challenge.pw_perfectgraphs_k42_whole_kernels_by_own_l.main.body.getD i (.Pass ⟨0, 0, 0, 0⟩)
abbrev sPot : Stmt := top 35
abbrev sDraw : Stmt := top (35 + 1)
theorem scPot : FnScope ["script", "turn", "stirred", "each", "cell", "digits"] ["script", "turn"] (defScope sPot) := ⟨rfl, rfl, rfl, by decide +kernel, rfl, by decide +kernel, by decide +kernel⟩
theorem scDraw : FnScope ["pot", "few", "digit"] ["pot", "few"] (defScope sDraw) := ⟨rfl, rfl, rfl, by decide +kernel, rfl, by decide +kernel, by decide +kernel⟩
def spPot (K : PySem.W.Frag) : Sp := fun vs H Q _ => ∃ (a : Addr) (ns : List Int) (t : Nat), vs = [.ref a, .int (t : Int)] ∧ SqL K H a (ns.map V.int) ∧ ns.length ≤ 63 ∧ t ≤ 9 ∧
  ∀ (H' : Hp) (p : Addr), Same H H' → H p = none → Wl H' p → Q (.ref p) H'
def spDraw : Sp := fun vs H Q _ => ∃ (p : Addr) (m : Int), vs = [.ref p, .int m] ∧ Wl H p ∧ 0 < m ∧ m < 1000000 ∧
  ∀ (r : Int) (H' : Hp), 0 ≤ r → r < m → But p H H' → Wl H' p → Q (.int r) H'
section
variable {P : Program} {w : World} {K : PySem.W.Frag} {mg : Str → Option Value} {base : Heap} {f fD : Addr} {fd dD : FuncData}
theorem ok_pot (F : L2.Fun K "_law_pot" "_law_pot" sPot f fd) (ml : mg "len" = none) (mi : mg "int" = none) (ma : mg "abs" = none) : FnOk P w K mg base CX0 1 f fd ["script", "turn"] (spPot K) := by
  refine F.ok scPot (fun vs H Q E h => ?_) (fun cdv A outer s H vs Q E hr h => ?_)
  · obtain ⟨a, ns, t, rfl, _⟩ := h
    rfl
  obtain ⟨a, ns, t, rfl, hS, h63, h2, q⟩ := h
  refine ⟨_, pss_cons (ps_set (i := 2) scPot.nd rfl (.inl rfl) (pe_op op_add pe_int (pe_op op_mul pe_int (pv 1))))
    (pss_cons (ps_for PassesOwn.never rfl (pi_list (pe_slice sl_list (pv 0) po_none (po_some pe_int))) (pg_name (i := 3) scPot.nd rfl (.inl rfl))
      (pss_one (ps_set (i := 2) scPot.nd rfl (.inl rfl) (pe_op op_mod (pe_callTy call_int1 (by rfl) mi (by decide +kernel) (pa_cons (pe_op op_add (pe_op op_add (pe_op op_mul (pv 2) pe_int)
        (pe_op op_mul (pe_op op_mod (pe_callTy call_int1 (by rfl) mi (by decide +kernel) (pa_cons (pv 3) pa_nil)) pe_int) pe_int)) pe_int) pa_nil)) pe_int))))
    (pss_cons (ps_set (i := 4) scPot.nd rfl (.inl rfl) (pe_ifExp (pt_cmpR op_lt (pv 1) (pe_callB call_len_seq (by rfl) ml PySem.boot_len (pa_cons (pv 0) pa_nil)) (nomark _))
        (pe_callTy call_int1 (by rfl) mi (by decide +kernel) (pa_cons (pe_ix ix_list (pv 0) (pv 1) (fun _ _ => rfl)) pa_nil)) pe_int))
    (pss_cons (ps_set (i := 5) scPot.nd rfl (.inl rfl) (pe_ifExp (pt_cmpR op_ge (pe_callB call_abs (by rfl) ma (by decide +kernel) (pa_cons (pv 4) pa_nil)) (pe_op op_pow pe_int pe_int) (nomark _))
        (pe_callB call_abs (by rfl) ma (by decide +kernel) (pa_cons (pv 4) pa_nil)) pe_int))
    (pss_one (ps_ret (pe_lst (pa_cons (pv 5) (pa_cons (pe_op op_mod (pe_callTy call_int1 (by rfl) mi (by decide +kernel) (pa_cons (pe_op op_add (pe_op op_add (pe_op op_mul (pv 2) pe_int)
        (pe_op op_mod (pe_callTy call_int1 (by rfl) mi (by decide +kernel) (pa_cons (pv 4) pa_nil)) pe_int)) pe_int) pa_nil)) pe_int) (pa_cons pe_int pa_nil))))))))), ?_⟩
  have hl : (ns.map V.int).length = ns.length := List.length_map _
  refine ⟨_, rfl, _, _, rfl, rfl, .inl ⟨by decide, by decide⟩, _, _, rfl, rfl, ?_⟩
  refine ⟨_, rfl, 10, rfl, a, _, rfl, hS, fun p np => ?_⟩
  refine ⟨p, rfl, ⟨_, SqL.of upd_same⟩, for_list (K := K) (a := p) (xs := cutV (ns.map V.int) none (some 10)) (fun i σ H' => ∃ (m : Int) (e : Option V), σ = [some (.ref a), some (.int (t : Int)), some (.int m), e, none, none] ∧ H' = upd H p (.lst (cutV (ns.map V.int) none (some 10)))) ⟨_, none, rfl, rfl⟩ ?_ ?_ ?_⟩
  · rintro i σ H' _ ⟨m, e, rfl, rfl⟩
    exact SqL.of upd_same
  · rintro i x σ H' hi ⟨m, e, rfl, rfl⟩
    obtain ⟨z, rfl⟩ : ∃ z, x = V.int z := by
      have mem := List.mem_of_getElem? hi
      unfold cutV at mem
      have mem2 := List.mem_of_mem_drop (List.mem_of_mem_take mem)
      obtain ⟨z, _, e⟩ := List.mem_map.mp mem2
      exact ⟨z, e.symm⟩
    refine ⟨_, rfl, _, _, rfl, rfl, .inr ⟨by decide, by decide⟩, _, rfl, .inl ⟨_, rfl, _, _, rfl, rfl, (show (0 : Int) < 1999999943 by decide), _, _, rfl, rfl, .inr ⟨by decide, by decide⟩, _, _, rfl, rfl, _, _, rfl, rfl, .inl ⟨_, rfl, _, _, rfl, rfl, (show (0 : Int) < 2147483249 by decide), ?_⟩⟩⟩
    exact ⟨_, _, rfl, rfl⟩
  rintro σ H' ⟨m, e, rfl, rfl⟩
  have s1 := same_new np (.lst (cutV (ns.map V.int) none (some 10)))
  have hS1 := L2.Same.seq s1 hS
  generalize upd H p (.lst (cutV (ns.map V.int) none (some 10))) = H1 at s1 hS1 ⊢
  refine ⟨_, rfl, _, rfl, a, _, rfl, .inl hS1, _, _, rfl, rfl, _, rfl, ?_⟩
  refine' join (i := 4) (R := fun v => ∃ n : Int, v = V.int n) (fun go => ?_) ?_
  rotate_left 3
  · refine iteB (fun c => ?_) (fun c => ?_)
    · have c1 : ((t : Nat) : Int) < (((ns.map V.int).length : Nat) : Int) := of_decide_eq_true c
      have c2 : t < ns.length := by rw [hl] at c1; omega
      have at1 : atI (ns.map V.int) ((t : Nat) : Int) = some (.int ns[t]) := atI_nat (by rw [List.getElem?_map, List.getElem?_eq_getElem c2] <;> rfl)
      exact ⟨_, rfl, _, rfl, a, _, _, _, rfl, rfl, hS1, at1, .inl ⟨_, rfl, go _ ⟨_, rfl⟩⟩⟩
    · exact go _ ⟨_, rfl⟩
  rintro _ ⟨cell, rfl⟩
  refine ⟨_, rfl, _, rfl, _, _, rfl, rfl, (by show (0 : Int) ≤ 16 ∧ (16 : Int) ≤ 1000000 ∧ (10 : Int).natAbs < 2 ^ 64; decide), _, _, rfl, rfl, _, rfl, ?_⟩
  refine' join (i := 5) (R := fun v => ∃ n : Int, v = V.int n) (fun go => ?_) ?_
  rotate_left 3
  · refine iteB (fun c => ?_) (fun c => ?_)
    · exact ⟨_, rfl, _, rfl, go _ ⟨_, rfl⟩⟩
    · exact go _ ⟨_, rfl⟩
  rintro _ ⟨dg, rfl⟩
  refine ⟨_, rfl, _, rfl, _, _, rfl, rfl, .inr ⟨by decide, by decide⟩, _, rfl, .inl ⟨_, rfl, _, _, rfl, rfl, (show (0 : Int) < 1999999943 by decide), _, _, rfl, rfl, _, _, rfl, rfl, .inl ⟨_, rfl, _, _, rfl, rfl, (show (0 : Int) < 2147483249 by decide), ?_⟩⟩⟩
  refine ⟨(by show 3 ≤ sizeLine; decide), fun r nr => ?_⟩
  exact q _ r (s1.trans (same_new nr _)) (s1.free nr) (wl_mk upd_same (Int.emod_nonneg _ (by decide)) (Int.lt_trans (Int.emod_lt_of_pos _ (show (0 : Int) < 2147483249 by decide)) (by decide)))
theorem ok_draw (F : L2.Fun K "_law_draw" "_law_draw" sDraw f fd) (md : mg "divmod" = none) (mi : mg "int" = none) : FnOk P w K mg base CX0 1 f fd ["pot", "few"] spDraw := by
  refine F.ok scDraw (fun vs H Q E h => ?_) (fun cdv A outer s H vs Q E hr h => ?_)
  · obtain ⟨p, m, rfl, _⟩ := h
    rfl
  obtain ⟨p, m, rfl, ⟨a, b, c, hp⟩, m0, m1, q⟩ := h
  refine ⟨_, pss_cons (ps_if (pt_cmpR op_gt (pe_ix ix_list (pv 0) pe_int (fun _ _ => rfl)) pe_int (nomark _))
      (pss_cons (ps_asg (pe_callB call_divmod (by rfl) md (by decide +kernel) (pa_cons (pe_ix ix_list (pv 0) pe_int (fun _ _ => rfl)) (pa_cons (pv 1) pa_nil))) (pg_tup (by rfl) (pgs_cons (pg_sub (pv 0) pe_int set_list) (pgs_cons (pg_name (i := 2) scDraw.nd rfl (.inl rfl)) pgs_nil))))
        (pss_one (ps_ret (pv 2)))) pss_nil)
    (pss_cons (ps_asg (pe_op op_add (pe_ix ix_list (pv 0) pe_int (fun _ _ => rfl)) pe_int) (pg_sub (pv 0) pe_int set_list))
    (pss_cons (ps_asg (pe_op op_mod (pe_callTy call_int1 (by rfl) mi (by decide +kernel) (pa_cons (pe_op op_add (pe_op op_add (pe_op op_mul (pe_ix ix_list (pv 0) pe_int (fun _ _ => rfl)) (pe_op op_add pe_int
        (pe_op op_mul pe_int (pe_ix ix_list (pv 0) pe_int (fun _ _ => rfl))))) pe_int) (pe_ix ix_list (pv 0) pe_int (fun _ _ => rfl))) pa_nil)) pe_int) (pg_sub (pv 0) pe_int set_list))
    (pss_one (ps_ret (pe_op op_mod (pe_callTy call_int1 (by rfl) mi (by decide +kernel) (pa_cons (pe_op op_fdiv (pe_ix ix_list (pv 0) pe_int (fun _ _ => rfl)) pe_int) pa_nil)) (pv 1)))))), ?_⟩
  refine ⟨_, rfl, p, _, _, _, rfl, rfl, SqL.of hp, rfl, _, _, rfl, rfl, _, rfl, iteB (fun c1 => ?_) (fun _ => ?_)⟩
  · have a0 : a > 0 := of_decide_eq_true c1
    refine ⟨_, rfl, p, _, _, _, rfl, rfl, SqL.of hp, rfl, _, rfl, a, m, rfl, ⟨m0, by omega⟩, fun t nt => ?_⟩
    refine ⟨t, _, rfl, SqT.of upd_same, rfl, _, _, rfl, _, rfl, p, [.int a, .int ((b.val : Nat) : Int), .int c], _, 0, rfl, rfl, ?_, rfl, ?_⟩
    · rw [upd_ne (ne_of_none hp nt)]
      exact hp
    refine ⟨_, _, rfl, ⟨rfl, _, rfl, ?_⟩⟩
    exact q (a % m) _ (Int.emod_nonneg _ (by omega)) (Int.emod_lt_of_pos _ m0) ((But.new nt).trans But.put) ⟨_, b, _, upd_same⟩
  · have b1 : ((b.val : Nat) : Int) < 2147483629 := by have := b.isLt; omega
    refine ⟨_, rfl, p, _, _, _, rfl, rfl, SqL.of hp, rfl, _, _, rfl, rfl, _, rfl, p, [.int a, .int ((b.val : Nat) : Int), .int c], _, 2, rfl, rfl, hp, rfl, ?_⟩
    have h1 : upd H p (.lst [.int a, .int ((b.val : Nat) : Int), .int (c + 1)]) p = some (.lst [.int a, .int ((b.val : Nat) : Int), .int (c + 1)]) := upd_same
    refine ⟨_, rfl, p, _, _, _, rfl, rfl, SqL.of h1, rfl, _, rfl, p, _, _, _, rfl, rfl, SqL.of h1, rfl, _, _, rfl, rfl, .inl ⟨by decide, by decide⟩, _, _, rfl, rfl, _, _, rfl, rfl, .inl ⟨by omega, by omega⟩, _, _, rfl, rfl, _, rfl, p, _, _, _, rfl, rfl, SqL.of h1, rfl, _, _, rfl, rfl,
      .inl ⟨_, rfl, _, _, rfl, rfl, (show (0 : Int) < 2147483249 by decide), _, rfl, p, [.int a, .int ((b.val : Nat) : Int), .int (c + 1)], _, 1, rfl, rfl, h1, rfl, ?_⟩⟩
    refine ⟨_, rfl, p, _, _, _, rfl, rfl, SqL.of upd_same, rfl, _, _, rfl, rfl, ⟨by decide, by decide⟩, .inl ⟨_, rfl, _, rfl, _, _, rfl, rfl, m0, ?_⟩⟩
    exact q _ _ (Int.emod_nonneg _ (by omega)) (Int.emod_lt_of_pos _ m0) (But.put.trans But.put) (wl_mk upd_same (Int.emod_nonneg _ (by decide)) (Int.lt_trans (Int.emod_lt_of_pos _ (show (0 : Int) < 2147483249 by decide)) (by decide)))
end
end My

set_option maxHeartbeats 4000000
namespace My
open PySem PySem.Spec PyProof.Rows L2
abbrev sPick : Stmt := top 37
theorem scPick : FnScope ["pot", "some"] ["pot", "some"] (defScope sPick) := ⟨rfl, rfl, rfl, by decide +kernel, rfl, by decide +kernel, by decide +kernel⟩
/-- from a tuple that stands beside the pot -/
def spPickW (K : PySem.W.Frag) : Sp := fun vs H Q _ => ∃ (p t : Addr) (xs : List V), vs = [.ref p, .ref t] ∧ Wl H p ∧ SqT K (hide p H) t xs ∧ 0 < xs.length ∧ xs.length < 5000 ∧
  ∀ (i : Nat) (v : V) (H' : Hp), xs[i]? = some v → But p H H' → Wl H' p → Q v H'
def spPickL (K : PySem.W.Frag) : Sp := fun vs H Q _ => ∃ (p t : Addr) (xs : List V), vs = [.ref p, .ref t] ∧ Wl H p ∧ H t = some (.lst xs) ∧ t ≠ p ∧ 0 < xs.length ∧ xs.length < 5000 ∧
  ∀ (i : Nat) (v : V) (H' : Hp), xs[i]? = some v → But p H H' → Wl H' p → Q v H'
section
variable {P : Program} {w : World} {K : PySem.W.Frag} {mg : Str → Option Value} {base : Heap} {f fD : Addr} {fd dD : FuncData}
theorem ok_pickW (F : L2.Fun K "_law_pick" "_law_pick" sPick f fd) (GD : FnOk P w K mg base CX0 1 fD dD ["pot", "few"] spDraw) (bD : L2.Binds K dD ["pot", "few"] []) (kD : PySem.W.keepIn K (.ref fD) = true) (mD : mg "_law_draw" = some (.ref fD)) (ml : mg "len" = none) :
    FnOk P w K mg base CX0 2 f fd ["pot", "some"] (spPickW K) := by
  refine F.ok scPick (fun vs H Q E h => ?_) (fun cdv A outer s H vs Q E hr h => ?_)
  · obtain ⟨p, t, xs, rfl, _⟩ := h
    rfl
  obtain ⟨p, t, xs, rfl, hW, hT, l0, l1, q⟩ := h
  refine ⟨_, pss_one (ps_ret (pe_ix ix_tup (pv 1) (pe_call GD hr (by rfl) mD kD bD .nil pass0 (pa_cons (pv 0) (pa_cons (pe_callB call_len_seq (by rfl) ml PySem.boot_len (pa_cons (pv 1) pa_nil)) pa_nil))) (fun _ _ => rfl))), ?_⟩
  have hT0 : SqT K H t xs := Same.tup (hide_sub p H) hT
  refine ⟨_, rfl, _, rfl, _, rfl, t, xs, rfl, .inr hT0, p, _, rfl, hW, by omega, by omega, fun r H' r0 r1 bt hW' => ?_⟩
  obtain ⟨i, rfl⟩ : ∃ i : Nat, r = (i : Int) := ⟨r.toNat, by omega⟩
  have hi : i < xs.length := by omega
  exact ⟨t, xs, _, xs[i], rfl, rfl, Same.tup (hide_sub p H') (Same.tup bt.hide hT), atI_nat (List.getElem?_eq_getElem hi), q i _ H' (List.getElem?_eq_getElem hi) bt hW'⟩
theorem ok_pickL (F : L2.Fun K "_law_pick" "_law_pick" sPick f fd) (GD : FnOk P w K mg base CX0 1 fD dD ["pot", "few"] spDraw) (bD : L2.Binds K dD ["pot", "few"] []) (kD : PySem.W.keepIn K (.ref fD) = true) (mD : mg "_law_draw" = some (.ref fD)) (ml : mg "len" = none) :
    FnOk P w K mg base CX0 2 f fd ["pot", "some"] (spPickL K) := by
  refine F.ok scPick (fun vs H Q E h => ?_) (fun cdv A outer s H vs Q E hr h => ?_)
  · obtain ⟨p, t, xs, rfl, _⟩ := h
    rfl
  obtain ⟨p, t, xs, rfl, hW, hT, tp, l0, l1, q⟩ := h
  refine ⟨_, pss_one (ps_ret (pe_ix (r := rIxL K) ix_list (pv 1) (pe_call GD hr (by rfl) mD kD bD .nil pass0 (pa_cons (pv 0) (pa_cons (pe_callB call_len_seq (by rfl) ml PySem.boot_len (pa_cons (pv 1) pa_nil)) pa_nil))) (fun _ _ => rfl))), ?_⟩
  refine ⟨_, rfl, _, rfl, _, rfl, t, xs, rfl, .inl (SqL.of hT), p, _, rfl, hW, by omega, by omega, fun r H' r0 r1 bt hW' => ?_⟩
  obtain ⟨i, rfl⟩ : ∃ i : Nat, r = (i : Int) := ⟨r.toNat, by omega⟩
  have hi : i < xs.length := by omega
  exact ⟨t, xs, _, xs[i], rfl, rfl, SqL.of (bt _ _ tp hT), atI_nat (List.getElem?_eq_getElem hi), q i _ H' (List.getElem?_eq_getElem hi) bt hW'⟩
end
end My

set_option maxHeartbeats 4000000
namespace My
open PySem PySem.Spec PyProof.Rows L2
abbrev sMixed : Stmt := top 38
theorem scMixed : FnScope ["pot", "some", "left", "found", "turn", "at"] ["pot", "some"] (defScope sMixed) := ⟨rfl, rfl, rfl, by decide +kernel, rfl, by decide +kernel, by decide +kernel⟩
/-- all of them, in a drawn order -/
def spMixed (K : PySem.W.Frag) : Sp := fun vs H Q _ => ∃ (p t : Addr) (xs : List V), vs = [.ref p, .ref t] ∧ Wl H p ∧ (SqL K H t xs ∨ SqT K H t xs) ∧ xs.length ≤ 900 ∧
  ∀ (F : Addr) (ys : List V) (H' : Hp), ys.Perm xs → H' F = some (.lst ys) → F ≠ p → But p H H' → Wl H' p → Q (.ref F) H'
theorem perm_cut {α : Type} {ys : List α} {i : Nat} {x : α} (h : ys[i]? = some x) : ys.Perm (x :: (ys.take i ++ ys.drop (i + 1))) := by
  have hi : i < ys.length := by
    by_cases c : i < ys.length
    · exact c
    · rw [List.getElem?_eq_none (by omega)] at h
      cases h
  have e : ys = ys.take i ++ (x :: ys.drop (i + 1)) := by
    have z := List.getElem?_eq_some_iff.mp h
    obtain ⟨_, z⟩ := z
    rw [← z]
    simp
  have p := @List.perm_middle α x (ys.take i) (ys.drop (i + 1))
  rw [← e] at p
  exact p
section
variable {P : Program} {w : World} {K : PySem.W.Frag} {mg : Str → Option Value} {base : Heap} {f fD : Addr} {fd dD : FuncData}
theorem ok_mixed (F : L2.Fun K "_law_mixed" "_law_mixed" sMixed f fd) (GD : FnOk P w K mg base CX0 1 fD dD ["pot", "few"] spDraw) (bD : L2.Binds K dD ["pot", "few"] []) (kD : PySem.W.keepIn K (.ref fD) = true) (mD : mg "_law_draw" = some (.ref fD)) (ml : mg "len" = none) (mr : mg "range" = none) (mli : mg "list" = none) :
    FnOk P w K mg base CX0 2 f fd ["pot", "some"] (spMixed K) := by
  refine F.ok scMixed (fun vs H Q E h => ?_) (fun cdv A outer s H vs Q E hr h => ?_)
  · obtain ⟨p, t, xs, rfl, _⟩ := h
    rfl
  obtain ⟨p, t, xs, rfl, hW, hT, l1, q⟩ := h
  refine ⟨_, pss_cons (ps_par (by rfl) scMixed.nd (i := 2) (j := 3) rfl rfl (by decide) rfl rfl (pa_cons (pe_callTy call_list_of (by rfl) mli (by decide +kernel) (pa_cons (pv 1) pa_nil)) (pa_cons (pe_lst pa_nil) pa_nil)) (by rfl))
    (pss_cons (ps_for PassesOwn.never rfl (pi_range1 rfl mr (pa_cons (pe_callB call_len_seq (by rfl) ml PySem.boot_len (pa_cons (pv 1) pa_nil)) pa_nil)) (pg_name (i := 4) scMixed.nd rfl (.inl rfl))
      (pss_cons (ps_set (i := 5) scMixed.nd rfl (.inl rfl) (pe_call GD hr (by rfl) mD kD bD .nil pass0 (pa_cons (pv 0) (pa_cons (pe_callB call_len_seq (by rfl) ml PySem.boot_len (pa_cons (pv 2) pa_nil)) pa_nil))))
      (pss_cons (ps_expr (pe_bm PySem.F.plainAttrs_list PySem.F.slot_list_append PySem.F.type_list_append mt_append (pv 3) (pa_cons (pe_ix (r := rIxL K) ix_list (pv 2) (pv 5) (fun _ _ => rfl)) pa_nil)))
      (pss_one (ps_set (i := 2) scMixed.nd rfl (.inl rfl) (pe_op op_cat (pe_slice sl_list (pv 2) po_none (po_some (pv 5))) (pe_slice sl_list (pv 2) (po_some (pe_op op_add (pv 5) pe_int)) po_none)))))))
    (pss_one (ps_ret (pv 3)))), ?_⟩
  refine ⟨_, rfl, t, xs, rfl, hT, fun l nl => ?_⟩
  have sl := same_new nl (.lst xs)
  refine ⟨(by show 0 ≤ sizeLine; decide), fun b nb => ?_⟩
  have s1 := sl.trans (same_new nb (.lst []))
  have lp : l ≠ p := hW.ne nl
  have nb0 : H b = none := sl.free nb
  have bp : b ≠ p := hW.ne nb0
  have bl : b ≠ l := fun e => by
    rw [e, upd_same] at nb
    cases nb
  refine ⟨_, _, rfl, ?_⟩
  refine ⟨_, rfl, t, xs, rfl, hT.imp (L2.Same.seq s1) (Same.tup s1), ((xs.length : Nat) : Int), rfl, by omega, by omega, for_range (lo := 0) (n := ((xs.length : Nat) : Int).toNat) (fun i σ H' => ∃ (l : Addr) (ls fs : List V) (s4 s5 : Option V), σ = [some (.ref p), some (.ref t), some (.ref l), some (.ref b), s4, s5] ∧ But p H H' ∧ Wl H' p ∧ H' l = some (.lst ls) ∧ l ≠ p ∧ l ≠ b ∧ H' b = some (.lst fs) ∧
      fs.length = i ∧ List.Perm (fs ++ ls) xs) ⟨l, xs, [], none, none, rfl, But.of s1, hW.same s1, (same_new nb _) _ _ upd_same, lp, Ne.symm bl, upd_same, rfl, .refl _⟩ ?_ ?_⟩
  · rintro i σ H1 li ⟨l, ls, fs, s4, s5, rfl, b1, w1, hl, lp, lb, hb, lf, pm⟩
    have ll : fs.length + ls.length = xs.length := by
      have := pm.length_eq
      rw [List.length_append] at this
      exact this
    have li' : i < xs.length := by omega
    refine ⟨_, rfl, _, rfl, l, _, rfl, .inl (SqL.of hl), p, _, rfl, w1, by omega, by omega, fun r H2 r0 r1 b2 w2 => ?_⟩
    obtain ⟨k, rfl⟩ : ∃ k : Nat, r = (k : Int) := ⟨r.toNat, by omega⟩
    have hk : k < ls.length := by omega
    have hl2 := b2 _ _ lp hl
    have hb2 := b2 _ _ bp hb
    refine ⟨_, rfl, .inl ⟨rfl, _, SqL.of hb2⟩, ?_⟩
    refine ⟨_, rfl, _, rfl, l, ls, _, ls[k], rfl, rfl, SqL.of hl2, atI_nat (List.getElem?_eq_getElem hk), b, fs, _, rfl, rfl, hb2, small1000 (by omega), ?_⟩
    have hl3 : upd H2 b (.lst (fs ++ [ls[k]])) l = some (.lst ls) := by rw [upd_ne lb]; exact hl2
    have hb3 := upd_same (H := H2) (a := b) (o := .lst (fs ++ [ls[k]]))
    have b3 := but_put (o := .lst (fs ++ [ls[k]])) (b1.trans b2) nb0
    have w3 := w2.put (o := .lst (fs ++ [ls[k]])) bp
    generalize upd H2 b (.lst (fs ++ [ls[k]])) = H3 at hl3 hb3 b3 w3 ⊢
    refine ⟨_, rfl, _, rfl, _, rfl, l, ls, rfl, SqL.of hl3, fun u nu => ?_⟩
    have su := same_new nu (.lst (cutV ls none (some (k : Int))))
    refine ⟨_, rfl, _, rfl, _, _, rfl, rfl, _, rfl, l, ls, rfl, SqL.of (su _ _ hl3), fun v nv => ?_⟩
    have sv := same_new nv (.lst (cutV ls (some ((k : Int) + 1)) none))
    have eu := sv _ _ (upd_same (H := H3) (a := u) (o := .lst (cutV ls none (some (k : Int)))))
    refine ⟨u, v, _, _, rfl, rfl, eu, upd_same, ?_, fun z nz => ?_⟩
    · have := cutV_length ls none (some (k : Int))
      have := cutV_length ls (some ((k : Int) + 1)) none
      exact Nat.le_trans (Nat.add_le_add (cutV_length ls none (some (k : Int))) (cutV_length ls (some ((k : Int) + 1)) none)) (Nat.le_trans (by omega : ls.length + ls.length ≤ 1800) (by rw [sizeLine_eq]; decide))
    have sz := same_new nz (.lst (cutV ls none (some (k : Int)) ++ cutV ls (some ((k : Int) + 1)) none))
    have s36 := su.trans (sv.trans sz)
    have zb : z ≠ b := fun e => by
      have := (su.trans sv) _ _ hb3
      rw [e, this] at nz
      cases nz
    have e1 : cutV ls none (some (k : Int)) = ls.take k := cut_to (by omega)
    have e2 : cutV ls (some ((k : Int) + 1)) none = ls.drop (k + 1) := cut_from (k := k + 1) (by omega)
    refine ⟨z, _, fs ++ [ls[k]], _, _, rfl, b3.trans (But.of s36), w3.same s36, upd_same, (w3.same (su.trans sv)).ne nz, zb, s36 _ _ hb3, by rw [List.length_append]; show fs.length + 1 = i + 1; omega, ?_⟩
    rw [e1, e2, List.append_assoc]
    refine List.Perm.trans ?_ pm
    exact List.Perm.append_left fs (perm_cut (List.getElem?_eq_getElem hk)).symm
  · rintro σ H1 ⟨l, ls, fs, s4, s5, rfl, b1, w1, hl, lp, lb, hb, lf, pm⟩
    have ll : fs.length + ls.length = xs.length := by
      have := pm.length_eq
      rw [List.length_append] at this
      exact this
    have l0 : ls = [] := List.eq_nil_of_length_eq_zero (by omega)
    rw [l0, List.append_nil] at pm
    exact ⟨_, rfl, q b fs _ pm hb bp b1 w1⟩
end
end My

set_option maxHeartbeats 4000000
namespace My
open PySem PySem.Spec PyProof.Rows L2 RZ
abbrev sIsWhole : Stmt := top 7
abbrev sWholeFrom : Stmt := top (7 + 1)
abbrev sIsTwo : Stmt := top (7 + 2)
abbrev sAsc : Stmt := top (7 + 3)
abbrev sIsGraph : Stmt := top (7 + 4)
abbrev sIsVP : Stmt := top (7 + 5)
abbrev sCheckGraph : Stmt := top (7 + 6)
theorem scIsWhole : FnScope ["value", "low", "high"] ["value", "low", "high"] (defScope sIsWhole) := ⟨rfl, rfl, rfl, by decide +kernel, rfl, by decide +kernel, by decide +kernel⟩
theorem scWholeFrom : FnScope ["value", "low"] ["value", "low"] (defScope sWholeFrom) := ⟨rfl, rfl, rfl, by decide +kernel, rfl, by decide +kernel, by decide +kernel⟩
theorem scIsTwo : FnScope ["value"] ["value"] (defScope sIsTwo) := ⟨rfl, rfl, rfl, by decide +kernel, rfl, by decide +kernel, by decide +kernel⟩
theorem scAsc : FnScope ["row", "value", "following"] ["row"] (defScope sAsc) := ⟨rfl, rfl, rfl, by decide +kernel, rfl, by decide +kernel, by decide +kernel⟩
theorem scIsGraph : FnScope ["value", "many", "edges", "edge"] ["value"] (defScope sIsGraph) := ⟨rfl, rfl, rfl, by decide +kernel, rfl, by decide +kernel, by decide +kernel⟩
theorem scIsVP : FnScope ["value", "many", "vertex"] ["value", "many"] (defScope sIsVP) := ⟨rfl, rfl, rfl, by decide +kernel, rfl, by decide +kernel, by decide +kernel⟩
theorem scCheckGraph : FnScope ["graph"] ["graph"] (defScope sCheckGraph) := ⟨rfl, rfl, rfl, by decide +kernel, rfl, by decide +kernel, by decide +kernel⟩
theorem opOr {X : Cx} {op : Value → Value → Sem Value} {r r' : R2} (a : OpR X op r) (b : OpR X op r') : OpR X op (fun x y H Q => r x y H Q ∨ r' x y H Q) := by
  intro pins s σ H x y v u Q I rx ry h
  rcases h with h | h
  · exact a pins s σ H x y v u Q I rx ry h
  · exact b pins s σ H x y v u Q I rx ry h
theorem walk_zipT {K : PySem.W.Frag} {a b : Addr} {xs ys : List V} {n : Nat} (hn : n = min xs.length ys.length) : Walk (ItzT K a b) n (fun H => SqT K H a xs ∧ SqT K H b ys) (YPair (fun i => xs[i]?) (fun i => ys[i]?)) := by
  subst hn
  refine ⟨fun i _ hi q => ?_, fun _ q => ⟨xs, ys, q.1, q.2, by omega⟩, fun i H v H' _ q y => ?_⟩
  · have h1 : i < xs.length := by omega
    have h2 : i < ys.length := by omega
    exact ⟨xs, ys, xs[i], ys[i], q.1, q.2, by simp [h1], by simp [h2]⟩
  · obtain ⟨T, x, z, h1, h2, h3, h4, h5⟩ := y
    exact ⟨T, x, z, h1, h2, h3, h4 xs q.1, h5 ys q.2⟩
/-- what may be compared: numbers alone, or pairs of numbers alone -/
def Cmp (ss : List Sh) : Prop := (∀ s ∈ ss, ∃ i, s = .int i) ∨ (∀ s ∈ ss, ∃ i j, s = .tup [.int i, .int j])
theorem asc_zip : ∀ ss : List Sh, (List.zipWith ltS ss (ss.drop 1)).all id = ascB ss
  | [] => rfl
  | [s] => rfl
  | s :: t :: r => by
    have ih := asc_zip (t :: r)
    show (ltS s t && (List.zipWith ltS (t :: r) ((t :: r).drop 1)).all id) = (ltS s t && ascB (t :: r))
    rw [ih]
def spWholeFromA (K : PySem.W.Frag) : Sp := fun vs H Q _ => ∃ (v : V) (s : Sh) (lo : Int), vs = [v, .int lo] ∧ ShAt K H v s ∧ Q (.bl (wholeF lo s)) H
def spIsWholeA (K : PySem.W.Frag) : Sp := fun vs H Q _ => ∃ (v : V) (s : Sh) (lo hi : Int), vs = [v, .int lo, .int hi] ∧ ShAt K H v s ∧ Q (.bl (wholeR lo hi s)) H
def spIsTwoA (K : PySem.W.Frag) : Sp := fun vs H Q _ => ∃ (v : V) (s : Sh), vs = [v] ∧ ShAt K H v s ∧ Q (.bl (isTwo s)) H
def spAscA (K : PySem.W.Frag) : Sp := fun vs H Q _ => ∃ (e : Addr) (xs : List V) (ss : List Sh), vs = [.ref e] ∧ SqT K H e xs ∧ ShsAt K H xs ss ∧ Cmp ss ∧ ss.length ≤ 900 ∧ ∀ H', Same H H' → Q (.bl (ascB ss)) H'
def spVPA (K : PySem.W.Frag) : Sp := fun vs H Q _ => ∃ (v : V) (s : Sh) (n : Int), vs = [v, .int n] ∧ ShAt K H v s ∧ ∀ H', Same H H' → Q (.bl (vpB n s)) H'
/-- no tuple in it is too long -/
def shortS : Sh → Prop
  | .tup [_, .tup es] => es.length ≤ 900
  | _ => True
def spIsGraphA (K : PySem.W.Frag) : Sp := fun vs H Q _ => ∃ (v : V) (s : Sh), vs = [v] ∧ ShAt K H v s ∧ shortS s ∧ ∀ H', Same H H' → Q (.bl (isGr s)) H'
section
variable {P : Program} {w : World} {K : PySem.W.Frag} {mg : Str → Option Value} {base : Heap} {f fW fI fE fG : Addr} {fd dW dI dE dG : FuncData}
theorem ok_whole_from (F : L2.Fun K "is_whole_from" "is_whole_from" sWholeFrom f fd) (mty : mg "type" = none) (mi : mg "int" = none) : FnOk P w K mg base CX0 1 f fd ["value", "low"] (spWholeFromA K) := by
  refine F.ok scWholeFrom (fun vs H Q E h => ?_) (fun cdv A outer s H vs Q E hr h => ?_)
  · obtain ⟨v, s, lo, rfl, _⟩ := h
    rfl
  obtain ⟨v, s, lo, rfl, hv, q⟩ := h
  refine ⟨_, pss_one (ps_ret (pe_and (pe_cmpR op_isTy (pe_callTy call_type1 (by rfl) mty (by decide +kernel) (pa_cons (pv 0) pa_nil)) (pe_bltn (v := .ty "int") (by rfl) mi (by decide +kernel) rfl) (nomark _)) (pe_one (pe_cmpR op_ge (pv 0) (pv 1) (nomark _))))), ?_⟩
  obtain ⟨T, ty, ok⟩ := hv.ty
  refine ⟨_, rfl, v, T, rfl, ty, T, "int", rfl, rfl, _, rfl, iteB (fun c => ?_) (fun c => ?_)⟩
  · have c' : T = "int" := of_decide_eq_true c
    cases hv with
    | int i => exact ⟨_, rfl, _, rfl, _, _, rfl, rfl, q⟩
    | bool b => cases ty; exact absurd c' (by decide)
    | tup h r => rw [show T = "tuple" from ok] at c'; exact absurd c' (by decide)
    | non => exact absurd c' ok.1
    | str x => rw [show T = "str" from ok] at c'; exact absurd c' (by decide)
    | lst h => exact absurd c' ok.1
    | dct h => exact absurd c' ok.1
  · show Q (.bl false) H
    have nc : T ≠ "int" := of_decide_eq_false c
    have e : wholeF lo s = false := by
      cases s with
      | int i => exact absurd ok nc
      | _ => rfl
    rw [e] at q
    exact q
theorem ok_is_whole (F : L2.Fun K "is_whole" "is_whole" sIsWhole f fd) (GW : FnOk P w K mg base CX0 1 fW dW ["value", "low"] (spWholeFromA K)) (bW : L2.Binds K dW ["value", "low"] []) (kW : PySem.W.keepIn K (.ref fW) = true) (mW : mg "is_whole_from" = some (.ref fW)) : FnOk P w K mg base CX0 2 f fd ["value", "low", "high"] (spIsWholeA K) := by
  refine F.ok scIsWhole (fun vs H Q E h => ?_) (fun cdv A outer s H vs Q E hr h => ?_)
  · obtain ⟨v, s, lo, hi, rfl, _⟩ := h
    rfl
  obtain ⟨v, s, lo, hi, rfl, hv, q⟩ := h
  refine ⟨_, pss_one (ps_ret (pe_and (pe_call GW hr (by rfl) mW kW bW .nil pass0 (pa_cons (pv 0) (pa_cons (pv 1) pa_nil))) (pe_one (pe_cmpR op_le (pv 0) (pv 2) (nomark _))))), ?_⟩
  refine ⟨_, rfl, _, rfl, v, s, lo, rfl, hv, _, rfl, iteB (fun c => ?_) (fun c => ?_)⟩
  · cases s with
    | int i =>
      cases hv
      refine ⟨_, rfl, _, rfl, _, _, rfl, rfl, ?_⟩
      have e : wholeR lo hi (.int i) = decide (i ≤ hi) := by
        show (decide (i ≥ lo) && decide (i ≤ hi)) = _
        rw [show decide (i ≥ lo) = true from c]
        rfl
      rw [e] at q
      exact q
    | bool b => cases c
    | tup ss => cases c
    | str x => cases c
    | oth => cases c
  · show Q (.bl false) H
    have c' : wholeF lo s = false := c
    have e : wholeR lo hi s = false := by
      cases s with
      | int i =>
        show (decide (i ≥ lo) && decide (i ≤ hi)) = false
        rw [show decide (i ≥ lo) = false from c']
        rfl
      | _ => rfl
    rw [e] at q
    exact q
theorem ok_is_two (F : L2.Fun K "is_tuple_of_two" "is_tuple_of_two" sIsTwo f fd) (mty : mg "type" = none) (mt : mg "tuple" = none) (ml : mg "len" = none) : FnOk P w K mg base CX0 1 f fd ["value"] (spIsTwoA K) := by
  refine F.ok scIsTwo (fun vs H Q E h => ?_) (fun cdv A outer s H vs Q E hr h => ?_)
  · obtain ⟨v, s, rfl, _⟩ := h
    rfl
  obtain ⟨v, s, rfl, hv, q⟩ := h
  refine ⟨_, pss_one (ps_ret (pe_and (pe_cmpR op_isTy (pe_callTy call_type1 (by rfl) mty (by decide +kernel) (pa_cons (pv 0) pa_nil)) (pe_bltn (v := .ty "tuple") (by rfl) mt (by decide +kernel) rfl) (nomark _)) (pe_one (pe_cmpR op_eq (pe_callB call_len_seq (by rfl) ml PySem.boot_len (pa_cons (pv 0) pa_nil)) pe_int (nomark _))))), ?_⟩
  obtain ⟨T, ty, ok⟩ := hv.ty
  refine ⟨_, rfl, v, T, rfl, ty, T, "tuple", rfl, rfl, _, rfl, iteB (fun c => ?_) (fun c => ?_)⟩
  · have c' : T = "tuple" := of_decide_eq_true c
    cases hv with
    | int i => rw [show T = "int" from ok] at c'; exact absurd c' (by decide)
    | bool b => rw [show T = "bool" from ok] at c'; exact absurd c' (by decide)
    | @tup t xs ss h r =>
      refine ⟨_, rfl, t, xs, rfl, .inr h, rfl, ?_⟩
      have le := r.len
      show Q (.bl (decide (V.int ((xs.length : Nat) : Int) = V.int 2))) H
      have e : isTwo (.tup ss) = decide (V.int ((xs.length : Nat) : Int) = V.int 2) := by
        rw [le]
        rcases ss with _ | ⟨a, _ | ⟨b, _ | ⟨c, r⟩⟩⟩
        · rfl
        · rfl
        · rfl
        · symm
          show decide _ = false
          refine decide_eq_false fun z => ?_
          injection z with z
          simp at z
          omega
      rw [e] at q
      exact q
    | non => exact absurd c' ok.2.2.1
    | str x => rw [show T = "str" from ok] at c'; exact absurd c' (by decide)
    | lst h => exact absurd c' ok.2.2.1
    | dct h => exact absurd c' ok.2.2.1
  · show Q (.bl false) H
    have nc : T ≠ "tuple" := of_decide_eq_false c
    have e : isTwo s = false := by
      cases s with
      | tup ss => exact absurd ok nc
      | _ => rfl
    rw [e] at q
    exact q
theorem ok_asc (F : L2.Fun K "is_ascending" "is_ascending" sAsc f fd) (ma : mg "all" = none) (mz : mg "zip" = none) : FnOk P w K mg base CX0 1 f fd ["row"] (spAscA K) := by
  refine F.ok scAsc (fun vs H Q E h => ?_) (fun cdv A outer s H vs Q E hr h => ?_)
  · obtain ⟨e, xs, ss, rfl, _⟩ := h
    rfl
  obtain ⟨e, xs, ss, rfl, he, hs, cmp, few, q⟩ := h
  refine ⟨_, pss_one (ps_ret (pe_callB (cr_all rfl) (by rfl) ma (by decide +kernel) (pa_cons (pe_lc (own := [("value", 1), ("following", 2)]) (g := gTup K 2 (gCons (gName 1) (gCons (gName 2) gNil))) (tt := tYes) rfl scAsc.nd (pi_zipA (by rfl) mz (pa_cons (pv 0) (pa_cons (pe_slice sl_tupA (pv 0) (po_some pe_int) po_none) pa_nil)))
        (blkOk_by (N := ["row", "value", "following"]) (sc := defScope sAsc) (by decide +kernel)) (fun _ _ _ _ _ => pg_tup (by rfl) (pgs_cons (pg_name (i := 1) scAsc.nd rfl (Or.inl rfl)) (pgs_cons (pg_name (i := 2) scAsc.nd rfl (Or.inl rfl)) pgs_nil))) (fun _ _ _ _ _ => pts_nil)
        (fun _ _ _ _ _ => pe_cmpR (r := fun x y H Q => rI0 (fun i j => .bl (decide (i < j))) x y H Q ∨ rLtT K x y H Q) (opOr op_lt (op_ltT hr.units0)) (pv 1) (pv 2) (nomark _))) pa_nil))), ?_⟩
  have lxs := hs.len
  have lz : (List.zipWith ltS ss (ss.drop 1)).length = ss.length - 1 := by rw [List.length_zipWith, List.length_drop]; omega
  cases xs with
  | nil =>
    cases hs
    refine ⟨_, rfl, _, rfl, 1, rfl, e, [], rfl, he, fun _ => ?_, fun z => absurd ⟨rfl, rfl⟩ z⟩
    refine ⟨e, e, [], [], rfl, .inr ⟨he, he, fun B nB => lc_it (walk_zipT (n := 0) rfl) (fun i H3 => i = 0 ∧ Same H H3 ∧ H3 B = some (.lst [])) ⟨rfl, same_new nB _, upd_same⟩ (fun i H3 _ ⟨_, s3, _⟩ => ⟨Same.tup s3 he, Same.tup s3 he⟩) (fun i x H3 H4 hi => absurd hi (Nat.not_lt_zero _)) ?_⟩⟩
    rintro H3 ⟨_, s3, hB⟩
    exact ⟨B, [], rfl, SqL.of hB, q H3 s3⟩
  | cons x0 xs =>
    have hs3 : ShsAt K H xs (ss.drop 1) := by cases hs; assumption
    have cut : cutV (x0 :: xs) (some 1) none = xs := by
      unfold cutV
      rw [HT.sIx_none, show ((1 : Int)) = ((1 : Nat) : Int) from rfl, HT.sIx_nat, List.length_cons, show min 1 (xs.length + 1) = 1 by omega, List.drop_one, List.tail_cons, Nat.add_sub_cancel, List.take_length]
    refine ⟨_, rfl, _, rfl, 1, rfl, e, x0 :: xs, rfl, he, fun z => ?_, fun _ c nc => ?_⟩
    · exfalso
      have z1 := z.1
      rw [show ((1 : Int)) = ((1 : Nat) : Int) from rfl, HT.sIx_nat, List.length_cons] at z1
      omega
    rw [cut]
    have s3 := same_new nc (.tup xs)
    have l1 : xs.length + 1 = ss.length := by rw [← lxs, List.length_cons]
    refine ⟨e, c, x0 :: xs, xs, rfl, .inr ⟨Same.tup s3 he, SqT.of upd_same, fun B nB => lc_it (walk_zipT (n := xs.length) (by rw [List.length_cons]; omega)) (fun i H3 => Same (upd H c (.tup xs)) H3 ∧ H3 B = some (.lst (((List.zipWith ltS ss (ss.drop 1)).take i).map V.bl))) ⟨same_new nB _, upd_same⟩ (fun i H3 _ ⟨s4, _⟩ => ⟨Same.tup (s3.trans s4) he, Same.tup s4 (SqT.of upd_same)⟩) (fun i x H3 H4 hi ⟨s4, hB⟩ ⟨T, y, z, e1, nT, e2, hy, hz⟩ => ?_) ?_⟩⟩
    · subst e1
      subst e2
      have s5 := same_new nT (.tup [y, z])
      have sA := s3.trans (s4.trans s5)
      obtain ⟨a, ha, sa⟩ := (hs.same sA).get hy
      obtain ⟨b, hb, sb⟩ := (hs3.same sA).get hz
      have hz' : (List.zipWith ltS ss (ss.drop 1))[i]? = some (ltS a b) := by rw [List.getElem?_zipWith, ha, hb]
      have fin : Same (upd H c (.tup xs)) (upd (upd H3 T (.tup [y, z])) B (.lst (((List.zipWith ltS ss (ss.drop 1)).take i).map V.bl ++ [V.bl (ltS a b)]))) ∧ upd (upd H3 T (.tup [y, z])) B (.lst (((List.zipWith ltS ss (ss.drop 1)).take i).map V.bl ++ [V.bl (ltS a b)])) B = some (.lst (((List.zipWith ltS ss (ss.drop 1)).take (i + 1)).map V.bl)) := by
        refine ⟨same_put (s4.trans s5) nB, ?_⟩
        rw [upd_same, take_succ hz', List.map_append]
        rfl
      have ln : (((List.zipWith ltS ss (ss.drop 1)).take i).map V.bl).length < sizeLine := small1000 (by rw [List.length_map, List.length_take]; omega)
      have hB5 := s5 _ _ hB
      refine ⟨T, _, rfl, SqT.of upd_same, rfl, _, _, rfl, _, _, rfl, rfl, rfl, ?_⟩
      refine ⟨_, rfl, _, rfl, ?_⟩
      have ma := List.mem_of_getElem? ha
      have mb := List.mem_of_mem_drop (List.mem_of_getElem? hb)
      rcases cmp with cm | cm
      · obtain ⟨k, rfl⟩ := cm a ma
        obtain ⟨l, rfl⟩ := cm b mb
        cases sa
        cases sb
        exact .inl ⟨_, _, rfl, rfl, _, hB5, ln, fin⟩
      · obtain ⟨k, k2, rfl⟩ := cm a ma
        obtain ⟨l, l2, rfl⟩ := cm b mb
        cases sa with
        | @tup t1 ys1 _ h1 r1 =>
          cases sb with
          | @tup t2 ys2 _ h2 r2 =>
            cases r1 with
            | cons p1 r1 =>
              cases r1 with
              | cons p2 r1 =>
                cases r1
                cases p1
                cases p2
                cases r2 with
                | cons p3 r2 =>
                  cases r2 with
                  | cons p4 r2 =>
                    cases r2
                    cases p3
                    cases p4
                    exact .inr ⟨t1, t2, [k, k2], [l, l2], rfl, rfl, h1, h2, _, hB5, ln, fin⟩
    · rintro H3 ⟨s4, hB⟩
      refine ⟨B, _, rfl, SqL.of hB, ?_⟩
      rw [List.take_of_length_le (by omega), asc_zip]
      exact q H3 (s3.trans s4)
theorem ok_vp (F : L2.Fun K "is_vertex_pair" "is_vertex_pair" sIsVP f fd) (GI : FnOk P w K mg base CX0 1 fI dI ["value"] (spIsTwoA K)) (bI : L2.Binds K dI ["value"] []) (kI : PySem.W.keepIn K (.ref fI) = true) (mI : mg "is_tuple_of_two" = some (.ref fI))
    (GW : FnOk P w K mg base CX0 2 fW dW ["value", "low", "high"] (spIsWholeA K)) (bW : L2.Binds K dW ["value", "low", "high"] []) (kW : PySem.W.keepIn K (.ref fW) = true) (mW : mg "is_whole" = some (.ref fW)) (ma : mg "all" = none) : FnOk P w K mg base CX0 3 f fd ["value", "many"] (spVPA K) := by
  refine F.ok scIsVP (fun vs H Q E h => ?_) (fun cdv A outer s H vs Q E hr h => ?_)
  · obtain ⟨v, s, n, rfl, _⟩ := h
    rfl
  obtain ⟨v, s, n, rfl, hv, q⟩ := h
  refine ⟨_, pss_one (ps_ret (pe_and (pe_call GI (hr.mono (by decide)) (by rfl) mI kI bI .nil pass0 (pa_cons (pv 0) pa_nil)) (pe_one (pe_callB (cr_all rfl) (by rfl) ma (by decide +kernel) (pa_cons (pe_lc (own := [("vertex", 2)]) (g := gName 2) (tt := tYes) rfl scIsVP.nd (pi_tup (pv 0))
        (blkOk_by (N := ["value", "many", "vertex"]) (sc := defScope sIsVP) (by decide +kernel)) (fun _ _ _ _ _ => pg_name (i := 2) scIsVP.nd rfl (Or.inl rfl)) (fun _ _ _ _ _ => pts_nil)
        (fun _ _ _ _ _ => pe_call GW hr (by rfl) mW kW bW .nil pass0 (pa_cons (pv 2) (pa_cons pe_int (pa_cons (pe_op op_sub (pv 1) pe_int) pa_nil))))) pa_nil))))), ?_⟩
  refine ⟨_, rfl, v, s, rfl, hv, _, rfl, iteB (fun c => ?_) (fun c => ?_)⟩
  · obtain ⟨a, b, rfl⟩ : ∃ a b, s = .tup [a, b] := by
      unfold isTwo at c
      split at c
      · exact ⟨_, _, rfl⟩
      · cases c
    cases hv with
    | @tup t xs _ h r =>
      have lx := r.len
      refine ⟨_, rfl, t, rfl, ⟨_, h⟩, fun D nD => lc_tup (K := K) (a := t) (xs := xs) (fun i H2 => Same H H2 ∧ H2 D = some (.lst ((([a, b].take i).map (wholeR 0 (n - 1))).map V.bl))) ⟨same_new nD _, upd_same⟩ (fun i H1 _ ⟨s1, _⟩ => Same.tup s1 h) ?_ ?_⟩
      · rintro i x H2 hi ⟨s2, hD⟩
        obtain ⟨z, hz, sz⟩ := (r.same s2).get hi
        refine ⟨rfl, ?_⟩
        refine ⟨_, rfl, _, rfl, _, _, rfl, rfl, x, z, 0, n - 1, rfl, sz, _, hD, small1000 (by rw [List.length_map, List.length_map, List.length_take]; exact Nat.le_trans (Nat.min_le_right _ _) (by show 2 ≤ 1000; decide)), same_put s2 nD, ?_⟩
        rw [upd_same, take_succ hz, List.map_append, List.map_append]
        rfl
      · rintro H2 ⟨s2, hD⟩
        rw [lx, List.take_length] at hD
        refine ⟨D, _, rfl, SqL.of hD, ?_⟩
        have e : ([a, b].map (wholeR 0 (n - 1))).all id = vpB n (.tup [a, b]) := by
          show (wholeR 0 (n - 1) a && (wholeR 0 (n - 1) b && true)) = _
          rw [Bool.and_true]
          rfl
        rw [e]
        exact q H2 s2
  · have e : vpB n s = false := by
      unfold vpB
      split
      · cases c
      · rfl
    rw [e] at q
    exact q H (L2.Same.refl H)
theorem ok_is_graph (F : L2.Fun K "is_graph" "is_graph" sIsGraph f fd) (GI : FnOk P w K mg base CX0 1 fI dI ["value"] (spIsTwoA K)) (bI : L2.Binds K dI ["value"] []) (kI : PySem.W.keepIn K (.ref fI) = true) (mI : mg "is_tuple_of_two" = some (.ref fI))
    (GW : FnOk P w K mg base CX0 2 fW dW ["value", "low", "high"] (spIsWholeA K)) (bW : L2.Binds K dW ["value", "low", "high"] []) (kW : PySem.W.keepIn K (.ref fW) = true) (mW : mg "is_whole" = some (.ref fW))
    (GE : FnOk P w K mg base CX0 3 fE dE ["value", "many"] (spVPA K)) (bE : L2.Binds K dE ["value", "many"] []) (kE : PySem.W.keepIn K (.ref fE) = true) (mE : mg "is_vertex_pair" = some (.ref fE))
    (GA : FnOk P w K mg base CX0 1 fG dG ["row"] (spAscA K)) (bA : L2.Binds K dG ["row"] []) (kA : PySem.W.keepIn K (.ref fG) = true) (mA : mg "is_ascending" = some (.ref fG))
    (tk : Tok) (mM : mg "MOST_VERTICES" = some (.int 9 tk)) (mty : mg "type" = none) (mt : mg "tuple" = none) (ma : mg "all" = none) : FnOk P w K mg base CX0 4 f fd ["value"] (spIsGraphA K) := by
  refine F.ok scIsGraph (fun vs H Q E h => ?_) (fun cdv A outer s H vs Q E hr h => ?_)
  · obtain ⟨v, s, rfl, _⟩ := h
    rfl
  obtain ⟨v, s, rfl, hv, sh, q⟩ := h
  refine ⟨_, pss_cons (ps_if (pt_not (pt_val (pe_call GI (hr.mono (by decide)) (by rfl) mI kI bI .nil pass0 (pa_cons (pv 0) pa_nil)))) (pss_one (ps_ret pe_bl)) pss_nil)
    (pss_cons (ps_asg (pv 0) (pg_tup (by rfl) (pgs_cons (pg_name (i := 1) scIsGraph.nd rfl (.inr rfl)) (pgs_cons (pg_name (i := 2) scIsGraph.nd rfl (.inl rfl)) pgs_nil))))
    (pss_cons (ps_if (PW.pt (pw_or (pt_not (pt_val (pe_call GW (hr.mono (by decide)) (by rfl) mW kW bW .nil pass0 (pa_cons (pv 1) (pa_cons pe_int (pa_cons (pe_glob (v := .int 9) (by rfl) mM ⟨_, rfl⟩) pa_nil))))))
        (pw_or1 (pt_cmpR op_isNotTy (pe_callTy call_type1 (by rfl) mty (by decide +kernel) (pa_cons (pv 2) pa_nil)) (pe_bltn (v := .ty "tuple") (by rfl) mt (by decide +kernel) rfl) (nomark _))))) (pss_one (ps_ret pe_bl)) pss_nil)
    (pss_one (ps_ret (pe_and (pe_callB (cr_all rfl) (by rfl) ma (by decide +kernel) (pa_cons (pe_lc (own := [("edge", 3)]) (g := gName 3) (tt := tYes) rfl scIsGraph.nd (pi_tup (pv 2))
        (blkOk_by (N := ["value", "many", "edges", "edge"]) (sc := defScope sIsGraph) (by decide +kernel)) (fun _ _ _ _ _ => pg_name (i := 3) scIsGraph.nd rfl (Or.inl rfl)) (fun _ _ _ _ _ => pts_nil)
        (fun _ _ _ _ _ => pe_and (pe_call GE (hr.mono (by decide)) (by rfl) mE kE bE .nil pass0 (pa_cons (pv 3) (pa_cons (pv 1) pa_nil))) (pe_one (pe_cmpR op_lt (pe_ix (r := rIxT K) ix_tup (pv 3) pe_int (fun _ _ => rfl)) (pe_ix (r := rIxT K) ix_tup (pv 3) pe_int (fun _ _ => rfl)) (nomark _))))) pa_nil))
      (pe_one (pe_call GA (hr.mono (by decide)) (by rfl) mA kA bA .nil pass0 (pa_cons (pv 2) pa_nil)))))))), ?_⟩
  have q0 := q H (L2.Same.refl H)
  refine ⟨_, rfl, v, s, rfl, hv, _, rfl, iteB (fun c => ?_) (fun c => ?_)⟩
  · have e : isGr s = false := by
      unfold isGr
      split
      · cases c
      · rfl
    rw [e] at q0
    exact q0
  obtain ⟨m, es, rfl⟩ : ∃ a b, s = .tup [a, b] := by
    unfold isTwo at c
    split at c
    · exact ⟨_, _, rfl⟩
    · cases c
  cases hv with
  | @tup t xs _ ht r =>
  cases r with
  | @cons x _ xs _ hm r =>
  cases r with
  | @cons y _ xs _ hy r =>
  cases r
  refine ⟨_, rfl, t, _, rfl, ht, rfl, _, _, rfl, _, _, rfl, rfl, ?_⟩
  refine ⟨_, rfl, x, m, 0, 9, rfl, hm, _, rfl, iteB (fun c1 => ?_) (fun c1 => ?_)⟩
  · have e : isGr (.tup [m, es]) = false := by
      unfold isGr
      split
      · rename_i n es' e
        injection e with e
        injection e with e1 e2
        subst e1
        have c2 : (decide (n ≥ 0) && decide (n ≤ 9)) = false := (Bool.not_eq_true' _).mp c1
        rw [c2, Bool.false_and]
      · rfl
    rw [e] at q0
    exact q0
  obtain ⟨n, rfl, c2⟩ : ∃ n, m = .int n ∧ (decide (n ≥ 0) && decide (n ≤ 9)) = true := by
    cases m with
    | int n => exact ⟨n, rfl, (Bool.not_eq_false' _).mp c1⟩
    | _ => cases c1
  cases hm
  obtain ⟨T, ty, ok⟩ := hy.ty
  refine ⟨_, rfl, y, T, rfl, ty, T, "tuple", rfl, rfl, _, rfl, iteB (fun c3 => ?_) (fun c3 => ?_)⟩
  · have nt : T ≠ "tuple" := by simpa using c3
    have e : isGr (.tup [.int n, es]) = false := by
      cases es with
      | tup es => exact absurd ok nt
      | _ => rfl
    rw [e] at q0
    exact q0
  have et : T = "tuple" := by simpa using c3
  obtain ⟨es, rfl⟩ : ∃ ss, es = .tup ss := by
    cases es with
    | tup ss => exact ⟨ss, rfl⟩
    | int i => rw [show T = "int" from ok] at et; exact absurd et (by decide)
    | bool b => rw [show T = "bool" from ok] at et; exact absurd et (by decide)
    | str x => rw [show T = "str" from ok] at et; exact absurd et (by decide)
    | oth => exact absurd et ok.2.2.1
  have few : es.length ≤ 900 := sh
  cases hy with
  | @tup e xs _ he r =>
  have lx := r.len
  have eq : isGr (.tup [.int n, .tup es]) = (es.all (edgeB n) && ascB es) := by
    show ((decide (n ≥ 0) && decide (n ≤ 9)) && (es.all (edgeB n) && ascB es)) = _
    rw [c2, Bool.true_and]
  refine ⟨_, rfl, e, rfl, ⟨_, he⟩, fun D nD => lc_tup (K := K) (a := e) (xs := xs) (fun i H2 => Same H H2 ∧ H2 D = some (.lst (((es.take i).map (edgeB n)).map V.bl))) ⟨same_new nD _, upd_same⟩ (fun i H1 _ ⟨s1, _⟩ => Same.tup s1 he) ?_ ?_⟩
  · rintro i x H2 hi ⟨s2, hD⟩
    obtain ⟨z, hz, sz⟩ := (r.same s2).get hi
    have ln : (((es.take i).map (edgeB n)).map V.bl).length < sizeLine := small1000 (by rw [List.length_map, List.length_map, List.length_take]; omega)
    have fin : ∀ H3, Same H2 H3 → ∃ acc, H3 D = some (.lst acc) ∧ acc.length < sizeLine ∧ Same H (upd H3 D (.lst (acc ++ [V.bl (edgeB n z)]))) ∧ upd H3 D (.lst (acc ++ [V.bl (edgeB n z)])) D = some (.lst (((es.take (i + 1)).map (edgeB n)).map V.bl)) := fun H3 s3 => by
      refine ⟨_, s3 _ _ hD, ln, same_put (s2.trans s3) nD, ?_⟩
      rw [upd_same, take_succ hz, List.map_append, List.map_append]
      rfl
    refine ⟨rfl, ?_⟩
    refine ⟨_, rfl, _, rfl, x, z, n, rfl, sz, fun H3 s3 => ⟨_, rfl, iteB (fun c4 => ?_) (fun c4 => ?_)⟩⟩
    · obtain ⟨a, b, rfl⟩ : ∃ a b, z = .tup [.int a, .int b] := by
        unfold vpB at c4
        split at c4
        · rename_i a b
          cases a with
          | int a =>
            cases b with
            | int b => exact ⟨a, b, rfl⟩
            | _ => simp [wholeR] at c4
          | _ => simp [wholeR] at c4
        · cases c4
      have e1 : edgeB n (.tup [.int a, .int b]) = decide (a < b) := by
        show (vpB n (.tup [.int a, .int b]) && decide (a < b)) = _
        rw [show vpB n (.tup [.int a, .int b]) = true from c4, Bool.true_and]
      cases sz with
      | @tup u us _ hu ru =>
      cases ru with
      | cons p1 ru =>
      cases ru with
      | cons p2 ru =>
      cases ru
      cases p1
      cases p2
      have hu3 := Same.tup s3 hu
      refine ⟨_, rfl, u, _, 0, _, rfl, rfl, hu3, rfl, _, rfl, u, _, 1, _, rfl, rfl, hu3, rfl, _, _, rfl, rfl, ?_⟩
      have f := fin H3 s3
      rw [e1] at f
      exact f
    · have e1 : edgeB n z = false := by
        show (vpB n z && lt2 z) = false
        rw [show vpB n z = false from c4, Bool.false_and]
      have f := fin H3 s3
      rw [e1] at f
      exact f
  rintro H2 ⟨s2, hD⟩
  rw [lx, List.take_length] at hD
  refine ⟨D, _, rfl, SqL.of hD, _, rfl, ?_⟩
  have ea : (es.map (edgeB n)).all id = es.all (edgeB n) := by rw [List.all_map]; rfl
  rw [ea]
  refine iteB (fun c4 => ?_) (fun c4 => ?_)
  · refine ⟨_, rfl, e, xs, es, rfl, Same.tup s2 he, r.same s2, .inr fun s hs => ?_, few, fun H3 s3 => ?_⟩
    · have h1 := List.all_eq_true.mp c4 s hs
      unfold edgeB at h1
      rw [Bool.and_eq_true] at h1
      have h2 := h1.2
      unfold lt2 at h2
      split at h2
      · exact ⟨_, _, rfl⟩
      · cases h2
    · have q1 := q H3 (s2.trans s3)
      rw [eq, c4, Bool.true_and] at q1
      exact q1
  · have q1 := q H2 s2
    rw [eq, c4, Bool.false_and] at q1
    exact q1
end
end My

set_option maxHeartbeats 4000000
namespace My
open PySem PySem.Spec PyProof.Rows L2
def graphS (n : Nat) (es : List E2) : Sh := .tup [.int (n : Int), .tup (es.map pairS)]
theorem GraphAt.sh {K : PySem.W.Frag} {H : Hp} {x : V} {n : Nat} {es : List E2} (h : GraphAt K H x n es) : ShAt K H x (graphS n es) := by
  obtain ⟨t, e, xs, rfl, h1, h2, h3⟩ := h
  exact .tup h1 (.cons (.int _) (.cons (.tup h2 h3.sh) .nil))
theorem asc_pairs : ∀ {es : List E2}, es.Pairwise ahead → ascB (es.map pairS) = true
  | [], _ => rfl
  | [_], _ => rfl
  | p :: q :: r, h => by
    have h1 := (List.pairwise_cons.mp h).1 q (List.mem_cons_self ..)
    have ih := asc_pairs (es := q :: r) (List.pairwise_cons.mp h).2
    show (HT.lexLt [(p.1 : Int), (p.2 : Int)] [(q.1 : Int), (q.2 : Int)] && ascB ((q :: r).map pairS)) = true
    rw [ih, Bool.and_true]
    unfold HT.lexLt
    split
    · unfold HT.lexLt
      rcases h1 with h1 | ⟨_, h1⟩
      · omega
      · rw [if_neg (by omega)]
        exact decide_eq_true (by omega)
    · rename_i e
      rcases h1 with h1 | ⟨h1, _⟩
      · exact decide_eq_true (by omega)
      · exact absurd (by omega) e
theorem isGr_good {n : Nat} {es : List E2} (g : Good n es) : isGr (graphS n es) = true := by
  have n9 := g.n9
  show ((decide ((n : Int) ≥ 0) && decide ((n : Int) ≤ 9)) && ((es.map pairS).all (edgeB (n : Int)) && ascB (es.map pairS))) = true
  rw [asc_pairs g.up, decide_eq_true (show (n : Int) ≥ 0 by omega), decide_eq_true (show (n : Int) ≤ 9 by omega)]
  simp only [Bool.and_true, Bool.true_and]
  rw [List.all_eq_true]
  intro s hs
  obtain ⟨p, hp, rfl⟩ := List.mem_map.mp hs
  obtain ⟨l1, l2⟩ := g.lt p hp
  show (((decide ((p.1 : Int) ≥ 0) && decide ((p.1 : Int) ≤ (n : Int) - 1)) && (decide ((p.2 : Int) ≥ 0) && decide ((p.2 : Int) ≤ (n : Int) - 1))) && decide ((p.1 : Int) < (p.2 : Int))) = true
  simp
  omega
/-- a lot -/
def LotAt (K : PySem.W.Frag) (H : Hp) (x : V) (l : List Nat) : Prop := ∃ t, x = .ref t ∧ SqT K H t (l.map fun k => V.int ((k : Nat) : Int))
structure LotOk (n : Nat) (l : List Nat) : Prop where
  lt : ∀ k ∈ l, k < n
  up : l.Pairwise (· < ·)
def lotS (l : List Nat) : Sh := .tup (l.map fun k => Sh.int ((k : Nat) : Int))
theorem LotAt.same {K : PySem.W.Frag} {H H' : Hp} (s : Same H H') {x : V} {l : List Nat} (h : LotAt K H x l) : LotAt K H' x l := by
  obtain ⟨t, rfl, h⟩ := h
  exact ⟨t, rfl, Same.tup s h⟩
theorem ints_sh {K : PySem.W.Frag} {H : Hp} : ∀ l : List Nat, ShsAt K H (l.map fun k => V.int ((k : Nat) : Int)) (l.map fun k => Sh.int ((k : Nat) : Int))
  | [] => .nil
  | _ :: r => .cons (.int _) (ints_sh r)
theorem LotAt.sh {K : PySem.W.Frag} {H : Hp} {x : V} {l : List Nat} (h : LotAt K H x l) : ShAt K H x (lotS l) := by
  obtain ⟨t, rfl, h⟩ := h
  exact .tup h (ints_sh l)
theorem asc_lot : ∀ {l : List Nat}, l.Pairwise (· < ·) → ascB (l.map fun k => Sh.int ((k : Nat) : Int)) = true
  | [], _ => rfl
  | [_], _ => rfl
  | p :: q :: r, h => by
    have h1 := (List.pairwise_cons.mp h).1 q (List.mem_cons_self ..)
    have ih := asc_lot (l := q :: r) (List.pairwise_cons.mp h).2
    show (decide ((p : Int) < (q : Int)) && ascB ((q :: r).map fun k => Sh.int ((k : Nat) : Int))) = true
    rw [ih, Bool.and_true]
    exact decide_eq_true (by omega)
theorem isLot_ok {n : Nat} {l : List Nat} (g : LotOk n l) : isLot n (lotS l) = true := by
  show ((l.map fun k => Sh.int ((k : Nat) : Int)).all (wholeR 0 ((n : Int) - 1)) && ascB (l.map fun k => Sh.int ((k : Nat) : Int))) = true
  rw [asc_lot g.up, Bool.and_true, List.all_eq_true]
  intro s hs
  obtain ⟨k, hk, rfl⟩ := List.mem_map.mp hs
  have l1 := g.lt k hk
  show (decide ((k : Int) ≥ 0) && decide ((k : Int) ≤ (n : Int) - 1)) = true
  simp
  omega
theorem LotOk.few {n : Nat} {l : List Nat} (g : LotOk n l) : l.length ≤ n := by
  have nd : l.Nodup := g.up.imp fun h => Nat.ne_of_lt h
  have z := sub_few nd (m := List.range n) fun k hk => List.mem_range.mpr (g.lt k hk)
  rw [List.length_range] at z
  exact z
def shortL : Sh → Prop
  | .tup ss => ss.length ≤ 900
  | _ => True
def spCheckGraph (K : PySem.W.Frag) : Sp := fun vs H Q _ => ∃ (x : V) (n : Nat) (es : List E2), vs = [x] ∧ GraphAt K H x n es ∧ Good n es ∧ ∀ H', Same H H' → Q .non H'
section
variable {P : Program} {w : World} {K : PySem.W.Frag} {mg : Str → Option Value} {base : Heap} {f fW fA fG fC fL fO : Addr} {fd dW dA dG dC dL dO : FuncData}
theorem ok_check_graph (F : L2.Fun K "check_graph" "check_graph" sCheckGraph f fd) (GG : FnOk P w K mg base CX0 4 fG dG ["value"] (spIsGraphA K)) (bG : L2.Binds K dG ["value"] []) (kG : PySem.W.keepIn K (.ref fG) = true) (mG : mg "is_graph" = some (.ref fG)) : FnOk P w K mg base CX0 5 f fd ["graph"] (spCheckGraph K) := by
  refine F.ok scCheckGraph (fun vs H Q E h => ?_) (fun cdv A outer s H vs Q E hr h => ?_)
  · obtain ⟨x, n, es, rfl, _⟩ := h
    rfl
  obtain ⟨x, n, es, rfl, hx, g, q⟩ := h
  refine ⟨_, pss_one (ps_if (pt_not (pt_val (pe_call GG (hr.mono (by decide)) (by rfl) mG kG bG .nil pass0 (pa_cons (pv 0) pa_nil)))) (pss_one ps_never) pss_nil), ?_⟩
  have few := g.few
  refine ⟨_, rfl, x, graphS n es, rfl, hx.sh, (by show (es.map pairS).length ≤ 900; rw [List.length_map]; omega), fun H' s' => ?_⟩
  rw [isGr_good g]
  exact ⟨_, rfl, iteF (q H' s')⟩
end
end My

set_option maxHeartbeats 8000000
namespace My
open PySem PySem.Spec PyProof.Rows L2
abbrev sIsLot : Stmt := top 14
abbrev sCheckLot : Stmt := top 15
theorem scIsLot : FnScope ["graph", "value", "vertex"] ["graph", "value"] (defScope sIsLot) := ⟨rfl, rfl, rfl, by decide +kernel, rfl, by decide +kernel, by decide +kernel⟩
theorem scCheckLot : FnScope ["graph", "lot"] ["graph", "lot"] (defScope sCheckLot) := ⟨rfl, rfl, rfl, by decide +kernel, rfl, by decide +kernel, by decide +kernel⟩
def spIsLotA (K : PySem.W.Frag) : Sp := fun vs H Q _ => ∃ (x : V) (n : Nat) (es : List E2) (v : V) (s : Sh), vs = [x, v] ∧ GraphAt K H x n es ∧ Good n es ∧ ShAt K H v s ∧ shortL s ∧ ∀ H', Same H H' → Q (.bl (isLot n s)) H'
def spCheckLot (K : PySem.W.Frag) : Sp := fun vs H Q _ => ∃ (x : V) (n : Nat) (es : List E2) (v : V) (l : List Nat), vs = [x, v] ∧ GraphAt K H x n es ∧ Good n es ∧ LotAt K H v l ∧ LotOk n l ∧ ∀ H', Same H H' → Q .non H'
section
variable {P : Program} {w : World} {K : PySem.W.Frag} {mg : Str → Option Value} {base : Heap} {f fW fA fG fC fL fO : Addr} {fd dW dA dG dC dL dO : FuncData}
theorem ok_is_lot (F : L2.Fun K "is_lot" "is_lot" sIsLot f fd) (GC : FnOk P w K mg base CX0 5 fC dC ["graph"] (spCheckGraph K)) (bC : L2.Binds K dC ["graph"] []) (kC : PySem.W.keepIn K (.ref fC) = true) (mC : mg "check_graph" = some (.ref fC))
    (GW : FnOk P w K mg base CX0 2 fW dW ["value", "low", "high"] (spIsWholeA K)) (bW : L2.Binds K dW ["value", "low", "high"] []) (kW : PySem.W.keepIn K (.ref fW) = true) (mW : mg "is_whole" = some (.ref fW))
    (GA : FnOk P w K mg base CX0 1 fA dA ["row"] (spAscA K)) (bA : L2.Binds K dA ["row"] []) (kA : PySem.W.keepIn K (.ref fA) = true) (mA : mg "is_ascending" = some (.ref fA))
    (mty : mg "type" = none) (mt : mg "tuple" = none) (ma : mg "all" = none) : FnOk P w K mg base CX0 6 f fd ["graph", "value"] (spIsLotA K) := by
  refine F.ok scIsLot (fun vs H Q E h => ?_) (fun cdv A outer s H vs Q E hr h => ?_)
  · obtain ⟨x, n, es, v, s, rfl, _⟩ := h
    rfl
  obtain ⟨x, n, es, v, s, rfl, hx, g, hv, sh, q⟩ := h
  refine ⟨_, pss_cons (ps_expr (pe_call GC hr (by rfl) mC kC bC .nil pass0 (pa_cons (pv 0) pa_nil)))
    (pss_cons (ps_if (pt_cmpR op_isNotTy (pe_callTy call_type1 (by rfl) mty (by decide +kernel) (pa_cons (pv 1) pa_nil)) (pe_bltn (v := .ty "tuple") (by rfl) mt (by decide +kernel) rfl) (nomark _)) (pss_one (ps_ret pe_bl)) pss_nil)
    (pss_one (ps_ret (pe_and (pe_callB (cr_all rfl) (by rfl) ma (by decide +kernel) (pa_cons (pe_lc (own := [("vertex", 2)]) (g := gName 2) (tt := tYes) rfl scIsLot.nd (pi_tup (pv 1))
        (blkOk_by (N := ["graph", "value", "vertex"]) (sc := defScope sIsLot) (by decide +kernel)) (fun _ _ _ _ _ => pg_name (i := 2) scIsLot.nd rfl (Or.inl rfl)) (fun _ _ _ _ _ => pts_nil)
        (fun _ _ _ _ _ => pe_call GW (hr.mono (by decide)) (by rfl) mW kW bW .nil pass0 (pa_cons (pv 2) (pa_cons pe_int (pa_cons (pe_op op_sub (pe_ix (r := rIxT K) ix_tup (pv 0) pe_int (fun _ _ => rfl)) pe_int) pa_nil))))) pa_nil))
      (pe_one (pe_call GA (hr.mono (by decide)) (by rfl) mA kA bA .nil pass0 (pa_cons (pv 1) pa_nil))))))), ?_⟩
  refine ⟨_, rfl, x, n, es, rfl, hx, g, fun H1 s1 => ?_⟩
  have hv1 := hv.same s1
  obtain ⟨T, ty, ok⟩ := hv1.ty
  refine ⟨_, rfl, v, T, rfl, ty, T, "tuple", rfl, rfl, _, rfl, iteB (fun c3 => ?_) (fun c3 => ?_)⟩
  · have nt : T ≠ "tuple" := by simpa using c3
    have e : isLot n s = false := by
      cases s with
      | tup es => exact absurd ok nt
      | _ => rfl
    have q0 := q H1 s1
    rw [e] at q0
    exact q0
  have et : T = "tuple" := by simpa using c3
  obtain ⟨ss, rfl⟩ : ∃ ss, s = .tup ss := by
    cases s with
    | tup ss => exact ⟨ss, rfl⟩
    | int i => rw [show T = "int" from ok] at et; exact absurd et (by decide)
    | bool b => rw [show T = "bool" from ok] at et; exact absurd et (by decide)
    | str x => rw [show T = "str" from ok] at et; exact absurd et (by decide)
    | oth => exact absurd et ok.2.2.1
  have few : ss.length ≤ 900 := sh
  have eq : isLot n (.tup ss) = (ss.all (wholeR 0 ((n : Int) - 1)) && ascB ss) := rfl
  obtain ⟨t, e, ys, rfl, ht, _, _⟩ := hx.same s1
  have a0 : atI [V.int (n : Int), V.ref e] 0 = some (.int (n : Int)) := atI_nat (j := 0) rfl
  cases hv1 with
  | @tup u xs _ hu r =>
  have lx := r.len
  refine ⟨_, rfl, u, rfl, ⟨_, hu⟩, fun D nD => lc_tup (K := K) (a := u) (xs := xs) (fun i H2 => Same H1 H2 ∧ H2 D = some (.lst (((ss.take i).map (wholeR 0 ((n : Int) - 1))).map V.bl))) ⟨same_new nD _, upd_same⟩ (fun i H1 _ ⟨s1, _⟩ => Same.tup s1 hu) ?_ ?_⟩
  · rintro i x H2 hi ⟨s2, hD⟩
    obtain ⟨z, hz, sz⟩ := (r.same s2).get hi
    refine ⟨rfl, ?_⟩
    refine ⟨_, rfl, _, rfl, t, _, 0, _, rfl, rfl, Same.tup s2 ht, a0, _, _, rfl, rfl, x, z, 0, (n : Int) - 1, rfl, sz, _, hD, small1000 (by rw [List.length_map, List.length_map, List.length_take]; omega), same_put s2 nD, ?_⟩
    rw [upd_same, take_succ hz, List.map_append, List.map_append]
    rfl
  rintro H2 ⟨s2, hD⟩
  rw [lx, List.take_length] at hD
  refine ⟨D, _, rfl, SqL.of hD, _, rfl, ?_⟩
  have ea : (ss.map (wholeR 0 ((n : Int) - 1))).all id = ss.all (wholeR 0 ((n : Int) - 1)) := by rw [List.all_map]; rfl
  rw [ea]
  refine iteB (fun c4 => ?_) (fun c4 => ?_)
  · refine ⟨_, rfl, u, xs, ss, rfl, Same.tup s2 hu, r.same s2, .inl fun s hs => ?_, few, fun H3 s3 => ?_⟩
    · have h1 := List.all_eq_true.mp c4 s hs
      cases s with
      | int i => exact ⟨i, rfl⟩
      | _ => cases h1
    · have q1 := q H3 (s1.trans (s2.trans s3))
      rw [eq, c4, Bool.true_and] at q1
      exact q1
  · have q1 := q H2 (s1.trans s2)
    rw [eq, c4, Bool.false_and] at q1
    exact q1
theorem ok_check_lot (F : L2.Fun K "check_lot" "check_lot" sCheckLot f fd) (GL : FnOk P w K mg base CX0 6 fL dL ["graph", "value"] (spIsLotA K)) (bL : L2.Binds K dL ["graph", "value"] []) (kL : PySem.W.keepIn K (.ref fL) = true) (mL : mg "is_lot" = some (.ref fL)) : FnOk P w K mg base CX0 7 f fd ["graph", "lot"] (spCheckLot K) := by
  refine F.ok scCheckLot (fun vs H Q E h => ?_) (fun cdv A outer s H vs Q E hr h => ?_)
  · obtain ⟨x, n, es, v, l, rfl, _⟩ := h
    rfl
  obtain ⟨x, n, es, v, l, rfl, hx, g, hv, lo, q⟩ := h
  refine ⟨_, pss_one (ps_if (pt_not (pt_val (pe_call GL (hr.mono (by decide)) (by rfl) mL kL bL .nil pass0 (pa_cons (pv 0) (pa_cons (pv 1) pa_nil))))) (pss_one ps_never) pss_nil), ?_⟩
  have few := lo.few
  have n9 := g.n9
  refine ⟨_, rfl, _, rfl, x, n, es, v, lotS l, rfl, hx, g, hv.sh, (by show (l.map _).length ≤ 900; rw [List.length_map]; omega), fun H' s' => ?_⟩
  rw [isLot_ok lo]
  exact ⟨_, rfl, iteF (q H' s')⟩
end
end My

set_option maxHeartbeats 2000000
/-! Sets of vertices as masks, in plain Lean. -/
namespace My
open PySem PySem.Spec PyProof.Rows L2
theorem and_nn (a b : Nat) : Builtin.bitAnd (a : Int) (b : Int) = ((a &&& b : Nat) : Int) := by
  rw [bitAnd_pp (by omega) (by omega), Int.toNat_natCast, Int.toNat_natCast]
theorem or_nn (a b : Nat) : Builtin.bitOr (a : Int) (b : Int) = ((a ||| b : Nat) : Int) := by
  have n1 : ∀ k : Nat, Builtin.bitNot (Builtin.bitNot (k : Int)) = (k : Int) := fun k => by unfold Builtin.bitNot; omega
  have n2 : ∀ k : Nat, ¬ 0 ≤ Builtin.bitNot (k : Int) := fun k => by unfold Builtin.bitNot; omega
  unfold Builtin.bitOr Builtin.bitAnd
  simp only [n2, decide_false]
  rw [n1, n1, n1, Int.toNat_natCast, Int.toNat_natCast]
def adjB (es : List E2) (u v : Nat) : Bool := decide ((min u v, max u v) ∈ es)
theorem adj_comm (es : List E2) (u v : Nat) : adjB es u v = adjB es v u := by
  unfold adjB
  rw [Nat.min_comm, Nat.max_comm]
theorem adj_ne {n : Nat} {es : List E2} (g : Good n es) {u v : Nat} (h : adjB es u v = true) : u ≠ v ∧ u < n ∧ v < n := by
  have z := g.lt _ (of_decide_eq_true h)
  dsimp only at z
  omega
def NbOk (n : Nat) (es : List E2) (nb : List Nat) : Prop := nb.length = n ∧ ∀ u, u < n → ∀ v, (nb.getD u 0).testBit v = adjB es u v
theorem nb_nil (n : Nat) : NbOk n [] (List.replicate n 0) := by
  refine ⟨List.length_replicate .., fun u hu v => ?_⟩
  rw [List.getD_eq_getElem?_getD, List.getElem?_replicate, if_pos hu]
  simp [adjB]
theorem bit_pow (a v : Nat) : (2 ^ a).testBit v = decide (a = v) := by
  rw [Nat.testBit_two_pow]
theorem nb_step {n : Nat} {l : List E2} {nb : List Nat} {a b : Nat} (h : NbOk n l nb) (ab : a < b) (bn : b < n) :
    NbOk n (l ++ [(a, b)]) ((nb.set a (nb.getD a 0 ||| 2 ^ b)).set b ((nb.set a (nb.getD a 0 ||| 2 ^ b)).getD b 0 ||| 2 ^ a)) := by
  obtain ⟨hl, hb⟩ := h
  refine ⟨by rw [List.length_set, List.length_set, hl], fun u hu v => ?_⟩
  have eb : (nb.set a (nb.getD a 0 ||| 2 ^ b)).getD b 0 = nb.getD b 0 := by
    rw [List.getD_eq_getElem?_getD, List.getElem?_set_ne (by omega), ← List.getD_eq_getElem?_getD]
  rw [eb]
  have ad : adjB (l ++ [(a, b)]) u v = (adjB l u v || (decide (u = a ∧ v = b) || decide (u = b ∧ v = a))) := by
    unfold adjB
    rw [Bool.eq_iff_iff]
    simp only [decide_eq_true_eq, Bool.or_eq_true, List.mem_append, List.mem_singleton, Prod.mk.injEq]
    constructor
    · rintro (z | ⟨z1, z2⟩)
      · exact .inl z
      · right
        omega
    · rintro (z | z | z)
      · exact .inl z
      · right; omega
      · right; omega
  rw [ad]
  by_cases c1 : u = b
  · subst c1
    rw [List.getD_eq_getElem?_getD, List.getElem?_set_self (by rw [List.length_set, hl]; exact hu)]
    show (nb.getD u 0 ||| 2 ^ a).testBit v = _
    rw [Nat.testBit_or, hb u hu, bit_pow]
    congr 1
    rw [Bool.eq_iff_iff, Bool.or_eq_true, decide_eq_true_eq, decide_eq_true_eq, decide_eq_true_eq]
    constructor
    · intro z
      exact .inr ⟨rfl, z.symm⟩
    · rintro (z | z)
      · exact absurd z.1 (by omega)
      · exact z.2.symm
  · rw [List.getD_eq_getElem?_getD, List.getElem?_set_ne (by omega)]
    by_cases c2 : u = a
    · subst c2
      rw [List.getElem?_set_self (by rw [hl]; exact hu)]
      show (nb.getD u 0 ||| 2 ^ b).testBit v = _
      rw [Nat.testBit_or, hb u hu, bit_pow]
      congr 1
      rw [Bool.eq_iff_iff, Bool.or_eq_true, decide_eq_true_eq, decide_eq_true_eq, decide_eq_true_eq]
      constructor
      · intro z
        exact .inl ⟨rfl, z.symm⟩
      · rintro (z | z)
        · exact z.2.symm
        · exact absurd z.1 c1
    · rw [List.getElem?_set_ne (by omega), ← List.getD_eq_getElem?_getD, hb u hu]
      have z : (decide (u = a ∧ v = b) || decide (u = b ∧ v = a)) = false := by
        rw [Bool.or_eq_false_iff]
        exact ⟨decide_eq_false (fun z => c2 z.1), decide_eq_false (fun z => c1 z.1)⟩
      rw [z, Bool.or_false]
/-! cliques -/
def Clq (es : List E2) (m : Nat) : Prop := ∀ u v, m.testBit u = true → m.testBit v = true → u ≠ v → adjB es u v = true
theorem sub_and (a b : Nat) : a &&& b = a ↔ ∀ v, a.testBit v = true → b.testBit v = true := by
  constructor
  · intro h v hv
    have z := congrArg (Nat.testBit · v) h
    simp only [Nat.testBit_and, hv, Bool.true_and] at z
    exact z
  · intro h
    refine Nat.eq_of_testBit_eq fun v => ?_
    rw [Nat.testBit_and]
    cases e : a.testBit v with
    | false => rfl
    | true => rw [h v e]; rfl
def FoundOk (es : List E2) (k : Nat) (found : List Nat) : Prop := found.Nodup ∧ ∀ m, m ∈ found ↔ m < 2 ^ k ∧ Clq es m
theorem found_nil (es : List E2) : FoundOk es 0 [0] := by
  refine ⟨by simp, fun m => ?_⟩
  rw [List.mem_singleton]
  constructor
  · rintro rfl
    exact ⟨by decide, fun u v h => by simp at h⟩
  · intro h
    have := h.1
    omega
def goOn (found : List Nat) (k near : Nat) : List Nat := found ++ (found.filter fun m => m &&& near == m).map (· ||| 2 ^ k)
theorem or_pow_bit {c k v : Nat} : (c ||| 2 ^ k).testBit v = (c.testBit v || decide (k = v)) := by rw [Nat.testBit_or, bit_pow]
theorem high_out {c k v : Nat} (h : c < 2 ^ k) (hv : k ≤ v) : c.testBit v = false := Nat.testBit_lt_two_pow (Nat.lt_of_lt_of_le h (Nat.pow_le_pow_right (by decide) hv))
theorem found_step {n : Nat} {es : List E2} {nb : List Nat} {found : List Nat} {k : Nat} (h : FoundOk es k found) (nk : NbOk n es nb) (kn : k < n) : FoundOk es (k + 1) (goOn found k (nb.getD k 0)) := by
  obtain ⟨nd, mem⟩ := h
  have low : ∀ m ∈ found, m < 2 ^ k := fun m hm => ((mem m).mp hm).1
  constructor
  · unfold goOn
    rw [List.nodup_append]
    refine ⟨nd, ?_, ?_⟩
    · show List.Pairwise _ _
      rw [List.pairwise_map]
      refine List.Pairwise.imp_of_mem ?_ (nd.filter _)
      intro x y hx hy ne e
      refine ne (?_ : x = y)
      refine Nat.eq_of_testBit_eq fun v => ?_
      have lx := low x (List.mem_filter.mp hx).1
      have ly := low y (List.mem_filter.mp hy).1
      have z := congrArg (Nat.testBit · v) e
      simp only [or_pow_bit] at z
      by_cases c : k = v
      · subst c
        rw [high_out lx (Nat.le_refl _), high_out ly (Nat.le_refl _)]
      · rw [decide_eq_false c, Bool.or_false, Bool.or_false] at z
        exact z
    · intro a ha b hb e
      subst e
      obtain ⟨c, hc, e⟩ := List.mem_map.mp hb
      have z := high_out (low a ha) (Nat.le_refl k)
      rw [← e, or_pow_bit, decide_eq_true rfl, Bool.or_true] at z
      cases z
  · intro m
    unfold goOn
    rw [List.mem_append, mem m, List.mem_map]
    constructor
    · rintro (⟨h1, h2⟩ | ⟨c, hc, rfl⟩)
      · exact ⟨Nat.lt_of_lt_of_le h1 (Nat.pow_le_pow_right (by decide) (Nat.le_succ k)), h2⟩
      · obtain ⟨hc, near⟩ := List.mem_filter.mp hc
        obtain ⟨lc, cl⟩ := (mem c).mp hc
        have sub := (sub_and c _).mp (by simpa using near)
        refine ⟨Nat.or_lt_two_pow (Nat.lt_of_lt_of_le lc (Nat.pow_le_pow_right (by decide) (Nat.le_succ k))) (Nat.pow_lt_pow_right (by decide) (Nat.lt_succ_self k)), fun u v hu hv ne => ?_⟩
        rw [or_pow_bit] at hu hv
        simp only [Bool.or_eq_true, decide_eq_true_eq] at hu hv
        rcases hu with hu | rfl
        · rcases hv with hv | rfl
          · exact cl u v hu hv ne
          · rw [adj_comm, ← nk.2 k kn]
            exact sub u hu
        · rcases hv with hv | rfl
          · rw [← nk.2 k kn]
            exact sub v hv
          · exact absurd rfl ne
    · rintro ⟨h1, h2⟩
      by_cases c : m.testBit k = true
      · right
        have le : m % 2 ^ k < 2 ^ k := Nat.mod_lt _ (Nat.two_pow_pos k)
        have bits : ∀ v, (m % 2 ^ k).testBit v = (decide (v < k) && m.testBit v) := fun v => Nat.testBit_mod_two_pow m k v
        refine ⟨m % 2 ^ k, List.mem_filter.mpr ⟨(mem _).mpr ⟨le, fun u v hu hv ne => ?_⟩, ?_⟩, ?_⟩
        · rw [bits, Bool.and_eq_true] at hu hv
          exact h2 u v hu.2 hv.2 ne
        · have s : m % 2 ^ k &&& nb.getD k 0 = m % 2 ^ k := (sub_and _ _).mpr fun v hv => by
            rw [bits, Bool.and_eq_true] at hv
            have lt := of_decide_eq_true hv.1
            rw [nk.2 k kn]
            exact h2 k v c hv.2 (by omega)
          simpa using s
        · refine Nat.eq_of_testBit_eq fun v => ?_
          rw [or_pow_bit, bits]
          by_cases e : k = v
          · subst e; simp [c]
          · by_cases l : v < k
            · simp [l, e]
            · have z : m.testBit v = false := high_out h1 (by omega)
              simp [l, e, z]
      · left
        refine ⟨?_, h2⟩
        refine Nat.lt_pow_two_of_testBit m fun v hv => ?_
        by_cases e : v = k
        · subst e; simpa using c
        · exact high_out h1 (by omega)
/-! lots as masks -/
def maskN (l : List Nat) : Nat := (l.map fun k => 2 ^ k).sum
theorem desc_lt : ∀ {l : List Nat} {k : Nat}, l.Pairwise (· > ·) → (∀ a ∈ l, a < k) → maskN l < 2 ^ k
  | [], k, _, _ => Nat.two_pow_pos k
  | a :: r, k, h, lt => by
    have ak := lt a (List.mem_cons_self ..)
    have ih := desc_lt (l := r) (k := a) (List.pairwise_cons.mp h).2 fun b hb => (List.pairwise_cons.mp h).1 b hb
    have e : maskN (a :: r) = 2 ^ a + maskN r := by unfold maskN; rw [List.map_cons, List.sum_cons]
    have z : 2 ^ (a + 1) ≤ 2 ^ k := Nat.pow_le_pow_right (by decide) ak
    rw [Nat.pow_succ] at z
    omega
theorem desc_bit : ∀ {l : List Nat}, l.Pairwise (· > ·) → ∀ v, (maskN l).testBit v = decide (v ∈ l)
  | [], _, v => by simp [maskN]
  | a :: r, h, v => by
    have lt := desc_lt (l := r) (k := a) (List.pairwise_cons.mp h).2 fun b hb => (List.pairwise_cons.mp h).1 b hb
    have ih := desc_bit (l := r) (List.pairwise_cons.mp h).2 v
    have e : maskN (a :: r) = 2 ^ a + maskN r := by unfold maskN; rw [List.map_cons, List.sum_cons]
    rw [e]
    rcases Nat.lt_trichotomy v a with c | c | c
    · rw [Nat.testBit_two_pow_add_gt c, ih]
      have ne : v ≠ a := by omega
      simp [ne]
    · subst c
      rw [Nat.testBit_two_pow_add_eq, high_out lt (Nat.le_refl _)]
      simp
    · have z : 2 ^ a + maskN r < 2 ^ (a + 1) := by rw [Nat.pow_succ]; omega
      rw [high_out z c]
      have n1 : v ≠ a := by omega
      have n2 : v ∉ r := fun hv => by have := (List.pairwise_cons.mp h).1 v hv; omega
      simp [n1, n2]
theorem mask_rev (l : List Nat) : maskN l.reverse = maskN l := by
  unfold maskN
  rw [List.map_reverse]
  exact List.sum_reverse _
theorem mask_bit {l : List Nat} (h : l.Pairwise (· < ·)) (v : Nat) : (maskN l).testBit v = decide (v ∈ l) := by
  rw [← mask_rev, desc_bit (List.pairwise_reverse.mpr h)]
  simp
/-- the lot of a mask's bits below n -/
def bitsN (n m : Nat) : List Nat := (List.range n).filter fun v => m.testBit v
theorem bits_up (n m : Nat) : (bitsN n m).Pairwise (· < ·) := (List.pairwise_lt_range).filter _
theorem mem_bits {n m v : Nat} : v ∈ bitsN n m ↔ v < n ∧ m.testBit v = true := by
  unfold bitsN
  rw [List.mem_filter, List.mem_range]
theorem mask_bits {n m : Nat} (h : m < 2 ^ n) : maskN (bitsN n m) = m := by
  refine Nat.eq_of_testBit_eq fun v => ?_
  rw [mask_bit (bits_up n m)]
  by_cases c : v < n
  · cases e : m.testBit v with
    | true => exact decide_eq_true (mem_bits.mpr ⟨c, e⟩)
    | false => exact decide_eq_false fun z => by rw [(mem_bits.mp z).2] at e; cases e
  · rw [high_out h (by omega)]
    exact decide_eq_false fun z => c (mem_bits.mp z).1
/-- two ascending lists with the same members -/
theorem eq_of_lt : ∀ {l m : List Nat}, l.Pairwise (· < ·) → m.Pairwise (· < ·) → (∀ k, k ∈ l ↔ k ∈ m) → l = m
  | [], [], _, _, _ => rfl
  | [], b :: m, _, _, h => absurd ((h b).mpr (List.mem_cons_self ..)) (by simp)
  | a :: l, [], _, _, h => absurd ((h a).mp (List.mem_cons_self ..)) (by simp)
  | a :: l, b :: m, hl, hm, h => by
    have l1 := (List.pairwise_cons.mp hl).1
    have m1 := (List.pairwise_cons.mp hm).1
    have e : a = b := by
      rcases List.mem_cons.mp ((h a).mp (List.mem_cons_self ..)) with e | e
      · exact e
      · rcases List.mem_cons.mp ((h b).mpr (List.mem_cons_self ..)) with e2 | e2
        · exact e2.symm
        · have := l1 b e2
          have := m1 a e
          omega
    subst e
    rw [eq_of_lt (List.pairwise_cons.mp hl).2 (List.pairwise_cons.mp hm).2 fun k => ?_]
    constructor
    · intro hk
      have := l1 k hk
      rcases List.mem_cons.mp ((h k).mp (List.mem_cons_of_mem _ hk)) with e | e
      · omega
      · exact e
    · intro hk
      have := m1 k hk
      rcases List.mem_cons.mp ((h k).mpr (List.mem_cons_of_mem _ hk)) with e | e
      · omega
      · exact e
theorem bits_mask {n : Nat} {l : List Nat} (h : l.Pairwise (· < ·)) (lt : ∀ k ∈ l, k < n) : bitsN n (maskN l) = l := by
  refine eq_of_lt (bits_up n _) h fun k => ?_
  rw [mem_bits, mask_bit h, decide_eq_true_eq]
  exact ⟨fun z => z.2, fun z => ⟨lt k z, z⟩⟩
/-- all of a list are adjacent two by two, or no two are -/
def PairB (es : List E2) (tied : Bool) (l : List Nat) : Prop := l.Pairwise fun u v => adjB es u v = tied
instance (es : List E2) (tied : Bool) (l : List Nat) : Decidable (PairB es tied l) := inferInstanceAs (Decidable (List.Pairwise _ l))
theorem pairB_mem {es : List E2} {tied : Bool} {l : List Nat} (nd : l.Nodup) : PairB es tied l ↔ ∀ u ∈ l, ∀ v ∈ l, u ≠ v → adjB es u v = tied := by
  unfold PairB
  constructor
  · intro h
    induction l with
    | nil => intro u hu; cases hu
    | cons a r ih =>
      obtain ⟨h1, h2⟩ := List.pairwise_cons.mp h
      have ih := ih (List.nodup_cons.mp nd).2 h2
      intro u hu v hv ne
      rcases List.mem_cons.mp hu with e1 | hu2
      · rcases List.mem_cons.mp hv with e2 | hv2
        · exact absurd (e1.trans e2.symm) ne
        · rw [e1]; exact h1 v hv2
      · rcases List.mem_cons.mp hv with e2 | hv2
        · rw [adj_comm, e2]; exact h1 u hu2
        · exact ih u hu2 v hv2 ne
  · intro h
    refine List.Pairwise.imp_of_mem (R := fun u v => u ≠ v) ?_ nd
    intro u v hu hv ne
    exact h u hu v hv ne
theorem clq_mask {es : List E2} {l : List Nat} (h : l.Pairwise (· < ·)) : Clq es (maskN l) ↔ PairB es true l := by
  rw [pairB_mem (h.imp fun z => Nat.ne_of_lt z)]
  constructor
  · intro c u hu v hv ne
    exact c u v (by rw [mask_bit h]; exact decide_eq_true hu) (by rw [mask_bit h]; exact decide_eq_true hv) ne
  · intro c u v hu hv ne
    rw [mask_bit h] at hu hv
    exact c u (of_decide_eq_true hu) v (of_decide_eq_true hv) ne
end My

set_option maxHeartbeats 4000000
/-! Tables of who is adjacent to whom: lists of lists of bools. -/
namespace My
open PySem PySem.Spec PyProof.Rows L2
def tabP (n : Nat) (f : Nat → Nat → Bool) : List E2 := (allP n).filter fun p => f p.1 p.2
theorem tab_good {n : Nat} (h : n ≤ 9) (f : Nat → Nat → Bool) : Good n (tabP n f) :=
  ⟨h, fun p hp => mem_allP.mp (List.mem_filter.mp hp).1, (allP_up n h).filter _⟩
theorem tabP_eq (n : Nat) (f : Nat → Nat → Bool) : tabP n f = (List.range n).flatMap fun u => (rowP n u).filter fun p => f p.1 p.2 := List.filter_flatMap
def rowV (n : Nat) (f : Nat → Bool) : List V := (List.range n).map fun j => V.bl (f j)
theorem rowV_len (n : Nat) (f : Nat → Bool) : (rowV n f).length = n := by unfold rowV; rw [List.length_map, List.length_range]
theorem rowV_get {n j : Nat} (f : Nat → Bool) (h : j < n) : (rowV n f)[j]? = some (.bl (f j)) := by
  unfold rowV
  rw [List.getElem?_map, List.getElem?_range h]
  rfl
theorem rowV_set {n : Nat} (f : Nat → Bool) (j : Nat) (b : Bool) : (rowV n f).set j (.bl b) = rowV n fun k => if k = j then b else f k := by
  refine List.ext_getElem? fun k => ?_
  by_cases hk : k < n
  · rw [rowV_get _ hk]
    by_cases e : k = j
    · subst e
      rw [List.getElem?_set_self (by rw [rowV_len]; exact hk), if_pos rfl]
    · rw [List.getElem?_set_ne (Ne.symm e), rowV_get f hk, if_neg e]
  · rw [List.getElem?_eq_none (by rw [List.length_set, rowV_len]; omega), List.getElem?_eq_none (by rw [rowV_len]; omega)]
theorem rowV_succ (n : Nat) (f : Nat → Bool) : rowV (n + 1) f = rowV n f ++ [.bl (f n)] := by
  unfold rowV
  rw [List.range_succ, List.map_append]
  rfl
theorem rowV_congr {n : Nat} {f g : Nat → Bool} (h : ∀ j, j < n → f j = g j) : rowV n f = rowV n g := by
  unfold rowV
  exact List.map_congr_left fun j hj => by rw [h j (List.mem_range.mp hj)]
structure TabR (H : Hp) (D : Addr) (n : Nat) (f : Nat → Nat → Bool) (rs : List Addr) : Prop where
  hd : H D = some (.lst (rs.map V.ref))
  len : rs.length = n
  row : ∀ i r, rs[i]? = some r → H r = some (.lst (rowV n (f i)))
theorem TabR.same {H H' : Hp} (s : Same H H') {D : Addr} {n : Nat} {f : Nat → Nat → Bool} {rs : List Addr} (h : TabR H D n f rs) : TabR H' D n f rs := ⟨s _ _ h.hd, h.len, fun i r hi => s _ _ (h.row i r hi)⟩
theorem TabR.get {H : Hp} {D : Addr} {n : Nat} {f : Nat → Nat → Bool} {rs : List Addr} (h : TabR H D n f rs) {i : Nat} (hi : i < n) : ∃ r, rs[i]? = some r ∧ (rs.map V.ref)[i]? = some (.ref r) ∧ H r = some (.lst (rowV n (f i))) := by
  have l : i < rs.length := by rw [h.len]; exact hi
  refine ⟨rs[i], List.getElem?_eq_getElem l, by rw [List.getElem?_map, List.getElem?_eq_getElem l]; rfl, h.row i _ (List.getElem?_eq_getElem l)⟩
theorem TabR.congr {H : Hp} {D : Addr} {n : Nat} {f g : Nat → Nat → Bool} {rs : List Addr} (h : TabR H D n f rs) (e : ∀ i j, i < n → j < n → f i j = g i j) : TabR H D n g rs :=
  ⟨h.hd, h.len, fun i r hi => by
    rw [h.row i r hi, rowV_congr fun j hj => e i j (by have := (List.getElem?_eq_some_iff.mp hi).1; rw [h.len] at this; exact this) hj]⟩
theorem ixN_of {n j : Nat} (h : j < n) : ixN n (j : Int) = some j := by
  unfold ixN
  rw [if_pos (by omega), if_pos (by omega), Int.toNat_natCast]
def GraphT (H : Hp) (x : V) (n : Nat) (es : List E2) : Prop := ∃ (t e : Addr) (xs : List V), x = .ref t ∧ H t = some (.tup [.int (n : Int), .ref e]) ∧ H e = some (.tup xs) ∧ PairsT H xs es
theorem GraphT.at {K : PySem.W.Frag} {H : Hp} {x : V} {n : Nat} {es : List E2} (h : GraphT H x n es) : GraphAt K H x n es := by
  obtain ⟨t, e, xs, h1, h2, h3, h4⟩ := h
  exact ⟨t, e, xs, h1, SqT.of h2, SqT.of h3, h4.at⟩
theorem GraphT.same {H H' : Hp} (s : Same H H') {x : V} {n : Nat} {es : List E2} (h : GraphT H x n es) : GraphT H' x n es := by
  obtain ⟨t, e, xs, h1, h2, h3, h4⟩ := h
  exact ⟨t, e, xs, h1, s _ _ h2, s _ _ h3, h4.same s⟩
theorem GraphT.but {p : Addr} {H H' : Hp} (b : But p H H') (w : Wl H p) {x : V} {n : Nat} {es : List E2} (h : GraphT H x n es) : GraphT H' x n es := by
  obtain ⟨t, e, xs, h1, h2, h3, h4⟩ := h
  exact ⟨t, e, xs, h1, b _ _ (wl_tup w h2) h2, b _ _ (wl_tup w h3) h3, h4.but b w⟩
theorem GraphAt.same' {K : PySem.W.Frag} {H H' : Hp} (s : Same H H') {x : V} {n : Nat} {es : List E2} (h : GraphAt K H x n es) : GraphAt K H' x n es := h.ts (TS.of s)
theorem pair_at {K : PySem.W.Frag} {H : Hp} {xs : List V} {es : List E2} (h : PairsAt K H xs es) {i : Nat} {p : E2} (hp : es[i]? = some p) : ∃ u, xs[i]? = some (.ref u) ∧ SqT K H u [.int (p.1 : Int), .int (p.2 : Int)] := by
  have le := PairsAt.len h
  have hi : i < xs.length := by rw [le]; exact (List.getElem?_eq_some_iff.mp hp).1
  obtain ⟨q, hq, u, hu, su⟩ := PairsAt.get h (List.getElem?_eq_getElem hi)
  rw [hp] at hq
  cases hq
  exact ⟨u, by rw [List.getElem?_eq_getElem hi, hu], su⟩
theorem adj_nil (u v : Nat) : adjB [] u v = false := by simp [adjB]
theorem adj_snoc {l : List E2} {a b : Nat} (ab : a < b) (u v : Nat) : adjB (l ++ [(a, b)]) u v = (adjB l u v || (decide (u = a ∧ v = b) || decide (u = b ∧ v = a))) := by
  unfold adjB
  have e : decide ((min u v, max u v) ∈ l ++ [(a, b)]) = (decide ((min u v, max u v) ∈ l) || decide ((min u v, max u v) = (a, b))) := by
    rw [Bool.eq_iff_iff]
    simp
  rw [e]
  congr 1
  rw [Bool.eq_iff_iff]
  simp only [Bool.or_eq_true, decide_eq_true_eq, Prod.mk.injEq]
  omega
end My

set_option maxHeartbeats 8000000
namespace My
open PySem PySem.Spec PyProof.Rows L2
abbrev sTable : Stmt := top 40
abbrev sOfT : Stmt := top 41
theorem scTable : FnScope ["graph", "rows", "one", "two", "each"] ["graph"] (defScope sTable) := ⟨rfl, rfl, rfl, by decide +kernel, rfl, by decide +kernel, by decide +kernel⟩
theorem scOfT : FnScope ["rows", "found", "one", "two"] ["rows"] (defScope sOfT) := ⟨rfl, rfl, rfl, by decide +kernel, rfl, by decide +kernel, by decide +kernel⟩
def spTable (K : PySem.W.Frag) : Sp := fun vs H Q _ => ∃ (x : V) (n : Nat) (es : List E2), vs = [x] ∧ GraphAt K H x n es ∧ Good n es ∧ ∀ (D : Addr) (rs : List Addr) H', Same H H' → H D = none → TabR H' D n (adjB es) rs → Q (.ref D) H'
def spOfT : Sp := fun vs H Q _ => ∃ (D : Addr) (n : Nat) (f : Nat → Nat → Bool) (rs : List Addr), vs = [.ref D] ∧ TabR H D n f rs ∧ n ≤ 9 ∧ ∀ y H', Same H H' → GraphT H' y n (tabP n f) → Q y H'
section
variable {P : Program} {w : World} {K : PySem.W.Frag} {mg : Str → Option Value} {base : Heap} {f fD : Addr} {fd dD : FuncData}
theorem ok_table (F : L2.Fun K "_law_table" "_law_table" sTable f fd) (mr : mg "range" = none) : FnOk P w K mg base CX0 1 f fd ["graph"] (spTable K) := by
  refine F.ok scTable (fun vs H Q E h => ?_) (fun cdv A outer s H vs Q E hr h => ?_)
  · obtain ⟨x, n, es, rfl, _⟩ := h
    rfl
  obtain ⟨x, n, es, rfl, ⟨t, e, xs, rfl, ht, he, hes⟩, g, q⟩ := h
  refine ⟨_, pss_cons (ps_setLc (i := 1) (own := [("each", 4)]) (g := gName 4) (tt := tYes) rfl scTable.nd rfl rfl (sw_true rfl rfl rfl (by decide +kernel)) (pi_range1 rfl mr (pa_cons (pe_ix (r := rIxT K) ix_tup (pv 0) pe_int (fun _ _ => rfl)) pa_nil))
        (blkOk_by (N := ["graph", "rows", "one", "two", "each"]) (sc := defScope sTable) (by decide +kernel)) (fun _ _ _ _ _ => pg_name (i := 4) scTable.nd rfl (Or.inl rfl)) (fun _ _ _ _ _ => pts_nil)
        (fun _ _ _ _ _ => pe_op (r := rRep) op_rep (pe_lst (pa_cons pe_bl pa_nil)) (pe_ix (r := rIxT K) ix_tup (pv 0) pe_int (fun _ _ => rfl))))
    (pss_cons (ps_for PassesOwn.never rfl (pi_tup (pe_ix (r := rIxT K) ix_tup (pv 0) pe_int (fun _ _ => rfl))) (pg_tup (by rfl) (pgs_cons (pg_name (i := 2) scTable.nd rfl (.inl rfl)) (pgs_cons (pg_name (i := 3) scTable.nd rfl (.inl rfl)) pgs_nil)))
      (pss_cons (ps_asg pe_bl (pg_sub (pe_ix (r := rIxL K) ix_list (pv 1) (pv 2) (fun _ _ => rfl)) (pv 3) set_list))
      (pss_one (ps_asg pe_bl (pg_sub (pe_ix (r := rIxL K) ix_list (pv 1) (pv 3) (fun _ _ => rfl)) (pv 2) set_list)))))
    (pss_one (ps_ret (pv 1)))), ?_⟩
  have n9 := g.n9
  have few := g.few
  have le := PairsAt.len hes
  have a0 : atI [V.int (n : Int), V.ref e] 0 = some (.int (n : Int)) := atI_nat (j := 0) rfl
  have a1 : atI [V.int (n : Int), V.ref e] 1 = some (.ref e) := atI_nat (j := 1) rfl
  refine ⟨_, rfl, t, _, 0, _, rfl, rfl, ht, a0, (n : Int), rfl, by omega, by omega, fun D nD => lc_range (lo := 0) (n := ((n : Nat) : Int).toNat) (fun i H2 => Same H H2 ∧ ∃ rs : List Addr, rs.length = i ∧ H2 D = some (.lst (rs.map V.ref)) ∧ rs.Nodup ∧ ∀ r ∈ rs, r ≠ D ∧ H r = none ∧ H2 r = some (.lst (rowV n fun _ => false))) ⟨same_new nD _, [], rfl, upd_same, List.nodup_nil, fun _ z => nomatch z⟩ ?_ ?_⟩
  · rintro i H2 li ⟨s2, rs, lr, hD, nd, hrs⟩
    refine ⟨rfl, ?_⟩
    refine ⟨small (by decide), fun Z nZ => ?_⟩
    have sZ := same_new nZ (.lst [V.bl false])
    have hZ := upd_same (H := H2) (a := Z) (o := .lst [V.bl false])
    generalize upd H2 Z (.lst [V.bl false]) = H3 at sZ hZ ⊢
    refine ⟨_, rfl, t, _, 0, _, rfl, rfl, Same.tup (s2.trans sZ) ht, a0, Z, (n : Int), [V.bl false], rfl, rfl, hZ, by omega, by omega, small (by rw [Int.toNat_natCast, List.length_singleton]; omega), fun F nF => ?_⟩
    have e0 : (List.replicate ((n : Nat) : Int).toNat [V.bl false]).flatten = rowV n fun _ => false := by
      rw [Int.toNat_natCast, List.flatten_replicate_singleton]
      unfold rowV
      rw [List.map_const', List.length_range]
    rw [e0]
    have sF := same_new nF (.lst (rowV n fun _ => false))
    have hF := upd_same (H := H3) (a := F) (o := .lst (rowV n fun _ => false))
    have nF2 : H2 F = none := sZ.free nF
    have nF0 : H F = none := s2.free nF2
    have FD : F ≠ D := fun z => by rw [z, hD] at nF2; cases nF2
    generalize upd H3 F (.lst (rowV n fun _ => false)) = H4 at sF hF ⊢
    have s24 := sZ.trans sF
    refine ⟨_, s24 _ _ hD, small1000 (by rw [List.length_map]; omega), same_put (s2.trans s24) nD, rs ++ [F], by rw [List.length_append, lr]; rfl, by rw [upd_same, List.map_append]; rfl, ?_, fun r hr => ?_⟩
    · rw [List.nodup_append]
      refine ⟨nd, by simp, fun a ha b hb z => ?_⟩
      rw [List.mem_singleton.mp hb] at z
      have := (hrs a ha).2.2
      rw [z, nF2] at this
      cases this
    · rcases List.mem_append.mp hr with hr | hr
      · obtain ⟨h1, h2, h3⟩ := hrs r hr
        exact ⟨h1, h2, by rw [upd_ne h1]; exact s24 _ _ h3⟩
      · rw [List.mem_singleton.mp hr]
        exact ⟨FD, nF0, by rw [upd_ne FD]; exact hF⟩
  rintro H1 ⟨s1, rs, lr, hD, nd, hrs⟩
  rw [show ((n : Nat) : Int).toNat = n by omega] at lr
  have T0 : TabR H1 D n (adjB []) rs := ⟨hD, lr, fun i r hi => by
    rw [(hrs r (List.mem_of_getElem? hi)).2.2, rowV_congr fun j _ => adj_nil i j]⟩
  have off : ∀ r ∈ rs, r ≠ D ∧ H r = none := fun r hr => ⟨(hrs r hr).1, (hrs r hr).2.1⟩
  -- setting one place
  have put : ∀ (H2 : Hp) (ff : Nat → Nat → Bool) (a b : Nat) (r : Addr), Same H H2 → TabR H2 D n ff rs → rs[a]? = some r → Same H (upd H2 r (.lst (rowV n fun k => if k = b then true else ff a k))) ∧ TabR (upd H2 r (.lst (rowV n fun k => if k = b then true else ff a k))) D n (fun i j => if i = a ∧ j = b then true else ff i j) rs := fun H2 ff a b r s2 T ha => by
    have ma := List.mem_of_getElem? ha
    refine ⟨same_put s2 (off r ma).2, by rw [upd_ne (Ne.symm (off r ma).1)]; exact T.hd, T.len, fun i q hi => ?_⟩
    by_cases c : i = a
    · subst c
      rw [ha] at hi
      cases hi
      rw [upd_same]
      congr 2
      exact rowV_congr fun j _ => by simp
    · have qr : q ≠ r := fun z => by
        subst z
        obtain ⟨l1, e1⟩ := List.getElem?_eq_some_iff.mp hi
        obtain ⟨l2, e2⟩ := List.getElem?_eq_some_iff.mp ha
        rcases Nat.lt_or_gt_of_ne c with h | h
        · exact List.pairwise_iff_getElem.mp nd i a l1 l2 h (e1.trans e2.symm)
        · exact List.pairwise_iff_getElem.mp nd a i l2 l1 h (e2.trans e1.symm)
      rw [upd_ne qr, T.row i q hi]
      congr 2
      exact rowV_congr fun j _ => by simp [c]
  refine ⟨_, rfl, t, _, 1, _, rfl, rfl, Same.tup s1 ht, a1, e, rfl, ⟨_, Same.tup s1 he⟩, for_it (walk_tup (xs := xs)) (fun i σ H' => ∃ (s2 s3 : Option V), σ = [some (.ref t), some (.ref D), s2, s3, none] ∧ Same H H' ∧ TabR H' D n (adjB (es.take i)) rs) ⟨none, none, rfl, s1, T0⟩ (fun i σ H' _ ⟨_, _, _, s, _⟩ => Same.tup s he) ?_ ?_⟩
  · rintro i x σ H2 H3 li ⟨s2', s3', rfl, s2, T⟩ ⟨rfl, hi⟩
    obtain ⟨p, hp, u, rfl, hu⟩ := PairsAt.get (hes.same s2) hi
    obtain ⟨l1, l2⟩ := g.lt p (List.mem_of_getElem? hp)
    obtain ⟨r1, hr1, hv1, row1⟩ := T.get (show p.1 < n by omega)
    refine ⟨u, _, rfl, hu, rfl, _, _, rfl, _, _, rfl, rfl, ?_⟩
    refine ⟨_, rfl, _, rfl, D, _, _, _, rfl, rfl, SqL.of T.hd, atI_nat hv1, _, rfl, r1, _, _, p.2, rfl, rfl, row1, by rw [rowV_len]; exact ixN_of l2, ?_⟩
    rw [rowV_set]
    obtain ⟨s4, T4⟩ := put H3 _ p.1 p.2 r1 s2 T hr1
    generalize upd H3 r1 (.lst (rowV n fun k => if k = p.2 then true else adjB (es.take i) p.1 k)) = H4 at s4 T4 ⊢
    obtain ⟨r2, hr2, hv2, row2⟩ := T4.get l2
    refine ⟨_, rfl, _, rfl, D, _, _, _, rfl, rfl, SqL.of T4.hd, atI_nat hv2, _, rfl, r2, _, _, p.1, rfl, rfl, row2, by rw [rowV_len]; exact ixN_of (by omega), ?_⟩
    rw [rowV_set]
    obtain ⟨s5, T5⟩ := put H4 _ p.2 p.1 r2 s4 T4 hr2
    refine ⟨_, _, rfl, s5, T5.congr fun a b _ _ => ?_⟩
    rw [take_succ hp, show p = (p.1, p.2) from rfl, adj_snoc l1]
    by_cases c1 : a = p.2 ∧ b = p.1
    · simp [c1]
    · by_cases c2 : a = p.1 ∧ b = p.2
      · simp [c2]
      · simp [c1, c2]
  · rintro σ H2 ⟨s2', s3', rfl, s2, T⟩
    rw [le, List.take_length] at T
    exact ⟨_, rfl, q D rs H2 s2 nD T⟩
theorem ok_oft (F : L2.Fun K "_law_of_table" "_law_of_table" sOfT f fd) (mr : mg "range" = none) (ml : mg "len" = none) (mt : mg "tuple" = none) : FnOk P w K mg base CX0 1 f fd ["rows"] spOfT := by
  refine F.ok scOfT (fun vs H Q E h => ?_) (fun cdv A outer s H vs Q E hr h => ?_)
  · obtain ⟨D, n, ff, rs, rfl, _⟩ := h
    rfl
  obtain ⟨D, n, ff, rs, rfl, T, n9, q⟩ := h
  refine ⟨_, pss_cons (ps_set (i := 1) scOfT.nd rfl (.inl rfl) (pe_lst pa_nil))
    (pss_cons (ps_for PassesOwn.never rfl (pi_range1 rfl mr (pa_cons (pe_callB call_len_seq (by rfl) ml PySem.boot_len (pa_cons (pv 0) pa_nil)) pa_nil)) (pg_name (i := 2) scOfT.nd rfl (.inr rfl))
      (pss_one (ps_set (i := 1) scOfT.nd rfl (.inl rfl) (pe_op op_cat (pv 1) (pe_lc (own := [("two", 3)]) (g := gName 3) (tt := tB (tOp (rIxL K) (tOp (rIxL K) (tVar 0) (tVar 2)) (tVar 3))) rfl scOfT.nd (pi_range2 (by rfl) mr (pa_cons (pe_op op_add (pv 2) pe_int) (pa_cons (pe_callB call_len_seq (by rfl) ml PySem.boot_len (pa_cons (pv 0) pa_nil)) pa_nil)))
        (blkOk_by (N := ["rows", "found", "one", "two"]) (sc := defScope sOfT) (by decide +kernel)) (fun _ _ _ _ _ => pg_name (i := 3) scOfT.nd rfl (Or.inl rfl))
        (fun _ _ _ _ _ => pts_one (pt_val (pe_ix (r := rIxL K) ix_list (pe_ix (r := rIxL K) ix_list (pv 0) (pv 2) (fun _ _ => rfl)) (pv 3) (fun _ _ => rfl))))
        (fun _ _ _ _ _ => pe_tup (pa_cons (pv 2) (pa_cons (pv 3) pa_nil))))))))
    (pss_one (ps_ret (pe_tup (pa_cons (pe_callB call_len_seq (by rfl) ml PySem.boot_len (pa_cons (pv 0) pa_nil)) (pa_cons (pe_callTy call_tuple_of (by rfl) mt (by decide +kernel) (pa_cons (pv 1) pa_nil)) pa_nil)))))), ?_⟩
  have lr : (rs.map V.ref).length = n := by rw [List.length_map]; exact T.len
  refine ⟨(by show 0 ≤ sizeLine; decide), fun a na => ?_⟩
  have sa := same_new na (.lst [])
  refine ⟨_, rfl, D, _, rfl, .inl (SqL.of (T.same sa).hd), (((rs.map V.ref).length : Nat) : Int), rfl, by omega, by omega, for_range (lo := 0) (n := (((rs.map V.ref).length : Nat) : Int).toNat) (fun i σ H' => ∃ (b : Addr) (ys : List V) (s4 : Option V), σ = [some (.ref D), some (.ref b), s4, none] ∧ Same H H' ∧ H' b = some (.lst ys) ∧
      PairsT H' ys ((List.range i).flatMap fun u => (rowP n u).filter fun p => ff p.1 p.2)) ⟨a, [], none, rfl, sa, upd_same, .nil⟩ ?_ ?_⟩
  · rintro u σ H1 lu ⟨b, ys, s4, rfl, s1, hb, py⟩
    rw [Int.zero_add]
    have un : u < n := by omega
    have T1 := T.same s1
    refine ⟨_, rfl, _, rfl, _, _, rfl, rfl, _, rfl, D, _, rfl, .inl (SqL.of T1.hd), _, _, rfl, ⟨by omega, by omega, by omega, by omega⟩, fun E nE => lc_range (lo := (u : Int) + 1) (n := ((((rs.map V.ref).length : Nat) : Int) - ((u : Int) + 1)).toNat)
      (fun k H2 => Same H1 H2 ∧ ∃ zs, H2 E = some (.lst zs) ∧ zs.length ≤ k ∧ PairsT H2 zs (((List.range k).map fun j => (u, u + 1 + j)).filter fun p => ff p.1 p.2)) ⟨same_new nE _, [], upd_same, Nat.le_refl _, .nil⟩ ?_ ?_⟩
    · rintro k H2 lk ⟨s2, zs, hE, lz, pz⟩
      rw [show ((u : Int) + 1 + (k : Int)) = ((u + 1 + k : Nat) : Int) by omega]
      have T2 := T1.same s2
      obtain ⟨r, hr, hv, row⟩ := T2.get un
      refine ⟨rfl, ?_⟩
      refine ⟨_, rfl, _, rfl, D, _, _, _, rfl, rfl, SqL.of T2.hd, atI_nat hv, _, rfl, r, _, _, _, rfl, rfl, SqL.of row, atI_nat (rowV_get _ (by omega)), _, rfl, ?_⟩
      refine iteB (fun c => ?_) (fun c => ?_)
      · refine ⟨_, rfl, _, rfl, (by show 2 ≤ sizeLine; exact small (by decide)), fun r2 nr2 => ?_⟩
        have pp := push_pairT (u, u + 1 + k) hE nr2 pz
        refine ⟨zs, (same_new nr2 _) _ _ hE, small1000 (by omega), same_put (s2.trans (same_new nr2 _)) nE, _, upd_same, by rw [List.length_append]; show zs.length + 1 ≤ k + 1; omega, ?_⟩
        rw [List.range_succ, List.map_append, List.filter_append]
        show PairsT _ _ (_ ++ [(u, u + 1 + k)].filter fun p => ff p.1 p.2)
        rw [List.filter_cons_of_pos (by exact c), List.filter_nil]
        exact pp
      · refine ⟨s2, zs, hE, by omega, ?_⟩
        rw [List.range_succ, List.map_append, List.filter_append]
        show PairsT _ zs (_ ++ [(u, u + 1 + k)].filter fun p => ff p.1 p.2)
        rw [List.filter_cons_of_neg (by show ¬ ff u (u + 1 + k) = true; rw [c]; decide), List.filter_nil, List.append_nil]
        exact pz
    · rintro H2 ⟨s2, zs, hE, lz, pz⟩
      have le1 : ys.length ≤ 81 := by
        rw [PairsT.len py]
        have z := List.length_filter_le (fun p => ff p.1 p.2) ((List.range u).flatMap (rowP n))
        rw [List.filter_flatMap] at z
        exact Nat.le_trans z (rows_few u (by omega) n n9)
      refine ⟨b, E, ys, zs, rfl, rfl, s2 _ _ hb, hE, small (by omega), fun c nc => ?_⟩
      have s3 := same_new nc (.lst (ys ++ zs))
      refine ⟨c, _, _, rfl, (s1.trans s2).trans s3, upd_same, ?_⟩
      rw [List.range_succ, List.flatMap_append]
      refine (py.same (s2.trans s3)).append ?_
      have ek : ((((rs.map V.ref).length : Nat) : Int) - ((u : Int) + 1)).toNat = n - (u + 1) := by omega
      rw [ek] at pz
      show PairsT _ zs ([u].flatMap fun u => (rowP n u).filter fun p => ff p.1 p.2)
      rw [List.flatMap_cons, List.flatMap_nil, List.append_nil]
      exact pz.same s3
  · rintro σ H1 ⟨b, ys, s4, rfl, s1, hb, py⟩
    rw [show (((rs.map V.ref).length : Nat) : Int).toNat = n by omega, ← tabP_eq] at py
    refine ⟨_, rfl, D, _, rfl, .inl (SqL.of (T.same s1).hd), _, rfl, b, _, rfl, .inl ⟨SqL.of hb, fun l' nl => ⟨(by show 2 ≤ sizeLine; exact small (by decide)), fun r' nr => ?_⟩⟩⟩
    rw [lr]
    have s2 := same_new nl (.tup ys)
    have s3 := same_new nr (.tup [.int (n : Int), .ref l'])
    exact q (.ref r') _ ((s1.trans s2).trans s3) ⟨r', l', ys, rfl, upd_same, s3 _ _ upd_same, (py.same s2).same s3⟩
end
end My

set_option maxHeartbeats 8000000
namespace My
open PySem PySem.Spec PyProof.Rows L2
abbrev sRing : Stmt := top 39
abbrev sFlip : Stmt := top 42
abbrev sWithin : Stmt := top 43
theorem scRing : FnScope ["many", "k"] ["many"] (defScope sRing) := ⟨rfl, rfl, rfl, by decide +kernel, rfl, by decide +kernel, by decide +kernel⟩
theorem scFlip : FnScope ["graph", "rows", "row", "each"] ["graph"] (defScope sFlip) := ⟨rfl, rfl, rfl, by decide +kernel, rfl, by decide +kernel, by decide +kernel⟩
theorem scWithin : FnScope ["graph", "some", "rows", "one", "two"] ["graph", "some"] (defScope sWithin) := ⟨rfl, rfl, rfl, by decide +kernel, rfl, by decide +kernel, by decide +kernel⟩
def spRing : Sp := fun vs H Q _ => ∃ m : Nat, vs = [.int (m : Int)] ∧ 3 ≤ m ∧ m ≤ 9 ∧ ∀ y es H', Same H H' → GraphT H' y m es → Good m es → Q y H'
/-- the ring itself -/
def spRingE : Sp := fun vs H Q _ => ∃ m : Nat, vs = [.int (m : Int)] ∧ 3 ≤ m ∧ m ≤ 9 ∧ ∀ y es H', Same H H' → GraphT H' y m es → Good m es → (∀ q, q ∈ es ↔ q ∈ (List.range (m - 1)).map (fun k => (k, k + 1)) ++ [(0, m - 1)]) → Q y H'
def spFlip (K : PySem.W.Frag) : Sp := fun vs H Q _ => ∃ (x : V) (n : Nat) (es : List E2), vs = [x] ∧ GraphAt K H x n es ∧ Good n es ∧ ∀ y H', Same H H' → GraphT H' y n (tabP n fun i j => !adjB es i j) → Q y H'
def spWithin (K : PySem.W.Frag) : Sp := fun vs H Q _ => ∃ (x : V) (n : Nat) (es : List E2) (S : Addr) (l : List Nat), vs = [x, .ref S] ∧ GraphAt K H x n es ∧ Good n es ∧ H S = some (.lst (numsN l)) ∧ (∀ k ∈ l, k < n) ∧ l.length ≤ 9 ∧ ∀ y H', Same H H' → GraphT H' y l.length (tabP l.length fun i j => adjB es (l.getD i 0) (l.getD j 0)) → Q y H'
def ringP (m : Nat) : List E2 := (List.range (m - 1)).map (fun k => (k, k + 1)) ++ [(0, m - 1)]
theorem ring_nodup : ∀ m, m ≤ 9 → 3 ≤ m → (ringP m).Nodup := by decide +kernel
theorem ring_lt {m : Nat} (h : 3 ≤ m) : ∀ p ∈ ringP m, p.1 < p.2 ∧ p.2 < m := fun p hp => by
  unfold ringP at hp
  rcases List.mem_append.mp hp with hp | hp
  · obtain ⟨k, hk, rfl⟩ := List.mem_map.mp hp
    have := List.mem_range.mp hk
    exact ⟨by show k < k + 1; omega, by show k + 1 < m; omega⟩
  · rw [List.mem_singleton.mp hp]
    exact ⟨by show 0 < m - 1; omega, by show m - 1 < m; omega⟩
section
variable {P : Program} {w : World} {K : PySem.W.Frag} {mg : Str → Option Value} {base : Heap} {f fT fO : Addr} {fd dT dO : FuncData}
theorem ok_ringE (F : L2.Fun K "_law_ring" "_law_ring" sRing f fd) (mr : mg "range" = none) (mt : mg "tuple" = none) (mso : mg "sorted" = none) : FnOk P w K mg base CX0 1 f fd ["many"] spRingE := by
  refine F.ok scRing (fun vs H Q E h => ?_) (fun cdv A outer s H vs Q E hr h => ?_)
  · obtain ⟨m, rfl, _⟩ := h
    rfl
  obtain ⟨m, rfl, m3, m9, q⟩ := h
  refine ⟨_, pss_one (ps_ret (pe_tup (pa_cons (pv 0) (pa_cons (pe_callTy call_tuple_of (by rfl) mt (by decide +kernel) (pa_cons (pe_callB cr_sortedPO (by rfl) mso (by decide +kernel) (pa_cons (pe_op op_cat (pe_lc (own := [("k", 1)]) (g := gName 1) (tt := tYes) rfl scRing.nd (pi_range1 rfl mr (pa_cons (pe_op op_sub (pv 0) pe_int) pa_nil))
      (blkOk_by (N := ["many", "k"]) (sc := defScope sRing) (by decide +kernel)) (fun _ _ _ _ _ => pg_name (i := 1) scRing.nd rfl (Or.inl rfl)) (fun _ _ _ _ _ => pts_nil)
      (fun _ _ _ _ _ => pe_tup (pa_cons (pv 1) (pa_cons (pe_op op_add (pv 1) pe_int) pa_nil)))) (pe_lst (pa_cons (pe_tup (pa_cons pe_int (pa_cons (pe_op op_sub (pv 0) pe_int) pa_nil))) pa_nil))) pa_nil)) pa_nil)) pa_nil)))), ?_⟩
  have line : ∀ k, k ≤ 1000 → k ≤ sizeLine := fun k hk => small hk
  refine ⟨_, rfl, _, rfl, _, _, rfl, rfl, _, rfl, by omega, by omega, fun D nD => lc_range (lo := 0) (n := ((m : Int) - 1).toNat) (fun i H2 => Same H H2 ∧ ∃ zs, H2 D = some (.lst zs) ∧ PairsT H2 zs ((List.range i).map fun k => (k, k + 1))) ⟨same_new nD _, [], upd_same, .nil⟩ ?_ ?_⟩
  · rintro i H2 li ⟨s2, zs, hD, pz⟩
    rw [Int.zero_add]
    refine ⟨rfl, ?_⟩
    refine ⟨_, rfl, _, rfl, _, _, rfl, rfl, line 2 (by decide), fun u nu => ?_⟩
    have pp := push_pairT (i, i + 1) hD nu pz
    have lz : zs.length ≤ 9 := by rw [PairsT.len pz, List.length_map, List.length_range]; omega
    refine ⟨zs, (same_new nu _) _ _ hD, small1000 (by omega), same_put (s2.trans (same_new nu _)) nD, _, upd_same, ?_⟩
    rw [List.range_succ, List.map_append]
    exact pp
  rintro H1 ⟨s1, zs, hD, pz⟩
  rw [show ((m : Int) - 1).toNat = m - 1 by omega] at pz
  refine ⟨_, rfl, _, _, rfl, rfl, line 2 (by decide), fun u nu => ?_⟩
  have su := same_new nu (.tup [.int 0, .int ((m : Int) - 1)])
  have hu := upd_same (H := H1) (a := u) (o := .tup [.int 0, .int ((m : Int) - 1)])
  generalize upd H1 u (.tup [.int 0, .int ((m : Int) - 1)]) = H2 at su hu ⊢
  refine ⟨line 1 (by decide), fun L nL => ?_⟩
  have sL := same_new nL (.lst [.ref u])
  have hL := upd_same (H := H2) (a := L) (o := .lst [.ref u])
  have lz : zs.length ≤ 9 := by rw [PairsT.len pz, List.length_map, List.length_range]; omega
  refine ⟨D, L, zs, _, rfl, rfl, (su.trans sL) _ _ hD, hL, line _ (by rw [List.length_singleton]; omega), fun C nC => ?_⟩
  have sC := same_new nC (.lst (zs ++ [.ref u]))
  have hC := upd_same (H := upd H2 L (.lst [.ref u])) (a := C) (o := .lst (zs ++ [.ref u]))
  have pC : PairsT (upd (upd H2 L (.lst [.ref u])) C (.lst (zs ++ [.ref u]))) (zs ++ [.ref u]) (ringP m) := by
    refine (pz.same (su.trans (sL.trans sC))).append (.cons ⟨u, rfl, ?_⟩ .nil)
    rw [(sL.trans sC) _ _ hu]
    show _ = some (HO.tup [.int ((0 : Nat) : Int), .int ((m - 1 : Nat) : Int)])
    rw [show ((m - 1 : Nat) : Int) = (m : Int) - 1 by omega]
    rfl
  have s14 := su.trans (sL.trans sC)
  generalize upd (upd H2 L (.lst [.ref u])) C (.lst (zs ++ [.ref u])) = H3 at hC pC s14 ⊢
  refine ⟨C, _, kOf H3, rfl, SqL.of hC, pC.ks, fun ys S so st nS => ?_⟩
  obtain ⟨g1, g2, g3⟩ := sorted_pairs pC (ring_nodup m m9 m3) so st
  generalize ys.map (gOf H3) = qs at g1 g2 g3
  have sS := same_new nS (.lst ys)
  have hS := upd_same (H := H3) (a := S) (o := .lst ys)
  generalize upd H3 S (.lst ys) = H4 at sS hS ⊢
  refine ⟨S, ys, rfl, .inl ⟨SqL.of hS, fun e ne => ⟨line 2 (by decide), fun t nt => ?_⟩⟩⟩
  have se := same_new ne (.tup ys)
  have st' := same_new nt (.tup [.int (m : Int), .ref e])
  exact q _ qs _ (s1.trans (s14.trans (sS.trans (se.trans st')))) ⟨t, e, ys, rfl, upd_same, st' _ _ upd_same, g1.same (sS.trans (se.trans st'))⟩ ⟨m9, fun p hp => ring_lt m3 p ((g3 p).mp hp), g2⟩ g3
theorem ok_ring (F : L2.Fun K "_law_ring" "_law_ring" sRing f fd) (mr : mg "range" = none) (mt : mg "tuple" = none) (mso : mg "sorted" = none) : FnOk P w K mg base CX0 1 f fd ["many"] spRing :=
  (ok_ringE F mr mt mso).imp fun vs H Q E ⟨m, e, m3, m9, q⟩ => ⟨m, e, m3, m9, fun y es H' s hy g _ => q y es H' s hy g⟩
theorem ok_flip (F : L2.Fun K "_law_flipped" "_law_flipped" sFlip f fd) (GT : FnOk P w K mg base CX0 1 fT dT ["graph"] (spTable K)) (bT : L2.Binds K dT ["graph"] []) (kT : PySem.W.keepIn K (.ref fT) = true) (mT : mg "_law_table" = some (.ref fT))
    (GO : FnOk P w K mg base CX0 1 fO dO ["rows"] spOfT) (bO : L2.Binds K dO ["rows"] []) (kO : PySem.W.keepIn K (.ref fO) = true) (mO : mg "_law_of_table" = some (.ref fO)) : FnOk P w K mg base CX0 2 f fd ["graph"] (spFlip K) := by
  refine F.ok scFlip (fun vs H Q E h => ?_) (fun cdv A outer s H vs Q E hr h => ?_)
  · obtain ⟨x, n, es, rfl, _⟩ := h
    rfl
  obtain ⟨x, n, es, rfl, hx, g, q⟩ := h
  refine ⟨_, pss_cons (ps_set (i := 1) scFlip.nd rfl (.inl rfl) (pe_call GT hr (by rfl) mT kT bT .nil pass0 (pa_cons (pv 0) pa_nil)))
    (pss_one (ps_ret (pe_call GO hr (by rfl) mO kO bO .nil pass0 (pa_cons (pe_lc (own := [("row", 2)]) (g := gName 2) (tt := tYes) (te := tLc (iList K (tVar 2)) (gName 3) tYes (tNotV (tVar 3)) [3]) rfl scFlip.nd (pi_list (pv 1))
        (blkOk_by (N := ["graph", "rows", "row", "each"]) (sc := defScope sFlip) (by decide +kernel)) (fun _ _ _ _ _ => pg_name (i := 2) scFlip.nd rfl (Or.inl rfl)) (fun _ _ _ _ _ => pts_nil)
        (fun _ _ _ _ _ => pe_lc (own := [("each", 3)]) (g := gName 3) (tt := tYes) rfl scFlip.nd (pi_list (pv 2))
          (blkOk_by (N := ["graph", "rows", "row", "each"]) rfl) (fun _ _ _ _ _ => pg_name (i := 3) scFlip.nd rfl (Or.inl rfl)) (fun _ _ _ _ _ => pts_nil) (fun _ _ _ _ _ => pe_not (pv 3)))) pa_nil)))), ?_⟩
  have n9 := g.n9
  refine ⟨_, rfl, x, n, es, rfl, hx, g, fun D rs H1 s1 _ T => ?_⟩
  have lm : (rs.map V.ref).length = n := by rw [List.length_map]; exact T.len
  refine ⟨_, rfl, D, rfl, ⟨_, SqL.of T.hd⟩, fun R nR => lo_it (walk_list (xs := rs.map V.ref)) (fun i H2 => Same H1 H2 ∧ ∃ qs : List Addr, qs.length = i ∧ H2 R = some (.lst (qs.map V.ref)) ∧ ∀ k r, qs[k]? = some r → r ≠ R ∧ H2 r = some (.lst (rowV n fun j => !adjB es k j))) ⟨same_new nR _, [], rfl, upd_same, fun k r z => by simp at z⟩ (fun i H2 _ ⟨s2, _⟩ => SqL.of (s2 _ _ T.hd)) ?_ ?_⟩
  · rintro i y _ H2 li ⟨s2, qs, lq, hR, hqs⟩ ⟨rfl, hy⟩
    have T2 := T.same s2
    obtain ⟨r, hr', hv, row⟩ := T2.get (show i < n by omega)
    have ey : y = .ref r := by rw [hv] at hy; exact (Option.some.inj hy).symm
    subst ey
    refine ⟨rfl, ?_⟩
    refine ⟨_, rfl, r, rfl, ⟨_, SqL.of row⟩, fun B nB => lo_it (walk_list (xs := rowV n (adjB es i))) (fun j H3 => Same H2 H3 ∧ H3 B = some (.lst (rowV j fun j => !adjB es i j))) ⟨same_new nB _, upd_same⟩ (fun j H3 _ ⟨s3, _⟩ => SqL.of (s3 _ _ row)) ?_ ?_⟩
    · rintro j z _ H3 lj ⟨s3, hB⟩ ⟨rfl, hz⟩
      rw [rowV_len] at lj
      rw [rowV_get _ lj] at hz
      cases hz
      refine ⟨rfl, ?_⟩
      refine ⟨_, rfl, _, rfl, _, hB, small1000 (by rw [rowV_len]; omega), same_put s3 nB, ?_⟩
      rw [upd_same, rowV_succ]
    · rintro H3 ⟨s3, hB⟩
      rw [rowV_len] at hB
      have hR3 := s3 _ _ hR
      have BR : B ≠ R := fun z => by rw [z, hR] at nB; cases nB
      refine ⟨_, hR3, small1000 (by rw [List.length_map]; omega), same_put (s2.trans s3) nR, qs ++ [B], by rw [List.length_append, lq]; rfl, by rw [upd_same, List.map_append]; rfl, fun k u hk => ?_⟩
      by_cases c : k < i
      · rw [List.getElem?_append_left (by omega)] at hk
        obtain ⟨h1, h2⟩ := hqs k u hk
        exact ⟨h1, by rw [upd_ne h1]; exact s3 _ _ h2⟩
      · have : k = i := by
          have := (List.getElem?_eq_some_iff.mp hk).1
          rw [List.length_append, List.length_singleton] at this
          omega
        subst this
        rw [List.getElem?_append_right (by omega), lq, Nat.sub_self] at hk
        cases hk
        exact ⟨BR, by rw [upd_ne BR]; exact hB⟩
  · rintro H2 ⟨s2, qs, lq, hR, hqs⟩
    refine ⟨R, n, _, qs, rfl, ⟨hR, by omega, fun i r hi => (hqs i r hi).2⟩, n9, fun y H3 s3 hy => q y H3 (s1.trans (s2.trans s3)) hy⟩
theorem ok_within (F : L2.Fun K "_law_within" "_law_within" sWithin f fd) (GT : FnOk P w K mg base CX0 1 fT dT ["graph"] (spTable K)) (bT : L2.Binds K dT ["graph"] []) (kT : PySem.W.keepIn K (.ref fT) = true) (mT : mg "_law_table" = some (.ref fT))
    (GO : FnOk P w K mg base CX0 1 fO dO ["rows"] spOfT) (bO : L2.Binds K dO ["rows"] []) (kO : PySem.W.keepIn K (.ref fO) = true) (mO : mg "_law_of_table" = some (.ref fO)) : FnOk P w K mg base CX0 2 f fd ["graph", "some"] (spWithin K) := by
  refine F.ok scWithin (fun vs H Q E h => ?_) (fun cdv A outer s H vs Q E hr h => ?_)
  · obtain ⟨x, n, es, S, l, rfl, _⟩ := h
    rfl
  obtain ⟨x, n, es, S, l, rfl, hx, g, hS, ln, l9, q⟩ := h
  refine ⟨_, pss_cons (ps_set (i := 2) scWithin.nd rfl (.inr rfl) (pe_call GT hr (by rfl) mT kT bT .nil pass0 (pa_cons (pv 0) pa_nil)))
    (pss_one (ps_ret (pe_call GO hr (by rfl) mO kO bO .nil pass0 (pa_cons (pe_lc (own := [("one", 3)]) (g := gName 3) (tt := tYes) (te := tLc (iList K (tVar 1)) (gName 4) tYes (tOp (rIxL K) (tOp (rIxL K) (tVar 2) (tVar 3)) (tVar 4)) [4]) rfl scWithin.nd (pi_list (pv 1))
        (blkOk_by (N := ["graph", "some", "rows", "one", "two"]) (sc := defScope sWithin) (by decide +kernel)) (fun _ _ _ _ _ => pg_name (i := 3) scWithin.nd rfl (Or.inr rfl)) (fun _ _ _ _ _ => pts_nil)
        (fun _ _ _ _ _ => pe_lc (own := [("two", 4)]) (g := gName 4) (tt := tYes) rfl scWithin.nd (pi_list (pv 1))
          (blkOk_by (N := ["graph", "some", "rows", "one", "two"]) rfl) (fun _ _ _ _ _ => pg_name (i := 4) scWithin.nd rfl (Or.inl rfl)) (fun _ _ _ _ _ => pts_nil) (fun _ _ _ _ _ => pe_ix (r := rIxL K) ix_list (pe_ix (r := rIxL K) ix_list (pv 2) (pv 3) (fun _ _ => rfl)) (pv 4) (fun _ _ => rfl)))) pa_nil)))), ?_⟩
  refine ⟨_, rfl, x, n, es, rfl, hx, g, fun D rs H1 s1 _ T => ?_⟩
  have hS1 := s1 _ _ hS
  refine ⟨_, rfl, S, rfl, ⟨_, SqL.of hS1⟩, fun R nR => lo_it (walk_list (xs := numsN l)) (fun i H2 => Same H1 H2 ∧ ∃ qs : List Addr, qs.length = i ∧ H2 R = some (.lst (qs.map V.ref)) ∧ ∀ k r, qs[k]? = some r → r ≠ R ∧ H2 r = some (.lst (rowV l.length fun j => adjB es (l.getD k 0) (l.getD j 0)))) ⟨same_new nR _, [], rfl, upd_same, fun k r z => by simp at z⟩ (fun i H2 _ ⟨s2, _⟩ => SqL.of (s2 _ _ hS1)) ?_ ?_⟩
  · rintro i y _ H2 li ⟨s2, qs, lq, hR, hqs⟩ ⟨rfl, hy⟩
    obtain ⟨a, ha, rfl⟩ := numsN_get hy
    have an := ln a (List.mem_of_getElem? ha)
    have ea : l.getD i 0 = a := by rw [List.getD_eq_getElem?_getD, ha]; rfl
    have T2 := T.same s2
    obtain ⟨r, hr', hv, row⟩ := T2.get an
    have hS2 := s2 _ _ hS1
    refine ⟨rfl, ?_⟩
    refine ⟨_, rfl, S, rfl, ⟨_, SqL.of hS2⟩, fun B nB => lo_it (walk_list (xs := numsN l)) (fun j H3 => Same H2 H3 ∧ H3 B = some (.lst (rowV j fun j => adjB es (l.getD i 0) (l.getD j 0)))) ⟨same_new nB _, upd_same⟩ (fun j H3 _ ⟨s3, _⟩ => SqL.of (s3 _ _ hS2)) ?_ ?_⟩
    · rintro j z _ H3 lj ⟨s3, hB⟩ ⟨rfl, hz⟩
      obtain ⟨b, hb, rfl⟩ := numsN_get hz
      have bn := ln b (List.mem_of_getElem? hb)
      have eb : l.getD j 0 = b := by rw [List.getD_eq_getElem?_getD, hb]; rfl
      rw [numsN_len] at lj
      refine ⟨rfl, ?_⟩
      refine ⟨_, rfl, _, rfl, D, _, _, _, rfl, rfl, SqL.of (s3 _ _ T2.hd), atI_nat hv, _, rfl, r, _, _, _, rfl, rfl, SqL.of (s3 _ _ row), atI_nat (rowV_get _ bn), _, hB, small1000 (by rw [rowV_len]; omega), same_put s3 nB, ?_⟩
      rw [upd_same, rowV_succ, ea, eb]
    · rintro H3 ⟨s3, hB⟩
      rw [numsN_len] at hB
      have hR3 := s3 _ _ hR
      have BR : B ≠ R := fun z => by rw [z, hR] at nB; cases nB
      rw [numsN_len] at li
      refine ⟨_, hR3, small1000 (by rw [List.length_map]; omega), same_put (s2.trans s3) nR, qs ++ [B], by rw [List.length_append, lq]; rfl, by rw [upd_same, List.map_append]; rfl, fun k u hk => ?_⟩
      by_cases c : k < i
      · rw [List.getElem?_append_left (by omega)] at hk
        obtain ⟨h1, h2⟩ := hqs k u hk
        exact ⟨h1, by rw [upd_ne h1]; exact s3 _ _ h2⟩
      · have : k = i := by
          have := (List.getElem?_eq_some_iff.mp hk).1
          rw [List.length_append, List.length_singleton] at this
          omega
        subst this
        rw [List.getElem?_append_right (by omega), lq, Nat.sub_self] at hk
        cases hk
        exact ⟨BR, by rw [upd_ne BR]; exact hB⟩
  · rintro H2 ⟨s2, qs, lq, hR, hqs⟩
    rw [numsN_len] at lq
    refine ⟨R, l.length, _, qs, rfl, ⟨hR, by omega, fun i r hi => (hqs i r hi).2⟩, l9, fun y H3 s3 hy => q y H3 (s1.trans (s2.trans s3)) hy⟩
end
end My

set_option maxHeartbeats 8000000
namespace My
open PySem PySem.Spec PyProof.Rows L2
abbrev sMore : Stmt := top 44
theorem scMore : FnScope ["pot", "graph", "many", "rows", "turn", "here", "thick", "new", "each", "like", "k"] ["pot", "graph", "many"] (defScope sMore) := ⟨rfl, rfl, rfl, by decide +kernel, rfl, by decide +kernel, by decide +kernel⟩
def spMore (K : PySem.W.Frag) : Sp := fun vs H Q _ => ∃ (p : Addr) (x : V) (n m : Nat) (es : List E2), vs = [.ref p, x, .int (m : Int)] ∧ Wl H p ∧ GraphAt K H x n es ∧ Good n es ∧ n + m ≤ 9 ∧ ∀ y fs H', But p H H' → Wl H' p → GraphT H' y (n + m) fs → Good (n + m) fs → Q y H'
/-- the graph within -/
def spMoreE (K : PySem.W.Frag) : Sp := fun vs H Q _ => ∃ (p : Addr) (x : V) (n m : Nat) (es : List E2), vs = [.ref p, x, .int (m : Int)] ∧ Wl H p ∧ GraphAt K H x n es ∧ Good n es ∧ n + m ≤ 9 ∧ ∀ y fs H', But p H H' → Wl H' p → GraphT H' y (n + m) fs → Good (n + m) fs → (∀ a b, a < n → b < n → adjB fs a b = adjB es a b) → Q y H'
theorem tab_in {n m : Nat} {es : List E2} {ff : Nat → Nat → Bool} (g : Good n es) (h : ∀ a b, a < n → b < n → ff a b = adjB es a b) {a b : Nat} (ha : a < n) (hb : b < n) (nm : n ≤ m) : adjB (tabP m ff) a b = adjB es a b := by
  by_cases c : a = b
  · subst c
    have e1 : adjB es a a = false := by
      cases z : adjB es a a with
      | false => rfl
      | true => exact absurd rfl (adj_ne g z).1
    rw [e1]
    unfold adjB tabP
    refine decide_eq_false fun z => ?_
    have := (mem_allP.mp (List.mem_filter.mp z).1).1
    simp at this
  · have key : ∀ u v, u < v → v < n → adjB (tabP m ff) u v = adjB es u v := fun u v uv vn => by
      have e1 : adjB (tabP m ff) u v = ff u v := by
        unfold adjB tabP
        rw [Nat.min_eq_left (by omega), Nat.max_eq_right (by omega), Bool.eq_iff_iff, decide_eq_true_eq, List.mem_filter]
        exact ⟨fun z => z.2, fun z => ⟨mem_allP.mpr ⟨uv, by show v < m; omega⟩, z⟩⟩
      rw [e1, h u v (by omega) vn]
    rcases Nat.lt_or_gt_of_ne c with z | z
    · exact key a b z hb
    · rw [adj_comm _ a b, adj_comm es a b]
      exact key b a z ha
theorem TabR.neD {H : Hp} {p D : Addr} {n : Nat} {f : Nat → Nat → Bool} {rs : List Addr} (w : Wl H p) (T : TabR H D n f rs) : D ≠ p := fun z => by
  obtain ⟨a, b, c, h⟩ := w
  have e := T.hd
  rw [z, h] at e
  cases rs with
  | nil => cases e
  | cons r rs => cases e
theorem TabR.neR {H : Hp} {p D : Addr} {n : Nat} {f : Nat → Nat → Bool} {rs : List Addr} (w : Wl H p) (T : TabR H D n f rs) {i : Nat} {r : Addr} (hi : rs[i]? = some r) : r ≠ p := fun z => by
  obtain ⟨a, b, c, h⟩ := w
  have e := T.row i r hi
  rw [z, h] at e
  cases n with
  | zero => cases e
  | succ n =>
    have g := rowV_get (f i) (Nat.succ_pos n)
    have e2 := HO.lst.inj (Option.some.inj e)
    rw [← e2] at g
    cases g
theorem TabR.but {H H' : Hp} {p D : Addr} {n : Nat} {f : Nat → Nat → Bool} {rs : List Addr} (b : But p H H') (w : Wl H p) (T : TabR H D n f rs) : TabR H' D n f rs :=
  ⟨b _ _ (T.neD w) T.hd, T.len, fun i r hi => b _ _ (T.neR w hi) (T.row i r hi)⟩
theorem rowV_bs (n : Nat) (f : Nat → Bool) : rowV n f = ((List.range n).map f).map V.bl := by
  unfold rowV
  rw [List.map_map]
  rfl
section
variable {P : Program} {w : World} {K : PySem.W.Frag} {mg : Str → Option Value} {base : Heap} {f fD fT fO : Addr} {fd dD dT dO : FuncData}
theorem ok_moreE (F : L2.Fun K "_law_more" "_law_more" sMore f fd)
    (GD : FnOk P w K mg base CX0 1 fD dD ["pot", "few"] spDraw) (bD : L2.Binds K dD ["pot", "few"] []) (kD : PySem.W.keepIn K (.ref fD) = true) (mD : mg "_law_draw" = some (.ref fD))
    (GT : FnOk P w K mg base CX0 1 fT dT ["graph"] (spTable K)) (bT : L2.Binds K dT ["graph"] []) (kT : PySem.W.keepIn K (.ref fT) = true) (mT : mg "_law_table" = some (.ref fT))
    (GO : FnOk P w K mg base CX0 1 fO dO ["rows"] spOfT) (bO : L2.Binds K dO ["rows"] []) (kO : PySem.W.keepIn K (.ref fO) = true) (mO : mg "_law_of_table" = some (.ref fO))
    (mr : mg "range" = none) (ml : mg "len" = none) : FnOk P w K mg base CX0 2 f fd ["pot", "graph", "many"] (spMoreE K) := by
  refine F.ok scMore (fun vs H Q E h => ?_) (fun cdv A outer s H vs Q E hr h => ?_)
  · obtain ⟨p, x, n, m, es, rfl, _⟩ := h
    rfl
  obtain ⟨p, x, n, m, es, rfl, hW, hx, g, nm, q⟩ := h
  refine ⟨_, pss_cons (ps_set (i := 3) scMore.nd rfl (.inr rfl) (pe_call GT hr (by rfl) mT kT bT .nil pass0 (pa_cons (pv 1) pa_nil)))
    (pss_cons (ps_for PassesOwn.never rfl (pi_range1 rfl mr (pa_cons (pv 2) pa_nil)) (pg_name (i := 4) scMore.nd rfl (.inl rfl))
      (pss_cons (ps_par (by rfl) scMore.nd (i := 5) (j := 6) rfl rfl (by decide) rfl rfl (pa_cons (pe_callB call_len_seq (by rfl) ml PySem.boot_len (pa_cons (pv 3) pa_nil)) (pa_cons (pe_call GD hr (by rfl) mD kD bD .nil pass0 (pa_cons (pv 0) (pa_cons pe_int pa_nil))) pa_nil)) (by rfl))
      (pss_cons (ps_set (i := 7) scMore.nd rfl (.inr rfl) (pe_lst pa_nil))
      (pss_cons (ps_for PassesOwn.never rfl (pi_range1 rfl mr (pa_cons (pv 5) pa_nil)) (pg_name (i := 8) scMore.nd rfl (.inl rfl))
        (pss_one (ps_expr (pe_bm PySem.F.plainAttrs_list PySem.F.slot_list_append PySem.F.type_list_append mt_append (pv 7) (pa_cons (pe_cmpR op_le (pe_call GD hr (by rfl) mD kD bD .nil pass0 (pa_cons (pv 0) (pa_cons pe_int pa_nil))) (pv 6) (nomark _)) pa_nil)))))
      (pss_cons (ps_if (PW.pt (pw_and (pt_cmpR op_gt (pv 5) pe_int (nomark _)) (pw_and1 (pt_cmpR op_eq (pe_call GD hr (by rfl) mD kD bD .nil pass0 (pa_cons (pv 0) (pa_cons pe_int pa_nil))) pe_int (nomark _)))))
        (pss_cons (ps_set (i := 9) scMore.nd rfl (.inl rfl) (pe_call GD hr (by rfl) mD kD bD .nil pass0 (pa_cons (pv 0) (pa_cons (pv 5) pa_nil))))
        (pss_one (ps_set (i := 7) scMore.nd rfl (.inr rfl) (pe_op op_cat (pe_op op_cat (pe_slice sl_list (pe_ix (r := rIxL K) ix_list (pv 3) (pv 9) (fun _ _ => rfl)) po_none (po_some (pv 9)))
          (pe_lst (pa_cons (pe_cmpR op_eq (pe_call GD hr (by rfl) mD kD bD .nil pass0 (pa_cons (pv 0) (pa_cons pe_int pa_nil))) pe_int (nomark _)) pa_nil)))
          (pe_slice sl_list (pe_ix (r := rIxL K) ix_list (pv 3) (pv 9) (fun _ _ => rfl)) (po_some (pe_op op_add (pv 9) pe_int)) po_none))))) pss_nil)
      (pss_one (ps_set (i := 3) scMore.nd rfl (.inr rfl) (pe_op op_cat (pe_lc (own := [("k", 10)]) (g := gName 10) (tt := tYes) rfl scMore.nd (pi_range1 rfl mr (pa_cons (pv 5) pa_nil))
          (blkOk_by (N := ["pot", "graph", "many", "rows", "turn", "here", "thick", "new", "each", "like", "k"]) (sc := defScope sMore) (by decide +kernel)) (fun _ _ _ _ _ => pg_name (i := 10) scMore.nd rfl (Or.inl rfl)) (fun _ _ _ _ _ => pts_nil)
          (fun _ _ _ _ _ => pe_op op_cat (pe_ix (r := rIxL K) ix_list (pv 3) (pv 10) (fun _ _ => rfl)) (pe_lst (pa_cons (pe_ix (r := rIxL K) ix_list (pv 7) (pv 10) (fun _ _ => rfl)) pa_nil))))
          (pe_lst (pa_cons (pe_op op_cat (pv 7) (pe_lst (pa_cons pe_bl pa_nil))) pa_nil))))))))))
    (pss_one (ps_ret (pe_call GO hr (by rfl) mO kO bO .nil pass0 (pa_cons (pv 3) pa_nil))))), ?_⟩
  have n9 := g.n9
  have line : ∀ k, k ≤ 1000 → k ≤ sizeLine := fun k hk => small hk
  refine ⟨_, rfl, x, n, es, rfl, hx, g, fun D0 rs0 H0 s0 _ T0 => ?_⟩
  refine ⟨_, rfl, (m : Int), rfl, by omega, by omega, for_range (lo := 0) (n := ((m : Nat) : Int).toNat) (fun i σ H' => ∃ (D : Addr) (ff : Nat → Nat → Bool) (rs : List Addr) (s4 s5 s6 s7 s8 s9 : Option V), σ = [some (.ref p), some x, some (.int (m : Int)), some (.ref D), s4, s5, s6, s7, s8, s9, none] ∧ But p H H' ∧ Wl H' p ∧ TabR H' D (n + i) ff rs ∧ ∀ a b, a < n → b < n → ff a b = adjB es a b)
    ⟨D0, _, rs0, none, none, none, none, none, none, rfl, But.of s0, hW.same s0, T0, fun _ _ _ _ => rfl⟩ ?_ ?_⟩
  rotate_left 1
  · rintro σ H1 ⟨D, ff, rs, s4, s5, s6, s7, s8, s9, rfl, b1, w1, T, hf⟩
    rw [show ((m : Nat) : Int).toNat = m by omega] at T
    exact ⟨_, rfl, D, n + m, ff, rs, rfl, T, nm, fun y H2 s2 hy => q y _ H2 (b1.trans (But.of s2)) (w1.same s2) hy (tab_good nm ff) (fun a b ha hb => tab_in g hf ha hb (Nat.le_add_right n m))⟩
  rintro i σ H1 li ⟨D, ff, rs, s4, s5, s6, s7, s8, s9, rfl, b1, w1, T, hf⟩
  have im : i < m := by omega
  have lr : (rs.map V.ref).length = n + i := by rw [List.length_map]; exact T.len
  refine ⟨_, rfl, D, _, rfl, .inl (SqL.of T.hd), ?_⟩
  rw [lr]
  refine ⟨_, rfl, p, 4, rfl, w1, by decide, by decide, fun th H2 _ _ b2 w2 => ⟨_, _, rfl, ?_⟩⟩
  have T2 := T.but b2 w1
  refine ⟨line 0 (by decide), fun N nN => ?_⟩
  have nN2 : H2 N = none := nN
  have sN := same_new nN (.lst [])
  have Np := w2.ne nN
  refine ⟨_, rfl, ((n + i : Nat) : Int), rfl, by omega, by omega, for_range (lo := 0) (n := ((n + i : Nat) : Int).toNat) (fun j σ H' => ∃ (bs : List Bool) (s8 : Option V), σ = [some (.ref p), some x, some (.int (m : Int)), some (.ref D), some (.int (0 + (i : Int))), some (.int ((n + i : Nat) : Int)), some (.int th), some (.ref N), s8, s9, none] ∧ But p H2 H' ∧ Wl H' p ∧ H' N = some (.lst (bs.map V.bl)) ∧ bs.length = j)
    ⟨[], _, rfl, But.of sN, w2.same sN, upd_same, rfl⟩ ?_ ?_⟩
  · rintro j σ H3 lj ⟨bs, s8, rfl, b3, w3, hN, lb⟩
    refine ⟨_, rfl, .inl ⟨rfl, _, SqL.of hN⟩, ?_⟩
    refine ⟨_, rfl, p, 4, rfl, w3, by decide, by decide, fun d H4 _ _ b4 w4 => ?_⟩
    refine ⟨_, rfl, _, _, rfl, rfl, ?_⟩
    have hN4 := b4 _ _ Np hN
    refine ⟨N, _, _, rfl, rfl, hN4, small1000 (by rw [List.length_map]; omega), ?_⟩
    exact ⟨bs ++ [_], _, rfl, but_put (b3.trans b4) nN2, w4.put Np, by rw [upd_same, List.map_append]; rfl, by rw [List.length_append, lb]; rfl⟩
  rintro σ H3 ⟨bs, s8, rfl, b3, w3, hN, lb⟩
  have T3 := T2.but b3 w2
  rw [show ((n + i : Nat) : Int).toNat = n + i by omega] at lb
  refine' joinT (R := fun σ H' => ∃ (W : Addr) (cs : List Bool) (s8 s9 : Option V), σ = [some (.ref p), some x, some (.int (m : Int)), some (.ref D), some (.int (0 + (i : Int))), some (.int ((n + i : Nat) : Int)), some (.int th), some (.ref W), s8, s9, none] ∧ But p H3 H' ∧ Wl H' p ∧ H' W = some (.lst (cs.map V.bl)) ∧ cs.length = n + i) (fun go => ?_) ?_
  rotate_left 1
  · refine ⟨_, rfl, _, _, rfl, rfl, _, rfl, iteB (fun c => ?_) (fun _ => iteF (go _ _ ⟨N, bs, _, _, rfl, But.refl p H3, w3, hN, lb⟩))⟩
    have c0 : (0 : Int) < ((n + i : Nat) : Int) := of_decide_eq_true c
    refine ⟨_, rfl, p, 4, rfl, w3, by decide, by decide, fun d H4 _ _ b4 w4 => ?_⟩
    refine ⟨rfl, _, rfl, iteB (fun _ => ?_) (fun _ => go _ _ ⟨N, bs, _, _, rfl, b4, w4, b4 _ _ Np hN, lb⟩)⟩
    refine ⟨_, rfl, _, rfl, p, _, rfl, w4, by omega, by omega, fun lk H5 l0 l1 b5 w5 => ?_⟩
    obtain ⟨l, rfl⟩ : ∃ l : Nat, lk = (l : Int) := ⟨lk.toNat, by omega⟩
    have ln : l < n + i := by omega
    have T5 := T3.but (b4.trans b5) w3
    obtain ⟨r, hr', hv, row⟩ := T5.get ln
    obtain ⟨as, ea, la⟩ : ∃ as : List Bool, cutV (rowV (n + i) (ff l)) none (some (l : Int)) = as.map V.bl ∧ as.length = l := by
      refine ⟨((List.range (n + i)).map (ff l)).take l, ?_, by rw [List.length_take, List.length_map, List.length_range]; omega⟩
      rw [cut_to (by rw [rowV_len]; omega), rowV_bs, List.map_take]
    obtain ⟨zs, ez, lz⟩ : ∃ zs : List Bool, cutV (rowV (n + i) (ff l)) (some ((l : Int) + 1)) none = zs.map V.bl ∧ zs.length + l + 1 = n + i := by
      refine ⟨((List.range (n + i)).map (ff l)).drop (l + 1), ?_, by rw [List.length_drop, List.length_map, List.length_range]; omega⟩
      have := cut_from (xs := rowV (n + i) (ff l)) (k := l + 1) (by rw [rowV_len]; omega)
      rw [show ((l + 1 : Nat) : Int) = (l : Int) + 1 by omega] at this
      rw [this, rowV_bs, List.map_drop]
    refine ⟨_, rfl, _, rfl, D, _, _, _, rfl, rfl, SqL.of T5.hd, atI_nat hv, _, rfl, _, rfl, r, _, rfl, SqL.of row, ?_⟩
    rw [ea]
    intro u nu
    have su := same_new nu (.lst (as.map V.bl))
    have hu := upd_same (H := H5) (a := u) (o := .lst (as.map V.bl))
    have w6 := w5.same su
    have up := w5.ne nu
    have T6 := T5.same su
    generalize upd H5 u (.lst (as.map V.bl)) = H6 at su hu w6 T6 ⊢
    refine ⟨_, rfl, p, 2, rfl, w6, by decide, by decide, fun d2 H7 _ _ b7 w7 => ?_⟩
    have T7 := T6.but b7 w6
    obtain ⟨r', hr2, hv2, row2⟩ := T7.get ln
    refine ⟨rfl, line 1 (by decide), ?_⟩
    generalize (decide (V.int d2 = V.int 0)) = bb
    intro v nv
    have sv := same_new nv (.lst [.bl bb])
    have hvv := upd_same (H := H7) (a := v) (o := .lst [.bl bb])
    generalize upd H7 v (.lst [.bl bb]) = H8 at sv hvv ⊢
    refine ⟨u, v, _, _, rfl, rfl, sv _ _ (b7 _ _ up hu), hvv, line _ (by rw [List.length_map, List.length_singleton]; omega), fun c nc => ?_⟩
    have sc := same_new nc (.lst (as.map V.bl ++ [.bl bb]))
    have hc := upd_same (H := H8) (a := c) (o := .lst (as.map V.bl ++ [.bl bb]))
    generalize upd H8 c (.lst (as.map V.bl ++ [.bl bb])) = H9 at sc hc ⊢
    have s79 := sv.trans sc
    have T9 := T7.same s79
    refine ⟨_, rfl, _, rfl, D, _, _, _, rfl, rfl, SqL.of T9.hd, atI_nat hv2, _, rfl, _, _, rfl, rfl, _, rfl, r', _, rfl, SqL.of (s79 _ _ row2), ?_⟩
    rw [ez]
    intro y ny
    have sy := same_new ny (.lst (zs.map V.bl))
    have hy := upd_same (H := H9) (a := y) (o := .lst (zs.map V.bl))
    generalize upd H9 y (.lst (zs.map V.bl)) = H10 at sy hy ⊢
    refine ⟨c, y, _, _, rfl, rfl, sy _ _ hc, hy, line _ (by rw [List.length_append, List.length_map, List.length_map, List.length_singleton]; omega), fun z nz => ?_⟩
    have sz := same_new nz (.lst ((as.map V.bl ++ [.bl bb]) ++ zs.map V.bl))
    have s710 := s79.trans (sy.trans sz)
    refine go _ _ ⟨z, as ++ [bb] ++ zs, _, _, rfl, b4.trans (b5.trans ((But.of su).trans (b7.trans (But.of s710)))), w7.same s710, ?_, by rw [List.length_append, List.length_append, List.length_singleton]; omega⟩
    rw [upd_same, List.map_append, List.map_append]
    rfl
  · rintro σ H4 ⟨W, cs, s8, s9, rfl, b4, w4, hWv, lc⟩
    have T4 := T3.but b4 w3
    refine ⟨_, rfl, ((n + i : Nat) : Int), rfl, by omega, by omega, fun R nR => lc_range (lo := 0) (n := ((n + i : Nat) : Int).toNat) (fun k H5 => Same H4 H5 ∧ ∃ qs : List Addr, qs.length = k ∧ H5 R = some (.lst (qs.map V.ref)) ∧ ∀ t r, qs[t]? = some r → r ≠ R ∧ H5 r = some (.lst (rowV (n + i) (ff t) ++ [.bl (cs.getD t false)]))) ⟨same_new nR _, [], rfl, upd_same, fun k r z => by simp at z⟩ ?_ ?_⟩
    · rintro k H5 lk ⟨s5, qs, lq, hR, hqs⟩
      rw [Int.zero_add]
      have kn : k < n + i := by omega
      have T5 := T4.same s5
      obtain ⟨r, hr', hv, row⟩ := T5.get kn
      have hc : (cs.map V.bl)[k]? = some (.bl (cs.getD k false)) := by
        rw [List.getElem?_map, List.getElem?_eq_getElem (by omega : k < cs.length), List.getD_eq_getElem?_getD, List.getElem?_eq_getElem (by omega : k < cs.length)]
        rfl
      refine ⟨rfl, ?_⟩
      refine ⟨_, rfl, _, rfl, D, _, _, _, rfl, rfl, SqL.of T5.hd, atI_nat hv, ?_⟩
      refine ⟨_, rfl, _, rfl, W, _, _, _, rfl, rfl, SqL.of (s5 _ _ hWv), atI_nat hc, line 1 (by decide), fun U nU => ?_⟩
      have sU := same_new nU (.lst [.bl (cs.getD k false)])
      refine ⟨r, U, _, _, rfl, rfl, sU _ _ row, upd_same, line _ (by rw [rowV_len, List.length_singleton]; omega), fun Z nZ => ?_⟩
      have sZ := same_new nZ (.lst (rowV (n + i) (ff k) ++ [.bl (cs.getD k false)]))
      have hR6 := sZ _ _ (sU _ _ hR)
      have ZR : Z ≠ R := fun z => by rw [z, sU _ _ hR] at nZ; cases nZ
      refine ⟨_, hR6, small1000 (by rw [List.length_map]; omega), same_put (s5.trans (sU.trans sZ)) nR, qs ++ [Z], by rw [List.length_append, lq]; rfl, by rw [upd_same, List.map_append]; rfl, fun t u ht => ?_⟩
      by_cases c : t < k
      · rw [List.getElem?_append_left (by omega)] at ht
        obtain ⟨h1, h2⟩ := hqs t u ht
        exact ⟨h1, by rw [upd_ne h1]; exact sZ _ _ (sU _ _ h2)⟩
      · have : t = k := by
          have := (List.getElem?_eq_some_iff.mp ht).1
          rw [List.length_append, List.length_singleton] at this
          omega
        subst this
        rw [List.getElem?_append_right (by omega), lq, Nat.sub_self] at ht
        cases ht
        exact ⟨ZR, by rw [upd_ne ZR]; exact upd_same⟩
    · rintro H5 ⟨s5, qs, lq, hR, hqs⟩
      rw [show ((n + i : Nat) : Int).toNat = n + i by omega] at lq
      refine ⟨_, rfl, line 1 (by decide), fun U nU => ?_⟩
      have sU := same_new nU (.lst [.bl false])
      refine ⟨W, U, _, _, rfl, rfl, sU _ _ (s5 _ _ hWv), upd_same, line _ (by rw [List.length_map, List.length_singleton]; omega), fun Z nZ => ?_⟩
      have sZ := same_new nZ (.lst (cs.map V.bl ++ [.bl false]))
      have hZ := upd_same (H := upd H5 U (.lst [.bl false])) (a := Z) (o := .lst (cs.map V.bl ++ [.bl false]))
      generalize upd (upd H5 U (.lst [.bl false])) Z (.lst (cs.map V.bl ++ [.bl false])) = H6 at sZ hZ ⊢
      refine ⟨line 1 (by decide), fun Y nY => ?_⟩
      have sY := same_new nY (.lst [.ref Z])
      have hY := upd_same (H := H6) (a := Y) (o := .lst [.ref Z])
      generalize upd H6 Y (.lst [.ref Z]) = H7 at sY hY ⊢
      have s57 := sU.trans (sZ.trans sY)
      refine ⟨R, Y, _, _, rfl, rfl, s57 _ _ hR, hY, line _ (by rw [List.length_map, List.length_singleton]; omega), fun C nC => ?_⟩
      have sC := same_new nC (.lst (qs.map V.ref ++ [.ref Z]))
      refine ⟨C, (fun a b => if a < n + i then (if b < n + i then ff a b else cs.getD a false) else (if b < n + i then cs.getD b false else false)), qs ++ [Z], _, _, _, _, _, _, rfl, b1.trans (b2.trans (b3.trans (b4.trans (But.of (s5.trans (s57.trans sC)))))), w4.same (s5.trans (s57.trans sC)), ⟨?_, by rw [List.length_append, lq]; show n + i + 1 = n + (i + 1); omega, fun t r ht => ?_⟩, fun a b ha hb => ?_⟩
      rotate_left 2
      · show (if a < n + i then if b < n + i then ff a b else cs.getD a false else if b < n + i then cs.getD b false else false) = _
        rw [if_pos (by omega), if_pos (by omega)]
        exact hf a b ha hb
      · rw [upd_same, List.map_append]
        rfl
      · rw [show n + (i + 1) = n + i + 1 by omega, rowV_succ]
        by_cases c : t < n + i
        · rw [List.getElem?_append_left (by omega)] at ht
          rw [sC _ _ (s57 _ _ (hqs t r ht).2)]
          congr 3
          · exact rowV_congr fun j hj => by simp [c, hj]
          · simp [c]
        · have : t = n + i := by
            have := (List.getElem?_eq_some_iff.mp ht).1
            rw [List.length_append, List.length_singleton] at this
            omega
          subst this
          rw [List.getElem?_append_right (by omega), lq, Nat.sub_self] at ht
          cases ht
          rw [sC _ _ (sY _ _ hZ)]
          congr 3
          · rw [rowV_bs]
            congr 1
            refine List.ext_getElem? fun j => ?_
            by_cases hj : j < n + i
            · rw [List.getElem?_map, List.getElem?_range hj, List.getElem?_eq_getElem (by omega : j < cs.length)]
              simp [hj, List.getD_eq_getElem?_getD, List.getElem?_eq_getElem (by omega : j < cs.length)]
            · rw [List.getElem?_eq_none (by omega), List.getElem?_eq_none (by rw [List.length_map, List.length_range]; omega)]
          · simp
theorem ok_more (F : L2.Fun K "_law_more" "_law_more" sMore f fd)
    (GD : FnOk P w K mg base CX0 1 fD dD ["pot", "few"] spDraw) (bD : L2.Binds K dD ["pot", "few"] []) (kD : PySem.W.keepIn K (.ref fD) = true) (mD : mg "_law_draw" = some (.ref fD))
    (GT : FnOk P w K mg base CX0 1 fT dT ["graph"] (spTable K)) (bT : L2.Binds K dT ["graph"] []) (kT : PySem.W.keepIn K (.ref fT) = true) (mT : mg "_law_table" = some (.ref fT))
    (GO : FnOk P w K mg base CX0 1 fO dO ["rows"] spOfT) (bO : L2.Binds K dO ["rows"] []) (kO : PySem.W.keepIn K (.ref fO) = true) (mO : mg "_law_of_table" = some (.ref fO))
    (mr : mg "range" = none) (ml : mg "len" = none) : FnOk P w K mg base CX0 2 f fd ["pot", "graph", "many"] (spMore K) :=
  (ok_moreE F GD bD kD mD GT bT kT mT GO bO kO mO mr ml).imp fun vs H Q E ⟨p, x, n, m, es, e, w, hx, g, nm, q⟩ => ⟨p, x, n, m, es, e, w, hx, g, nm, fun y fs H' b w' hy g' _ => q y fs H' b w' hy g'⟩
end
end My

set_option maxHeartbeats 4000000
/-! range(n) as a value; list(range(n)). -/
namespace My
open PySem PySem.Spec PyProof.Rows L2
section
variable {X : Cx}
def rRng1 : List V → Hp → VK → Prop := fun vs H Q => ∃ j : Int, vs = [V.int j] ∧ ∀ p, H p = none → Q (.ref p) (upd H p (.rng 0 j))
theorem cr_range1 : CallR X (.type "range") rRng1 := by
  intro pins s σ H vs us Q I r h
  obtain ⟨j, rfl, q⟩ := h
  obtain ⟨u1, rfl, t, rfl⟩ := vals1 r
  refine call_range_1 ⟨.ref s.heap.objs.size, upd H s.heap.objs.size (.rng 0 j), I.laid (t' := s.toks + 2) (fun b o e => Heap.get?_push_of_some _ e) (Nat.le_refl _) ?_, rfl, q _ (I.hok.fresh (Nat.le_refl _))⟩
  exact ⟨_, _, _, Heap.get?_push_size _ rfl⟩
def rListRng : List V → Hp → VK → Prop := fun vs H Q => ∃ (a : Addr) (n : Nat), vs = [V.ref a] ∧ H a = some (.rng 0 (n : Int)) ∧ n ≤ 1000 ∧ ∀ p, H p = none → Q (.ref p) (upd H p (.lst (numsN (List.range n))))
theorem call_listRng (hc : X.calm = true) : CallR X (.type "list") rListRng := by
  intro pins s σ H vs us Q I r h
  obtain ⟨a, n, rfl, ha, hn, q⟩ := h
  obtain ⟨u1, rfl, ru⟩ := vals1 r
  obtain rfl : u1 = Value.ref a := ru
  obtain ⟨t1, t2, t3, ho⟩ := I.hok a _ ha
  refine call_list_range (I.ok.hd hc) (n := n) ho (small_one (by decide) (by decide) (by omega) (by omega)) (by rw [rangeSize_one]; split <;> omega) (by omega) fun h' tk acc c' hk e' hi => ?_
  refine ⟨.ref s.heap.objs.size, upd H s.heap.objs.size (.lst (numsN (List.range n))), I.laid hk (Nat.le_refl _) (show ObjOk X.prog X.w _ _ _ (.lst (numsN (List.range n))) from ⟨?_, acc.toList, c', ?_, ?_⟩), rfl, q _ (I.hok.fresh (Nat.le_refl _))⟩
  · rw [numsN_len, List.length_range]; exact small hn
  · have la : acc.toList.length = n := by rw [Array.length_toList]; exact hi.1
    have es : numsN (List.range n) = (List.range acc.toList.length).map fun i => V.int ((i : Nat) : Int) := by
      rw [la]
      rfl
    rw [es]
    refine vals_of_get acc.toList _ fun j u hj => ?_
    obtain ⟨t, rfl⟩ := hi.2 j u (by rw [← hj, Array.getElem?_toList])
    exact ⟨t, by rw [Int.mul_one, Int.zero_add]⟩
  · rw [Array.toArray_toList]
    exact e'
end
end My

set_option maxHeartbeats 8000000
namespace My
open PySem PySem.Spec PyProof.Rows L2
abbrev sGraph : Stmt := top 45
theorem scGraph : FnScope ["pot", "most", "way", "graph"] ["pot", "most"] (defScope sGraph) := ⟨rfl, rfl, rfl, by decide +kernel, rfl, by decide +kernel, by decide +kernel⟩
def spGraph : Sp := fun vs H Q _ => ∃ (p : Addr) (most : Nat), vs = [.ref p, .int (most : Int)] ∧ Wl H p ∧ 7 ≤ most ∧ most ≤ 9 ∧ ∀ y n es H', But p H H' → Wl H' p → n ≤ most → GraphT H' y n es → Good n es → Q y H'
theorem good_nil : Good 0 [] := ⟨by decide, (fun p hp => nomatch hp), List.Pairwise.nil⟩
theorem perm_numsN {ys : List V} {l : List Nat} (h : ys.Perm (numsN l)) : ∃ zs, ys = numsN zs ∧ zs.Perm l := by
  let g : V → Nat := fun v => match v with | .int i => i.toNat | _ => 0
  have e : ∀ m : List Nat, (numsN m).map g = m := fun m => by
    unfold numsN
    rw [List.map_map]
    exact List.map_id'' (fun k => by show ((k : Nat) : Int).toNat = k; omega) m
  refine ⟨ys.map g, ?_, ?_⟩
  · unfold numsN
    rw [List.map_map]
    refine Eq.symm (Eq.trans (List.map_congr_left fun v hv => ?_) (List.map_id ys))
    obtain ⟨k, _, rfl⟩ := List.mem_map.mp (h.mem_iff.mp hv)
    show V.int (((k : Nat) : Int).toNat : Int) = V.int (k : Int)
    rw [Int.toNat_natCast]
  · have := h.map g
    rw [e] at this
    exact this
section
variable {P : Program} {w : World} {K : PySem.W.Frag} {mg : Str → Option Value} {base : Heap} {f fD fM fR fX fF fW : Addr} {fd dD dM dR dX dF dW : FuncData}
theorem ok_graph (F : L2.Fun K "_law_graph" "_law_graph" sGraph f fd)
    (GD : FnOk P w K mg base CX0 1 fD dD ["pot", "few"] spDraw) (bD : L2.Binds K dD ["pot", "few"] []) (kD : PySem.W.keepIn K (.ref fD) = true) (mD : mg "_law_draw" = some (.ref fD))
    (GM : FnOk P w K mg base CX0 2 fM dM ["pot", "graph", "many"] (spMore K)) (bM : L2.Binds K dM ["pot", "graph", "many"] []) (kM : PySem.W.keepIn K (.ref fM) = true) (mM : mg "_law_more" = some (.ref fM))
    (GR : FnOk P w K mg base CX0 1 fR dR ["many"] spRing) (bR : L2.Binds K dR ["many"] []) (kR : PySem.W.keepIn K (.ref fR) = true) (mR : mg "_law_ring" = some (.ref fR))
    (GX : FnOk P w K mg base CX0 2 fX dX ["pot", "some"] (spMixed K)) (bX : L2.Binds K dX ["pot", "some"] []) (kX : PySem.W.keepIn K (.ref fX) = true) (mX : mg "_law_mixed" = some (.ref fX))
    (GF : FnOk P w K mg base CX0 2 fF dF ["graph"] (spFlip K)) (bF : L2.Binds K dF ["graph"] []) (kF : PySem.W.keepIn K (.ref fF) = true) (mF : mg "_law_flipped" = some (.ref fF))
    (GW : FnOk P w K mg base CX0 2 fW dW ["graph", "some"] (spWithin K)) (bW : L2.Binds K dW ["graph", "some"] []) (kW : PySem.W.keepIn K (.ref fW) = true) (mW : mg "_law_within" = some (.ref fW))
    (mr : mg "range" = none) (mli : mg "list" = none) : FnOk P w K mg base CX0 3 f fd ["pot", "most"] spGraph := by
  refine F.ok scGraph (fun vs H Q E h => ?_) (fun cdv A outer s H vs Q E hr h => ?_)
  · obtain ⟨p, most, rfl, _⟩ := h
    rfl
  obtain ⟨p, most, rfl, hW, m7, m9, q⟩ := h
  have h1 := hr.mono (show 1 ≤ 2 by decide)
  refine ⟨_, pss_cons (ps_set (i := 2) scGraph.nd rfl (.inl rfl) (pe_call GD h1 (by rfl) mD kD bD .nil pass0 (pa_cons (pv 0) (pa_cons pe_int pa_nil))))
    (pss_cons (ps_if (pt_cmpR op_lt (pv 2) pe_int (nomark _))
        (pss_one (ps_set (i := 3) scGraph.nd rfl (.inl rfl) (pe_call GM hr (by rfl) mM kM bM .nil pass0 (pa_cons (pv 0) (pa_cons (pe_tup (pa_cons pe_int (pa_cons (pe_tup pa_nil) pa_nil))) (pa_cons (pe_op op_add (pe_call GD h1 (by rfl) mD kD bD .nil pass0 (pa_cons (pv 0) (pa_cons (pv 1) pa_nil))) (pe_ifExp (pt_cmpR op_gt (pe_call GD h1 (by rfl) mD kD bD .nil pass0 (pa_cons (pv 0) (pa_cons pe_int pa_nil))) pe_int (nomark _)) pe_int pe_int)) pa_nil))))))
        (pss_one (ps_if (pt_cmpR op_lt (pv 2) pe_int (nomark _))
          (pss_one (ps_set (i := 3) scGraph.nd rfl (.inl rfl) (pe_call GM hr (by rfl) mM kM bM .nil pass0 (pa_cons (pv 0) (pa_cons (pe_call GR h1 (by rfl) mR kR bR .nil pass0 (pa_cons pe_int pa_nil)) (pa_cons (pe_call GD h1 (by rfl) mD kD bD .nil pass0 (pa_cons (pv 0) (pa_cons (pe_op op_sub (pv 1) pe_int) pa_nil))) pa_nil))))))
          (pss_one (ps_set (i := 3) scGraph.nd rfl (.inl rfl) (pe_call GM hr (by rfl) mM kM bM .nil pass0 (pa_cons (pv 0) (pa_cons (pe_call GR h1 (by rfl) mR kR bR .nil pass0 (pa_cons pe_int pa_nil)) (pa_cons (pe_call GD h1 (by rfl) mD kD bD .nil pass0 (pa_cons (pv 0) (pa_cons (pe_op op_sub (pv 1) pe_int) pa_nil))) pa_nil)))))))))
    (pss_cons (ps_set (i := 3) scGraph.nd rfl (.inl rfl) (pe_ifExp (pt_cmpR op_eq (pe_call GD h1 (by rfl) mD kD bD .nil pass0 (pa_cons (pv 0) (pa_cons pe_int pa_nil))) pe_int (nomark _)) (pe_call GF hr (by rfl) mF kF bF .nil pass0 (pa_cons (pv 3) pa_nil)) (pv 3)))
    (pss_one (ps_ret (pe_call GW hr (by rfl) mW kW bW .nil pass0 (pa_cons (pv 3) (pa_cons (pe_call GX hr (by rfl) mX kX bX .nil pass0 (pa_cons (pv 0) (pa_cons (pe_callTy (call_listRng rfl) (by rfl) mli (by decide +kernel) (pa_cons (pe_callTy cr_range1 (by rfl) mr (by decide +kernel) (pa_cons (pe_ix (r := rIxT K) ix_tup (pv 3) pe_int (fun _ _ => rfl)) pa_nil)) pa_nil)) pa_nil))) pa_nil))))))), ?_⟩
  have line : ∀ k, k ≤ 1000 → k ≤ sizeLine := fun k hk => small hk
  refine ⟨_, rfl, p, 9, rfl, hW, by decide, by decide, fun way H1 _ _ b1 w1 => ?_⟩
  refine' joinT (R := fun σ H' => ∃ (y : V) (n : Nat) (es : List E2), σ = [some (.ref p), some (.int (most : Int)), some (.int way), some y] ∧ But p H H' ∧ Wl H' p ∧ n ≤ most ∧ GraphT H' y n es ∧ Good n es) (fun go => ?_) ?_
  rotate_left 1
  · refine ⟨_, rfl, _, _, rfl, rfl, _, rfl, iteB (fun _ => ?_) (fun _ => ?_)⟩
    · refine ⟨_, rfl, line 0 (by decide), fun e ne => ?_⟩
      have se := same_new ne (.tup [])
      have he := upd_same (H := H1) (a := e) (o := .tup [])
      generalize upd H1 e (.tup []) = H2 at se he ⊢
      refine ⟨line 2 (by decide), fun t nt => ?_⟩
      have st := same_new nt (.tup [.int 0, .ref e])
      have ht := upd_same (H := H2) (a := t) (o := .tup [.int 0, .ref e])
      have hx : GraphT (upd H2 t (.tup [.int 0, .ref e])) (.ref t) 0 [] := ⟨t, e, [], rfl, ht, st _ _ he, .nil⟩
      have w3 := w1.same (se.trans st)
      have b3 : But p H1 (upd H2 t (.tup [.int 0, .ref e])) := But.of (se.trans st)
      generalize upd H2 t (.tup [.int 0, .ref e]) = H3 at hx w3 b3 ⊢
      refine ⟨_, rfl, _, rfl, p, most, rfl, w3, by omega, by omega, fun d H4 d0 d1 b4 w4 => ?_⟩
      refine ⟨_, rfl, p, 8, rfl, w4, by decide, by decide, fun d8 H5 _ _ b5 w5 => ?_⟩
      obtain ⟨dn, rfl⟩ : ∃ dn : Nat, d = (dn : Int) := ⟨d.toNat, by omega⟩
      have hx5 := (hx.but b4 w3).but b5 w4
      refine ⟨_, _, rfl, rfl, _, rfl, iteB (fun _ => ?_) (fun _ => ?_)⟩
      · exact ⟨_, _, rfl, rfl, p, .ref t, 0, dn + 1, [], rfl, w5, hx5.at, good_nil, by omega, fun y fs H6 b6 w6 hy gy => go _ _ ⟨y, 0 + (dn + 1), fs, rfl, b1.trans (b3.trans (b4.trans (b5.trans b6))), w6, by omega, hy, gy⟩⟩
      · exact ⟨_, _, rfl, rfl, p, .ref t, 0, dn + 0, [], rfl, w5, hx5.at, good_nil, by omega, fun y fs H6 b6 w6 hy gy => go _ _ ⟨y, 0 + (dn + 0), fs, rfl, b1.trans (b3.trans (b4.trans (b5.trans b6))), w6, by omega, hy, gy⟩⟩
    refine ⟨_, rfl, _, _, rfl, rfl, _, rfl, iteB (fun _ => ?_) (fun _ => ?_)⟩
    · refine ⟨_, rfl, 5, rfl, by decide, by decide, fun x es H2 s2 hx g => ?_⟩
      have w2 := w1.same s2
      refine ⟨_, rfl, _, rfl, _, _, rfl, rfl, p, _, rfl, w2, by omega, by omega, fun d H4 d0 d1 b4 w4 => ?_⟩
      obtain ⟨dn, rfl⟩ : ∃ dn : Nat, d = (dn : Int) := ⟨d.toNat, by omega⟩
      exact ⟨p, x, 5, dn, es, rfl, w4, (hx.but b4 w2).at, g, by omega, fun y fs H6 b6 w6 hy gy => go _ _ ⟨y, 5 + dn, fs, rfl, b1.trans ((But.of s2).trans (b4.trans b6)), w6, by omega, hy, gy⟩⟩
    · refine ⟨_, rfl, 7, rfl, by decide, by decide, fun x es H2 s2 hx g => ?_⟩
      have w2 := w1.same s2
      refine ⟨_, rfl, _, rfl, _, _, rfl, rfl, p, _, rfl, w2, by omega, by omega, fun d H4 d0 d1 b4 w4 => ?_⟩
      obtain ⟨dn, rfl⟩ : ∃ dn : Nat, d = (dn : Int) := ⟨d.toNat, by omega⟩
      exact ⟨p, x, 7, dn, es, rfl, w4, (hx.but b4 w2).at, g, by omega, fun y fs H6 b6 w6 hy gy => go _ _ ⟨y, 7 + dn, fs, rfl, b1.trans ((But.of s2).trans (b4.trans b6)), w6, by omega, hy, gy⟩⟩
  rintro _ H2 ⟨x, n, es, rfl, b2, w2, nm, hx, g⟩
  refine' joinS (i := 3) (R := fun v H' => ∃ (n : Nat) (es : List E2), But p H H' ∧ Wl H' p ∧ n ≤ most ∧ GraphT H' v n es ∧ Good n es) (fun go => ?_) ?_
  rotate_left 2
  · refine ⟨_, rfl, p, 3, rfl, w2, by decide, by decide, fun d H3 _ _ b3 w3 => ?_⟩
    have hx3 := hx.but b3 w2
    refine ⟨rfl, _, rfl, iteB (fun _ => ?_) (fun _ => ⟨_, rfl, go _ _ ⟨n, es, b2.trans b3, w3, nm, hx3, g⟩⟩)⟩
    exact ⟨_, rfl, x, n, es, rfl, hx3.at, g, fun y H4 s4 hy => go _ _ ⟨n, _, b2.trans (b3.trans (But.of s4)), w3.same s4, nm, hy, tab_good g.n9 _⟩⟩
  rintro y H3 ⟨n, es, b3, w3, nm, hy, g⟩
  obtain ⟨t, e, xs, rfl, ht, he, hes⟩ := hy
  refine ⟨_, rfl, _, rfl, _, rfl, t, _, 0, _, rfl, rfl, SqT.of ht, rfl, ?_⟩
  refine ⟨_, rfl, fun r nr => ?_⟩
  have sr := same_new nr (.rng 0 (n : Int))
  refine ⟨r, n, rfl, upd_same, by have := g.n9; omega, fun l nl => ?_⟩
  have sl := same_new nl (.lst (numsN (List.range n)))
  have w4 := w3.same (sr.trans sl)
  refine ⟨p, l, _, rfl, w4, .inl (SqL.of upd_same), by rw [numsN_len, List.length_range]; have := g.n9; omega, fun L ys H4 pm hL Lp b4 w5 => ?_⟩
  obtain ⟨zs, rfl, pz⟩ := perm_numsN pm
  have hy4 : GraphT H4 (.ref t) n es := GraphT.but b4 w4 (GraphT.same (sr.trans sl) ⟨t, e, xs, rfl, ht, he, hes⟩)
  have lz : zs.length = n := by rw [pz.length_eq, List.length_range]
  refine ⟨.ref t, n, es, L, zs, rfl, hy4.at, g, hL, fun k hk => List.mem_range.mp (pz.mem_iff.mp hk), by have := g.n9; omega, fun y H5 s5 hy5 => ?_⟩
  rw [lz] at hy5
  exact q y n _ H5 (b3.trans ((But.of (sr.trans sl)).trans (b4.trans (But.of s5)))) (w5.same s5) nm hy5 (tab_good g.n9 _)
end
end My

set_option maxHeartbeats 4000000
/-! Bipartite multigraphs, in plain Lean and in the heap. -/
namespace My
open PySem PySem.Spec PyProof.Rows L2
structure MulG (l r : Nat) (es : List E2) : Prop where
  l9 : l ≤ 9
  r9 : r ≤ 9
  lt : ∀ p ∈ es, p.1 < l ∧ p.2 < r
  up : es.Pairwise fun a b => ¬ ahead b a
def MulAt (K : PySem.W.Frag) (H : Hp) (x : V) (l r : Nat) (es : List E2) : Prop := ∃ (t e : Addr) (xs : List V), x = .ref t ∧ SqT K H t [.int (l : Int), .int (r : Int), .ref e] ∧ SqT K H e xs ∧ PairsAt K H xs es
def MulT (H : Hp) (x : V) (l r : Nat) (es : List E2) : Prop := ∃ (t e : Addr) (xs : List V), x = .ref t ∧ H t = some (.tup [.int (l : Int), .int (r : Int), .ref e]) ∧ H e = some (.tup xs) ∧ PairsT H xs es
theorem MulT.at {K : PySem.W.Frag} {H : Hp} {x : V} {l r : Nat} {es : List E2} (h : MulT H x l r es) : MulAt K H x l r es := by
  obtain ⟨t, e, xs, h1, h2, h3, h4⟩ := h
  exact ⟨t, e, xs, h1, SqT.of h2, SqT.of h3, h4.at⟩
theorem MulAt.ts {K : PySem.W.Frag} {H H' : Hp} (s : TS H H') {x : V} {l r : Nat} {es : List E2} (h : MulAt K H x l r es) : MulAt K H' x l r es := by
  obtain ⟨t, e, xs, h1, h2, h3, h4⟩ := h
  exact ⟨t, e, xs, h1, s.tup h2, s.tup h3, h4.ts s⟩
theorem MulAt.same {K : PySem.W.Frag} {H H' : Hp} (s : Same H H') {x : V} {l r : Nat} {es : List E2} (h : MulAt K H x l r es) : MulAt K H' x l r es := h.ts (TS.of s)
theorem MulT.but {p : Addr} {H H' : Hp} (b : But p H H') (w : Wl H p) {x : V} {l r : Nat} {es : List E2} (h : MulT H x l r es) : MulT H' x l r es := by
  obtain ⟨t, e, xs, h1, h2, h3, h4⟩ := h
  exact ⟨t, e, xs, h1, b _ _ (wl_tup w h2) h2, b _ _ (wl_tup w h3) h3, h4.but b w⟩
theorem MulT.same {H H' : Hp} (s : Same H H') {x : V} {l r : Nat} {es : List E2} (h : MulT H x l r es) : MulT H' x l r es := by
  obtain ⟨t, e, xs, h1, h2, h3, h4⟩ := h
  exact ⟨t, e, xs, h1, s _ _ h2, s _ _ h3, h4.same s⟩
/-! ### what is a multigraph -/
def intS : Sh → Int
  | .int i => i
  | _ => 0
def mulS (l r : Nat) (es : List E2) : Sh := .tup [.int (l : Int), .int (r : Int), .tup (es.map pairS)]
def leS : Sh → Sh → Bool
  | .tup [.int a, .int b], .tup [.int c, .int d] => if a = c then (if b = d then true else decide (b ≤ d)) else decide (a ≤ c)
  | _, _ => false
def nevB : List Sh → Bool
  | s :: t :: r => leS s t && nevB (t :: r)
  | _ => true
def edgeM (l r : Int) : Sh → Bool
  | .tup [a, b] => wholeR 0 (l - 1) a && wholeR 0 (r - 1) b
  | _ => false
def isMul : Sh → Bool
  | .tup [a, b, .tup es] => (wholeR 0 9 a && wholeR 0 9 b) && (decide (es.length ≤ 9) && (es.all (edgeM (intS a) (intS b)) && nevB es))
  | _ => false
theorem MulAt.sh {K : PySem.W.Frag} {H : Hp} {x : V} {l r : Nat} {es : List E2} (h : MulAt K H x l r es) : ShAt K H x (mulS l r es) := by
  obtain ⟨t, e, xs, rfl, h2, h3, h4⟩ := h
  exact .tup h2 (.cons (.int _) (.cons (.int _) (.cons (.tup h3 h4.sh) .nil)))
theorem sh_mul {K : PySem.W.Frag} {H : Hp} {x : V} {l r : Nat} {es : List E2} (h : ShAt K H x (mulS l r es)) : MulAt K H x l r es := by
  cases h with
  | tup ht r =>
    cases r with
    | cons a r =>
      cases r with
      | cons b r =>
        cases r with
        | cons c r =>
          cases r
          cases a
          cases b
          cases c with
          | tup he re => exact ⟨_, _, _, rfl, ht, he, sh_pairs re⟩
theorem leS_pair (p q : E2) : leS (pairS p) (pairS q) = true ↔ ¬ ahead q p := by
  show (if (p.1 : Int) = (q.1 : Int) then (if (p.2 : Int) = (q.2 : Int) then true else decide ((p.2 : Int) ≤ (q.2 : Int))) else decide ((p.1 : Int) ≤ (q.1 : Int))) = true ↔ _
  unfold ahead
  split
  · split
    · simp; omega
    · rw [decide_eq_true_eq]; omega
  · rw [decide_eq_true_eq]; omega
theorem nev_pairs : ∀ ps : List E2, nevB (ps.map pairS) = true ↔ ps.Pairwise fun a b => ¬ ahead b a
  | [] => ⟨fun _ => .nil, fun _ => rfl⟩
  | [p] => ⟨fun _ => List.pairwise_singleton _ _, fun _ => rfl⟩
  | p :: q :: r => by
    have ih := nev_pairs (q :: r)
    show (leS (pairS p) (pairS q) && nevB ((q :: r).map pairS)) = true ↔ _
    rw [Bool.and_eq_true, leS_pair, ih, List.pairwise_cons (a := p)]
    constructor
    · rintro ⟨h1, h2⟩
      refine ⟨fun z hz => ?_, h2⟩
      rcases List.mem_cons.mp hz with rfl | hz
      · exact h1
      · have h3 := (List.pairwise_cons.mp h2).1 z hz
        unfold ahead at h1 h3 ⊢
        omega
    · rintro ⟨h1, h2⟩
      exact ⟨h1 q (List.mem_cons_self ..), h2⟩
theorem edgeM_pair {l r : Int} {s : Sh} (h : edgeM l r s = true) : ∃ p : E2, s = pairS p ∧ (p.1 : Int) < l ∧ (p.2 : Int) < r := by
  unfold edgeM at h
  split at h
  · rename_i a b
    rw [Bool.and_eq_true] at h
    obtain ⟨h1, h2⟩ := h
    cases a with
    | int i =>
      cases b with
      | int j =>
        have h1' : (decide (i ≥ 0) && decide (i ≤ l - 1)) = true := h1
        have h2' : (decide (j ≥ 0) && decide (j ≤ r - 1)) = true := h2
        simp at h1' h2'
        refine ⟨(i.toNat, j.toNat), ?_, ?_, ?_⟩
        · show Sh.tup [.int i, .int j] = .tup [.int ((i.toNat : Nat) : Int), .int ((j.toNat : Nat) : Int)]
          rw [show ((i.toNat : Nat) : Int) = i by omega, show ((j.toNat : Nat) : Int) = j by omega]
        · show ((i.toNat : Nat) : Int) < l
          omega
        · show ((j.toNat : Nat) : Int) < r
          omega
      | _ => cases h2
    | _ => cases h1
  · cases h
theorem edgesM_pairs {l r : Int} : ∀ {es : List Sh}, es.all (edgeM l r) = true → ∃ ps : List E2, es = ps.map pairS ∧ ∀ p ∈ ps, (p.1 : Int) < l ∧ (p.2 : Int) < r
  | [], _ => ⟨[], rfl, fun _ z => nomatch z⟩
  | s :: es, h => by
    rw [List.all_cons, Bool.and_eq_true] at h
    obtain ⟨p, e, lt⟩ := edgeM_pair h.1
    obtain ⟨ps, e2, lts⟩ := edgesM_pairs h.2
    refine ⟨p :: ps, by rw [e, e2]; rfl, fun q hq => ?_⟩
    rcases List.mem_cons.mp hq with rfl | hq
    · exact lt
    · exact lts q hq
theorem whole9 {s : Sh} (h : wholeR 0 9 s = true) : ∃ n : Nat, s = .int (n : Int) ∧ n ≤ 9 := by
  cases s with
  | int i =>
    have h' : (decide (i ≥ 0) && decide (i ≤ 9)) = true := h
    simp at h'
    refine ⟨i.toNat, by rw [show ((i.toNat : Nat) : Int) = i by omega], by omega⟩
  | _ => cases h
theorem isMul_spec {s : Sh} (h : isMul s = true) : ∃ l r es, s = mulS l r es ∧ MulG l r es ∧ es.length ≤ 9 := by
  unfold isMul at h
  split at h
  · rename_i a b es
    rw [Bool.and_eq_true, Bool.and_eq_true, Bool.and_eq_true, Bool.and_eq_true, decide_eq_true_eq] at h
    obtain ⟨⟨h1, h2⟩, h3, h4, h5⟩ := h
    obtain ⟨l, rfl, l9⟩ := whole9 h1
    obtain ⟨r, rfl, r9⟩ := whole9 h2
    obtain ⟨ps, rfl, lt⟩ := edgesM_pairs h4
    have lt' : ∀ p ∈ ps, (p.1 : Int) < (l : Int) ∧ (p.2 : Int) < (r : Int) := lt
    exact ⟨l, r, ps, rfl, ⟨l9, r9, fun p hp => by have := lt' p hp; omega, (nev_pairs ps).mp h5⟩, by rw [List.length_map] at h3; exact h3⟩
  · cases h
theorem isMul_good {l r : Nat} {es : List E2} (g : MulG l r es) (e9 : es.length ≤ 9) : isMul (mulS l r es) = true := by
  have l9 := g.l9
  have r9 := g.r9
  show ((wholeR 0 9 (.int (l : Int)) && wholeR 0 9 (.int (r : Int))) && (decide ((es.map pairS).length ≤ 9) && ((es.map pairS).all (edgeM (l : Int) (r : Int)) && nevB (es.map pairS)))) = true
  have w : ∀ n : Nat, n ≤ 9 → wholeR 0 9 (.int (n : Int)) = true := fun n h => by
    show (decide ((n : Int) ≥ 0) && decide ((n : Int) ≤ 9)) = true
    simp
    omega
  rw [w l l9, w r r9, (nev_pairs es).mpr g.up, decide_eq_true (by rw [List.length_map]; exact e9)]
  simp only [Bool.and_true, Bool.true_and]
  rw [List.all_eq_true]
  intro s hs
  obtain ⟨p, hp, rfl⟩ := List.mem_map.mp hs
  obtain ⟨a, b⟩ := g.lt p hp
  show ((decide ((p.1 : Int) ≥ 0) && decide ((p.1 : Int) ≤ (l : Int) - 1)) && (decide ((p.2 : Int) ≥ 0) && decide ((p.2 : Int) ≤ (r : Int) - 1))) = true
  simp
  omega
/-! ### edges at a vertex, degrees, the line graph -/
def sd (i : Nat) (p : E2) : Nat := if i = 0 then p.1 else p.2
def eAt (es : List E2) (k : Nat) : E2 := es.getD k (0, 0)
theorem eAt_get {es : List E2} {k : Nat} (h : k < es.length) : es[k]? = some (eAt es k) := by
  unfold eAt
  rw [List.getD_eq_getElem?_getD, List.getElem?_eq_getElem h]
  rfl
def atL (es : List E2) (i v : Nat) : List Nat := (List.range es.length).filter fun k => sd i (eAt es k) == v
def degL (l r : Nat) (es : List E2) : List Nat := [0] ++ (List.range l).map (fun v => (atL es 0 v).length) ++ (List.range r).map fun v => (atL es 1 v).length
def meetB (es : List E2) (u v : Nat) : Bool := (eAt es u).1 == (eAt es v).1 || (eAt es u).2 == (eAt es v).2
def lineP (es : List E2) : List E2 := (allP es.length).filter fun p => meetB es p.1 p.2
theorem atL_few (es : List E2) (i v : Nat) : (atL es i v).length ≤ es.length := by
  unfold atL
  refine Nat.le_trans (List.length_filter_le _ _) ?_
  rw [List.length_range]
  exact Nat.le_refl _
theorem degL_few {l r : Nat} {es : List E2} : ∀ d ∈ degL l r es, d ≤ es.length := fun d hd => by
  unfold degL at hd
  rcases List.mem_append.mp hd with hd | hd
  · rcases List.mem_append.mp hd with hd | hd
    · rw [List.mem_singleton.mp hd]; exact Nat.zero_le _
    · obtain ⟨v, _, rfl⟩ := List.mem_map.mp hd
      exact atL_few es 0 v
  · obtain ⟨v, _, rfl⟩ := List.mem_map.mp hd
    exact atL_few es 1 v
def IsMax (ns : List Nat) (m : Nat) : Prop := m ∈ ns ∧ ∀ y ∈ ns, y ≤ m
theorem IsMax.uniq {ns : List Nat} {m m' : Nat} (h : IsMax ns m) (h' : IsMax ns m') : m = m' := Nat.le_antisymm (h'.2 _ h.1) (h.2 _ h'.1)
theorem line_good {es : List E2} (h : es.length ≤ 9) : Good es.length (lineP es) := by
  refine ⟨h, fun p hp => mem_allP.mp (List.mem_filter.mp hp).1, (allP_up es.length h).filter _⟩
theorem mem_lineP {es : List E2} {u v : Nat} : (u, v) ∈ lineP es ↔ u < v ∧ v < es.length ∧ meetB es u v = true := by
  unfold lineP
  rw [List.mem_filter, mem_allP]
  exact and_assoc
end My

set_option maxHeartbeats 4000000
/-! Orientations: lists of pairs of numbers of any kind. -/
namespace My
open PySem PySem.Spec PyProof.Rows L2
abbrev Z2 := Int × Int
def zS (p : Z2) : Sh := .tup [.int p.1, .int p.2]
def zE (p : E2) : Z2 := ((p.1 : Int), (p.2 : Int))
def zw (p : Z2) : Z2 := (p.2, p.1)
def zD (p : Z2) : PyData := .tuple [.int p.1, .int p.2]
/-- s is an orientation of es -/
def Ori (es : List E2) (s : Sh) : Prop := ∃ ps : List Z2, s = .tup (ps.map zS) ∧ ascB (ps.map zS) = true ∧ (∀ p ∈ ps, p ∈ es.map zE ∨ zw p ∈ es.map zE) ∧ ∀ e ∈ es.map zE, e ∈ ps ∨ zw e ∈ ps
open Classical in
noncomputable def oriB (es : List E2) (s : Sh) : Bool := decide (Ori es s)
theorem ori_yes {es : List E2} {s : Sh} (h : Ori es s) : oriB es s = true := @decide_eq_true _ (Classical.propDecidable _) h
theorem ori_no {es : List E2} {s : Sh} (h : ¬ Ori es s) : oriB es s = false := @decide_eq_false _ (Classical.propDecidable _) h
theorem zS_inj {p q : Z2} (h : zS p = zS q) : p = q := by
  unfold zS at h
  injection h with h
  injection h with h1 h
  injection h with h2 _
  injection h1 with h1
  injection h2 with h2
  exact Prod.ext h1 h2
theorem zSs_inj : ∀ {ps qs : List Z2}, ps.map zS = qs.map zS → ps = qs
  | [], [], _ => rfl
  | [], _ :: _, h => by cases h
  | _ :: _, [], h => by cases h
  | p :: ps, q :: qs, h => by
    rw [List.map_cons, List.map_cons] at h
    injection h with h1 h2
    rw [zS_inj h1, zSs_inj h2]
theorem ori_iff {es : List E2} {ps : List Z2} : Ori es (.tup (ps.map zS)) ↔ ascB (ps.map zS) = true ∧ (∀ p ∈ ps, p ∈ es.map zE ∨ zw p ∈ es.map zE) ∧ ∀ e ∈ es.map zE, e ∈ ps ∨ zw e ∈ ps := by
  constructor
  · rintro ⟨qs, e, h⟩
    injection e with e
    rw [zSs_inj e]
    exact h
  · exact fun h => ⟨ps, rfl, h⟩
def isZ : Sh → Bool
  | .tup [.int _, .int _] => true
  | _ => false
theorem isZ_of {s : Sh} (h : isZ s = true) : ∃ p, s = zS p := by
  unfold isZ at h
  split at h
  · exact ⟨(_, _), rfl⟩
  · cases h
theorem isZs : ∀ {ss : List Sh}, ss.all isZ = true → ∃ ps : List Z2, ss = ps.map zS
  | [], _ => ⟨[], rfl⟩
  | s :: ss, h => by
    rw [List.all_cons, Bool.and_eq_true] at h
    obtain ⟨p, rfl⟩ := isZ_of h.1
    obtain ⟨ps, rfl⟩ := isZs h.2
    exact ⟨p :: ps, rfl⟩
theorem isZ_zS (p : Z2) : isZ (zS p) = true := rfl
theorem all_isZ (ps : List Z2) : (ps.map zS).all isZ = true := by
  rw [List.all_eq_true]
  intro s hs
  obtain ⟨p, _, rfl⟩ := List.mem_map.mp hs
  rfl
theorem ori_not {es : List E2} {ss : List Sh} (h : ss.all isZ = false) : ¬ Ori es (.tup ss) := by
  rintro ⟨ps, e, _⟩
  injection e with e
  rw [e, all_isZ] at h
  cases h
theorem zS_at {K : PySem.W.Frag} {H : Hp} {x : V} {p : Z2} (h : ShAt K H x (zS p)) : ∃ t, x = .ref t ∧ SqT K H t [.int p.1, .int p.2] := by
  cases h with
  | tup h r =>
    cases r with
    | cons a r =>
      cases r with
      | cons b r =>
        cases r
        cases a
        cases b
        exact ⟨_, rfl, h⟩
theorem at_zS {K : PySem.W.Frag} {H : Hp} {t : Addr} {p : Z2} (h : SqT K H t [.int p.1, .int p.2]) : ShAt K H (.ref t) (zS p) := .tup h (.cons (.int _) (.cons (.int _) .nil))
theorem zS_dp {K : PySem.W.Frag} {H : Hp} {x : V} {p : Z2} (h : ShAt K H x (zS p)) : Dp K H x (zD p) := by
  obtain ⟨t, rfl, ht⟩ := zS_at h
  exact .tup ht (.cons (.int _) (.cons (.int _) .nil))
theorem zSs_dp {K : PySem.W.Frag} {H : Hp} : ∀ {xs : List V} {ps : List Z2}, ShsAt K H xs (ps.map zS) → DpAll K H xs (ps.map zD)
  | [], [], _ => .nil
  | _ :: _, [], h => by cases h
  | [], _ :: _, h => by cases h
  | x :: xs, p :: ps, h => by
    rw [List.map_cons] at h
    cases h with
    | cons a r => exact .cons (zS_dp a) (zSs_dp r)
theorem zSs_get {K : PySem.W.Frag} {H : Hp} {xs : List V} {ps : List Z2} (h : ShsAt K H xs (ps.map zS)) {i : Nat} {x : V} (hx : xs[i]? = some x) : ∃ p t, ps[i]? = some p ∧ x = .ref t ∧ SqT K H t [.int p.1, .int p.2] := by
  obtain ⟨s, h1, h2⟩ := h.get hx
  rw [List.getElem?_map] at h1
  cases e : ps[i]? with
  | none => rw [e] at h1; cases h1
  | some p =>
    rw [e] at h1
    cases h1
    obtain ⟨t, h3, h4⟩ := zS_at h2
    exact ⟨p, t, rfl, h3, h4⟩
theorem zD_eqv (p q : Z2) : PyData.eqv (zD p) (zD q) = decide (p = q) := by
  obtain ⟨a, b⟩ := p
  obtain ⟨c, d⟩ := q
  simp only [zD, PyData.eqv, PyData.eqvAll, Bool.and_true]
  by_cases h1 : a = c
  · subst h1
    by_cases h2 : b = d
    · subst h2
      simp
    · have z : (b == d) = false := beq_eq_false_iff_ne.mpr h2
      simp [z, h2]
  · have z : (a == c) = false := beq_eq_false_iff_ne.mpr h1
    simp [z, h1]
theorem any_zs (p : Z2) : ∀ es : List Z2, ((es.map zD).any fun z => PyData.eqv z (zD p)) = decide (p ∈ es)
  | [] => rfl
  | q :: es => by
    rw [List.map_cons, List.any_cons, any_zs p es, zD_eqv]
    by_cases h : q = p
    · subst h
      simp
    · have h' : p ≠ q := fun e => h e.symm
      simp [h, h']
theorem zD_depth (p : Z2) : (zD p).depth ≤ 3 := by simp [zD, PyData.depth, PyData.depthAll]
theorem zDs_depth : ∀ es : List Z2, PyData.depthAll (es.map zD) ≤ 3
  | [] => by simp [PyData.depthAll]
  | q :: es => by
    have h1 := zD_depth q
    have h2 := zDs_depth es
    simp only [List.map_cons, PyData.depthAll]
    omega
theorem zD_lay (p : Z2) : (zD p).canLay0 = true := by simp [zD, PyData.canLay0, PyData.canLayAll0]
theorem zDs_lay : ∀ es : List Z2, PyData.canLayAll0 (es.map zD) = true
  | [] => by simp [PyData.canLayAll0]
  | q :: es => by simp [PyData.canLayAll0, zD_lay q, zDs_lay es]
theorem pairs_zs {K : PySem.W.Frag} {H : Hp} {xs : List V} {es : List E2} (h : PairsAt K H xs es) : ShsAt K H xs ((es.map zE).map zS) := by
  have := h.sh
  rw [List.map_map]
  exact this
section
variable {X : Cx}
def rInZ (K : PySem.W.Frag) : R2 := fun x y H Q => ∃ (p : Z2) (t : Addr) (xs : List V) (es : List Z2), ShAt K H x (zS p) ∧ y = .ref t ∧ SqT K H t xs ∧ ShsAt K H xs (es.map zS) ∧ Q (.bl (decide (p ∈ es))) H
theorem op_inZ (hu : X.A.units + 64 < cLine) : OpR X (compareOp .In) (rInZ X.K) := by
  rintro pins s σ H x y v u Q I rx ry ⟨p, t, xs, es, hp, rfl, ht, hes, q⟩
  obtain ⟨as, r1⟩ := Dp.reads I _ x v (zS_dp hp) rx
  obtain ⟨bs, r2⟩ := Dp.reads I (.tuple (es.map zD)) (.ref t) u (.tup ht (zSs_dp hes)) ry
  refine SeqAt.in_tuple_reads r2 r1 (zDs_lay es) (zD_lay p) ?_ ?_
  · have := zD_depth p
    have := Nat.min_le_right (PyData.depthAll (es.map zD)) (zD p).depth
    omega
  · rw [any_zs]
    exact ⟨.bl _, H, I, rfl, q⟩
theorem pe_revK {K : PySem.W.Frag} {e : Expr} {te : TE} {k : Nat} {p1 p2 p3 pos : Pos} (he : PE X e te) (hK : X.K = K := by rfl) : PE X (.Subscript e (.Slice none none (some (.UnaryOp .USub (.Constant (.int 1) k p1) p2)) p3) pos) (tRevT K te) := by
  subst hK
  exact pe_revT he
/-- isinstance in a comprehension -/
theorem call_isiG {K : PySem.W.Frag} (hK : X.K = K := by rfl) : CallR X (.builtin "isinstance") (rIsi K) := by
  subst hK
  exact call_isi
end
theorem push_bl {f : Sh → Bool} {ss : List Sh} {i : Nat} {t : Sh} (ht : ss[i]? = some t) : ((ss.take (i + 1)).map f).map V.bl = ((ss.take i).map f).map V.bl ++ [.bl (f t)] := by
  rw [take_succ ht, List.map_append, List.map_append]
  rfl
theorem all_id {α : Type} (f : α → Bool) (l : List α) : (l.map f).all id = l.all f := by
  rw [List.all_map]
  rfl
/-- len, in a comprehension -/
def rLenZ (K : PySem.W.Frag) : List V → Hp → VK → Prop := fun xs H Q => ∃ p ys, xs = [V.ref p] ∧ (SqL K H p ys ∨ SqT K H p ys) ∧ Q (V.int ((ys.length : Nat) : Int)) H
/-! ### by what the program asks -/
theorem zE_inj {p q : E2} (h : zE p = zE q) : p = q := by
  have h1 := congrArg Prod.fst h
  have h2 := congrArg Prod.snd h
  exact Prod.ext (Int.ofNat.inj h1) (Int.ofNat.inj h2)
theorem mem_zE {p : E2} {es : List E2} : zE p ∈ es.map zE ↔ p ∈ es := by
  rw [List.mem_map]
  exact ⟨fun ⟨q, h, e⟩ => by rw [← zE_inj e]; exact h, fun h => ⟨p, h, rfl⟩⟩
def ordP (p : E2) : E2 := (min p.1 p.2, max p.1 p.2)
theorem ord_mem {n : Nat} {es : List E2} (g : Good n es) (p : E2) : ordP p ∈ es ↔ (p ∈ es ∨ (p.2, p.1) ∈ es) := by
  obtain ⟨a, b⟩ := p
  unfold ordP
  dsimp only
  by_cases h : a ≤ b
  · rw [Nat.min_eq_left h, Nat.max_eq_right h]
    constructor
    · exact .inl
    · rintro (z | z)
      · exact z
      · have := (g.lt _ z).1
        dsimp only at this
        omega
  · rw [Nat.min_eq_right (by omega), Nat.max_eq_left (by omega)]
    constructor
    · exact .inr
    · rintro (z | z)
      · have := (g.lt _ z).1
        dsimp only at this
        omega
      · exact z
theorem ord_is {n : Nat} {es : List E2} (g : Good n es) {p e : E2} (he : e ∈ es) : ordP p = e ↔ (p = e ∨ p = (e.2, e.1)) := by
  have l := (g.lt _ he).1
  obtain ⟨a, b⟩ := p
  obtain ⟨c, d⟩ := e
  dsimp only at l
  unfold ordP
  simp only [Prod.mk.injEq]
  omega
/-- the sides that lie in ps, in order, are all of es -/
theorem ori_pairs {n : Nat} {es : List E2} (g : Good n es) {ps ws : List E2} (up : ws.Pairwise ahead) (mw : ∀ q, q ∈ ws ↔ q ∈ ps.map ordP) : Ori es (.tup (ps.map pairS)) ↔ ascB (ps.map pairS) = true ∧ ws = es := by
  have e : ps.map pairS = (ps.map zE).map zS := by rw [List.map_map]; rfl
  rw [e, ori_iff]
  refine and_congr Iff.rfl ?_
  constructor
  · rintro ⟨h1, h2⟩
    refine eq_of_up up g.up fun q => ?_
    rw [mw, List.mem_map]
    constructor
    · rintro ⟨p, hp, rfl⟩
      rw [ord_mem g]
      rcases h1 (zE p) (mem_zE.mpr hp) with z | z
      · exact .inl (mem_zE.mp z)
      · exact .inr ((mem_zE (p := (p.2, p.1))).mp z)
    · intro hq
      rcases h2 (zE q) (mem_zE.mpr hq) with z | z
      · exact ⟨q, mem_zE.mp z, (ord_is g hq).mpr (.inl rfl)⟩
      · exact ⟨(q.2, q.1), (mem_zE (p := (q.2, q.1))).mp z, (ord_is g hq).mpr (.inr rfl)⟩
  · rintro rfl
    refine ⟨fun z hz => ?_, fun z hz => ?_⟩
    · obtain ⟨p, hp, rfl⟩ := List.mem_map.mp hz
      have := (mw (ordP p)).mpr (List.mem_map.mpr ⟨p, hp, rfl⟩)
      rw [ord_mem g] at this
      rcases this with h | h
      · exact .inl (mem_zE.mpr h)
      · exact .inr ((mem_zE (p := (p.2, p.1))).mpr h)
    · obtain ⟨q, hq, rfl⟩ := List.mem_map.mp hz
      obtain ⟨p, hp, e⟩ := List.mem_map.mp ((mw q).mp hq)
      rcases (ord_is g hq).mp e with rfl | rfl
      · exact .inl (mem_zE.mpr hp)
      · exact .inr (mem_zE.mpr hp)
def spLOr (K : PySem.W.Frag) : Sp := fun vs H Q _ => ∃ (x v : V) (n : Nat) (es : List E2) (s : Sh), vs = [x, v] ∧ GraphAt K H x n es ∧ Good n es ∧ ShAt K H v s ∧ Lb s ∧ ∀ H', Same H H' → Q (.bl (oriB es s)) H'
end My

set_option maxHeartbeats 8000000
namespace My
open PySem PySem.Spec PyProof.Rows L2
abbrev sArcs : Stmt := top 48
theorem scArcs : FnScope ["pot", "graph", "found", "often", "edge", "way"] ["pot", "graph"] (defScope sArcs) := ⟨rfl, rfl, rfl, by decide +kernel, rfl, by decide +kernel, by decide +kernel⟩
def sw (p : E2) : E2 := (p.2, p.1)
structure ArcsOk (l as : List E2) : Prop where
  nd : as.Nodup
  sub : ∀ q ∈ as, q ∈ l ∨ sw q ∈ l
  cov : ∀ e ∈ l, e ∈ as ∨ sw e ∈ as
  few : as.length ≤ 2 * l.length
theorem ArcsOk.step {n i : Nat} {es as new : List E2} {e : E2} (g : Good n es) (he : es[i]? = some e) (h : ArcsOk (es.take i) as) (n1 : new.Nodup) (n2 : ∀ q ∈ new, q = e ∨ q = sw e) (n3 : e ∈ new ∨ sw e ∈ new) (n4 : new.length ≤ 2) : ArcsOk (es.take (i + 1)) (as ++ new) := by
  have el : e.1 < e.2 := (g.lt e (List.mem_of_getElem? he)).1
  have eq := take_succ he
  have out : ∀ q, (q = e ∨ q = sw e) → q ∉ as := fun q hq hm => by
    have un : ∀ r ∈ es.take i, r ≠ e := fun r hr z => by
      subst z
      have nd := g.nodup
      obtain ⟨hlt, e1⟩ := List.getElem?_eq_some_iff.mp he
      obtain ⟨j, hj, e2⟩ := List.getElem_of_mem hr
      rw [List.length_take] at hj
      rw [List.getElem_take] at e2
      exact List.pairwise_iff_getElem.mp nd j i (by omega) hlt (by omega) (e2.trans e1.symm)
    have lt : ∀ r ∈ es.take i, r.1 < r.2 := fun r hr => (g.lt r (List.mem_of_mem_take hr)).1
    rcases h.sub q hm with z | z
    · rcases hq with rfl | rfl
      · exact un _ z rfl
      · have := lt _ z
        simp only [sw] at this
        omega
    · rcases hq with rfl | rfl
      · have := lt _ z
        simp only [sw] at this
        omega
      · exact un _ z rfl
  refine ⟨?_, fun q hq => ?_, fun r hr => ?_, ?_⟩
  · rw [List.nodup_append]
    exact ⟨h.nd, n1, fun a ha b hb z => out b (n2 b hb) (z ▸ ha)⟩
  · rw [eq]
    rcases List.mem_append.mp hq with z | z
    · rcases h.sub q z with y | y
      · exact .inl (List.mem_append_left _ y)
      · exact .inr (List.mem_append_left _ y)
    · rcases n2 q z with rfl | rfl
      · exact .inl (List.mem_append_right _ (List.mem_singleton.mpr rfl))
      · exact .inr (List.mem_append_right _ (List.mem_singleton.mpr rfl))
  · rw [eq] at hr
    rcases List.mem_append.mp hr with z | z
    · rcases h.cov r z with y | y
      · exact .inl (List.mem_append_left _ y)
      · exact .inr (List.mem_append_left _ y)
    · rw [List.mem_singleton.mp z]
      rcases n3 with y | y
      · exact .inl (List.mem_append_right _ y)
      · exact .inr (List.mem_append_right _ y)
  · have := h.few
    have hlt := (List.getElem?_eq_some_iff.mp he).1
    rw [List.length_append, List.length_take]
    rw [List.length_take] at this
    omega
theorem PairsT.getO {H : Hp} : ∀ {xs : List V} {ps : List E2}, PairsT H xs ps → ∀ {i : Nat} {x : V}, xs[i]? = some x → ∃ q, ps[i]? = some q ∧ PairT H x q
  | _, _, .nil, i, x, e => by simp at e
  | _, _, .cons a r, 0, x, e => by simp at e; subst e; exact ⟨_, rfl, a⟩
  | _, _, .cons a r, i + 1, x, e => by
    obtain ⟨s, h1, h2⟩ := PairsT.getO r (i := i) (x := x) (by simpa using e)
    exact ⟨s, by simpa using h1, h2⟩
def spArcs : Sp := fun vs H Q _ => ∃ (p : Addr) (x : V) (n : Nat) (es : List E2), vs = [.ref p, x] ∧ Wl H p ∧ GraphT H x n es ∧ Good n es ∧ ∀ (A : Addr) (xs : List V) (as : List E2) H', But p H H' → Wl H' p → H' A = some (.tup xs) → PairsT H' xs as → as.Pairwise ahead → ArcsOk es as → Q (.ref A) H'
section
variable {P : Program} {w : World} {K : PySem.W.Frag} {mg : Str → Option Value} {base : Heap} {f fD : Addr} {fd dD : FuncData}
theorem ok_arcs (F : L2.Fun K "_law_arcs" "_law_arcs" sArcs f fd)
    (GD : FnOk P w K mg base CX0 1 fD dD ["pot", "few"] spDraw) (bD : L2.Binds K dD ["pot", "few"] []) (kD : PySem.W.keepIn K (.ref fD) = true) (mD : mg "_law_draw" = some (.ref fD))
    (mt : mg "tuple" = none) (mso : mg "sorted" = none) : FnOk P w K mg base CX0 2 f fd ["pot", "graph"] spArcs := by
  refine F.ok scArcs (fun vs H Q E h => ?_) (fun cdv A outer s0 H vs Q E hr h => ?_)
  · obtain ⟨p, x, n, es, rfl, _⟩ := h
    rfl
  obtain ⟨p, x, n, es, rfl, hW, hx, g, q⟩ := h
  refine ⟨_, pss_cons (ps_par (by rfl) scArcs.nd (i := 2) (j := 3) rfl rfl (by decide) rfl rfl (pa_cons (pe_lst pa_nil) (pa_cons (pe_call GD hr (by rfl) mD kD bD .nil pass0 (pa_cons (pv 0) (pa_cons pe_int pa_nil))) pa_nil)) (by rfl))
    (pss_cons (ps_for PassesOwn.never rfl (pi_tup (pe_ix (r := rIxT K) ix_tup (pv 1) pe_int (fun _ _ => rfl))) (pg_name (i := 4) scArcs.nd rfl (.inl rfl))
      (pss_cons (ps_set (i := 5) scArcs.nd rfl (.inl rfl) (pe_call GD hr (by rfl) mD kD bD .nil pass0 (pa_cons (pv 0) (pa_cons (pe_op op_add pe_int (pv 3)) pa_nil))))
      (pss_one (ps_set (i := 2) scArcs.nd rfl (.inl rfl) (pe_op op_cat (pe_op op_cat (pv 2) (pe_ifExp (pt_cmpR op_ne (pv 5) pe_int (nomark _)) (pe_lst (pa_cons (pv 4) pa_nil)) (pe_lst pa_nil))) (pe_ifExp (pt_cmpR op_gt (pv 5) pe_int (nomark _)) (pe_lst (pa_cons (pe_revK (K := K) (pv 4)) pa_nil)) (pe_lst pa_nil)))))))
    (pss_one (ps_ret (pe_callTy call_tuple_of (by rfl) mt (by decide +kernel) (pa_cons (pe_callB cr_sortedPO (by rfl) mso (by decide +kernel) (pa_cons (pv 2) pa_nil)) pa_nil))))), ?_⟩
  have line : ∀ k, k ≤ 1000 → k ≤ sizeLine := fun k hk => small hk
  have few := g.few
  refine ⟨line 0 (by decide), fun a na => ?_⟩
  have sa := same_new na (.lst [])
  have ha := upd_same (H := H) (a := a) (o := .lst [])
  have ap := hW.ne na
  have hx0 := hx.same sa
  have w0 := hW.same sa
  have b0 : But p H (upd H a (.lst [])) := But.of sa
  generalize upd H a (.lst []) = H0 at ha hx0 w0 b0 ⊢
  refine ⟨_, rfl, p, 3, rfl, w0, by decide, by decide, fun o H1 o0 o1 b1 w1 => ⟨_, _, rfl, ?_⟩⟩
  have hx1 := hx0.but b1 w0
  obtain ⟨t, e, ys, rfl, ht, he, hes⟩ := hx1
  have a1 : atI [V.int (n : Int), V.ref e] 1 = some (.ref e) := atI_nat (j := 1) rfl
  have le := PairsT.len hes
  refine ⟨_, rfl, t, _, 1, _, rfl, rfl, SqT.of ht, a1, e, rfl, ⟨_, SqT.of (K := K) he⟩, for_it (walk_tup (xs := ys)) (fun i σ H' => ∃ (b : Addr) (zs : List V) (as : List E2) (s4 s5 : Option V), σ = [some (.ref p), some (.ref t), some (.ref b), some (.int o), s4, s5] ∧ But p H1 H' ∧ Wl H' p ∧ b ≠ p ∧ H' b = some (.lst zs) ∧ PairsT H' zs as ∧ ArcsOk (es.take i) as)
    ⟨a, [], [], none, none, rfl, But.refl p H1, w1, ap, b1 _ _ ap ha, .nil, ⟨List.nodup_nil, (fun _ z => nomatch z), (fun _ z => nomatch z), Nat.zero_le _⟩⟩ (fun i σ H' _ ⟨_, _, _, _, _, _, b, w', _⟩ => SqT.of (b _ _ (wl_tup w1 he) he)) ?_ ?_⟩
  · rintro i x σ H2 H3 li ⟨b, zs, as, s4', s5', rfl, b2, w2, bp, hb, pz, ok⟩ ⟨rfl, hi⟩
    obtain ⟨c, hc, u, rfl, hu⟩ := PairsT.getO (hes.but b2 w1) hi
    have lz := PairsT.len pz
    have few2 := ok.few
    rw [List.length_take] at few2
    refine ⟨_, rfl, _, rfl, _, _, rfl, rfl, p, _, rfl, w2, by omega, by omega, fun wy H4 y0 y1 b4 w4 => ?_⟩
    have hb4 := b4 _ _ bp hb
    have pz4 := pz.but b4 w2
    have hu4 := b4 _ _ (wl_tup w2 hu) hu
    have B4 := b2.trans b4
    have enew : ∀ (new : List E2) (Z : Addr) (vs : List V) (H5 : Hp), Same H4 H5 → H5 Z = some (.lst (zs ++ vs)) → Z ≠ p → PairsT H5 vs new → new.Nodup → (∀ q ∈ new, q = c ∨ q = sw c) → (c ∈ new ∨ sw c ∈ new) → new.length ≤ 2 →
        ∃ (b : Addr) (zs : List V) (as : List E2) (s4 s5 : Option V), [some (.ref p), some (.ref t), some (.ref Z), some (.int o), some (.ref u), some (.int wy)] = [some (.ref p), some (.ref t), some (.ref b), some (.int o), s4, s5] ∧ But p H1 H5 ∧ Wl H5 p ∧ b ≠ p ∧ H5 b = some (.lst zs) ∧ PairsT H5 zs as ∧ ArcsOk (es.take (i + 1)) as := fun new Z vs H5 s5 hZ Zp pv n1 n2 n3 n4 =>
      ⟨Z, zs ++ vs, as ++ new, _, _, rfl, B4.trans (But.of s5), w4.same s5, Zp, hZ, (pz4.same s5).append pv, ok.step g hc n1 n2 n3 n4⟩
    refine ⟨_, rfl, _, rfl, rfl, _, rfl, iteB (fun c1 => ?_) (fun c1 => ?_)⟩
    · refine ⟨_, rfl, line 1 (by decide), fun X nX => ?_⟩
      have sX := same_new nX (.lst [.ref u])
      have hX := upd_same (H := H4) (a := X) (o := .lst [.ref u])
      generalize upd H4 X (.lst [.ref u]) = H5 at sX hX ⊢
      refine ⟨b, X, _, _, rfl, rfl, sX _ _ hb4, hX, line _ (by rw [List.length_singleton]; omega), fun Y nY => ?_⟩
      have sY := same_new nY (.lst (zs ++ [.ref u]))
      have hY := upd_same (H := H5) (a := Y) (o := .lst (zs ++ [.ref u]))
      generalize upd H5 Y (.lst (zs ++ [.ref u])) = H6 at sY hY ⊢
      have s46 := sX.trans sY
      refine ⟨_, rfl, _, _, rfl, rfl, _, rfl, iteB (fun c2 => ?_) (fun c2 => ?_)⟩
      · refine ⟨_, rfl, u, _, rfl, SqT.of (s46 _ _ hu4), fun v nv => ?_⟩
        have sv := same_new nv (.tup [V.int (c.1 : Int), V.int (c.2 : Int)].reverse)
        have hv : upd H6 v (.tup [V.int (c.1 : Int), V.int (c.2 : Int)].reverse) v = some (.tup [.int ((sw c).1 : Int), .int ((sw c).2 : Int)]) := upd_same
        generalize upd H6 v (.tup [V.int (c.1 : Int), V.int (c.2 : Int)].reverse) = H7 at sv hv ⊢
        refine ⟨line 1 (by decide), fun B nB => ?_⟩
        have sB := same_new nB (.lst [.ref v])
        have hB := upd_same (H := H7) (a := B) (o := .lst [.ref v])
        generalize upd H7 B (.lst [.ref v]) = H8 at sB hB ⊢
        have s68 := sv.trans sB
        refine ⟨Y, B, _, _, rfl, rfl, s68 _ _ hY, hB, line _ (by rw [List.length_append, List.length_singleton, List.length_singleton]; omega), fun Z nZ => ?_⟩
        have s48 := s46.trans s68
        have sZ := same_new nZ (.lst ((zs ++ [.ref u]) ++ [.ref v]))
        refine enew [c, sw c] Z [.ref u, .ref v] _ (s48.trans sZ) (by rw [upd_same, List.append_assoc]; rfl) ((w4.same s48).ne nZ) (.cons ⟨u, rfl, (s48.trans sZ) _ _ hu4⟩ (.cons ⟨v, rfl, sZ _ _ (sB _ _ hv)⟩ .nil)) ?_ (fun q hq => by simpa using hq) (.inl (List.mem_cons_self ..)) (Nat.le_refl _)
        have := (g.lt c (List.mem_of_getElem? hc)).1
        rw [List.nodup_cons]
        refine ⟨fun z => ?_, by simp⟩
        have z2 := congrArg Prod.fst (List.mem_singleton.mp z)
        simp only [sw] at z2
        omega
      · refine ⟨line 0 (by decide), fun B nB => ?_⟩
        have sB := same_new nB (.lst [])
        have hB := upd_same (H := H6) (a := B) (o := .lst [])
        generalize upd H6 B (.lst []) = H8 at sB hB ⊢
        refine ⟨Y, B, _, _, rfl, rfl, sB _ _ hY, hB, line _ (by rw [List.length_append, List.length_singleton, List.length_nil]; omega), fun Z nZ => ?_⟩
        have s48 := s46.trans sB
        have sZ := same_new nZ (.lst ((zs ++ [.ref u]) ++ []))
        exact enew [c] Z [.ref u] _ (s48.trans sZ) (by rw [upd_same, List.append_nil]) ((w4.same s48).ne nZ) (.cons ⟨u, rfl, (s48.trans sZ) _ _ hu4⟩ .nil) (by simp) (fun q hq => .inl (List.mem_singleton.mp hq)) (.inl (List.mem_cons_self ..)) (by show 1 ≤ 2; decide)
    · have e1 : wy = 1 := by
        have z : decide (V.int wy = V.int 1) = true := by simpa using c1
        have := of_decide_eq_true z
        injection this
      subst e1
      refine ⟨line 0 (by decide), fun X nX => ?_⟩
      have sX := same_new nX (.lst [])
      have hX := upd_same (H := H4) (a := X) (o := .lst [])
      generalize upd H4 X (.lst []) = H5 at sX hX ⊢
      refine ⟨b, X, _, _, rfl, rfl, sX _ _ hb4, hX, line _ (by rw [List.length_nil]; omega), fun Y nY => ?_⟩
      have sY := same_new nY (.lst (zs ++ []))
      have hY := upd_same (H := H5) (a := Y) (o := .lst (zs ++ []))
      generalize upd H5 Y (.lst (zs ++ [])) = H6 at sY hY ⊢
      have s46 := sX.trans sY
      refine ⟨_, rfl, _, _, rfl, rfl, _, rfl, iteT ?_⟩
      refine ⟨_, rfl, u, _, rfl, SqT.of (s46 _ _ hu4), fun v nv => ?_⟩
      have sv := same_new nv (.tup [V.int (c.1 : Int), V.int (c.2 : Int)].reverse)
      have hv : upd H6 v (.tup [V.int (c.1 : Int), V.int (c.2 : Int)].reverse) v = some (.tup [.int ((sw c).1 : Int), .int ((sw c).2 : Int)]) := upd_same
      generalize upd H6 v (.tup [V.int (c.1 : Int), V.int (c.2 : Int)].reverse) = H7 at sv hv ⊢
      refine ⟨line 1 (by decide), fun B nB => ?_⟩
      have sB := same_new nB (.lst [.ref v])
      have hB := upd_same (H := H7) (a := B) (o := .lst [.ref v])
      generalize upd H7 B (.lst [.ref v]) = H8 at sB hB ⊢
      have s68 := sv.trans sB
      refine ⟨Y, B, _, _, rfl, rfl, s68 _ _ hY, hB, line _ (by rw [List.length_append, List.length_nil, List.length_singleton]; omega), fun Z nZ => ?_⟩
      have s48 := s46.trans s68
      have sZ := same_new nZ (.lst ((zs ++ []) ++ [.ref v]))
      exact enew [sw c] Z [.ref v] _ (s48.trans sZ) (by rw [upd_same, List.append_nil]) ((w4.same s48).ne nZ) (.cons ⟨v, rfl, sZ _ _ (sB _ _ hv)⟩ .nil) (by simp) (fun q hq => .inr (List.mem_singleton.mp hq)) (.inr (List.mem_cons_self ..)) (by show 1 ≤ 2; decide)
  · rintro σ H2 ⟨b, zs, as, s4', s5', rfl, b2, w2, bp, hb, pz, ok⟩
    rw [le, List.take_length] at ok
    refine ⟨_, rfl, b, _, kOf H2, rfl, SqL.of hb, pz.ks, fun ys S so st nS => ?_⟩
    obtain ⟨g1, g2, g3⟩ := sorted_pairs pz ok.nd so st
    obtain ⟨_, _, g4⟩ := sorted_pairsD pz so st
    generalize ys.map (gOf H2) = qs at g1 g2 g3 g4
    have sS := same_new nS (.lst ys)
    have hS := upd_same (H := H2) (a := S) (o := .lst ys)
    generalize upd H2 S (.lst ys) = H3 at sS hS ⊢
    refine ⟨S, ys, rfl, .inl ⟨SqL.of hS, fun T nT => ?_⟩⟩
    have sT := same_new nT (.tup ys)
    refine q T ys qs _ (b0.trans (b1.trans (b2.trans (But.of (sS.trans sT))))) (w2.same (sS.trans sT)) upd_same (g1.same (sS.trans sT)) g2 ⟨?_, fun r hr => ok.sub r ((g3 r).mp hr), fun r hr => (ok.cov r hr).imp (g3 r).mpr (g3 _).mpr, ?_⟩
    · exact g4.nodup_iff.mpr ok.nd
    · rw [g4.length_eq]
      exact ok.few
end
end My

set_option maxHeartbeats 6400000
/-! set(xs), xs a list of tuples of ints of any length, at most 62 unlike ones. -/
namespace My
open PySem PySem.Spec PyProof.Rows L2
section
variable {P : Program} {w : World} {A : Around} {E : Value → Shared → Prop} {s : Shared}
theorem st_loop {I : Addr} {fp wr : List Addr} {G : Array GenState → Array GenState → Prop} {n : Nat} {Pv : Nat → Value → Prop} {St : Nat → Shared → Prop} {R : Result → Shared → Prop}
    (W : WalksS P w A.in1 I fp wr G n Pv St) (S : Addr) (offS : S ∉ fp) (ks : List (Addr × List Int)) (hn : n = ks.length) (hfew : ∀ M : List (Addr × List Int), (∀ p ∈ M, p ∈ ks) → (M.map (·.2)).Nodup → M.length ≤ 62) (hval : ∀ i v, Pv i v → ∃ p, ks[i]? = some p ∧ v = .ref p.1)
    (h0 : Heap) (hk : ∀ p ∈ ks, IsT P w h0 p.2 p.1) (hS0 : h0.get? S = none) (hw0 : ∀ b ∈ wr, h0.get? b = none) (hu : A.in1.units < cLine) :
    ∀ (k i : Nat) (s : Shared), n - i = k → i ≤ n → St i s → (∀ b o, h0.get? b = some o → s.heap.get? b = some o) → (∃ L es ep t, SetTR P w s.heap S L es ep t ∧ Got ks i L) →
      (∀ s' L es ep t, Moved (S :: wr) G s s' → SetTR P w s'.heap S L es ep t → Got ks n L → (∀ b o, h0.get? b = some o → s'.heap.get? b = some o) → R (.ok (.ret .none)) s') →
      codeAny (model P w) A (.builtin "set.update.loop" ⟨[.ref S, .ref I], []⟩) R s := by
  have offw : S ∉ wr := fun h => offS (W.sub _ h)
  have into : ∀ b ∈ wr, b ∈ S :: wr := fun b hb => List.mem_cons_of_mem _ hb
  have stays : ∀ {s s' : Shared}, Moved wr G s s' → (∀ b o, h0.get? b = some o → s.heap.get? b = some o) → ∀ b o, h0.get? b = some o → s'.heap.get? b = some o := fun hm kp b o e =>
    hm.heap b o (fun hb => by rw [hw0 b hb] at e; cases e) (kp b o e)
  intro k
  induction k with
  | zero =>
    intro i s hk' hi st0 kp ⟨L, es, ep, t, hS, g⟩ hR
    have hin : i = n := by omega
    subst hin
    refine codeAny_builtin PyProof.Rows.F.entry_set_update_loop ?_
    rw [Around.under_plainId PyProof.Rows.F.plain_set_update_loop _]
    show wpAny _ A.in1 (pyNext (.ref I) >>= _) _ _ s
    refine wpAny_bind (W.done s _ _ st0 fun s' hm => ?_)
    show wpAny _ A.in1 (ret Value.none) _ _ s'
    have kp' := stays hm kp
    have sub : ∀ p ∈ L, p ∈ ks := fun p hp => List.mem_of_mem_take (g.sub p hp)
    exact wpAny_pure (hR s' L es ep t (hm.mono into) (hS.keep (fun o e => hm.heap S o offw e) fun p hp => isT_keep (hk p (sub p hp)) kp') g kp')
  | succ k ih =>
    intro i s hk' hi st0 kp ⟨L, es, ep, t, hS, g⟩ hR
    have hlt : i < n := by omega
    refine codeAny_builtin PyProof.Rows.F.entry_set_update_loop ?_
    rw [Around.under_plainId PyProof.Rows.F.plain_set_update_loop _]
    show wpAny _ A.in1 (pyNext (.ref I) >>= _) _ _ s
    refine wpAny_bind (W.item i s _ _ hlt st0 fun v s' hP st' hm => ?_)
    obtain ⟨p, hp, rfl⟩ := hval i v hP
    have kp' := stays hm kp
    have sub : ∀ p ∈ L, p ∈ ks := fun p hp => List.mem_of_mem_take (g.sub p hp)
    have hS' : SetTR P w s'.heap S L es ep t := hS.keep (fun o e => hm.heap S o offw e) fun q hq => isT_keep (hk q (sub q hq)) kp'
    have hx : IsT P w s'.heap p.2 p.1 := isT_keep (hk p (List.mem_of_getElem? hp)) kp'
    show wpAny _ A.in1 (holding [Value.ref p.1] (setAdd S (.ref p.1)) >>= _) _ _ s'
    refine wpAny_bind (wpAny_holding ?_)
    unfold setAdd
    refine wpAny_holding ?_
    refine wpAny_bind (wpAny_pyHash_tuple hu hx ?_)
    refine add_at (s := { s' with toks := s'.toks + (p.2.length + 1) }) hS' hx hu (by have := hfew L sub hS.nd; omega) fun b h' L' es' ep' t' hsb hS2 c1 c2 => ?_
    have g' : Got ks (i + 1) L' := by
      rcases Classical.em (p.2 ∈ L.map (·.2)) with c | c
      · rw [c1 c]; exact g.same hp c
      · exact g.more hp (c2 c)
    have kp2 : ∀ b o, h0.get? b = some o → h'.get? b = some o := fun b o e => (hsb.2 b (fun z => by rw [z, hS0] at e; cases e)).trans (kp' b o e)
    refine wpAny_pure ⟨plainId_quiet PyProof.Rows.F.plain_set_update_loop _, ih (i + 1) _ (by omega) hlt (W.frame _ s' _ _ st' (Nat.le_add_right _ _) fun b hb o e => ?_) kp2 ⟨L', es', ep', t', hS2, g'⟩ fun s'' L2 es2 ep2 t2 hm'' hS'' g'' kp'' => ?_⟩
    · rw [hsb.2 b (fun h : b = S => offS (by rw [← h]; exact hb))]; exact e
    · refine hR s'' L2 es2 ep2 t2 (Moved.trans W.gtrans ((hm.mono into).then_heap (Nat.le_add_right _ _) fun b o hb e => ?_) hm'') hS'' g'' kp''
      rw [hsb.2 b (fun h : b = S => hb (by rw [h]; exact List.mem_cons_self))]; exact e

theorem st_call {l : Addr} {items : Array Value} (ks : List (Addr × List Int)) {Q : Value → Shared → Prop} (hh : A.handled = none) (hl : s.heap.IsList l items) (hit : items.toList = ks.map fun p => Value.ref p.1)
    (hk : ∀ p ∈ ks, IsT P w s.heap p.2 p.1) (hfew : ∀ M : List (Addr × List Int), (∀ p ∈ M, p ∈ ks) → (M.map (·.2)).Nodup → M.length ≤ 62) (hu : A.units + 3 < cLine)
    (h : ∀ (h' : Heap) (tk : Nat) L es ep t, SetTR P w h' s.heap.objs.size L es ep t → Got ks ks.length L → (∀ b o, s.heap.get? b = some o → h'.get? b = some o) → Q (.ref s.heap.objs.size) { s with heap := h', toks := tk }) :
    wpAny (model P w) A (call (.type "set") [.ref l]) Q E s := by
  have lenI : items.size = ks.length := by
    have q := congrArg List.length hit
    rw [Array.length_toList, List.length_map] at q
    exact q
  obtain ⟨c, tl, mr⟩ := F.called_set.mro
  have md := F.called_set.made
  have into := F.called_set.sub
  refine wpAny_call (codeAny_of_tree ?_)
  show wpAny _ _ (callAny (.type "set") _) _ _ _
  refine wpAny_pure ⟨Code.quiet_builtin _ (by decide +kernel), codeAny_builtin F.entry_type_call ?_⟩
  rw [Around.under_plain (weight_type_call_type "set" [.ref l] []) rfl]
  have h1 := F.called_set.notType
  have h2 := F.called_set.canCreate
  have ct := F.typeCall_set_1 (.ref l)
  repeat (any_goals (first | assumption | wp_step))

  refine codeAny_mono (code_set_led1 (.ref l) (E := E) (Q₁ := fun obj s₁ => obj = .ref s.heap.objs.size ∧ s₁ = { s with heap := s.heap.push { cls := .type "set", dict := none, data := .set #[] 0 (.fresh 0 0 (!w.params.followText "set-order")) } }) ⟨rfl, rfl⟩) fun r s₁ hr => ?_
  cases r with
  | error e => exact hr
  | ok fl =>
    cases fl with
    | ret obj =>
      obtain ⟨rfl, rfl⟩ := hr
      have hS : (s.heap.push { cls := .type "set", dict := none, data := .set #[] 0 (.fresh 0 0 (!w.params.followText "set-order")) }).get? s.heap.objs.size = some { cls := .type "set", dict := none, data := .set #[] 0 (.fresh 0 0 (!w.params.followText "set-order")) } := Heap.get?_push_size _ rfl
      have hT : Shared.TypeIs { s with heap := s.heap.push { cls := .type "set", dict := none, data := .set #[] 0 (.fresh 0 0 (!w.params.followText "set-order")) } } (.ref s.heap.objs.size) "set" := ⟨_, hS, rfl⟩
      have hli := F.called_set.init.lookup
      have hbi := F.called_set.init.bind (.ref s.heap.objs.size)
      repeat (any_goals (first | assumption | wp_step))

      refine codeAny_mono (codeAny_call_builtin (R := wants (fun r s₂ => r = .none ∧ ∃ h' tk L es ep t, s₂ = { s with heap := h', toks := tk } ∧ SetTR P w h' s.heap.objs.size L es ep t ∧ Got ks ks.length L ∧
          (∀ b o, s.heap.get? b = some o → h'.get? b = some o)) E) F.called_set.init.plain F.entry_set_init (check_set_init_1 hT ?_)) fun r₂ s₂ hr₂ => ?_
      · obtain ⟨ol, hol, hcl, nl, hdl⟩ := hl
        obtain ⟨ocls, odict, odata, oslots⟩ := ol
        simp only at hcl hdl
        subst hcl; subst hdl
        have hol' : (s.heap.push { cls := .type "set", dict := none, data := .set #[] 0 (.fresh 0 0 (!w.params.followText "set-order")) }).get? l = some { cls := .type "list", dict := odict, data := .seq items nl, slots := oslots } := Heap.get?_push_of_some _ hol
        have y1 := F.sub_list_set
        have y2 := F.sub_list_frozenset
        have hne : (Value.type "list" == Value.type "dict") = false := by decide
        have hl1 : (s.heap.push { cls := .type "set", dict := none, data := .set #[] 0 (.fresh 0 0 (!w.params.followText "set-order")) }).IsList l items := ⟨_, hol', rfl, nl, rfl⟩
        unfold Builtin.«set.__init__» noKeywords Builtin.Frozenset.updateFrom
        generalize hPI : pyIter = PI
        wp_walk
        subst hPI

        refine wpAny_pyIter_list hl1 ?_
        refine wpAny_bind (wpAny_runValue ?_)
        have lS : l < s.heap.objs.size := Heap.lt_size hol
        have hh3 : A.in1.in1.in1.handled = none := by simp [hh]
        have hz1 : (s.heap.push { cls := .type "set", dict := none, data := .set #[] 0 (.fresh 0 0 (!w.params.followText "set-order")) }).objs.size = s.heap.objs.size + 1 := Heap.size_push ..
        have nI : l ≠ (s.heap.push { cls := .type "set", dict := none, data := .set #[] 0 (.fresh 0 0 (!w.params.followText "set-order")) }).objs.size := by
          rw [Heap.size_push]; exact Nat.ne_of_lt (Nat.lt_succ_of_lt lS)
        have offS : s.heap.objs.size ∉ [(s.heap.push { cls := .type "set", dict := none, data := .set #[] 0 (.fresh 0 0 (!w.params.followText "set-order")) }).objs.size, l] := by
          rw [Heap.size_push]; simp only [List.mem_cons, List.mem_singleton, List.not_mem_nil, or_false, not_or]
          exact ⟨Nat.ne_of_lt (Nat.lt_succ_self _), Nat.ne_of_gt lS⟩
        have hval : ∀ (i : Nat) (v : Value), items[i]? = some v → ∃ p, ks[i]? = some p ∧ v = .ref p.1 := fun i v hv => by
          have q : items.toList[i]? = some v := by rw [Array.getElem?_toList]; exact hv
          rw [hit, List.getElem?_map] at q
          cases hq : ks[i]? with
          | none => rw [hq] at q; cases q
          | some p =>
            rw [hq] at q
            exact ⟨p, rfl, (Option.some.inj q).symm⟩
        have fresh : ∀ b, s.heap.objs.size ≤ b → s.heap.get? b = none := fun b hb => by
          cases q : s.heap.get? b with
          | none => rfl
          | some o => exact absurd (Nat.lt_of_lt_of_le (Heap.lt_size q) hb) (Nat.lt_irrefl _)
        refine st_loop ((Walks.list hh3 _ l nI items).toS) s.heap.objs.size
          offS ks lenI hfew hval s.heap hk (fresh _ (Nat.le_refl _)) (fun b hb => fresh b (by
            rw [List.mem_singleton.mp hb, Heap.size_push]
            exact Nat.le_succ _)) hu (items.size - 0) 0 _ (by omega) (Nat.zero_le _)
          ⟨⟨_, Heap.get?_push_size _ rfl, rfl, rfl⟩, (hl1.push _)⟩ (fun b o e => Heap.get?_push_of_some _ (Heap.get?_push_of_some _ e)) ?hS0 ?hR
        case hS0 =>
          have hget : ((s.heap.push { cls := .type "set", dict := none, data := .set #[] 0 (.fresh 0 0 (!w.params.followText "set-order")) }).push { cls := .type "list_iterator", data := .fields #[.ref l, .int 0 0] }).get? s.heap.objs.size
              = some { cls := .type "set", dict := none, data := .set #[] 0 (.fresh 0 0 (!w.params.followText "set-order")) } := Heap.get?_push_of_some _ hS
          exact ⟨[], #[], 0, _, setTR_fresh hget, Got.zero ks⟩
        case hR =>
          intro s' L es ep t hm hS' g' kp
          obtain ⟨h', g2, d', tk', os'⟩ := s'
          have eg : g2 = s.gens := hm.gens
          have ed : d' = s.drawn := hm.drawn
          have eo : os' = s.os := hm.os
          subst eg; subst ed; subst eo
          show wpAny _ _ _ _ _ _
          refine wpAny_pure ?_
          show wpAny _ _ (ret Value.none) _ _ _
          rw [lenI] at g'
          exact wpAny_pure ⟨rfl, h', tk', L, es, ep, t, rfl, hS', g', kp⟩

      · cases r₂ with
        | error e => exact hr₂
        | ok fl₂ =>
          cases fl₂ with
          | ret r =>
            obtain ⟨rfl, h', tk, L, es, ep, t, rfl, hS', g', hk'⟩ := hr₂
            repeat (any_goals (first | assumption | wp_step))
            exact h _ _ _ _ _ _ hS' g' hk'
          | _ => exact hr₂.elim
    | _ => exact hr.elim

end
section
variable {X : Cx}
def rSetM (K : PySem.W.Frag) (P : Program) (w : World) : List V → Hp → VK → Prop := fun xs H Q => ∃ (l : Addr) (ks : List (Addr × List Int)), xs = [V.ref l] ∧ SqL K H l (ks.map fun p => V.ref p.1) ∧ (∀ p ∈ ks, SqT K H p.1 (p.2.map V.int)) ∧ (∀ M : List (Addr × List Int), (∀ p ∈ M, p ∈ ks) → (M.map (·.2)).Nodup → M.length ≤ 62) ∧
  ∀ a L, H a = none → (∀ p ∈ L, p ∈ ks) → (∀ p ∈ ks, p.2 ∈ L.map (·.2)) → Q (.ref a) (upd H a (SetTO P w a L))
theorem cr_setM (hc : X.calm = true) (hu : X.A.units + 64 < cLine) : CallR X (.type "set") (rSetM X.K X.prog X.w) := by
  intro pins s σ H xs us Q I r h
  obtain ⟨l, ks, rfl, hl, hk, hf, q⟩ := h
  rw [Vals.ref1 r]
  obtain ⟨its, rv, pl, hz⟩ := I.list hl
  have hn : H s.heap.objs.size = none := I.hok.fresh (Nat.le_refl _)
  refine st_call (P := X.prog) (w := X.w) ks (I.ok.hd hc) pl.isList (by simpa using refs_of_vals rv) (fun p hp => L2.Inv.isT I (hk p hp)) hf (by omega) fun h' tk L es ep t R g k => ?_
  refine ⟨.ref s.heap.objs.size, upd H s.heap.objs.size (SetTO X.prog X.w s.heap.objs.size L), I.laid (t' := tk) k (Nat.le_refl _) (setTO_new R.t0), rfl, q _ L hn (fun p hp => ?_) fun p hp => ?_⟩
  · exact List.mem_of_mem_take (g.sub p hp)
  · exact g.all p (by rw [List.take_length]; exact hp)
end
end My

set_option maxHeartbeats 4000000
/-! Sets of sides; what the program's is_orientation answers. -/
namespace My
open PySem PySem.Spec PyProof.Rows L2
theorem pairs_ksO {K : PySem.W.Frag} {H : Hp} : ∀ {ys : List V} {qs : List E2}, PairsAt K H ys qs → ∃ ks : List (Addr × List Int), ys = ks.map (fun p => V.ref p.1) ∧ ks.map (·.2) = qs.map (fun q => [(q.1 : Int), (q.2 : Int)]) ∧ ∀ p ∈ ks, SqT K H p.1 (p.2.map V.int)
  | _, _, .nil => ⟨[], rfl, rfl, fun _ z => nomatch z⟩
  | _, _, .cons a b => by
    obtain ⟨t, rfl, h⟩ := a
    obtain ⟨ks, h1, h2, h3⟩ := pairs_ksO b
    refine ⟨(t, _) :: ks, by rw [h1]; rfl, by rw [List.map_cons, h2]; rfl, ?_⟩
    intro p hp
    rcases List.mem_cons.mp hp with rfl | hp
    · exact h
    · exact h3 p hp
def toEO (ns : List Int) : E2 := ((ns.getD 0 0).toNat, (ns.getD 1 0).toNat)
theorem toEO_of (q : E2) : toEO [(q.1 : Int), (q.2 : Int)] = q := by
  unfold toEO
  simp
theorem ks_pairsO {K : PySem.W.Frag} {H : Hp} : ∀ {L : List (Addr × List Int)}, (∀ p ∈ L, SqT K H p.1 (p.2.map V.int)) → (∀ p ∈ L, p.2 = [((toEO p.2).1 : Int), ((toEO p.2).2 : Int)]) → PairsAt K H (L.map fun q => V.ref q.1) (L.map fun p => toEO p.2)
  | [], _, _ => .nil
  | p :: L, h, b => by
    refine .cons ⟨p.1, rfl, ?_⟩ (ks_pairsO (fun r hr => h r (List.mem_cons_of_mem _ hr)) fun r hr => b r (List.mem_cons_of_mem _ hr))
    have z := h p (List.mem_cons_self ..)
    rw [b p (List.mem_cons_self ..)] at z
    exact z
def leP : List E2 := (List.range 9).flatMap fun a => ((List.range 9).filter fun b => decide (a ≤ b)).map fun b => (a, b)
theorem leP_len : leP.length = 45 := by decide +kernel
theorem mem_leP {q : E2} (h : q.1 ≤ q.2) (h9 : q.2 < 9) : q ∈ leP := by
  unfold leP
  rw [List.mem_flatMap]
  refine ⟨q.1, List.mem_range.mpr (by omega), List.mem_map.mpr ⟨q.2, List.mem_filter.mpr ⟨List.mem_range.mpr h9, by simpa using h⟩, rfl⟩⟩
theorem ks_few {M : List (Addr × List Int)} (nd : (M.map (·.2)).Nodup) (h : ∀ p ∈ M, ∃ q : E2, p.2 = [(q.1 : Int), (q.2 : Int)] ∧ q.1 ≤ q.2 ∧ q.2 < 9) : M.length ≤ 62 := by
  have e : M.map (·.2) = (M.map fun p => toEO p.2).map fun q => [(q.1 : Int), (q.2 : Int)] := by
    rw [List.map_map]
    refine List.map_congr_left fun p hp => ?_
    obtain ⟨q, e, _⟩ := h p hp
    show p.2 = [((toEO p.2).1 : Int), ((toEO p.2).2 : Int)]
    rw [e, toEO_of]
  rw [e] at nd
  have nd2 : (M.map fun p => toEO p.2).Nodup := by
    have z := List.pairwise_map.mp nd
    exact z.imp fun h e => h (by rw [e])
  have z := sub_few nd2 (m := leP) fun q hq => by
    obtain ⟨p, hp, rfl⟩ := List.mem_map.mp hq
    obtain ⟨q, e, h1, h2⟩ := h p hp
    rw [e, toEO_of]
    exact mem_leP h1 h2
  rw [List.length_map, leP_len] at z
  omega
theorem pairsD_eqv : ∀ ws es : List E2, PyData.eqvAll (ws.map pairD) (es.map pairD) = decide (ws = es)
  | [], [] => by simp [PyData.eqvAll]
  | [], _ :: _ => by simp [PyData.eqvAll]
  | _ :: _, [] => by simp [PyData.eqvAll]
  | w :: ws, e :: es => by
    rw [List.map_cons, List.map_cons]
    simp only [PyData.eqvAll]
    rw [pairD_eqv, pairsD_eqv ws es]
    by_cases h : w = e
    · subst h
      simp
    · simp [h]
theorem pairs_shapedO (es : List E2) : SeqAt.shaped (.list (es.map pairD)) = true := by
  have pd := pairsD_depth es
  unfold SeqAt.shaped
  rw [Bool.and_eq_true, decide_eq_true_eq]
  refine ⟨?_, ?_⟩
  · simp only [PyData.canLay0, pairsD_lay es]
  · simp only [PyData.depth]
    omega
theorem vp_edge (n : Int) (s : Sh) : vpB n s = edgeM n n s := by
  cases s with
  | tup ss => rcases ss with _ | ⟨a, _ | ⟨b, _ | ⟨c, t⟩⟩⟩ <;> rfl
  | _ => rfl
theorem vp_pairs {n : Nat} {ss : List Sh} (h : ss.all (vpB (n : Int)) = true) : ∃ ps : List E2, ss = ps.map pairS ∧ ∀ p ∈ ps, p.1 < n ∧ p.2 < n := by
  rw [show vpB (n : Int) = edgeM n n from funext (vp_edge n)] at h
  obtain ⟨ps, e, lt⟩ := edgesM_pairs h
  exact ⟨ps, e, fun p hp => by have := lt p hp; omega⟩
theorem ori_vp {n : Nat} {es : List E2} (g : Good n es) {ss : List Sh} (h : Ori es (.tup ss)) : ss.all (vpB (n : Int)) = true := by
  obtain ⟨ps, e, _, h1, _⟩ := h
  injection e with e
  subst e
  rw [List.all_eq_true]
  intro s hs
  obtain ⟨p, hp, rfl⟩ := List.mem_map.mp hs
  have small : ∀ q : Z2, q ∈ es.map zE → 0 ≤ q.1 ∧ q.1 < n ∧ 0 ≤ q.2 ∧ q.2 < n := fun q hq => by
    obtain ⟨r, hr, rfl⟩ := List.mem_map.mp hq
    have := g.lt r hr
    show (0 : Int) ≤ (r.1 : Int) ∧ (r.1 : Int) < n ∧ (0 : Int) ≤ (r.2 : Int) ∧ (r.2 : Int) < n
    omega
  have b : 0 ≤ p.1 ∧ p.1 < n ∧ 0 ≤ p.2 ∧ p.2 < n := by
    rcases h1 p hp with z | z
    · exact small p z
    · have := small _ z
      exact ⟨this.2.2.1, this.2.2.2, this.1, this.2.1⟩
  show ((decide (p.1 ≥ 0) && decide (p.1 ≤ (n : Int) - 1)) && (decide (p.2 ≥ 0) && decide (p.2 ≤ (n : Int) - 1))) = true
  simp
  omega
end My

set_option maxHeartbeats 8000000
namespace My
open PySem PySem.Spec PyProof.Rows L2
abbrev sOrd : Stmt := top 16
abbrev sPOr : Stmt := top 27
theorem scOrd : FnScope ["one", "other"] ["one", "other"] (defScope sOrd) := ⟨rfl, rfl, rfl, by decide +kernel, rfl, by decide +kernel, by decide +kernel⟩
theorem scPOr : FnScope ["graph", "value", "many", "edges", "ways", "arc", "start", "end"] ["graph", "value"] (defScope sPOr) := ⟨rfl, rfl, rfl, by decide +kernel, rfl, by decide +kernel, by decide +kernel⟩
def spOrd : Sp := fun vs H Q _ => ∃ p : E2, vs = [.int (p.1 : Int), .int (p.2 : Int)] ∧ ∀ t, H t = none → Q (.ref t) (upd H t (.tup [.int ((ordP p).1 : Int), .int ((ordP p).2 : Int)]))
section
variable {P : Program} {w : World} {K : PySem.W.Frag} {mg : Str → Option Value} {base : Heap} {f fC fV fA fO : Addr} {fd dC dV dA dO : FuncData}
theorem ok_ord (F : L2.Fun K "ordered" "ordered" sOrd f fd) (mn : mg "min" = none) (mx : mg "max" = none) : FnOk P w K mg base CX0 1 f fd ["one", "other"] spOrd := by
  refine F.ok scOrd (fun vs H Q E h => ?_) (fun cdv A outer s0 H vs Q E hr h => ?_)
  · obtain ⟨p, rfl, _⟩ := h
    rfl
  obtain ⟨p, rfl, q⟩ := h
  refine ⟨_, pss_one (ps_ret (pe_tup (pa_cons (pe_callB (call_min2 rfl) (by rfl) mn (by decide +kernel) (pa_cons (pv 0) (pa_cons (pv 1) pa_nil))) (pa_cons (pe_callB (call_max2 rfl) (by rfl) mx (by decide +kernel) (pa_cons (pv 0) (pa_cons (pv 1) pa_nil))) pa_nil)))), ?_⟩
  refine ⟨_, rfl, _, rfl, _, _, rfl, _, rfl, _, rfl, _, _, rfl, small (by show 2 ≤ 1000; decide), fun t nt => ?_⟩
  have e1 : (if ((p.2 : Nat) : Int) < ((p.1 : Nat) : Int) then ((p.2 : Nat) : Int) else ((p.1 : Nat) : Int)) = ((min p.1 p.2 : Nat) : Int) := by split <;> omega
  have e2 : (if ((p.2 : Nat) : Int) > ((p.1 : Nat) : Int) then ((p.2 : Nat) : Int) else ((p.1 : Nat) : Int)) = ((max p.1 p.2 : Nat) : Int) := by split <;> omega
  have z := q t nt
  unfold ordP at z
  rw [← e1, ← e2] at z
  exact z
theorem ok_por (F : L2.Fun K "is_orientation" "is_orientation" sPOr f fd)
    (GC : FnOk P w K mg base CX0 5 fC dC ["graph"] (spCheckGraph K)) (bC : L2.Binds K dC ["graph"] []) (kC : PySem.W.keepIn K (.ref fC) = true) (mC : mg "check_graph" = some (.ref fC))
    (GV : FnOk P w K mg base CX0 3 fV dV ["value", "many"] (spVPA K)) (bV : L2.Binds K dV ["value", "many"] []) (kV : PySem.W.keepIn K (.ref fV) = true) (mV : mg "is_vertex_pair" = some (.ref fV))
    (GA : FnOk P w K mg base CX0 1 fA dA ["row"] (spAscA K)) (bA : L2.Binds K dA ["row"] []) (kA : PySem.W.keepIn K (.ref fA) = true) (mA : mg "is_ascending" = some (.ref fA))
    (GO : FnOk P w K mg base CX0 1 fO dO ["one", "other"] spOrd) (bO : L2.Binds K dO ["one", "other"] []) (kO : PySem.W.keepIn K (.ref fO) = true) (mO : mg "ordered" = some (.ref fO))
    (mty : mg "type" = none) (mt : mg "tuple" = none) (ma : mg "all" = none) (mso : mg "sorted" = none) (mst : mg "set" = none) (mli : mg "list" = none) : FnOk P w K mg base CX0 6 f fd ["graph", "value"] (spLOr K) := by
  refine F.ok scPOr (fun vs H Q E h => ?_) (fun cdv A outer s0 H vs Q E hr h => ?_)
  · obtain ⟨x, v, n, es, s, rfl, _⟩ := h
    rfl
  obtain ⟨x, v, n, es, s, rfl, hx, g, hv, lb, q⟩ := h
  have h1 := hr.mono (show 1 ≤ 5 by decide)
  have h3 := hr.mono (show 3 ≤ 5 by decide)
  refine ⟨_, pss_cons (ps_expr (pe_call GC hr (by rfl) mC kC bC .nil pass0 (pa_cons (pv 0) pa_nil)))
    (pss_cons (ps_asg (pv 0) (pg_tup (by rfl) (pgs_cons (pg_name (i := 2) scPOr.nd rfl (.inr rfl)) (pgs_cons (pg_name (i := 3) scPOr.nd rfl (.inl rfl)) pgs_nil))))
    (pss_cons (ps_if (PW.pt (pw_or (pt_cmpR op_isNotTy (pe_callTy call_type1 (by rfl) mty (by decide +kernel) (pa_cons (pv 1) pa_nil)) (pe_bltn (v := .ty "tuple") (by rfl) mt (by decide +kernel) rfl) (nomark _))
        (pw_or1 (pt_not (pt_val (pe_callB (cr_all rfl) (by rfl) ma (by decide +kernel) (pa_cons (pe_lc (own := [("arc", 5)]) (g := gName 5) (tt := tYes) rfl scPOr.nd (pi_tup (pv 1))
          (blkOk_by (N := ["graph", "value", "many", "edges", "ways", "arc", "start", "end"]) (sc := defScope sPOr) (by decide +kernel)) (fun _ _ _ _ _ => pg_name (i := 5) scPOr.nd rfl (Or.inl rfl)) (fun _ _ _ _ _ => pts_nil)
          (fun _ _ _ _ _ => pe_call GV h3 (by rfl) mV kV bV .nil pass0 (pa_cons (pv 5) (pa_cons (pv 2) pa_nil)))) pa_nil))))))) (pss_one (ps_ret pe_bl)) pss_nil)
    (pss_cons (ps_setLc (i := 4) (own := [("start", 6), ("end", 7)]) (g := gTup K 2 (gCons (gName 6) (gCons (gName 7) gNil))) (tt := tYes) rfl scPOr.nd rfl rfl (sw_true rfl rfl rfl (by decide +kernel)) (pi_tup (pv 1))
          (blkOk_by (N := ["graph", "value", "many", "edges", "ways", "arc", "start", "end"]) (sc := defScope sPOr) (by decide +kernel)) (fun _ _ _ _ _ => pg_tup (by rfl) (pgs_cons (pg_name (i := 6) scPOr.nd rfl (Or.inl rfl)) (pgs_cons (pg_name (i := 7) scPOr.nd rfl (Or.inl rfl)) pgs_nil))) (fun _ _ _ _ _ => pts_nil)
          (fun _ _ _ _ _ => pe_call GO h1 (by rfl) mO kO bO .nil pass0 (pa_cons (pv 6) (pa_cons (pv 7) pa_nil))))
    (pss_one (ps_ret (pe_and (pe_call GA h1 (by rfl) mA kA bA .nil pass0 (pa_cons (pv 1) pa_nil)) (pe_one (pe_cmpR (r := rEqD K) (op_eqD hr.units) (pe_callB (cr_sortedT rfl) (by rfl) mso (by decide +kernel) (pa_cons (pe_callTy (cr_setM rfl hr.units) (by rfl) mst (by decide +kernel) (pa_cons (pv 4) pa_nil)) pa_nil)) (pe_callTy call_list_of (by rfl) mli (by decide +kernel) (pa_cons (pv 3) pa_nil)) (nomark _))))))))), ?_⟩
  have line : ∀ k, k ≤ 1000 → k ≤ sizeLine := fun k hk => small hk
  have n9 := g.n9
  refine ⟨_, rfl, x, n, es, rfl, hx, g, fun H1 s1 => ?_⟩
  have hx1 := hx.same' s1
  have hv1 := hv.same s1
  have q1 : ∀ H', Same H1 H' → Q (.bl (oriB es s)) H' := fun H' s' => q H' (s1.trans s')
  clear q hx hv
  have qn : ∀ H', Same H1 H' → ¬ Ori es s → Q (.bl false) H' := fun H' s' c => by
    have := q1 H' s'
    rw [ori_no c] at this
    exact this
  obtain ⟨t, e, ys, rfl, ht, he, hes⟩ := hx1
  refine ⟨_, rfl, t, _, rfl, ht, rfl, _, _, rfl, _, _, rfl, rfl, ?_⟩
  obtain ⟨T, ty, ok⟩ := hv1.ty
  refine ⟨_, rfl, v, T, rfl, ty, T, "tuple", rfl, rfl, _, rfl, iteB (fun c0 => qn H1 (Same.refl H1) fun z => ?_) (fun c0 => ?_)⟩
  · obtain ⟨ps, e, _⟩ := z
    subst e
    have nt : T ≠ "tuple" := by simpa using c0
    exact nt ok
  have et : T = "tuple" := by simpa using c0
  obtain ⟨ss, rfl⟩ : ∃ ss, s = .tup ss := by
    cases s with
    | tup ss => exact ⟨ss, rfl⟩
    | int i => rw [show T = "int" from ok] at et; exact absurd et (by decide)
    | bool b => rw [show T = "bool" from ok] at et; exact absurd et (by decide)
    | str x => rw [show T = "str" from ok] at et; exact absurd et (by decide)
    | oth => exact absurd et ok.2.2.1
  clear c0 et ok
  have l9 : ss.length ≤ 900 := by cases lb; assumption
  cases hv1 with
  | @tup u xs _ hu r =>
  have lx := r.len
  refine ⟨_, rfl, u, rfl, ⟨_, hu⟩, fun D nD => lo_it (walk_tup (xs := xs)) (fun i H2 => Same H1 H2 ∧ H2 D = some (.lst (((ss.take i).map (vpB n)).map V.bl))) ⟨same_new nD _, upd_same⟩ (fun i H2 _ ⟨s2, _⟩ => Same.tup s2 hu) ?_ ?_⟩
  · rintro i y _ H2 li ⟨s2, hD⟩ ⟨rfl, hy⟩
    obtain ⟨z, hz, st⟩ := (r.same s2).get hy
    refine ⟨rfl, ?_⟩
    refine ⟨_, rfl, _, rfl, y, z, n, rfl, st, fun H3 s3 => ⟨_, s3 _ _ hD, small1000 (by rw [List.length_map, List.length_map, List.length_take]; omega), same_put (s2.trans s3) nD, ?_⟩⟩
    rw [upd_same, push_bl hz]
  rintro H2 ⟨s2, hD⟩
  rw [lx, List.take_length] at hD
  refine ⟨D, _, rfl, SqL.of hD, _, rfl, ?_⟩
  rw [all_id]
  refine iteB (fun c1 => qn H2 s2 fun z => ?_) (fun c1 => ?_)
  · rw [ori_vp g z] at c1
    cases c1
  obtain ⟨ps, rfl, lt⟩ := vp_pairs (n := n) (ss := ss) (by simpa using c1)
  clear hD nD D c1
  rw [List.length_map] at lx
  rw [List.length_map] at l9
  have hu2 := Same.tup s2 hu
  have r2 := r.same s2
  have p2 : PairsAt K H2 xs ps := sh_pairs r2
  refine ⟨_, rfl, u, rfl, ⟨_, hu2⟩, fun D nD => lo_it (walk_tup (xs := xs)) (fun i H3 => Same H2 H3 ∧ ∃ zs, H3 D = some (.lst zs) ∧ PairsT H3 zs ((ps.take i).map ordP)) ⟨same_new nD _, [], upd_same, .nil⟩ (fun i H3 _ ⟨s3, _⟩ => Same.tup s3 hu2) ?_ ?_⟩
  · rintro i y _ H3 li ⟨s3, zs, hD, pz⟩ ⟨rfl, hy⟩
    obtain ⟨p, hp, t2, rfl, ht2⟩ := PairsAt.get (p2.same s3) hy
    refine ⟨t2, _, rfl, ht2, rfl, _, _, rfl, _, _, rfl, rfl, rfl, ?_⟩
    refine ⟨_, rfl, _, rfl, p, rfl, fun b nb => ?_⟩
    have pp := push_pairT (ordP p) hD nb pz
    have lz := PairsT.len pz
    rw [List.length_map, List.length_take] at lz
    refine ⟨zs, (same_new nb _) _ _ hD, small1000 (by omega), same_put (s3.trans (same_new nb _)) nD, _, upd_same, ?_⟩
    rw [take_succ hp, List.map_append]
    exact pp
  rintro H3 ⟨s3, zs, hD, pz⟩
  rw [lx, List.take_length] at pz
  have hu3 := Same.tup s3 hu2
  have r3 := r2.same s3
  have cmp : Cmp (ps.map pairS) := .inr fun s hs => by
    obtain ⟨p, _, rfl⟩ := List.mem_map.mp hs
    exact ⟨_, _, rfl⟩
  refine ⟨_, rfl, u, xs, ps.map pairS, rfl, hu3, r3, cmp, by rw [List.length_map]; exact l9, fun H4 s4 => ⟨_, rfl, iteB (fun c2 => ?_) (fun c2 => ?_)⟩⟩
  rotate_left 1
  · refine qn H4 (s2.trans (s3.trans s4)) fun z => ?_
    have e : ps.map pairS = (ps.map zE).map zS := by rw [List.map_map]; rfl
    rw [e] at z c2
    rw [(ori_iff.mp z).1] at c2
    cases c2
  have D4 := s4 _ _ hD
  obtain ⟨ks, e1, e2, e3⟩ := pairs_ksO (K := K) ((pz.same s4).at)
  have form : ∀ p ∈ ks, ∃ r ∈ ps.map ordP, p.2 = [(r.1 : Int), (r.2 : Int)] := fun p hp => by
    have z : p.2 ∈ ks.map (·.2) := List.mem_map.mpr ⟨p, hp, rfl⟩
    rw [e2] at z
    obtain ⟨r, h1, h2⟩ := List.mem_map.mp z
    exact ⟨r, h1, h2.symm⟩
  have small' : ∀ r ∈ ps.map ordP, r.1 ≤ r.2 ∧ r.2 < n := fun r hr => by
    obtain ⟨p, hp, rfl⟩ := List.mem_map.mp hr
    have := lt p hp
    show min p.1 p.2 ≤ max p.1 p.2 ∧ max p.1 p.2 < n
    omega
  refine ⟨_, rfl, D, ks, rfl, by rw [← e1]; exact SqL.of D4, e3, fun M hM nd => ks_few nd fun p hp => ?_, fun a L na sub sup => ?_⟩
  · obtain ⟨r, hr, e⟩ := form p (hM p hp)
    have := small' r hr
    exact ⟨r, e, this.1, by omega⟩
  refine ⟨a, L, 2, 9, rfl, upd_same, fun p hp => Same.tup (same_new na _) (e3 p (sub p hp)), by decide, fun p hp => ?_, fun L' b perm nd few up nb => ?_⟩
  · obtain ⟨r, hr, e⟩ := form p (sub p hp)
    have z := small' r hr
    rw [e]
    refine ⟨rfl, fun m hm => ?_⟩
    rcases List.mem_cons.mp hm with rfl | hm
    · omega
    · have := List.mem_singleton.mp hm
      omega
  have m' : ∀ p ∈ L', p ∈ ks := fun p hp => sub p (perm.mem_iff.mp hp)
  have back : ∀ p ∈ L', p.2 = [((toEO p.2).1 : Int), ((toEO p.2).2 : Int)] ∧ toEO p.2 ∈ ps.map ordP := fun p hp => by
    obtain ⟨r, hr, e⟩ := form p (m' p hp)
    rw [e, toEO_of]
    exact ⟨rfl, hr⟩
  have s45 := (same_new na (SetTO P w a L)).trans (same_new nb (.lst (L'.map fun q => V.ref q.1)))
  have hb := upd_same (H := upd H4 a (SetTO P w a L)) (a := b) (o := .lst (L'.map fun q => V.ref q.1))
  have s15 := s2.trans (s3.trans (s4.trans s45))
  refine ⟨_, rfl, e, ys, rfl, .inr (Same.tup s15 he), fun c nc => ?_⟩
  have sc := same_new nc (.lst ys)
  have hc := upd_same (H := upd (upd H4 a (SetTO P w a L)) b (.lst (L'.map fun q => V.ref q.1))) (a := c) (o := .lst ys)
  have pw : PairsAt K _ (L'.map fun q => V.ref q.1) (L'.map fun p => toEO p.2) := ks_pairsO (fun p hp => Same.tup (s45.trans sc) (e3 p (m' p hp))) fun p hp => (back p hp).1
  have upw : (L'.map fun p => toEO p.2).Pairwise ahead := by
    rw [List.pairwise_map]
    have nd2 := List.pairwise_map.mp nd
    have both := up.and nd2
    refine both.imp_of_mem ?_
    intro p r hp hr ⟨le, neq⟩
    have b1 := (back p hp).1
    have b2 := (back r hr).1
    have z1 := small' _ (back p hp).2
    have z2 := small' _ (back r hr).2
    rw [b1, b2] at le neq
    have c1 : TS.code 9 [((toEO p.2).1 : Int), ((toEO p.2).2 : Int)] = ((toEO p.2).1 : Int) * 9 + ((toEO p.2).2 : Int) := by simp [TS.code]
    have c2 : TS.code 9 [((toEO r.2).1 : Int), ((toEO r.2).2 : Int)] = ((toEO r.2).1 : Int) * 9 + ((toEO r.2).2 : Int) := by simp [TS.code]
    rw [c1, c2] at le
    have ne2 : ¬ ((toEO p.2).1 = (toEO r.2).1 ∧ (toEO p.2).2 = (toEO r.2).2) := fun ⟨x, y⟩ => neq (by rw [x, y])
    show (toEO p.2).1 < (toEO r.2).1 ∨ ((toEO p.2).1 = (toEO r.2).1 ∧ (toEO p.2).2 < (toEO r.2).2)
    omega
  have mw : ∀ q, q ∈ (L'.map fun p => toEO p.2) ↔ q ∈ ps.map ordP := fun r => by
    constructor
    · intro hr
      obtain ⟨p, hp, rfl⟩ := List.mem_map.mp hr
      exact (back p hp).2
    · intro hr
      have z : [(r.1 : Int), (r.2 : Int)] ∈ ks.map (·.2) := by
        rw [e2]
        exact List.mem_map.mpr ⟨r, hr, rfl⟩
      obtain ⟨p, hp, ep⟩ := List.mem_map.mp z
      have z2 := sup p hp
      obtain ⟨p2, hp2, ep2⟩ := List.mem_map.mp z2
      refine List.mem_map.mpr ⟨p2, perm.mem_iff.mpr hp2, ?_⟩
      rw [ep2, ep, toEO_of]
  refine ⟨.list ((L'.map fun p => toEO p.2).map pairD), .list (es.map pairD), .lst (SqL.of (sc _ _ hb)) pw.dp, .lst (SqL.of hc) (hes.same (s15.trans sc)).dp, pairs_shapedO _, pairs_shapedO _, ?_⟩
  have fin : PyData.eqv (.list ((L'.map fun p => toEO p.2).map pairD)) (.list (es.map pairD)) = oriB es (.tup (ps.map pairS)) := by
    simp only [PyData.eqv]
    rw [pairsD_eqv]
    by_cases c : (L'.map fun p => toEO p.2) = es
    · rw [ori_yes ((ori_pairs g upw mw).mpr ⟨c2, c⟩), decide_eq_true c]
    · rw [ori_no (fun z => c ((ori_pairs g upw mw).mp z).2), decide_eq_false c]
  rw [fin]
  exact q1 _ (s15.trans sc)
end
end My

set_option maxHeartbeats 4000000
namespace My
open PySem PySem.Spec PyProof.Rows L2
abbrev sComplement : Stmt := top 17
theorem scComplement : FnScope ["graph", "many", "edges", "pairs", "one", "other", "pair"] ["graph"] (defScope sComplement) := ⟨rfl, rfl, rfl, by decide +kernel, rfl, by decide +kernel, by decide +kernel⟩
def leftP (n : Nat) (es : List E2) : List E2 := (allP n).filter fun p => decide (p ∉ es)
theorem leftP_eq (n : Nat) (es : List E2) : leftP n es = (List.range n).flatMap fun u => (rowP n u).filter fun p => decide (p ∉ es) := List.filter_flatMap
def spComplement (K : PySem.W.Frag) : Sp := fun vs H Q _ => ∃ (x : V) (n : Nat) (es : List E2), vs = [x] ∧ GraphAt K H x n es ∧ Good n es ∧ ∀ (y : V) H', Same H H' → GraphAt K H' y n (leftP n es) → Q y H'
theorem PairsT.get {H : Hp} : ∀ {xs : List V} {ps : List E2}, PairsT H xs ps → ∀ {i : Nat} {x : V}, xs[i]? = some x → ∃ p, ps[i]? = some p ∧ PairT H x p
  | _, _, .nil, i, x, e => by simp at e
  | _, _, .cons a r, 0, x, e => by simp at e; subst e; exact ⟨_, rfl, a⟩
  | _, _, .cons a r, i + 1, x, e => by
    obtain ⟨s, h1, h2⟩ := PairsT.get r (i := i) (x := x) (by simpa using e)
    exact ⟨s, by simpa using h1, h2⟩
theorem rowP_len : ∀ n, n ≤ 9 → ∀ u, u ≤ 9 → (rowP n u).length ≤ 9 := by decide +kernel
section
variable {P : Program} {w : World} {K : PySem.W.Frag} {mg : Str → Option Value} {base : Heap} {f fC : Addr} {fd dC : FuncData}
theorem ok_complement (F : L2.Fun K "complement" "complement" sComplement f fd) (GC : FnOk P w K mg base CX0 5 fC dC ["graph"] (spCheckGraph K)) (bC : L2.Binds K dC ["graph"] []) (kC : PySem.W.keepIn K (.ref fC) = true) (mC : mg "check_graph" = some (.ref fC)) (mr : mg "range" = none) (mt : mg "tuple" = none) : FnOk P w K mg base CX0 6 f fd ["graph"] (spComplement K) := by
  refine F.ok scComplement (fun vs H Q E h => ?_) (fun cdv A outer s H vs Q E hr h => ?_)
  · obtain ⟨x, n, es, rfl, _⟩ := h
    rfl
  obtain ⟨x, n, es, rfl, hx, g, q⟩ := h
  refine ⟨_, pss_cons (ps_expr (pe_call GC hr (by rfl) mC kC bC .nil pass0 (pa_cons (pv 0) pa_nil)))
    (pss_cons (ps_asg (pv 0) (pg_tup (by rfl) (pgs_cons (pg_name (i := 1) scComplement.nd rfl (.inr rfl)) (pgs_cons (pg_name (i := 2) scComplement.nd rfl (.inr rfl)) pgs_nil))))
    (pss_cons (ps_setLc2 (i := 3) (own := [("one", 4), ("other", 5)]) (vs1 := [5]) (g := gName 4) (g1 := gName 5) (tt := tYes) (tt1 := tYes) rfl scComplement.nd rfl rfl (sw_true rfl rfl rfl (by decide +kernel)) (pi_range1 rfl mr (pa_cons (pv 1) pa_nil))
        (blkOk_by (N := ["graph", "many", "edges", "pairs", "one", "other", "pair"]) (sc := defScope sComplement) (by decide +kernel)) (by decide)
        (fun _ _ _ _ _ => pg_name (i := 4) scComplement.nd rfl (Or.inl rfl)) (fun _ _ _ _ _ => pts_nil) (fun _ _ _ _ _ => pi_range2 (by rfl) mr (pa_cons (pe_op op_add (pv 4) pe_int) (pa_cons (pv 1) pa_nil))) (fun _ _ _ _ _ => pg_name (i := 5) scComplement.nd rfl (Or.inl rfl)) (fun _ _ _ _ _ => pts_nil)
        (fun _ _ _ _ _ => pe_tup (pa_cons (pv 4) (pa_cons (pv 5) pa_nil))))
    (pss_one (ps_ret (pe_tup (pa_cons (pv 1) (pa_cons (pe_callTy call_tuple_of (by rfl) mt (by decide +kernel) (pa_cons (pe_lc (own := [("pair", 6)]) (g := gName 6) rfl scComplement.nd (pi_list (pv 3))
        (blkOk_by (N := ["graph", "many", "edges", "pairs", "one", "other", "pair"]) (sc := defScope sComplement) (by decide +kernel)) (fun _ _ _ _ _ => pg_name (i := 6) scComplement.nd rfl (Or.inl rfl))
        (fun _ _ _ _ _ => pts_one (pt_cmpR (r := rInP not K) (op_notInP hr.units) (pv 6) (pv 2) (by rfl))) (fun _ _ _ _ _ => pv 6)) pa_nil)) pa_nil))))))), ?_⟩
  have n9 := g.n9
  refine ⟨_, rfl, x, n, es, rfl, hx, g, fun H1 s1 => ?_⟩
  obtain ⟨t, e, xs, rfl, ht, he, hes⟩ := hx.same s1
  refine ⟨_, rfl, t, _, rfl, ht, rfl, _, _, rfl, _, _, rfl, rfl, ?_⟩
  refine ⟨_, rfl, (n : Int), rfl, by omega, by omega, fun D nD => lo_it (walk_range (lo := 0) (n := ((n : Nat) : Int).toNat)) (fun i H2 => Same H1 H2 ∧ ∃ zs, H2 D = some (.lst zs) ∧ PairsT H2 zs ((List.range i).flatMap (rowP n))) ⟨same_new nD _, [], upd_same, .nil⟩ (fun _ _ _ _ => trivial) ?_ ?_⟩
  · rintro i x H2 _ li ⟨s2, zs, hD, pz⟩ ⟨rfl, ex⟩
    obtain rfl : x = V.int ((i : Nat) : Int) := ex.trans (congrArg V.int (Int.zero_add _))
    have l9 : zs.length ≤ 81 := by rw [PairsT.len pz]; exact rows_few i (by omega) n n9
    refine ⟨rfl, ?_⟩
    refine ⟨_, rfl, _, _, rfl, rfl, _, rfl, _, _, rfl, ⟨by omega, by omega, by omega, by omega⟩, lo_it (walk_range (lo := (i : Int) + 1) (n := ((n : Int) - ((i : Int) + 1)).toNat)) (fun j H3 => Same H1 H3 ∧ ∃ zs, H3 D = some (.lst zs) ∧ PairsT H3 zs ((List.range i).flatMap (rowP n) ++ (List.range j).map fun j => (i, i + 1 + j))) ⟨s2, zs, hD, by rw [List.range_zero, List.map_nil, List.append_nil]; exact pz⟩ (fun _ _ _ _ => trivial) ?_ ?_⟩
    · rintro j x H3 _ lj ⟨s3, zs, hD, pz⟩ ⟨rfl, ex⟩
      obtain rfl : x = V.int ((i + 1 + j : Nat) : Int) := ex.trans (congrArg V.int (by omega))
      refine ⟨rfl, ?_⟩
      refine ⟨_, rfl, _, rfl, (by show 2 ≤ sizeLine; decide), fun r nr => ?_⟩
      have p1 := push_pairT (i, i + 1 + j) hD nr pz
      have l1 : zs.length ≤ 81 + 9 := by
        have := rows_few i (by omega) n n9
        rw [PairsT.len pz, List.length_append, List.length_map, List.length_range]
        omega
      refine ⟨zs, (same_new nr _) _ _ hD, small1000 (by omega), same_put (s3.trans (same_new nr _)) nD, _, upd_same, ?_⟩
      rw [List.range_succ, List.map_append, ← List.append_assoc]
      exact p1
    · rintro H3 ⟨s3, zs, hD, pz⟩
      refine ⟨s3, zs, hD, ?_⟩
      rw [List.range_succ, List.flatMap_append, List.flatMap_cons, List.flatMap_nil, List.append_nil]
      rw [show ((n : Int) - ((i : Int) + 1)).toNat = n - (i + 1) by omega] at pz
      exact pz
  rintro H2 ⟨s2, zs, hD, pz⟩
  rw [show ((n : Nat) : Int).toNat = n by omega] at pz
  have lz : zs.length ≤ 81 := by rw [PairsT.len pz]; exact rows_few n n9 n n9
  have lzn := PairsT.len pz
  refine ⟨_, rfl, _, rfl, D, rfl, ⟨_, SqL.of hD⟩, fun B nB => lo_it (walk_list (xs := zs)) (fun i H3 => Same H2 H3 ∧ ∃ ys, H3 B = some (.lst ys) ∧ ys.length ≤ i ∧ PairsT H3 ys (((((List.range n).flatMap (rowP n)).take i)).filter fun p => decide (p ∉ es))) ⟨same_new nB _, [], upd_same, Nat.le_refl _, .nil⟩ (fun i H3 _ ⟨s3, _⟩ => SqL.of (s3 _ _ hD)) ?_ ?_⟩
  · rintro i x _ H3 li ⟨s3, ys, hB, ly, py⟩ ⟨rfl, hi⟩
    obtain ⟨p, hp, hpx⟩ := PairsT.get (pz.same s3) hi
    have sA := s2.trans s3
    have lz3 : zs.length ≤ 81 := lz
    refine ⟨rfl, ?_⟩
    refine ⟨_, rfl, _, rfl, p, e, xs, es, hpx.at, rfl, Same.tup sA he, hes.same sA, _, rfl, iteB (fun c => ?_) (fun c => ?_)⟩
    · have c' : p ∉ es := by simpa using c
      refine ⟨_, rfl, ys, hB, small1000 (by omega), same_put s3 nB, _, upd_same, by rw [List.length_append]; exact Nat.succ_le_succ ly, ?_⟩
      rw [take_succ hp, List.filter_append, List.filter_cons_of_pos (by simpa using c'), List.filter_nil]
      exact (py.append (.cons hpx .nil)).put hB
    · have c' : p ∈ es := by simpa using c
      refine ⟨s3, ys, hB, by omega, ?_⟩
      rw [take_succ hp, List.filter_append, List.filter_cons_of_neg (by simpa using c'), List.filter_nil, List.append_nil]
      exact py
  · rintro H3 ⟨s3, ys, hB, ly, py⟩
    rw [lzn, List.take_length] at py
    refine ⟨B, ys, rfl, .inl ⟨SqL.of hB, fun l nl => ⟨(by show 2 ≤ sizeLine; decide), fun r nr => ?_⟩⟩⟩
    have s4 := same_new nl (.tup ys)
    have s5 := same_new nr (.tup [.int (n : Int), .ref l])
    refine q (.ref r) _ (s1.trans (s2.trans (s3.trans (s4.trans s5)))) ⟨r, l, ys, rfl, SqT.of upd_same, SqT.of (s5 _ _ upd_same), PairsT.at ((py.same s4).same s5)⟩
end
end My

set_option maxHeartbeats 4000000
namespace My
open PySem PySem.Spec PyProof.Rows L2
abbrev sMasks : Stmt := top 18
abbrev sMaskOf : Stmt := top 19
abbrev sLotOf : Stmt := top 20
theorem scMasks : FnScope ["graph", "many", "edges", "masks", "one", "other"] ["graph"] (defScope sMasks) := ⟨rfl, rfl, rfl, by decide +kernel, rfl, by decide +kernel, by decide +kernel⟩
theorem scMaskOf : FnScope ["lot", "vertex"] ["lot"] (defScope sMaskOf) := ⟨rfl, rfl, rfl, by decide +kernel, rfl, by decide +kernel, by decide +kernel⟩
theorem scLotOf : FnScope ["mask", "vertex"] ["mask"] (defScope sLotOf) := ⟨rfl, rfl, rfl, by decide +kernel, rfl, by decide +kernel, by decide +kernel⟩
theorem numsN_set (l : List Nat) (j k : Nat) : (numsN l).set j (V.int ((k : Nat) : Int)) = numsN (l.set j k) := by
  unfold numsN
  rw [List.map_set]
theorem numsN_getD {l : List Nat} {j : Nat} (h : j < l.length) : (numsN l)[j]? = some (V.int ((l.getD j 0 : Nat) : Int)) := by
  unfold numsN
  rw [List.getElem?_map, List.getElem?_eq_getElem h, List.getD_eq_getElem?_getD, List.getElem?_eq_getElem h]
  rfl
theorem shl_one (b : Nat) : (1 : Int) * 2 ^ ((b : Nat) : Int).toNat = ((2 ^ b : Nat) : Int) := by
  rw [Int.toNat_natCast, Int.one_mul, Int.natCast_pow]
  rfl
theorem or_shl (a b : Nat) : Builtin.bitOr ((a : Nat) : Int) ((1 : Int) * 2 ^ ((b : Nat) : Int).toNat) = ((a ||| 2 ^ b : Nat) : Int) := by
  rw [shl_one, or_nn]
def rGetN (K : PySem.W.Frag) : V → V → Hp → VK → Prop := fun x y H Q => ∃ (p : Addr) (xs : List V) (j : Nat) (v : V), x = .ref p ∧ y = .int (j : Int) ∧ SqL K H p xs ∧ xs[j]? = some v ∧ Q v H
section
variable {X : Cx}
theorem pget_list : PGet X (rGetN X.K) := by
  intro pins s σ H x y ov iv Q I rx ry h
  obtain ⟨p, xs, j, v, rfl, rfl, hq, he, q⟩ := h
  cases rx
  obtain ⟨t, rfl⟩ := ry
  obtain ⟨its, r, pl, hz⟩ := I.list hq
  obtain ⟨w, ew, rw'⟩ := r.get he
  have hn := line63
  have hj : j < xs.length := (List.getElem?_eq_some_iff.mp he).1
  exact wpAny_getItem_list pl.isList (by omega) (by omega) (by rw [Int.toNat_natCast]; simpa using ew) ⟨v, H, I, rw', q⟩
theorem ip_or : PIp X .BitOr (ipI fun i j => Builtin.bitOr i j) := by
  intro pins s σ H x y v u Q I r1 r2 h
  obtain ⟨i, j, e1, e2, q⟩ := h
  subst e1; subst e2
  obtain ⟨t, rfl⟩ := r1
  obtain ⟨t', rfl⟩ := r2
  exact ior_int ⟨.int _, H, I.tok _, ⟨_, rfl⟩, q⟩
end
def spMasks (K : PySem.W.Frag) : Sp := fun vs H Q _ => ∃ (x : V) (n : Nat) (es : List E2), vs = [x] ∧ GraphAt K H x n es ∧ Good n es ∧ ∀ (D : Addr) (nb : List Nat) H', H D = none → Same H H' → H' D = some (.lst (numsN nb)) → NbOk n es nb → Q (.ref D) H'
section
variable {P : Program} {w : World} {K : PySem.W.Frag} {mg : Str → Option Value} {base : Heap} {f : Addr} {fd : FuncData}
theorem ok_masks (F : L2.Fun K "neighbour_masks" "neighbour_masks" sMasks f fd) : FnOk P w K mg base CX0 1 f fd ["graph"] (spMasks K) := by
  refine F.ok scMasks (fun vs H Q E h => ?_) (fun cdv A outer s H vs Q E hr h => ?_)
  · obtain ⟨x, n, es, rfl, _⟩ := h
    rfl
  obtain ⟨x, n, es, rfl, ⟨t, e, xs, rfl, ht, he, hes⟩, g, q⟩ := h
  refine ⟨_, pss_cons (ps_asg (pv 0) (pg_tup (by rfl) (pgs_cons (pg_name (i := 1) scMasks.nd rfl (.inl rfl)) (pgs_cons (pg_name (i := 2) scMasks.nd rfl (.inl rfl)) pgs_nil))))
    (pss_cons (ps_set (i := 3) scMasks.nd rfl (.inl rfl) (pe_op op_rep (pe_lst (pa_cons pe_int pa_nil)) (pv 1)))
    (pss_cons (ps_for PassesOwn.never rfl (pi_tup (pv 2)) (pg_tup (by rfl) (pgs_cons (pg_name (i := 4) scMasks.nd rfl (.inl rfl)) (pgs_cons (pg_name (i := 5) scMasks.nd rfl (.inl rfl)) pgs_nil)))
      (pss_cons (ps_augS (pv 3) (pv 4) pget_list (pe_op op_shl pe_int (pv 5)) ip_or set_list)
      (pss_one (ps_augS (pv 3) (pv 5) pget_list (pe_op op_shl pe_int (pv 4)) ip_or set_list))))
    (pss_one (ps_ret (pv 3))))), ?_⟩
  have n9 := g.n9
  have few := g.few
  have le := PairsAt.len hes
  refine ⟨_, rfl, t, _, rfl, ht, rfl, _, _, rfl, _, _, rfl, rfl, ?_⟩
  refine ⟨(by show 1 ≤ sizeLine; rw [sizeLine_eq]; decide), fun z nz => ?_⟩
  have hz := upd_same (H := H) (a := z) (o := .lst [V.int 0])
  have sz := same_new nz (.lst [V.int 0])
  refine ⟨_, rfl, z, (n : Int), [.int 0], rfl, rfl, hz, by omega, by omega, small (by rw [Int.toNat_natCast, List.length_singleton]; omega), fun D nD => ?_⟩
  have e0 : (List.replicate ((n : Nat) : Int).toNat [V.int 0]).flatten = numsN (List.replicate n 0) := by
    rw [Int.toNat_natCast]
    unfold numsN
    rw [List.map_replicate, List.flatten_replicate_singleton]
    rfl
  rw [e0]
  have sD := same_new nD (.lst (numsN (List.replicate n 0)))
  have nD0 : H D = none := sz.free nD
  have s0 := sz.trans sD
  have hD := upd_same (H := upd H z (.lst [V.int 0])) (a := D) (o := .lst (numsN (List.replicate n 0)))
  generalize upd (upd H z (.lst [V.int 0])) D (.lst (numsN (List.replicate n 0))) = H0 at s0 hD sD ⊢
  refine ⟨_, rfl, e, rfl, ⟨_, Same.tup s0 he⟩, for_it (walk_tup (xs := xs)) (fun i σ H' => ∃ (nb : List Nat) (s4 s5 : Option V), σ = [some (.ref t), some (.int (n : Int)), some (.ref e), some (.ref D), s4, s5] ∧ Same H H' ∧ H' D = some (.lst (numsN nb)) ∧ NbOk n (es.take i) nb)
    ⟨_, none, none, rfl, s0, hD, nb_nil n⟩ (fun i σ H' _ ⟨_, _, _, _, s, _⟩ => Same.tup s he) ?_ ?_⟩
  · rintro i x σ H2 H3 li ⟨nb, s4, s5, rfl, s2, hD2, ok⟩ ⟨rfl, hi⟩
    obtain ⟨p, hp, u, rfl, hu⟩ := PairsAt.get (hes.same s2) hi
    obtain ⟨l1, l2⟩ := g.lt p (List.mem_of_getElem? hp)
    have ln := ok.1
    have ln2 : (nb.set p.1 (nb.getD p.1 0 ||| 2 ^ p.2)).length = n := by rw [List.length_set]; exact ln
    refine ⟨u, _, rfl, hu, rfl, _, _, rfl, _, _, rfl, rfl, ?_⟩
    refine ⟨_, rfl, _, rfl, D, _, p.1, _, rfl, rfl, SqL.of hD2, numsN_getD (by omega), _, rfl, _, _, rfl, rfl, ⟨by omega, by omega, by decide⟩, _, _, rfl, rfl, D, _, _, p.1, rfl, rfl, hD2, by rw [numsN_len]; exact ixN_of (by omega), ?_⟩
    simp only [or_shl, numsN_set]
    have hD3 := upd_same (H := H3) (a := D) (o := .lst (numsN (nb.set p.1 (nb.getD p.1 0 ||| 2 ^ p.2))))
    have s3 := same_put (o := .lst (numsN (nb.set p.1 (nb.getD p.1 0 ||| 2 ^ p.2)))) s2 nD0
    generalize upd H3 D (.lst (numsN (nb.set p.1 (nb.getD p.1 0 ||| 2 ^ p.2)))) = H4 at hD3 s3 ⊢
    refine ⟨_, rfl, _, rfl, D, _, p.2, _, rfl, rfl, SqL.of hD3, numsN_getD (by omega), _, rfl, _, _, rfl, rfl, ⟨by omega, by omega, by decide⟩, _, _, rfl, rfl, D, _, _, p.2, rfl, rfl, hD3, by rw [numsN_len]; exact ixN_of (by omega), ?_⟩
    simp only [or_shl, numsN_set]
    refine ⟨_, _, _, rfl, same_put s3 nD0, upd_same, ?_⟩
    rw [take_succ hp]
    exact nb_step ok l1 l2
  · rintro σ H2 ⟨nb, s4, s5, rfl, s2, hD2, ok⟩
    rw [le, List.take_length] at ok
    exact ⟨_, rfl, q D nb H2 nD0 s2 hD2 ok⟩
end
end My

set_option maxHeartbeats 4000000
namespace My
open PySem PySem.Spec PyProof.Rows L2
def spMaskOf (K : PySem.W.Frag) : Sp := fun vs H Q _ => ∃ (v : V) (l : List Nat), vs = [v] ∧ LotAt K H v l ∧ l.length ≤ 100 ∧ (∀ k ∈ l, k ≤ 100) ∧ ∀ H', Same H H' → Q (.int ((maskN l : Nat) : Int)) H'
def spLotOf (K : PySem.W.Frag) : Sp := fun vs H Q _ => ∃ (m n : Nat), vs = [.int (m : Int)] ∧ m < 2 ^ n ∧ n ≤ 9 ∧ ∀ (t : Addr) H', H t = none → Same H H' → H' t = some (.tup ((bitsN n m).map fun k => V.int ((k : Nat) : Int))) → Q (.ref t) H'
theorem sum_cast : ∀ l : List Nat, ((l.map fun k => ((2 ^ k : Nat) : Int)).sum) = ((maskN l : Nat) : Int)
  | [] => rfl
  | a :: r => by
    have ih := sum_cast r
    unfold maskN at ih ⊢
    rw [List.map_cons, List.sum_cons, ih, List.map_cons, List.sum_cons]
    omega
theorem bits_len_eq : ∀ n, n ≤ 9 → ∀ m : Nat, m < 2 ^ n → (List.range (Builtin.Int.intBits ((m : Nat) : Int))).filter (fun v => m.testBit v) = bitsN n m := by decide +kernel
theorem intBits_le : ∀ m : Nat, m < 512 → Builtin.Int.intBits ((m : Nat) : Int) ≤ 9 := by decide +kernel
theorem shr_bit (m v : Nat) : Builtin.bitAnd (((m : Nat) : Int) / 2 ^ ((v : Nat) : Int).toNat) 1 = if m.testBit v then 1 else 0 := by
  rw [Int.toNat_natCast]
  have e : ((m : Nat) : Int) / 2 ^ v = ((m / 2 ^ v : Nat) : Int) := by
    rw [Int.natCast_ediv, Int.natCast_pow]
    rfl
  rw [e, show (1 : Int) = ((1 : Nat) : Int) from rfl, and_nn]
  rw [Nat.testBit_eq_decide_div_mod_eq, Nat.and_one_is_mod]
  have z := Nat.mod_lt (m / 2 ^ v) (show 2 > 0 by decide)
  by_cases c : m / 2 ^ v % 2 = 1
  · rw [c]; simp
  · have : m / 2 ^ v % 2 = 0 := by omega
    rw [this]; simp
def tTruM (K : PySem.W.Frag) (te : TE) : TT := fun σ H Q => te σ H fun x H' => ∃ k, TruV K x H' k ∧ Q k H'
section
variable {P : Program} {w : World} {K : PySem.W.Frag} {mg : Str → Option Value} {base : Heap} {f : Addr} {fd : FuncData}
theorem ok_mask_of (F : L2.Fun K "mask_of" "mask_of" sMaskOf f fd) (ms : mg "sum" = none) : FnOk P w K mg base CX0 1 f fd ["lot"] (spMaskOf K) := by
  refine F.ok scMaskOf (fun vs H Q E h => ?_) (fun cdv A outer s H vs Q E hr h => ?_)
  · obtain ⟨v, l, rfl, _⟩ := h
    rfl
  obtain ⟨v, l, rfl, ⟨t, rfl, ht⟩, few, small', q⟩ := h
  refine ⟨_, pss_one (ps_ret (pe_callB (cr_sum rfl) (by rfl) ms (by decide +kernel) (pa_cons (pe_lc (own := [("vertex", 1)]) (g := gName 1) (tt := tYes) rfl scMaskOf.nd (pi_tup (pv 0))
        (blkOk_by (N := ["lot", "vertex"]) (sc := defScope sMaskOf) (by decide +kernel)) (fun _ _ _ _ _ => pg_name (i := 1) scMaskOf.nd rfl (Or.inl rfl)) (fun _ _ _ _ _ => pts_nil) (fun _ _ _ _ _ => pe_op op_shl pe_int (pv 1))) pa_nil))), ?_⟩
  refine ⟨_, rfl, t, rfl, ⟨_, ht⟩, fun D nD => lo_it (walk_tup (xs := l.map fun k => V.int ((k : Nat) : Int))) (fun i H2 => Same H H2 ∧ H2 D = some (.lst (((l.take i).map fun k => ((2 ^ k : Nat) : Int)).map V.int))) ⟨same_new nD _, upd_same⟩ (fun i H2 _ ⟨s2, _⟩ => Same.tup s2 ht) ?_ ?_⟩
  · rintro i x _ H2 li ⟨s2, hD⟩ ⟨rfl, hi⟩
    rw [List.getElem?_map] at hi
    cases e : l[i]? with
    | none => rw [e] at hi; cases hi
    | some k =>
      rw [e] at hi
      cases hi
      have k100 := small' k (List.mem_of_getElem? e)
      refine ⟨rfl, ?_⟩
      refine ⟨_, rfl, _, _, rfl, rfl, ⟨by omega, by omega, by decide⟩, _, hD, small1000 (by rw [List.length_map, List.length_map, List.length_take]; omega), same_put s2 nD, ?_⟩
      simp only [shl_one]
      rw [upd_same, take_succ e, List.map_append, List.map_append]
      rfl
  · rintro H2 ⟨s2, hD⟩
    rw [List.length_map, List.take_length] at hD
    refine ⟨D, _, rfl, SqL.of hD, ?_⟩
    rw [sum_cast]
    exact q H2 s2
theorem ok_lot_of (F : L2.Fun K "lot_of" "lot_of" sLotOf f fd) (mr : mg "range" = none) (mt : mg "tuple" = none) : FnOk P w K mg base CX0 1 f fd ["mask"] (spLotOf K) := by
  refine F.ok scLotOf (fun vs H Q E h => ?_) (fun cdv A outer s H vs Q E hr h => ?_)
  · obtain ⟨m, n, rfl, _⟩ := h
    rfl
  obtain ⟨m, n, rfl, lt, n9, q⟩ := h
  refine ⟨_, pss_one (ps_ret (pe_callTy call_tuple_of (by rfl) mt (by decide +kernel) (pa_cons (pe_lc (own := [("vertex", 1)]) (g := gName 1) (tt := tTruM K (tOp (rI0 fun i j => .int (Builtin.bitAnd i j)) (tOp (rI (fun _ j => 0 ≤ j) fun i j => .int (i / 2 ^ j.toNat)) (tVar 0) (tVar 1)) (tC (.int 1)))) rfl scLotOf.nd (pi_range1 rfl mr (pa_cons (pe_bits (pv 0)) pa_nil))
        (blkOk_by (N := ["mask", "vertex"]) (sc := defScope sLotOf) (by decide +kernel)) (fun _ _ _ _ _ => pg_name (i := 1) scLotOf.nd rfl (Or.inl rfl)) (fun _ _ _ _ _ => pts_one (pt_truth (pe_op op_and (pe_op op_shr (pv 0) (pv 1)) pe_int) (by intro _; rfl))) (fun _ _ _ _ _ => pv 1)) pa_nil))), ?_⟩
  have l9 : m < 512 := Nat.lt_of_lt_of_le lt (Nat.pow_le_pow_right (by decide) n9)
  have b9 := intBits_le m l9
  refine ⟨_, rfl, _, rfl, _, rfl, by omega, by omega, fun D nD => lo_it (walk_range (lo := 0) (n := ((Builtin.Int.intBits ((m : Nat) : Int) : Nat) : Int).toNat)) (fun i H2 => Same H H2 ∧ H2 D = some (.lst (((List.range i).filter fun v => m.testBit v).map fun k => V.int ((k : Nat) : Int)))) ⟨same_new nD _, upd_same⟩ (fun _ _ _ _ => trivial) ?_ ?_⟩
  · rintro i x H2 _ li ⟨s2, hD⟩ ⟨rfl, ex⟩
    obtain rfl : x = V.int ((i : Nat) : Int) := ex.trans (congrArg V.int (Int.zero_add _))
    have few : ((List.range i).filter fun v => m.testBit v).length ≤ i := Nat.le_trans (List.length_filter_le _ _) (by rw [List.length_range]; exact Nat.le_refl _)
    refine ⟨rfl, ?_⟩
    refine ⟨_, rfl, _, rfl, _, _, rfl, rfl, by omega, _, _, rfl, rfl, _, rfl, ?_⟩
    simp only [shr_bit]
    cases e : m.testBit i with
    | true =>
      refine iteT ⟨_, rfl, _, hD, small1000 (by rw [List.length_map]; omega), same_put s2 nD, ?_⟩
      rw [upd_same, List.range_succ, List.filter_append, List.map_append, List.filter_cons_of_pos e]
      rfl
    | false =>
      refine iteF ⟨s2, ?_⟩
      rw [hD, List.range_succ, List.filter_append, List.filter_cons_of_neg (by rw [e]; decide), List.filter_nil, List.append_nil]
  · rintro H2 ⟨s2, hD⟩
    rw [Int.toNat_natCast, bits_len_eq n n9 m lt] at hD
    refine ⟨D, _, rfl, .inl ⟨SqL.of hD, fun l nl => ?_⟩⟩
    exact q l _ (s2.free nl) (s2.trans (same_new nl _)) upd_same
end
end My

set_option maxHeartbeats 4000000
namespace My
open PySem PySem.Spec PyProof.Rows L2
abbrev sIsClq : Stmt := top 22
abbrev sIsStb : Stmt := top 23
abbrev sCMasks : Stmt := top 24
theorem scIsClq : FnScope ["graph", "lot", "neighbours", "whole", "vertex"] ["graph", "lot"] (defScope sIsClq) := ⟨rfl, rfl, rfl, by decide +kernel, rfl, by decide +kernel, by decide +kernel⟩
theorem scIsStb : FnScope ["graph", "lot"] ["graph", "lot"] (defScope sIsStb) := ⟨rfl, rfl, rfl, by decide +kernel, rfl, by decide +kernel, by decide +kernel⟩
theorem scCMasks : FnScope ["neighbours", "found", "vertex", "near", "mask"] ["neighbours"] (defScope sCMasks) := ⟨rfl, rfl, rfl, by decide +kernel, rfl, by decide +kernel, by decide +kernel⟩
def spIsClq (K : PySem.W.Frag) (tied : Bool) : Sp := fun vs H Q _ => ∃ (x : V) (n : Nat) (es : List E2) (v : V) (l : List Nat), vs = [x, v] ∧ GraphAt K H x n es ∧ Good n es ∧ LotAt K H v l ∧ LotOk n l ∧ ∀ H', Same H H' → Q (.bl (decide (PairB es tied l))) H'
def spCMasks (K : PySem.W.Frag) : Sp := fun vs H Q _ => ∃ (D : Addr) (nb : List Nat) (n : Nat) (es : List E2), vs = [.ref D] ∧ SqL K H D (numsN nb) ∧ NbOk n es nb ∧ n ≤ 9 ∧ ∀ (F : Addr) (found : List Nat) H', Same H H' → H' F = some (.lst (numsN found)) → FoundOk es n found → (∃ r, found = 0 :: r) → Q (.ref F) H'
theorem found_few {es : List E2} {k n : Nat} {found : List Nat} (h : FoundOk es k found) (kn : k ≤ n) (n9 : n ≤ 9) : found.length ≤ 512 := by
  have z := sub_few h.1 (m := List.range (2 ^ k)) fun m hm => List.mem_range.mpr ((h.2 m).mp hm).1
  rw [List.length_range] at z
  have p : 2 ^ k ≤ 2 ^ 9 := Nat.pow_le_pow_right (by decide) (by omega)
  omega
theorem clq_row {n : Nat} {es : List E2} {nb : List Nat} {l : List Nat} (ok : NbOk n es nb) (lo : LotOk n l) : (l.map fun k => decide ((nb.getD k 0 ||| 2 ^ k) &&& maskN l = maskN l)).all id = decide (PairB es true l) := by
  rw [Bool.eq_iff_iff, List.all_map, List.all_eq_true, decide_eq_true_eq, pairB_mem (lo.up.imp fun z => Nat.ne_of_lt z)]
  constructor
  · intro h u hu v hv ne
    have z := of_decide_eq_true (h u hu)
    rw [Nat.and_comm] at z
    have z2 := (sub_and _ _).mp z v (by rw [mask_bit lo.up]; exact decide_eq_true hv)
    rw [or_pow_bit, ok.2 u (lo.lt u hu), decide_eq_false ne, Bool.or_false] at z2
    exact z2
  · intro h u hu
    refine decide_eq_true ?_
    rw [Nat.and_comm]
    refine (sub_and _ _).mpr fun v hv => ?_
    rw [mask_bit lo.up] at hv
    have hv' := of_decide_eq_true hv
    rw [or_pow_bit, ok.2 u (lo.lt u hu)]
    by_cases e : u = v
    · rw [decide_eq_true e, Bool.or_true]
    · rw [h u hu v hv' e]; rfl
theorem left_good {n : Nat} {es : List E2} (n9 : n ≤ 9) : Good n (leftP n es) := Good.filter n9 _
  -- 23
theorem left_adj {n : Nat} {es : List E2} {u v : Nat} (hu : u < n) (hv : v < n) (ne : u ≠ v) : adjB (leftP n es) u v = !adjB es u v := by
  -- 23
  unfold adjB
  have h : (min u v, max u v) ∈ allP n := mem_allP.mpr (by dsimp only; omega)
  rw [Bool.eq_iff_iff, decide_eq_true_eq]
  show (_ ∈ (allP n).filter fun p => decide (p ∉ es)) ↔ _
  rw [List.mem_filter]
  simp [h]
theorem left_pair {n : Nat} {es : List E2} {l : List Nat} (lo : LotOk n l) : decide (PairB (leftP n es) true l) = decide (PairB es false l) := by
  -- 23
  rw [Bool.eq_iff_iff, decide_eq_true_eq, decide_eq_true_eq, pairB_mem (lo.up.imp fun z => Nat.ne_of_lt z), pairB_mem (lo.up.imp fun z => Nat.ne_of_lt z)]
  constructor
  · intro h u hu v hv ne
    have z := h u hu v hv ne
    rw [left_adj (lo.lt u hu) (lo.lt v hv) ne] at z
    simpa using z
  · intro h u hu v hv ne
    rw [left_adj (lo.lt u hu) (lo.lt v hv) ne, h u hu v hv ne]
    rfl
section
variable {P : Program} {w : World} {K : PySem.W.Frag} {mg : Str → Option Value} {base : Heap} {f fC fN fM fI : Addr} {fd dC dN dM dI : FuncData}
theorem ok_is_clique (F : L2.Fun K "is_clique" "is_clique" sIsClq f fd) (GC : FnOk P w K mg base CX0 7 fC dC ["graph", "lot"] (spCheckLot K)) (bC : L2.Binds K dC ["graph", "lot"] []) (kC : PySem.W.keepIn K (.ref fC) = true) (mC : mg "check_lot" = some (.ref fC))
    (GN : FnOk P w K mg base CX0 1 fN dN ["graph"] (spMasks K)) (bN : L2.Binds K dN ["graph"] []) (kN : PySem.W.keepIn K (.ref fN) = true) (mN : mg "neighbour_masks" = some (.ref fN))
    (GM : FnOk P w K mg base CX0 1 fM dM ["lot"] (spMaskOf K)) (bM : L2.Binds K dM ["lot"] []) (kM : PySem.W.keepIn K (.ref fM) = true) (mM : mg "mask_of" = some (.ref fM)) (ma : mg "all" = none) : FnOk P w K mg base CX0 8 f fd ["graph", "lot"] (spIsClq K true) := by
  refine F.ok scIsClq (fun vs H Q E h => ?_) (fun cdv A outer s H vs Q E hr h => ?_)
  · obtain ⟨x, n, es, v, l, rfl, _⟩ := h
    rfl
  obtain ⟨x, n, es, v, l, rfl, hx, g, hv, lo, q⟩ := h
  refine ⟨_, pss_cons (ps_expr (pe_call GC hr (by rfl) mC kC bC .nil pass0 (pa_cons (pv 0) (pa_cons (pv 1) pa_nil))))
    (pss_cons (ps_set (i := 2) scIsClq.nd rfl (.inr rfl) (pe_call GN (hr.mono (by decide)) (by rfl) mN kN bN .nil pass0 (pa_cons (pv 0) pa_nil)))
    (pss_cons (ps_set (i := 3) scIsClq.nd rfl (.inr rfl) (pe_call GM (hr.mono (by decide)) (by rfl) mM kM bM .nil pass0 (pa_cons (pv 1) pa_nil)))
    (pss_one (ps_ret (pe_callB (cr_all rfl) (by rfl) ma (by decide +kernel) (pa_cons (pe_lc (own := [("vertex", 4)]) (g := gName 4) (tt := tYes) rfl scIsClq.nd (pi_tup (pv 1))
        (blkOk_by (N := ["graph", "lot", "neighbours", "whole", "vertex"]) (sc := defScope sIsClq) (by decide +kernel)) (fun _ _ _ _ _ => pg_name (i := 4) scIsClq.nd rfl (Or.inl rfl)) (fun _ _ _ _ _ => pts_nil)
        (fun _ _ _ _ _ => pe_cmpR op_eq (pe_op op_and (pe_op op_or (pe_ix (r := rIxL K) ix_list (pv 2) (pv 4) (fun _ _ => rfl)) (pe_op op_shl pe_int (pv 4))) (pv 3)) (pv 3) (nomark _))) pa_nil)))))), ?_⟩
  have n9 := g.n9
  have few := lo.few
  refine ⟨_, rfl, _, rfl, x, n, es, v, l, rfl, hx, g, hv, lo, fun H1 s1 => ?_⟩
  refine ⟨_, rfl, x, n, es, rfl, hx.same s1, g, fun D nb H2 nD s2 hD ok => ?_⟩
  refine ⟨_, rfl, v, l, rfl, (hv.same s1).same s2, by omega, fun k hk => by have := lo.lt k hk; omega, fun H3 s3 => ?_⟩
  have hD3 := s3 _ _ hD
  obtain ⟨t, rfl, ht⟩ := ((hv.same s1).same s2).same s3
  refine ⟨_, rfl, t, rfl, ⟨_, ht⟩, fun B nB => lo_it (walk_tup (xs := l.map fun k => V.int ((k : Nat) : Int))) (fun i H4 => Same H3 H4 ∧ H4 B = some (.lst (((l.take i).map fun k => decide ((nb.getD k 0 ||| 2 ^ k) &&& maskN l = maskN l)).map V.bl))) ⟨same_new nB _, upd_same⟩ (fun i H4 _ ⟨s4, _⟩ => Same.tup s4 ht) ?_ ?_⟩
  · rintro i x _ H4 li ⟨s4, hB⟩ ⟨rfl, hi⟩
    rw [List.getElem?_map] at hi
    cases e : l[i]? with
    | none => rw [e] at hi; cases hi
    | some k =>
      rw [e] at hi
      cases hi
      have kn := lo.lt k (List.mem_of_getElem? e)
      have ln := ok.1
      refine ⟨rfl, ?_⟩
      refine ⟨_, rfl, _, rfl, D, _, _, _, rfl, rfl, SqL.of (s4 _ _ hD3), atI_nat (numsN_getD (by omega)), _, rfl, _, _, rfl, rfl, ⟨by omega, by omega, by decide⟩, _, _, rfl, rfl, _, rfl, _, _, rfl, rfl, _, rfl, rfl, ?_⟩
      simp only [or_shl, and_nn]
      refine ⟨_, hB, small1000 (by rw [List.length_map, List.length_map, List.length_take]; omega), same_put s4 nB, ?_⟩
      have ev : decide (V.int (((nb.getD k 0 ||| 2 ^ k) &&& maskN l : Nat) : Int) = V.int ((maskN l : Nat) : Int)) = decide ((nb.getD k 0 ||| 2 ^ k) &&& maskN l = maskN l) := by
        refine decide_eq_decide.mpr ⟨fun z => ?_, fun z => by rw [z]⟩
        injection z with z
        exact Int.ofNat.inj z
      rw [ev, upd_same, take_succ e, List.map_append, List.map_append]
      rfl
  · rintro H4 ⟨s4, hB⟩
    rw [List.length_map, List.take_length] at hB
    refine ⟨B, _, rfl, SqL.of hB, ?_⟩
    rw [clq_row ok lo]
    exact q H4 (s1.trans (s2.trans (s3.trans s4)))
theorem ok_is_stable (F : L2.Fun K "is_stable" "is_stable" sIsStb f fd) (GI : FnOk P w K mg base CX0 8 fI dI ["graph", "lot"] (spIsClq K true)) (bI : L2.Binds K dI ["graph", "lot"] []) (kI : PySem.W.keepIn K (.ref fI) = true) (mI : mg "is_clique" = some (.ref fI))
    (GC : FnOk P w K mg base CX0 6 fC dC ["graph"] (spComplement K)) (bC : L2.Binds K dC ["graph"] []) (kC : PySem.W.keepIn K (.ref fC) = true) (mC : mg "complement" = some (.ref fC)) : FnOk P w K mg base CX0 9 f fd ["graph", "lot"] (spIsClq K false) := by
  refine F.ok scIsStb (fun vs H Q E h => ?_) (fun cdv A outer s H vs Q E hr h => ?_)
  · obtain ⟨x, n, es, v, l, rfl, _⟩ := h
    rfl
  obtain ⟨x, n, es, v, l, rfl, hx, g, hv, lo, q⟩ := h
  refine ⟨_, pss_one (ps_ret (pe_call GI hr (by rfl) mI kI bI .nil pass0 (pa_cons (pe_call GC (hr.mono (by decide)) (by rfl) mC kC bC .nil pass0 (pa_cons (pv 0) pa_nil)) (pa_cons (pv 1) pa_nil)))), ?_⟩
  refine ⟨_, rfl, x, n, es, rfl, hx, g, fun y H1 s1 hy => ⟨_, rfl, y, n, leftP n es, v, l, rfl, hy, left_good g.n9, hv.same s1, lo, fun H2 s2 => ?_⟩⟩
  rw [left_pair lo]
  exact q H2 (s1.trans s2)
theorem ok_clique_masks (F : L2.Fun K "clique_masks" "clique_masks" sCMasks f fd) (me : mg "enumerate" = none) : FnOk P w K mg base CX0 1 f fd ["neighbours"] (spCMasks K) := by
  refine F.ok scCMasks (fun vs H Q E h => ?_) (fun cdv A outer s H vs Q E hr h => ?_)
  · obtain ⟨D, nb, n, es, rfl, _⟩ := h
    rfl
  obtain ⟨D, nb, n, es, rfl, hD, ok, n9, q⟩ := h
  refine ⟨_, pss_cons (ps_set (i := 1) scCMasks.nd rfl (.inl rfl) (pe_lst (pa_cons pe_int pa_nil)))
    (pss_cons (ps_for PassesOwn.never rfl (pi_enum (by rfl) me (pa_cons (pv 0) pa_nil)) (pg_tup (by rfl) (pgs_cons (pg_name (i := 2) scCMasks.nd rfl (.inr rfl)) (pgs_cons (pg_name (i := 3) scCMasks.nd rfl (.inr rfl)) pgs_nil)))
      (pss_one (ps_set (i := 1) scCMasks.nd rfl (.inl rfl) (pe_op op_cat (pv 1) (pe_lc (own := [("mask", 4)]) (g := gName 4) rfl scCMasks.nd (pi_list (pv 1))
        (blkOk_by (N := ["neighbours", "found", "vertex", "near", "mask"]) (sc := defScope sCMasks) (by decide +kernel)) (fun _ _ _ _ _ => pg_name (i := 4) scCMasks.nd rfl (Or.inl rfl))
        (fun _ _ _ _ _ => pts_one (pt_cmpR op_eq (pe_op op_and (pv 4) (pv 3)) (pv 4) (nomark _)))
        (fun _ _ _ _ _ => pe_op op_or (pv 4) (pe_op op_shl pe_int (pv 2))))))))
    (pss_one (ps_ret (pv 1)))), ?_⟩
  have ln := ok.1
  refine ⟨(by show 1 ≤ sizeLine; rw [sizeLine_eq]; decide), fun F0 nF0 => ?_⟩
  have s0 := same_new nF0 (.lst [V.int 0])
  refine ⟨_, rfl, D, _, rfl, Same.seq s0 hD, for_it walk_enum (fun i σ H' => ∃ (F1 : Addr) (found : List Nat) (s2 s3 : Option V), σ = [some (.ref D), some (.ref F1), s2, s3, none] ∧ Same H H' ∧ H' F1 = some (.lst (numsN found)) ∧ FoundOk es i found ∧ ∃ r, found = 0 :: r)
    ⟨F0, [0], none, none, rfl, s0, upd_same, found_nil es, [], rfl⟩ (fun i σ H' _ ⟨_, _, _, _, _, s, _⟩ => Same.seq s hD) ?_ ?_⟩
  · rintro i x σ H2 H3 li ⟨F1, found, s2', s3', rfl, s2, hF, fo, hr0⟩ ⟨T, y, v, rfl, nT, rfl, e1, e2⟩
    obtain rfl : V.int ((i : Nat) : Int) = y := Option.some.inj e1
    rw [numsN_len] at li
    have e2' : (numsN nb)[i]? = some v := e2
    rw [numsN_getD li] at e2'
    obtain rfl := Option.some.inj e2'
    have sT := same_new nT (.tup [.int ((i : Nat) : Int), .int ((nb.getD i 0 : Nat) : Int)])
    have hF3 := sT _ _ hF
    have few := found_few fo (show i ≤ n by omega) n9
    refine ⟨T, _, rfl, SqT.of upd_same, rfl, _, _, rfl, _, _, rfl, rfl, ?_⟩
    refine ⟨_, rfl, _, rfl, F1, rfl, ⟨_, SqL.of hF3⟩, fun B nB => lo_it (walk_list (xs := numsN found)) (fun j H4 => Same (upd H2 T (.tup [.int ((i : Nat) : Int), .int ((nb.getD i 0 : Nat) : Int)])) H4 ∧ H4 B = some (.lst (numsN (((found.take j).filter fun m => m &&& nb.getD i 0 == m).map (· ||| 2 ^ i))))) ⟨same_new nB _, upd_same⟩ (fun j H4 _ ⟨s4, _⟩ => SqL.of (s4 _ _ hF3)) ?_ ?_⟩
    · rintro j x _ H4 lj ⟨s4, hB⟩ ⟨rfl, hj⟩
      unfold numsN at hj
      rw [List.getElem?_map] at hj
      cases e : found[j]? with
      | none => rw [e] at hj; cases hj
      | some m =>
        rw [e] at hj
        cases hj
        have tk := take_succ e
        refine ⟨rfl, ?_⟩
        refine ⟨_, rfl, _, rfl, _, _, rfl, rfl, _, rfl, rfl, _, rfl, ?_⟩
        simp only [and_nn]
        have ev : decide (V.int ((m &&& nb.getD i 0 : Nat) : Int) = V.int ((m : Nat) : Int)) = (m &&& nb.getD i 0 == m) := by
          rw [Bool.eq_iff_iff, decide_eq_true_eq, beq_iff_eq]
          refine ⟨fun z => ?_, fun z => by rw [z]⟩
          injection z with z
          exact Int.ofNat.inj z
        rw [ev]
        have fl : (((found.take j).filter fun m => m &&& nb.getD i 0 == m).map (· ||| 2 ^ i)).length ≤ 512 := by
          rw [List.length_map]
          refine Nat.le_trans (List.length_filter_le _ _) ?_
          rw [List.length_take]
          omega
        refine iteB (fun c => ?_) (fun c => ?_)
        · refine ⟨_, rfl, _, rfl, _, _, rfl, rfl, ⟨by omega, by omega, by decide⟩, _, _, rfl, rfl, ?_⟩
          simp only [or_shl]
          refine ⟨_, hB, small1000 (by rw [numsN_len]; omega), same_put s4 nB, ?_⟩
          rw [upd_same, tk, List.filter_append, List.filter_cons_of_pos (p := fun m => m &&& nb.getD i 0 == m) c, List.map_append]
          unfold numsN
          rw [List.map_append]
          rfl
        · refine ⟨s4, ?_⟩
          rw [hB, tk, List.filter_append, List.filter_cons_of_neg (p := fun m => m &&& nb.getD i 0 == m) (by rw [c]; decide), List.filter_nil, List.append_nil]
    · rintro H4 ⟨s4, hB⟩
      rw [numsN_len, List.take_length] at hB
      have fl : (((found.filter fun m => m &&& nb.getD i 0 == m).map (· ||| 2 ^ i))).length ≤ 512 := by
        rw [List.length_map]
        exact Nat.le_trans (List.length_filter_le _ _) few
      refine ⟨F1, B, _, _, rfl, rfl, s4 _ _ hF3, hB, Nat.le_trans (by rw [numsN_len, numsN_len]; omega : _ ≤ 1024) (by rw [sizeLine_eq]; decide), fun c nc => ?_⟩
      have e3 : numsN found ++ numsN ((found.filter fun m => m &&& nb.getD i 0 == m).map (· ||| 2 ^ i)) = numsN (goOn found i (nb.getD i 0)) := by
        unfold goOn numsN
        rw [List.map_append]
      rw [e3]
      exact ⟨c, _, _, _, rfl, (s2.trans sT).trans (s4.trans (same_new nc _)), upd_same, found_step fo ok (by omega), by
        obtain ⟨r, rfl⟩ := hr0
        exact ⟨_, List.cons_append ..⟩⟩
  · rintro σ H2 ⟨F1, found, s2', s3', rfl, s2, hF, fo, hr0⟩
    rw [numsN_len, ln] at fo
    exact ⟨_, rfl, q F1 found H2 s2 hF fo hr0⟩
end
end My

set_option maxHeartbeats 4000000
/-! sorted of a list of tuples of ints of any lengths: all of them other than (), or the first one (). -/
namespace My
open PySem PySem.W PySem.Calls PyProof.Rows Builtin
section
variable {prog : Program} {w : World} {A : Around} {E : Value → Shared → Prop} {s : Shared}
theorem kat_ints {b fin : Bool} {Q : Bool → Shared → Prop} : ∀ {ps qs : List Value} {ns ms : List Int} (i : Nat), IntsAre ps ns → IntsAre qs ms → fin = decide (ps.length < qs.length) → Q (HT.lexLt ns ms) s → KatLex prog w A b fin Q (ps.zip qs) i s
  | _, _, _, _, i, .nil, .nil, hf, h => by
    have e : fin = false := by rw [hf]; rfl
    subst e
    exact kat_nil h
  | _, _, _, _, i, .nil, .cons c u t, hf, h => by
    have e : fin = true := by rw [hf]; exact decide_eq_true (by simp)
    subst e
    exact kat_nil h
  | _, _, _, _, i, .cons c u t, .nil, hf, h => by
    have e : fin = false := by rw [hf]; exact decide_eq_false (by simp)
    subst e
    exact kat_nil h
  | _, _, _, _, i, .cons a t r, .cons c u r', hf, h => by
    rw [HT.lexLt_cons] at h
    refine kat_cons (SeqAt.EqAt.int_int a t c u prog w _ _ ?_)
    refine kat_go (fun e1 => ?_) (fun e1 => ?_)
    · have ex : a = c := by simpa using e1
      rw [if_pos ex] at h
      refine kat_yes (kat_ints (i + 1) r r' ?_ h)
      rw [hf]
      simp
    · have ex : ¬ a = c := by simpa using e1
      rw [if_neg ex] at h
      refine kat_no ?_
      cases hb : (b && i == 0) with
      | true => exact oneLt_int h
      | false => exact kat_one _ _ (PyProof.Rows.lt_int h)
theorem tups_cmp {vs : List Value} {k : Value → List Int} (hp : ∀ v ∈ vs, TS.TupInts s.heap v (k v)) : SrtO.Cmp prog w A s (tuples' true) (fun p => p.1 ∈ vs) (SrtO.lt2 fun v u => HT.lexLt (k v) (k u)) := by
  intro p q hm hm'
  obtain ⟨a, xs, e, ⟨o, ho, hc, n, hd⟩, hi⟩ := hp _ hm
  obtain ⟨a', xs', e', ⟨o', ho', hc', n', hd'⟩, hi'⟩ := hp _ hm'
  show wpAny (model prog w) A (keyLt' (tuples' true) p.1 q.1) (fun r s' => s' = s ∧ r = HT.lexLt (k p.1) (k q.1)) (fun _ _ => False) s
  generalize k p.1 = kp at hi ⊢
  generalize k q.1 = kq at hi' ⊢
  rw [e, e']
  refine kat_lt ho hd ho' hd' ?_
  exact kat_ints 0 hi hi' (by rw [Array.length_toList, Array.length_toList]) ⟨rfl, rfl⟩
theorem tup_lt_call {a b : Addr} {dd dd2 : Option Addr} {items items2 : Array Value} {n n2 : Nat} {sl sl2 : Array (Option Value)} {ns ms : List Int} {Q : Value → Shared → Prop} (ga : s.heap.get? a = some { cls := .type "tuple", dict := dd, data := .seq items n, slots := sl })
    (gb : s.heap.get? b = some { cls := .type "tuple", dict := dd2, data := .seq items2 n2, slots := sl2 }) (ia : IntsAre items.toList ns) (ib : IntsAre items2.toList ms) (h : Q (.bool (HT.lexLt ns ms)) s) : wpAny (model prog w) A (call (.builtin "tuple.__lt__") [.ref a, .ref b]) Q E s := by
  have tp : s.TypeIs (.ref a) "tuple" := ⟨_, ga, rfl⟩
  refine wpAny_call (codeAny_call_builtin PySem.F.slot_tuple_lt.plain PySem.F.entry_tuple_lt (PySem.F.slot_tuple_lt.check _ _ _ _ _ _ _ _ tp (PySem.F.args_tuple_lt_2 _ _) ?_))
  refine wpAny_mono (HT.tuple_lt_ints a b items items2 n n2 dd dd2 sl sl2 ns ms ia ib prog w _ (wants Q E) s ⟨ga, gb, h⟩) (fun fin s' q => ?_) fun _ _ z => z
  cases fin with
  | done f => exact q
  | again c => exact q
theorem tups_lt {v u : Value} {ns ms : List Int} {Q : Bool → Shared → Prop} (hu : A.units < cLine) (hv : TS.TupInts s.heap v ns) (hw : TS.TupInts s.heap u ms) (h : Q (HT.lexLt ns ms) s) : wpAny (model prog w) A (keyLt' oneType' v u) Q E s := by
  obtain ⟨a, xs, rfl, hl, hi⟩ := hv
  obtain ⟨b, ys, rfl, hb, hj⟩ := hw
  obtain ⟨⟨cls, dd, data, sl⟩, ho, hc, n, hd⟩ := id hl
  obtain ⟨⟨cls2, dd2, data2, sl2⟩, ho2, hc2, n2, hd2⟩ := id hb
  simp only at hc hd hc2 hd2
  subst hc hd hc2 hd2
  rw [keyLt'_oneType, oneLt'_eq]
  simp only [if_true]
  refine wpAny_bind (wpAny_cRoomFor hu ?_)
  have tp : s.TypeIs (.ref a) "tuple" := ⟨_, ho, rfl⟩
  refine wpAny_bind (wpAny_callSpecialIfBound?_slot tp PySem.F.slot_tuple_lt (tup_lt_call ho ho2 hi hj ?_))
  exact wpAny_truthy_bool h
theorem tups_cmp1 {vs : List Value} {k : Value → List Int} (hu : A.units < cLine) (hp : ∀ v ∈ vs, TS.TupInts s.heap v (k v)) : SrtO.Cmp prog w A s oneType' (fun p => p.1 ∈ vs) (SrtO.lt2 fun v u => HT.lexLt (k v) (k u)) := by
  intro p q hm hm'
  exact tups_lt (Q := fun r s' => s' = s ∧ r = HT.lexLt (k p.1) (k q.1)) (E := fun _ _ => False) hu (hp _ hm) (hp _ hm') ⟨rfl, rfl⟩
end
section
variable {M : Model} {A : Around} {E : Value → Shared → Prop} {s : Shared}
theorem tup_type {v : Value} {ns : List Int} (h : TS.TupInts s.heap v ns) : Looks M s.heap (typeOf v) (.type "tuple") := by
  obtain ⟨a, xs, rfl, ⟨o, ho, hc, n, hd⟩, hi⟩ := h
  have z : Looks M s.heap (typeOf (.ref a)) o.cls := (Looks.ld ho).andThen .now
  rw [hc] at z
  exact z
theorem tup_firsts : ∀ (vs : List Value) (k : Value → List Int) {Q : List (Option Value) → Shared → Prop}, (∀ v ∈ vs, TS.TupInts s.heap v (k v)) → (∀ fs : List (Option Value), (∀ v r, vs = v :: r → k v = [] → ∃ t, fs = none :: t) → Q fs s) → wpAny M A (vs.mapM firstOfTuple') Q E s
  | [], k, Q, _, h => by
    rw [List.mapM_nil]
    exact wpAny_pure (h [] fun v r e => by cases e)
  | v :: vs, k, Q, hp, h => by
    have tv := tup_type (M := M) (hp v (List.mem_cons_self ..))
    obtain ⟨a, xs, rfl, ⟨o, ho, hc, n, hd⟩, hi⟩ := hp v (List.mem_cons_self ..)
    rw [List.mapM_cons]
    refine wpAny_bind ?_
    rw [kas_first_eq]
    refine wpAny_bind (tv.here ?_)
    rw [if_neg (by first | decide | simp)]
    refine wpAny_bind (listItems_at ho hd (wpAny_pure ?_))
    refine wpAny_bind (tup_firsts vs k (fun u hu => hp u (List.mem_cons_of_mem _ hu)) fun fs _ => wpAny_pure (h _ fun v r e en => ?_))
    cases e
    rw [en] at hi
    refine ⟨fs, ?_⟩
    have e0 : xs.toList = [] := by
      cases xs with
      | mk l => cases hi; rfl
    have e1 : xs = #[] := by
      cases xs with
      | mk l => exact congrArg Array.mk e0
    rw [e1]
    rfl
theorem tups_kind1 {vs : List Value} {k : Value → List Int} {v0 : Value} {r : List Value} {Q : SortKind → Shared → Prop} (e0 : vs = v0 :: r) (k0 : k v0 = []) (hp : ∀ v ∈ vs, TS.TupInts s.heap v (k v)) (h : Q oneType' s) : wpAny M A (keyKind' vs.toArray) Q E s := by
  subst e0
  rw [keyKind'_eq, List.mapM_toArray, map_eq_pure_bind]
  refine wpAny_bind (wpAny_bind (tup_firsts _ k hp fun fs hf => wpAny_pure ?_))
  obtain ⟨t, rfl⟩ := hf v0 r rfl k0
  rw [if_neg (by simp), if_neg (by simp)]
  rw [oneTypeOnly'_eq, List.mapM_toArray, map_eq_pure_bind]
  refine wpAny_bind (wpAny_bind (wpAny_bind (kas_mapM (r := Value.type "tuple") _ (fun v hv Q' hq => (tup_type (hp v hv)).here hq) (wpAny_pure ?_))))
  have hall : ((List.map (fun _ => Value.type "tuple") (v0 :: r)).toArray.all fun x => x == Value.type "tuple") = true := by
    simp only [List.all_toArray, List.all_map, List.all_eq_true]
    intro _ _
    rfl
  have h0 : (List.map (fun _ => Value.type "tuple") (v0 :: r)).toArray[0]? = some (Value.type "tuple") := by simp
  rw [h0]
  simp only [hall, if_true]
  exact wpAny_pure (wpAny_pure h)
theorem tups_heads {h : Heap} : ∀ {vs : List Value} {k : Value → List Int}, (∀ v ∈ vs, TS.TupInts h v (k v)) → (∀ v ∈ vs, k v ≠ []) → ∃ fs : List Value, KatTups h vs fs ∧ fs.length = vs.length ∧ ∀ f ∈ fs, ∃ x t, f = Value.int x t
  | [], _, _, _ => ⟨[], KatTups.nil, rfl, fun _ hm => by simp at hm⟩
  | v :: vs, k, hp, ne => by
    obtain ⟨fs, h1, h2, h3⟩ := tups_heads (vs := vs) (k := k) (fun v' hm => hp v' (List.mem_cons_of_mem _ hm)) fun v' hm => ne v' (List.mem_cons_of_mem _ hm)
    obtain ⟨a, xs, rfl, ⟨o, ho, hc, n, hd⟩, hi⟩ := hp v (List.mem_cons_self ..)
    have nv := ne _ (List.mem_cons_self ..)
    generalize k (Value.ref a) = kv at hi nv
    cases xs with
    | mk l =>
      cases hi with
      | nil => exact absurd rfl nv
      | cons x t ht =>
        rename_i vs' ns'
        refine ⟨.int x t :: fs, KatTups.cons ho hc hd rfl h1, by rw [List.length_cons, List.length_cons, h2], fun f hm => ?_⟩
        rcases List.mem_cons.mp hm with rfl | hm
        · exact ⟨x, t, rfl⟩
        · exact h3 f hm
end
section
variable {prog : Program} {w : World} {A : Around} {E : Value → Shared → Prop} {s : Shared}
/-- none of them (), or the first one () -/
def Sortish (ks : List (List Int)) : Prop := (∀ k ∈ ks, k ≠ []) ∨ ∃ r, ks = [] :: r
theorem tups_sortable {a : Addr} {vs : List Value} {k : Value → List Int} (hu : A.units < cLine) (h2 : 2 ≤ vs.length) (hp : ∀ v ∈ vs, TS.TupInts s.heap v (k v)) (si : Sortish (vs.map k)) (ha : ∀ v ∈ vs, v ≠ .ref a) :
    SrtO.SortableO prog w A s a vs fun v u => HT.lexLt (k v) (k u) := by
  intro h' keep
  have hp' : ∀ v ∈ vs, TS.TupInts h' v (k v) := fun v hm => by
    obtain ⟨b, xs, e, ⟨o, ho, hc⟩, hi⟩ := hp v hm
    exact ⟨b, xs, e, ⟨o, keep b o (fun z => ha v hm (by rw [e, z])) ho, hc⟩, hi⟩
  rcases si with ne | ⟨r, e⟩
  · obtain ⟨fs, h1, h3, h4⟩ := tups_heads hp' fun v hm => ne _ (List.mem_map.mpr ⟨v, hm, rfl⟩)
    refine ⟨tuples' true, fun Q E hq => ?_, tups_cmp (s := { s with heap := h' }) hp'⟩
    refine kat_kind (s := { s with heap := h' }) (T := .type "int") h1 (by omega) (fun f hm => ?_) (by rfl) ?_
    · obtain ⟨x, t, rfl⟩ := h4 f hm
      exact Looks.now
    · have e : (Value.type "int" != Value.type "tuple") = true := by first | decide +kernel | rfl | decide
      rw [e]
      exact hq
  · refine ⟨oneType', fun Q E hq => ?_, tups_cmp1 (s := { s with heap := h' }) hu hp'⟩
    cases vs with
    | nil => cases e
    | cons v0 vr =>
      rw [List.map_cons] at e
      exact tups_kind1 (s := { s with heap := h' }) rfl (List.cons.inj e).1 hp' hq
end
end My
namespace L2
open PySem PySem.Spec PyProof.Rows
/-- sorted(xs), xs a list of tuples of ints (k says which): a new list, sorted, equal ones in their order -/
def rSortTI (K : PySem.W.Frag) : List V → Hp → VK → Prop := fun vs H Q => ∃ (a : Addr) (xs : List V) (k : V → List Int), vs = [V.ref a] ∧ SqL K H a xs ∧ (∀ x ∈ xs, ∃ t, x = V.ref t ∧ SqT K H t ((k x).map V.int)) ∧ (xs.length < 2 ∨ My.Sortish (xs.map k)) ∧
  ∀ ys p, SrtO.Srtd (fun x y => HT.lexLt (k x) (k y)) ys → SrtO.Stb (fun x y => HT.lexLt (k x) (k y)) ys xs → H p = none → Q (.ref p) (upd H p (.lst ys))
section
variable {X : Cx}
theorem cr_sortTI (hu : X.A.units + 64 < cLine) : CallR X (.builtin "sorted") (rSortTI X.K) := by
  intro pins s σ H vs us Q I r h
  obtain ⟨a, xs, k, rfl, hs, hx, si, q⟩ := h
  obtain ⟨its, rv, hl, hz⟩ := I.list hs
  rw [Vals.ref1 r]
  obtain ⟨e1, e2⟩ := bkV_refs rv fun x m => by
    obtain ⟨t, e, _⟩ := hx x m
    exact ⟨t, e⟩
  have hp : ∀ v ∈ its, TS.TupInts s.heap v (k (bkV v)) := fun v hv => by
    obtain ⟨t, rfl⟩ := e2 v hv
    have hm : V.ref t ∈ xs := by rw [e1]; exact List.mem_map.mpr ⟨_, hv, rfl⟩
    obtain ⟨t', e, ht⟩ := hx _ hm
    cases e
    exact tupI_raw I ht
  refine SrtO.sorted_ord (NtL.swo_lexL fun u => k (bkV u)) hl.isList (by rw [← rv.length]; exact hz) (fun h2 h₁ b hb kp => ?_) fun out h1 h2 => ?_
  · refine My.tups_sortable (s := { s with heap := h₁ }) (k := fun u => k (bkV u)) ?_ h2 (fun v hv => ?_) ?_ fun v hv e => ?_
    · show X.A.units + _ + _ < cLine
      omega
    · obtain ⟨c, ys, e, ⟨o, ho, hc⟩, hi⟩ := hp v hv
      exact ⟨c, ys, e, ⟨o, (kp c o ho).2, hc⟩, hi⟩
    · rcases si with l2 | si
      · rw [rv.length] at l2
        omega
      · rw [e1, List.map_map] at si
        exact si
    · obtain ⟨c, ys, e', ⟨o, ho, hc⟩, hi⟩ := hp v hv
      rw [e'] at e
      cases e
      exact (kp _ o ho).1 rfl
  · obtain ⟨ep, he'⟩ := PyProof.Rows.sortedAll_at s.heap its out.toArray
    have h3 : ∀ u ∈ out, ∃ a, u = Value.ref a := fun u hu => e2 u (h2.perm.mem_iff.mp hu)
    have hb : SrtO.Stb (fun x y => HT.lexLt (k x) (k y)) (out.map bkV) xs := by
      rw [e1]
      exact SrtO.Stb.map (NtL.swo_lexL k) bkV h2
    have hlen : (out.map bkV).length ≤ sizeLine := by
      rw [hb.perm.length_eq]
      exact hz
    exact ⟨.ref _, upd H (s.heap.objs.size + 1) (.lst (out.map bkV)), I.laid (t' := s.toks) (fun _ _ => PyProof.Rows.sortedAll_old) (Nat.le_succ _) ⟨hlen, out, ep, bkV_vals h3, he'⟩, rfl, q _ _ (SrtO.srtd_map h1) hb (I.hok.fresh (Nat.le_succ _))⟩
end
end L2

set_option maxHeartbeats 4000000
/-! Lists of lots in the heap, sorted ones. -/
namespace My
open PySem PySem.Spec PyProof.Rows L2
def natV (l : List Nat) : List V := l.map fun k => V.int ((k : Nat) : Int)
def natI (l : List Nat) : List Int := l.map fun k => ((k : Nat) : Int)
theorem natV_eq (l : List Nat) : (natI l).map V.int = natV l := by unfold natI natV; rw [List.map_map]; rfl
theorem natI_inj : ∀ {l m : List Nat}, natI l = natI m → l = m
  | [], [], _ => rfl
  | [], _ :: _, h => by cases h
  | _ :: _, [], h => by cases h
  | a :: l, b :: m, h => by
    obtain ⟨h1, h2⟩ := List.cons.inj (show ((a : Nat) : Int) :: natI l = ((b : Nat) : Int) :: natI m from h)
    rw [Int.ofNat.inj h1, natI_inj h2]
theorem natV_inj : ∀ {l m : List Nat}, natV l = natV m → l = m
  | [], [], _ => rfl
  | [], _ :: _, h => by cases h
  | _ :: _, [], h => by cases h
  | a :: l, b :: m, h => by
    obtain ⟨h1, h2⟩ := List.cons.inj (show V.int ((a : Nat) : Int) :: natV l = V.int ((b : Nat) : Int) :: natV m from h)
    injection h1 with h1
    rw [Int.ofNat.inj h1, natV_inj h2]
/-- a tuple of this lot -/
def LotT (H : Hp) (x : V) (l : List Nat) : Prop := ∃ t, x = .ref t ∧ H t = some (.tup (natV l))
theorem LotT.same {H H' : Hp} (s : Same H H') {x : V} {l : List Nat} (h : LotT H x l) : LotT H' x l := by
  obtain ⟨t, e, h⟩ := h
  exact ⟨t, e, s _ _ h⟩
theorem LotT.uniq {H : Hp} {x : V} {l m : List Nat} (h : LotT H x l) (h' : LotT H x m) : l = m := by
  obtain ⟨t, rfl, h⟩ := h
  obtain ⟨t', e, h'⟩ := h'
  cases e
  rw [h] at h'
  injection h' with h'
  injection h' with h'
  exact natV_inj h'
inductive LotsT (H : Hp) : List V → List (List Nat) → Prop
  | nil : LotsT H [] []
  | cons {x : V} {l : List Nat} {xs : List V} {ls : List (List Nat)} : LotT H x l → LotsT H xs ls → LotsT H (x :: xs) (l :: ls)
theorem LotsT.same {H H' : Hp} (s : Same H H') {xs : List V} {ls : List (List Nat)} (h : LotsT H xs ls) : LotsT H' xs ls := by
  induction h with
  | nil => exact .nil
  | cons a _ ih => exact .cons (a.same s) ih
theorem LotsT.len {H : Hp} {xs : List V} {ls : List (List Nat)} (h : LotsT H xs ls) : xs.length = ls.length := by
  induction h with
  | nil => rfl
  | cons _ _ ih => rw [List.length_cons, List.length_cons, ih]
theorem LotsT.snoc {H : Hp} {xs : List V} {ls : List (List Nat)} {x : V} {l : List Nat} (h : LotsT H xs ls) (hx : LotT H x l) : LotsT H (xs ++ [x]) (ls ++ [l]) := by
  induction h with
  | nil => exact .cons hx .nil
  | cons a _ ih => exact .cons a ih
theorem LotsT.app {H : Hp} {xs ys : List V} {ls ms : List (List Nat)} (h : LotsT H xs ls) (h' : LotsT H ys ms) : LotsT H (xs ++ ys) (ls ++ ms) := by
  induction h with
  | nil => exact h'
  | cons a _ ih => exact .cons a ih
theorem LotsT.get {H : Hp} {xs : List V} {ls : List (List Nat)} (h : LotsT H xs ls) {i : Nat} {x : V} (hi : xs[i]? = some x) : ∃ l, ls[i]? = some l ∧ LotT H x l := by
  induction h generalizing i with
  | nil => simp at hi
  | cons a _ ih =>
    cases i with
    | zero =>
      cases hi
      exact ⟨_, rfl, a⟩
    | succ i => exact ih hi
theorem LotT.put {H : Hp} {B : Addr} {ys : List V} {o : HO} (hB : H B = some (.lst ys)) {x : V} {l : List Nat} (h : LotT H x l) : LotT (upd H B o) x l := by
  obtain ⟨t, e, h⟩ := h
  have ne : t ≠ B := fun z => by
    rw [z, hB] at h
    cases h
  exact ⟨t, e, by rw [upd_ne ne]; exact h⟩
theorem LotsT.put {H : Hp} {B : Addr} {ys : List V} {o : HO} (hB : H B = some (.lst ys)) {xs : List V} {ls : List (List Nat)} (h : LotsT H xs ls) : LotsT (upd H B o) xs ls := by
  induction h with
  | nil => exact .nil
  | cons a _ ih => exact .cons (a.put hB) ih
open Classical in
noncomputable def kN (H : Hp) (x : V) : List Nat := if h : ∃ l, LotT H x l then h.choose else []
theorem kN_at {H : Hp} {x : V} {l : List Nat} (h : LotT H x l) : kN H x = l := by
  unfold kN
  rw [dif_pos ⟨l, h⟩]
  exact (Classical.choose_spec (⟨l, h⟩ : ∃ l, LotT H x l)).uniq h
theorem LotsT.mem {H : Hp} {xs : List V} {ls : List (List Nat)} (h : LotsT H xs ls) : ∀ x ∈ xs, LotT H x (kN H x) := by
  induction h with
  | nil => intro x hx; cases hx
  | cons a _ ih =>
    intro x hx
    rcases List.mem_cons.mp hx with rfl | hx
    · rw [kN_at a]; exact a
    · exact ih x hx
theorem LotsT.map {H : Hp} {xs : List V} {ls : List (List Nat)} (h : LotsT H xs ls) : xs.map (kN H) = ls := by
  induction h with
  | nil => rfl
  | cons a _ ih => rw [List.map_cons, kN_at a, ih]
theorem LotsT.of_mem {H : Hp} : ∀ {ys : List V}, (∀ y ∈ ys, LotT H y (kN H y)) → LotsT H ys (ys.map (kN H))
  | [], _ => .nil
  | y :: ys, h => .cons (h y (List.mem_cons_self ..)) (LotsT.of_mem fun z hz => h z (List.mem_cons_of_mem _ hz))
/-- ahead of, as tuples are compared -/
def ltL (a b : List Nat) : Prop := HT.lexLt (natI a) (natI b) = true
theorem ltL_asym {a b : List Nat} (h : ltL a b) : ¬ ltL b a := fun h' => by
  have z := NtL.lex_asym _ _ h
  unfold ltL at h'
  rw [z] at h'
  cases h'
theorem lex_same : ∀ {a b : List Int}, HT.lexLt a b = false → HT.lexLt b a = false → a = b
  | [], [], _, _ => rfl
  | [], b :: bs, h, _ => by rw [HT.lexLt_nil_cons] at h; cases h
  | a :: as, [], _, h => by rw [HT.lexLt_nil_cons] at h; cases h
  | a :: as, b :: bs, h, h' => by
    rw [HT.lexLt_cons] at h h'
    by_cases e : a = b
    · rw [if_pos e] at h
      rw [if_pos e.symm] at h'
      rw [e, lex_same h h']
    · rw [if_neg e] at h
      rw [if_neg (Ne.symm e)] at h'
      have := of_decide_eq_false h
      have := of_decide_eq_false h'
      omega
/-- two lists that ascend, with the same members -/
theorem eq_of_ltL : ∀ {l m : List (List Nat)}, l.Pairwise ltL → m.Pairwise ltL → (∀ k, k ∈ l ↔ k ∈ m) → l = m
  | [], [], _, _, _ => rfl
  | [], b :: m, _, _, h => absurd ((h b).mpr (List.mem_cons_self ..)) (by simp)
  | a :: l, [], _, _, h => absurd ((h a).mp (List.mem_cons_self ..)) (by simp)
  | a :: l, b :: m, hl, hm, h => by
    have l1 := (List.pairwise_cons.mp hl).1
    have m1 := (List.pairwise_cons.mp hm).1
    have irr : ∀ k : List Nat, ¬ ltL k k := fun k z => ltL_asym z z
    have e : a = b := by
      rcases List.mem_cons.mp ((h a).mp (List.mem_cons_self ..)) with e | e
      · exact e
      · rcases List.mem_cons.mp ((h b).mpr (List.mem_cons_self ..)) with e2 | e2
        · exact e2.symm
        · exact absurd (m1 a e) (ltL_asym (l1 b e2))
    subst e
    rw [eq_of_ltL (List.pairwise_cons.mp hl).2 (List.pairwise_cons.mp hm).2 fun k => ?_]
    constructor
    · intro hk
      rcases List.mem_cons.mp ((h k).mp (List.mem_cons_of_mem _ hk)) with e | e
      · rw [e] at hk
        exact absurd (l1 a hk) (irr a)
      · exact e
    · intro hk
      rcases List.mem_cons.mp ((h k).mpr (List.mem_cons_of_mem _ hk)) with e | e
      · rw [e] at hk
        exact absurd (m1 a hk) (irr a)
      · exact e
/-- sorted lots, none twice, ascend -/
theorem sorted_lots {H : Hp} {xs ys : List V} {ls : List (List Nat)} (h : LotsT H xs ls) (nd : ls.Nodup) (so : SrtO.Srtd (fun x y => HT.lexLt (natI (kN H x)) (natI (kN H y))) ys) (st : SrtO.Stb (fun x y => HT.lexLt (natI (kN H x)) (natI (kN H y))) ys xs) :
    LotsT H ys (ys.map (kN H)) ∧ (ys.map (kN H)).Pairwise ltL ∧ (ys.map (kN H)).Perm ls := by
  have pm : (ys.map (kN H)).Perm ls := by
    have z := st.perm.map (kN H)
    rw [h.map] at z
    exact z
  refine ⟨LotsT.of_mem fun y hy => h.mem y (st.perm.mem_iff.mp hy), ?_, pm⟩
  have nd2 : (ys.map (kN H)).Nodup := pm.nodup_iff.mpr nd
  rw [List.pairwise_map]
  refine (so.and (List.pairwise_map.mp nd2)).imp ?_
  intro a b ⟨le, ne⟩
  have le2 : HT.lexLt (natI (kN H b)) (natI (kN H a)) = false := le
  unfold ltL
  cases e : HT.lexLt (natI (kN H a)) (natI (kN H b)) with
  | true => rfl
  | false => exact absurd (natI_inj (lex_same e le2)) ne
theorem sortish_ne {ls : List (List Nat)} (h : ∀ l ∈ ls, l ≠ []) : Sortish (ls.map natI) := .inl fun k hk => by
  obtain ⟨l, hl, rfl⟩ := List.mem_map.mp hk
  intro z
  exact h l hl (natI_inj (m := []) z)
theorem sortish_nil (r : List (List Nat)) : Sortish (([] :: r).map natI) := .inr ⟨r.map natI, rfl⟩
/-- what sorted asks of lots -/
theorem lots_sort {K : PySem.W.Frag} {H : Hp} {xs : List V} {ls : List (List Nat)} (h : LotsT H xs ls) (si : Sortish (ls.map natI) ∨ ls.length < 2) :
    (∀ x ∈ xs, ∃ t, x = V.ref t ∧ SqT K H t ((natI (kN H x)).map V.int)) ∧ (xs.length < 2 ∨ Sortish (xs.map fun x => natI (kN H x))) := by
  refine ⟨fun x hx => ?_, ?_⟩
  · obtain ⟨t, e, ht⟩ := h.mem x hx
    refine ⟨t, e, SqT.of ?_⟩
    rw [natV_eq]
    exact ht
  · rcases si with ne | l2
    · right
      have e : xs.map (fun x => natI (kN H x)) = ls.map natI := by
        rw [← h.map, List.map_map]
        rfl
      rw [e]
      exact ne
    · left
      rw [h.len]
      exact l2
end My

set_option maxHeartbeats 4000000
namespace My
open PySem PySem.Spec PyProof.Rows L2
abbrev sLots : Stmt := top 46
theorem scLots : FnScope ["many", "found", "each", "lot"] ["many"] (defScope sLots) := ⟨rfl, rfl, rfl, by decide +kernel, rfl, by decide +kernel, by decide +kernel⟩
def lotsN : Nat → List (List Nat)
  | 0 => [[]]
  | i + 1 => lotsN i ++ (lotsN i).map (· ++ [i])
theorem lotsN_len : ∀ i, (lotsN i).length = 2 ^ i
  | 0 => rfl
  | i + 1 => by
    show (lotsN i ++ (lotsN i).map (· ++ [i])).length = _
    rw [List.length_append, List.length_map, lotsN_len i, Nat.pow_succ]
    omega
theorem lotsN_head : ∀ i, ∃ r, lotsN i = [] :: r
  | 0 => ⟨[], rfl⟩
  | i + 1 => by
    obtain ⟨r, e⟩ := lotsN_head i
    exact ⟨r ++ (lotsN i).map (· ++ [i]), by show lotsN i ++ _ = _; rw [e]; rfl⟩
theorem mem_lotsN : ∀ {i : Nat} {l : List Nat}, l ∈ lotsN i ↔ LotOk i l
  | 0, l => by
    show l ∈ [[]] ↔ _
    rw [List.mem_singleton]
    constructor
    · rintro rfl
      exact ⟨fun k (hk : k ∈ []) => absurd hk (by simp), List.Pairwise.nil⟩
    · intro h
      cases l with
      | nil => rfl
      | cons a r => exact absurd (h.lt a (List.mem_cons_self ..)) (by omega)
  | i + 1, l => by
    show l ∈ lotsN i ++ (lotsN i).map (· ++ [i]) ↔ _
    rw [List.mem_append, List.mem_map]
    constructor
    · rintro (h | ⟨m, hm, rfl⟩)
      · have z := mem_lotsN.mp h
        exact ⟨fun k hk => Nat.lt_succ_of_lt (z.lt k hk), z.up⟩
      · have z := mem_lotsN.mp hm
        refine ⟨fun k hk => ?_, ?_⟩
        · rcases List.mem_append.mp hk with hk | hk
          · exact Nat.lt_succ_of_lt (z.lt k hk)
          · rw [List.mem_singleton.mp hk]
            exact Nat.lt_succ_self i
        · rw [List.pairwise_append]
          refine ⟨z.up, List.pairwise_singleton _ _, fun a ha b hb => ?_⟩
          rw [List.mem_singleton.mp hb]
          exact z.lt a ha
    · intro h
      by_cases c : i ∈ l
      · right
        have hl : l ≠ [] := fun e => by rw [e] at c; cases c
        have e := List.dropLast_concat_getLast hl
        have up := h.up
        rw [← e, List.pairwise_append] at up
        have last : l.getLast hl = i := by
          rw [← e] at c
          rcases List.mem_append.mp c with c | c
          · have y := up.2.2 i c _ (List.mem_singleton.mpr rfl)
            have := h.lt _ (List.getLast_mem hl)
            omega
          · exact (List.mem_singleton.mp c).symm
        rw [last] at e up
        refine ⟨l.dropLast, mem_lotsN.mpr ⟨fun k hk => up.2.2 k hk i (by simp), up.1⟩, e⟩
      · left
        exact mem_lotsN.mpr ⟨fun k hk => by
          have := h.lt k hk
          have : k ≠ i := fun z => c (z ▸ hk)
          omega, h.up⟩
theorem lotsN_nodup : ∀ i, (lotsN i).Nodup
  | 0 => by show ([[]] : List (List Nat)).Nodup; simp
  | i + 1 => by
    show (lotsN i ++ (lotsN i).map (· ++ [i])).Nodup
    rw [List.nodup_append]
    refine ⟨lotsN_nodup i, ?_, ?_⟩
    · show List.Pairwise _ _
      rw [List.pairwise_map]
      exact (lotsN_nodup i).imp fun ne e => ne (List.append_cancel_right e)
    · intro a ha b hb e
      obtain ⟨m, _, rfl⟩ := List.mem_map.mp hb
      have z := (mem_lotsN.mp ha).lt i (by rw [e]; simp)
      omega
/-- all lots, ascending -/
def AllLots (n : Nat) (L : List (List Nat)) : Prop := L.Pairwise ltL ∧ ∀ l, l ∈ L ↔ LotOk n l
def spLots (K : PySem.W.Frag) : Sp := fun vs H Q _ => ∃ (n : Nat), vs = [.int (n : Int)] ∧ n ≤ 9 ∧ ∀ (F : Addr) (xs : List V) (L : List (List Nat)) H', Same H H' → H' F = some (.lst xs) → LotsT H' xs L → AllLots n L → L.length = 2 ^ n → Q (.ref F) H'
section
variable {P : Program} {w : World} {K : PySem.W.Frag} {mg : Str → Option Value} {base : Heap} {f : Addr} {fd : FuncData}
theorem ok_lots (F : L2.Fun K "_law_lots" "_law_lots" sLots f fd) (mr : mg "range" = none) (mso : mg "sorted" = none) : FnOk P w K mg base CX0 1 f fd ["many"] (spLots K) := by
  refine F.ok scLots (fun vs H Q E h => ?_) (fun cdv A outer s H vs Q E hr h => ?_)
  · obtain ⟨n, rfl, _⟩ := h
    rfl
  obtain ⟨n, rfl, n9, q⟩ := h
  refine ⟨_, pss_cons (ps_set (i := 1) scLots.nd rfl (.inl rfl) (pe_lst (pa_cons (pe_tup pa_nil) pa_nil)))
    (pss_cons (ps_for PassesOwn.never rfl (pi_range1 rfl mr (pa_cons (pv 0) pa_nil)) (pg_name (i := 2) scLots.nd rfl (.inr rfl))
      (pss_one (ps_set (i := 1) scLots.nd rfl (.inl rfl) (pe_op op_cat (pv 1) (pe_lc (own := [("lot", 3)]) (g := gName 3) (tt := tYes) rfl scLots.nd (pi_list (pv 1))
        (blkOk_by (N := ["many", "found", "each", "lot"]) (sc := defScope sLots) (by decide +kernel)) (fun _ _ _ _ _ => pg_name (i := 3) scLots.nd rfl (Or.inl rfl)) (fun _ _ _ _ _ => pts_nil)
        (fun _ _ _ _ _ => pe_op (r := rCatA K) op_catA (pv 3) (pe_tup (pa_cons (pv 2) pa_nil))))))))
    (pss_one (ps_ret (pe_callB (cr_sortTI hr.units) (by rfl) mso (by decide +kernel) (pa_cons (pv 1) pa_nil))))), ?_⟩
  refine ⟨(by show 0 ≤ sizeLine; decide), fun t0 nt0 => ⟨(by show 1 ≤ sizeLine; rw [sizeLine_eq]; decide), fun F0 nF0 => ?_⟩⟩
  have s1 := same_new nt0 (.tup [])
  have s2 := same_new nF0 (.lst [V.ref t0])
  have h0 := upd_same (H := upd H t0 (.tup [])) (a := F0) (o := .lst [V.ref t0])
  have x0 : LotT (upd (upd H t0 (.tup [])) F0 (.lst [V.ref t0])) (.ref t0) [] := ⟨t0, rfl, s2 _ _ upd_same⟩
  have s0 := s1.trans s2
  generalize upd (upd H t0 (.tup [])) F0 (.lst [V.ref t0]) = H0 at s0 h0 x0 ⊢
  refine ⟨_, rfl, (n : Int), rfl, by omega, by omega, for_range (lo := 0) (n := ((n : Nat) : Int).toNat) (fun i σ H' => ∃ (F : Addr) (xs : List V) (s2 : Option V), σ = [some (.int (n : Int)), some (.ref F), s2, none] ∧ Same H H' ∧ H' F = some (.lst xs) ∧ LotsT H' xs (lotsN i))
    ⟨F0, [.ref t0], none, rfl, s0, h0, .cons x0 .nil⟩ ?_ ?_⟩
  · rintro i σ H2 li ⟨F, xs, s2', rfl, s2, hF, hl⟩
    have ll := lotsN_len i
    have p8 : 2 ^ i ≤ 2 ^ 8 := Nat.pow_le_pow_right (by decide) (by omega)
    have lx := hl.len
    rw [show (0 : Int) + (i : Int) = (i : Int) by omega]
    refine ⟨_, rfl, _, rfl, F, rfl, ⟨_, SqL.of hF⟩, fun B nB => lo_it (walk_list (xs := xs)) (fun j H4 => Same H2 H4 ∧ ∃ ys, H4 B = some (.lst ys) ∧ LotsT H4 ys (((lotsN i).take j).map (· ++ [i]))) ⟨same_new nB _, [], upd_same, .nil⟩ (fun j H4 _ ⟨s4, _⟩ => SqL.of (s4 _ _ hF)) ?_ ?_⟩
    · rintro j x _ H4 lj ⟨s4, ys, hB, hy⟩ ⟨rfl, hj⟩
      obtain ⟨l, e, hx⟩ := hl.get hj
      have hx4 := hx.same s4
      obtain ⟨t, rfl, ht⟩ := hx4
      refine ⟨rfl, ?_⟩
      refine ⟨_, rfl, _, rfl, (by show 1 ≤ sizeLine; rw [sizeLine_eq]; decide), fun u nu => ?_⟩
      have su := same_new nu (.tup [.int (i : Int)])
      have lm : l.length ≤ 9 := by
        have := (mem_lotsN.mp (List.mem_of_getElem? e)).few
        omega
      have lt : ys.length < 1000 := by rw [hy.len, List.length_map, List.length_take]; omega
      refine ⟨t, u, natV l, _, rfl, rfl, SqT.of (su _ _ ht), SqT.of upd_same, Nat.le_trans (by rw [List.length_cons, List.length_nil]; unfold natV; rw [List.length_map]; omega : _ ≤ 10) (by rw [sizeLine_eq]; decide), fun en => ?_, fun _ en => absurd en (by simp), fun en _ p np => ?_⟩
      · have el : l = [] := by
          cases l with
          | nil => rfl
          | cons a r => cases en
        subst el
        have hB2 := su _ _ hB
        refine ⟨ys, hB2, small1000 (by omega), same_put (s4.trans su) nB, _, upd_same, ?_⟩
        rw [take_succ e, List.map_append]
        have xu : LotT (upd H4 u (.tup [.int (i : Int)])) (.ref u) ([] ++ [i]) := ⟨u, rfl, upd_same⟩
        exact ((hy.same su).put hB2).snoc (xu.put hB2)
      · have sp := same_new np (.tup (natV l ++ [.int (i : Int)]))
        have hB2 := (su.trans sp) _ _ hB
        refine ⟨ys, hB2, small1000 (by omega), same_put (s4.trans (su.trans sp)) nB, _, upd_same, ?_⟩
        rw [take_succ e, List.map_append]
        have xu : LotT (upd (upd H4 u (.tup [.int (i : Int)])) p (.tup (natV l ++ [.int (i : Int)]))) (.ref p) (l ++ [i]) := ⟨p, rfl, by rw [upd_same]; unfold natV; rw [List.map_append]; rfl⟩
        exact ((hy.same (su.trans sp)).put hB2).snoc (xu.put hB2)
    · rintro H4 ⟨s4, ys, hB, hy⟩
      rw [lx, List.take_length] at hy
      refine ⟨F, B, _, _, rfl, rfl, s4 _ _ hF, hB, Nat.le_trans (by rw [hy.len, hl.len, List.length_map]; omega : _ ≤ 1024) (by rw [sizeLine_eq]; decide), fun c nc => ?_⟩
      have sc := same_new nc (.lst (xs ++ ys))
      exact ⟨c, _, _, rfl, s2.trans (s4.trans sc), upd_same, ((hl.same s4).app hy).same sc⟩
  · rintro σ H2 ⟨F, xs, s2', rfl, s2, hF, hl⟩
    rw [Int.toNat_natCast] at hl
    obtain ⟨r, er⟩ := lotsN_head n
    obtain ⟨p1, p2⟩ := lots_sort (K := K) hl (.inl (by rw [er]; exact sortish_nil r))
    refine ⟨_, rfl, F, xs, fun x => natI (kN H2 x), rfl, SqL.of hF, p1, p2, fun ys p so st np => ?_⟩
    obtain ⟨h1, h2, h3⟩ := sorted_lots hl (lotsN_nodup n) so st
    have sp := same_new np (.lst ys)
    exact q p ys _ _ (s2.trans sp) upd_same (h1.same sp) ⟨h2, fun l => h3.mem_iff.trans mem_lotsN⟩ (by rw [h3.length_eq, lotsN_len])
end
end My

set_option maxHeartbeats 8000000
namespace My
open PySem PySem.Spec PyProof.Rows L2
abbrev sChkOr : Stmt := top 28
abbrev sByStart : Stmt := top 29
theorem scChkOr : FnScope ["graph", "orientation"] ["graph", "orientation"] (defScope sChkOr) := ⟨rfl, rfl, rfl, by decide +kernel, rfl, by decide +kernel, by decide +kernel⟩
theorem scByStart : FnScope ["graph", "arcs", "masks", "start", "end"] ["graph", "arcs"] (defScope sByStart) := ⟨rfl, rfl, rfl, by decide +kernel, rfl, by decide +kernel, by decide +kernel⟩
/-- the arcs stand at y, an orientation of es -/
structure OrAt (K : PySem.W.Frag) (H : Hp) (y : V) (es as : List E2) : Prop where
  at_ : ∃ A xs, y = .ref A ∧ SqT K H A xs ∧ PairsAt K H xs as
  up : as.Pairwise ahead
  ok : ArcsOk es as
theorem OrAt.same {K : PySem.W.Frag} {H H' : Hp} {y : V} {es as : List E2} (s : Same H H') (h : OrAt K H y es as) : OrAt K H' y es as := by
  obtain ⟨⟨A, xs, e, h1, h2⟩, u, o⟩ := h
  exact ⟨⟨A, xs, e, Same.tup s h1, h2.same s⟩, u, o⟩
def endOk (as : List E2) (l : List Nat) (e : Nat) : Bool := l.all fun v => decide (v = e) || decide ((v, e) ∈ as)
/-- l is a clique, not empty, of which none is the end of all -/
def agst (es as : List E2) (l : List Nat) : Bool := (!l.isEmpty) && (decide (PairB es true l) && (l.filter (endOk as l)).isEmpty)
def EndsOk (n : Nat) (ps : List E2) (nb : List Nat) : Prop := nb.length = n ∧ ∀ u, u < n → ∀ v, (nb.getD u 0).testBit v = decide ((u, v) ∈ ps)
theorem ends_nil (n : Nat) : EndsOk n [] (List.replicate n 0) := by
  refine ⟨List.length_replicate .., fun u hu v => ?_⟩
  rw [List.getD_eq_getElem?_getD, List.getElem?_replicate, if_pos hu]
  simp
theorem ends_step {n : Nat} {l : List E2} {nb : List Nat} {p : E2} (h : EndsOk n l nb) (hp : p.1 < n) : EndsOk n (l ++ [p]) (nb.set p.1 (nb.getD p.1 0 ||| 2 ^ p.2)) := by
  obtain ⟨hl, hb⟩ := h
  obtain ⟨a, b⟩ := p
  refine ⟨by rw [List.length_set, hl], fun u hu v => ?_⟩
  have e : decide ((u, v) ∈ l ++ [(a, b)]) = (decide ((u, v) ∈ l) || decide (u = a ∧ v = b)) := by
    rw [Bool.eq_iff_iff]
    simp
  rw [e, ← hb u hu v]
  by_cases c : u = a
  · subst c
    rw [List.getD_eq_getElem?_getD, List.getElem?_set_self (by rw [hl]; exact hu)]
    show (nb.getD u 0 ||| 2 ^ b).testBit v = _
    rw [Nat.testBit_or, bit_pow]
    congr 1
    rw [Bool.eq_iff_iff, decide_eq_true_eq, decide_eq_true_eq]
    exact ⟨fun z => ⟨rfl, z.symm⟩, fun z => z.2.symm⟩
  · rw [List.getD_eq_getElem?_getD, List.getElem?_set_ne (fun z => c z.symm), ← List.getD_eq_getElem?_getD]
    simp [c]
theorem ends_all {n : Nat} {as : List E2} {nb l : List Nat} (ok : EndsOk n (as.map sw) nb) (lo : LotOk n l) {e : Nat} (he : e ∈ l) : ((nb.getD e 0 ||| 2 ^ e) &&& maskN l == maskN l) = endOk as l e := by
  unfold endOk
  rw [Bool.eq_iff_iff, beq_iff_eq, List.all_eq_true, Nat.and_comm, sub_and]
  have msw : ∀ v, (e, v) ∈ as.map sw ↔ (v, e) ∈ as := fun v => by
    rw [List.mem_map]
    constructor
    · rintro ⟨⟨a, b⟩, h, z⟩
      simp only [sw, Prod.mk.injEq] at z
      obtain ⟨rfl, rfl⟩ := z
      exact h
    · exact fun h => ⟨(v, e), h, rfl⟩
  constructor
  · intro h v hv
    have z := h v (by rw [mask_bit lo.up]; exact decide_eq_true hv)
    rw [or_pow_bit, ok.2 e (lo.lt e he)] at z
    rw [Bool.or_eq_true, decide_eq_true_eq, decide_eq_true_eq] at z ⊢
    rcases z with z | z
    · exact .inr ((msw v).mp z)
    · exact .inl z.symm
  · intro h v hv
    rw [mask_bit lo.up] at hv
    have z := h v (of_decide_eq_true hv)
    rw [or_pow_bit, ok.2 e (lo.lt e he)]
    rw [Bool.or_eq_true, decide_eq_true_eq, decide_eq_true_eq] at z ⊢
    rcases z with z | z
    · exact .inr z.symm
    · exact .inl ((msw v).mpr z)
def spChkOr (K : PySem.W.Frag) : Sp := fun vs H Q _ => ∃ (x y : V) (n : Nat) (es as : List E2), vs = [x, y] ∧ GraphAt K H x n es ∧ Good n es ∧ OrAt K H y es as ∧ ∀ H', Same H H' → Q .non H'
def spByStart (K : PySem.W.Frag) : Sp := fun vs H Q _ => ∃ (x : V) (n : Nat) (es : List E2) (L : Addr) (xs : List V) (ps : List E2), vs = [x, .ref L] ∧ GraphAt K H x n es ∧ n ≤ 9 ∧ SqL K H L xs ∧ PairsAt K H xs ps ∧ (∀ p ∈ ps, p.1 < n ∧ p.2 < n) ∧ ∀ (D : Addr) (nb : List Nat) H', Same H H' → H' D = some (.lst (numsN nb)) → EndsOk n ps nb → Q (.ref D) H'
def spByStartT (K : PySem.W.Frag) : Sp := fun vs H Q _ => ∃ (x : V) (n : Nat) (es : List E2) (L : Addr) (xs : List V) (ps : List E2), vs = [x, .ref L] ∧ GraphAt K H x n es ∧ n ≤ 9 ∧ SqT K H L xs ∧ PairsAt K H xs ps ∧ (∀ p ∈ ps, p.1 < n ∧ p.2 < n) ∧ ∀ (D : Addr) (nb : List Nat) H', Same H H' → H' D = some (.lst (numsN nb)) → EndsOk n ps nb → Q (.ref D) H'
def spEndsAll (K : PySem.W.Frag) : Sp := fun vs H Q _ => ∃ (x y z : V) (n : Nat) (es as : List E2) (l : List Nat), vs = [x, y, z] ∧ GraphAt K H x n es ∧ Good n es ∧ OrAt K H y es as ∧ LotAt K H z l ∧ LotOk n l ∧ ∀ (D : Addr) H', Same H H' → H' D = some (.lst (numsN (l.filter (endOk as l)))) → Q (.ref D) H'
def AgRes (n : Nat) (es as : List E2) (v : V) (H : Hp) : Prop := (v = .non ∧ ∀ l, LotOk n l → agst es as l = false) ∨ ∃ (t : Addr) (l : List Nat), v = .ref t ∧ H t = some (.tup (numsN l)) ∧ LotOk n l ∧ agst es as l = true
def spAgainst (K : PySem.W.Frag) : Sp := fun vs H Q _ => ∃ (x y : V) (n : Nat) (es as : List E2), vs = [x, y] ∧ GraphAt K H x n es ∧ Good n es ∧ OrAt K H y es as ∧ ∀ v H', Same H H' → AgRes n es as v H' → Q v H'
def spAcyc (K : PySem.W.Frag) : Sp := fun vs H Q _ => ∃ (x y : V) (n : Nat) (es as : List E2) (e : Bool), vs = [x, y] ∧ GraphAt K H x n es ∧ Good n es ∧ OrAt K H y es as ∧ (e = true ↔ ∀ l, LotOk n l → agst es as l = false) ∧ ∀ H', Same H H' → Q (.bl e) H'
theorem arcs_ltO {n : Nat} {es as : List E2} (g : Good n es) (ok : ArcsOk es as) : ∀ q ∈ as, q.1 < n ∧ q.2 < n := fun q hq => by
  rcases ok.sub q hq with z | z
  · have := g.lt _ z
    omega
  · have := g.lt _ z
    simp only [sw] at this
    omega
theorem arcs_oriO {es as : List E2} (up : as.Pairwise ahead) (ok : ArcsOk es as) : Ori es (.tup (as.map pairS)) := by
  have e : as.map pairS = (as.map zE).map zS := by rw [List.map_map]; rfl
  have a := asc_pairs up
  rw [e] at a ⊢
  refine ori_iff.mpr ⟨a, fun p hp => ?_, fun p hp => ?_⟩
  · obtain ⟨q, hq, rfl⟩ := List.mem_map.mp hp
    exact (ok.sub q hq).imp mem_zE.mpr (mem_zE (p := sw q)).mpr
  · obtain ⟨q, hq, rfl⟩ := List.mem_map.mp hp
    exact (ok.cov q hq).imp mem_zE.mpr (mem_zE (p := sw q)).mpr
theorem OrAt.lb {n : Nat} {es as : List E2} (g : Good n es) (ok : ArcsOk es as) : Lb (.tup (as.map pairS)) := by
  have few := ok.few
  have few2 := g.few
  refine .tup (by rw [List.length_map]; omega) fun z hz => ?_
  obtain ⟨p, _, rfl⟩ := List.mem_map.mp hz
  refine .tup (by simp) fun z hz => ?_
  simp only [List.mem_cons, List.mem_nil_iff, or_false] at hz
  rcases hz with rfl | rfl
  · exact .int _
  · exact .int _
section
variable {P : Program} {w : World} {K : PySem.W.Frag} {mg : Str → Option Value} {base : Heap} {f fI fB fM fC fN fG fL fE fA : Addr} {fd dI dB dM dC dN dG dL dE dA : FuncData}
theorem ok_chkor (F : L2.Fun K "check_orientation" "check_orientation" sChkOr f fd) (GI : FnOk P w K mg base CX0 6 fI dI ["graph", "value"] (spLOr K)) (bI : L2.Binds K dI ["graph", "value"] []) (kI : PySem.W.keepIn K (.ref fI) = true) (mI : mg "is_orientation" = some (.ref fI)) : FnOk P w K mg base CX0 7 f fd ["graph", "orientation"] (spChkOr K) := by
  refine F.ok scChkOr (fun vs H Q E h => ?_) (fun cdv A outer s H vs Q E hr h => ?_)
  · obtain ⟨x, y, n, es, as, rfl, _⟩ := h
    rfl
  obtain ⟨x, y, n, es, as, rfl, hx, g, ⟨⟨A', xs, rfl, hA, hp⟩, up, ok⟩, q⟩ := h
  refine ⟨_, pss_one (ps_if (pt_not (pt_val (pe_call GI hr (by rfl) mI kI bI .nil pass0 (pa_cons (pv 0) (pa_cons (pv 1) pa_nil))))) (pss_one ps_never) pss_nil), ?_⟩
  refine ⟨_, rfl, _, rfl, x, .ref A', n, es, _, rfl, hx, g, .tup hA hp.sh, OrAt.lb g ok, fun H' s' => ?_⟩
  rw [ori_yes (arcs_oriO up ok)]
  exact ⟨_, rfl, iteF (q H' s')⟩
theorem ok_bystart (F : L2.Fun K "_ends_by_start" "_ends_by_start" sByStart f fd) : FnOk P w K mg base CX0 1 f fd ["graph", "arcs"] (spByStart K) := by
  refine F.ok scByStart (fun vs H Q E h => ?_) (fun cdv A outer s H vs Q E hr h => ?_)
  · obtain ⟨x, n, es, L, xs, ps, rfl, _⟩ := h
    rfl
  obtain ⟨x, n, es, L, xs, ps, rfl, ⟨t, e, ys, rfl, ht, he, hes⟩, n9, hL, hps, lt, q⟩ := h
  refine ⟨_, pss_cons (ps_set (i := 2) scByStart.nd rfl (.inl rfl) (pe_op op_rep (pe_lst (pa_cons pe_int pa_nil)) (pe_ix (r := rIxT K) ix_tup (pv 0) pe_int (fun _ _ => rfl))))
    (pss_cons (ps_for PassesOwn.never rfl (pi_list (pv 1)) (pg_tup (by rfl) (pgs_cons (pg_name (i := 3) scByStart.nd rfl (.inl rfl)) (pgs_cons (pg_name (i := 4) scByStart.nd rfl (.inl rfl)) pgs_nil)))
      (pss_one (ps_augS (pv 2) (pv 3) pget_list (pe_op op_shl pe_int (pv 4)) ip_or set_list)))
    (pss_one (ps_ret (pv 2)))), ?_⟩
  have a0 : atI [V.int (n : Int), V.ref e] 0 = some (.int (n : Int)) := atI_nat (j := 0) rfl
  have le := PairsAt.len hps
  refine ⟨small (by show 1 ≤ 1000; decide), fun Z nZ => ?_⟩
  have sZ := same_new nZ (.lst [V.int 0])
  have hZ := upd_same (H := H) (a := Z) (o := .lst [V.int 0])
  generalize upd H Z (.lst [V.int 0]) = H0 at sZ hZ ⊢
  refine ⟨_, rfl, t, _, 0, _, rfl, rfl, Same.tup sZ ht, a0, Z, (n : Int), [.int 0], rfl, rfl, hZ, by omega, by omega, small (by rw [Int.toNat_natCast, List.length_singleton]; omega), fun D nD => ?_⟩
  have e0 : (List.replicate ((n : Nat) : Int).toNat [V.int 0]).flatten = numsN (List.replicate n 0) := by
    rw [Int.toNat_natCast]
    unfold numsN
    rw [List.map_replicate, List.flatten_replicate_singleton]
    rfl
  rw [e0]
  have sD := same_new nD (.lst (numsN (List.replicate n 0)))
  have nD0 : H D = none := sZ.free nD
  have s0 := sZ.trans sD
  have hD := upd_same (H := H0) (a := D) (o := .lst (numsN (List.replicate n 0)))
  generalize upd H0 D (.lst (numsN (List.replicate n 0))) = H1 at s0 hD sD ⊢
  refine ⟨_, rfl, L, rfl, ⟨_, L2.Same.seq s0 hL⟩, for_it (walk_list (xs := xs)) (fun i σ H' => ∃ (nb : List Nat) (s4 s5 : Option V), σ = [some (.ref t), some (.ref L), some (.ref D), s4, s5] ∧ Same H H' ∧ H' D = some (.lst (numsN nb)) ∧ EndsOk n (ps.take i) nb)
    ⟨_, none, none, rfl, s0, hD, ends_nil n⟩ (fun i σ H' _ ⟨_, _, _, _, s, _⟩ => L2.Same.seq s hL) ?_ ?_⟩
  · rintro i x σ H2 H3 li ⟨nb, s4, s5, rfl, s2, hD2, ok⟩ ⟨rfl, hi⟩
    obtain ⟨p, hp, u, rfl, hu⟩ := PairsAt.get (hps.same s2) hi
    obtain ⟨l1, l2⟩ := lt p (List.mem_of_getElem? hp)
    have ln := ok.1
    refine ⟨u, _, rfl, hu, rfl, _, _, rfl, _, _, rfl, rfl, ?_⟩
    refine ⟨_, rfl, _, rfl, D, _, p.1, _, rfl, rfl, SqL.of hD2, numsN_getD (by omega), _, rfl, _, _, rfl, rfl, ⟨by omega, by omega, by decide⟩, _, _, rfl, rfl, D, _, _, p.1, rfl, rfl, hD2, by rw [numsN_len]; exact ixN_of (by omega), ?_⟩
    simp only [or_shl, numsN_set]
    refine ⟨_, _, _, rfl, same_put s2 nD0, upd_same, ?_⟩
    rw [take_succ hp]
    exact ends_step ok l1
  · rintro σ H2 ⟨nb, s4, s5, rfl, s2, hD2, ok⟩
    rw [le, List.take_length] at ok
    exact ⟨_, rfl, q D nb H2 s2 hD2 ok⟩
theorem agst_bits {n : Nat} {es as : List E2} {l : List Nat} (lo : LotOk n l) : ∃ m, m < 2 ^ n ∧ bitsN n m = l :=
  ⟨maskN l, by
    rw [← mask_rev]
    exact desc_lt (List.pairwise_reverse.mpr lo.up) fun a ha => lo.lt a (List.mem_reverse.mp ha), bits_mask lo.up lo.lt⟩
theorem ok_bystartT (F : L2.Fun K "_ends_by_start" "_ends_by_start" sByStart f fd) : FnOk P w K mg base CX0 1 f fd ["graph", "arcs"] (spByStartT K) := by
  refine F.ok scByStart (fun vs H Q E h => ?_) (fun cdv A outer s H vs Q E hr h => ?_)
  · obtain ⟨x, n, es, L, xs, ps, rfl, _⟩ := h
    rfl
  obtain ⟨x, n, es, L, xs, ps, rfl, ⟨t, e, ys, rfl, ht, he, hes⟩, n9, hL, hps, lt, q⟩ := h
  refine ⟨_, pss_cons (ps_set (i := 2) scByStart.nd rfl (.inl rfl) (pe_op op_rep (pe_lst (pa_cons pe_int pa_nil)) (pe_ix (r := rIxT K) ix_tup (pv 0) pe_int (fun _ _ => rfl))))
    (pss_cons (ps_for PassesOwn.never rfl (pi_tup (pv 1)) (pg_tup (by rfl) (pgs_cons (pg_name (i := 3) scByStart.nd rfl (.inl rfl)) (pgs_cons (pg_name (i := 4) scByStart.nd rfl (.inl rfl)) pgs_nil)))
      (pss_one (ps_augS (pv 2) (pv 3) pget_list (pe_op op_shl pe_int (pv 4)) ip_or set_list)))
    (pss_one (ps_ret (pv 2)))), ?_⟩
  have a0 : atI [V.int (n : Int), V.ref e] 0 = some (.int (n : Int)) := atI_nat (j := 0) rfl
  have le := PairsAt.len hps
  refine ⟨small (by show 1 ≤ 1000; decide), fun Z nZ => ?_⟩
  have sZ := same_new nZ (.lst [V.int 0])
  have hZ := upd_same (H := H) (a := Z) (o := .lst [V.int 0])
  generalize upd H Z (.lst [V.int 0]) = H0 at sZ hZ ⊢
  refine ⟨_, rfl, t, _, 0, _, rfl, rfl, Same.tup sZ ht, a0, Z, (n : Int), [.int 0], rfl, rfl, hZ, by omega, by omega, small (by rw [Int.toNat_natCast, List.length_singleton]; omega), fun D nD => ?_⟩
  have e0 : (List.replicate ((n : Nat) : Int).toNat [V.int 0]).flatten = numsN (List.replicate n 0) := by
    rw [Int.toNat_natCast]
    unfold numsN
    rw [List.map_replicate, List.flatten_replicate_singleton]
    rfl
  rw [e0]
  have sD := same_new nD (.lst (numsN (List.replicate n 0)))
  have nD0 : H D = none := sZ.free nD
  have s0 := sZ.trans sD
  have hD := upd_same (H := H0) (a := D) (o := .lst (numsN (List.replicate n 0)))
  generalize upd H0 D (.lst (numsN (List.replicate n 0))) = H1 at s0 hD sD ⊢
  refine ⟨_, rfl, L, rfl, ⟨_, Same.tup s0 hL⟩, for_it (walk_tup (xs := xs)) (fun i σ H' => ∃ (nb : List Nat) (s4 s5 : Option V), σ = [some (.ref t), some (.ref L), some (.ref D), s4, s5] ∧ Same H H' ∧ H' D = some (.lst (numsN nb)) ∧ EndsOk n (ps.take i) nb)
    ⟨_, none, none, rfl, s0, hD, ends_nil n⟩ (fun i σ H' _ ⟨_, _, _, _, s, _⟩ => Same.tup s hL) ?_ ?_⟩
  · rintro i x σ H2 H3 li ⟨nb, s4, s5, rfl, s2, hD2, ok⟩ ⟨rfl, hi⟩
    obtain ⟨p, hp, u, rfl, hu⟩ := PairsAt.get (hps.same s2) hi
    obtain ⟨l1, l2⟩ := lt p (List.mem_of_getElem? hp)
    have ln := ok.1
    refine ⟨u, _, rfl, hu, rfl, _, _, rfl, _, _, rfl, rfl, ?_⟩
    refine ⟨_, rfl, _, rfl, D, _, p.1, _, rfl, rfl, SqL.of hD2, numsN_getD (by omega), _, rfl, _, _, rfl, rfl, ⟨by omega, by omega, by decide⟩, _, _, rfl, rfl, D, _, _, p.1, rfl, rfl, hD2, by rw [numsN_len]; exact ixN_of (by omega), ?_⟩
    simp only [or_shl, numsN_set]
    refine ⟨_, _, _, rfl, same_put s2 nD0, upd_same, ?_⟩
    rw [take_succ hp]
    exact ends_step ok l1
  · rintro σ H2 ⟨nb, s4, s5, rfl, s2, hD2, ok⟩
    rw [le, List.take_length] at ok
    exact ⟨_, rfl, q D nb H2 s2 hD2 ok⟩
end
end My

set_option maxHeartbeats 4000000
/-! A pair in a list or a tuple of pairs; lots compared to the empty one. -/
namespace My
open PySem PySem.Spec PyProof.Rows L2
def numsD (l : List Nat) : List PyData := l.map fun k => PyData.int ((k : Nat) : Int)
theorem numsD_dp {K : PySem.W.Frag} {H : Hp} : ∀ l : List Nat, DpAll K H (numsN l) (numsD l)
  | [] => .nil
  | a :: r => .cons (.int _) (numsD_dp r)
theorem numsD_lay : ∀ l : List Nat, PyData.canLayAll0 (numsD l) = true ∧ PyData.depthAll (numsD l) ≤ 1
  | [] => by constructor <;> simp [numsD, PyData.canLayAll0, PyData.depthAll]
  | a :: r => by
    obtain ⟨h1, h2⟩ := numsD_lay r
    unfold numsD at h1 h2 ⊢
    rw [List.map_cons]
    constructor
    · simp only [PyData.canLayAll0, PyData.canLay0, h1, Bool.and_true]
    · simp only [PyData.depthAll, PyData.depth]
      omega
theorem numsD_shL (l : List Nat) : SeqAt.shaped (.list (numsD l)) = true := by
  obtain ⟨h1, h2⟩ := numsD_lay l
  unfold SeqAt.shaped
  rw [Bool.and_eq_true, decide_eq_true_eq]
  refine ⟨?_, ?_⟩
  · simp only [PyData.canLay0, h1]
  · simp only [PyData.depth]
    omega
theorem numsD_shT (l : List Nat) : SeqAt.shaped (.tuple (numsD l)) = true := by
  obtain ⟨h1, h2⟩ := numsD_lay l
  unfold SeqAt.shaped
  rw [Bool.and_eq_true, decide_eq_true_eq]
  refine ⟨?_, ?_⟩
  · simp only [PyData.canLay0, h1]
  · simp only [PyData.depth]
    omega
theorem numsD_nilL (l : List Nat) : PyData.eqv (.list (numsD l)) (.list (numsD [])) = l.isEmpty := by
  cases l with
  | nil => simp [numsD, PyData.eqv, PyData.eqvAll]
  | cons a r => simp [numsD, PyData.eqv, PyData.eqvAll]
theorem numsD_nilT (l : List Nat) : PyData.eqv (.tuple (numsD l)) (.tuple (numsD [])) = l.isEmpty := by
  cases l with
  | nil => simp [numsD, PyData.eqv, PyData.eqvAll]
  | cons a r => simp [numsD, PyData.eqv, PyData.eqvAll]
section
variable {X : Cx}
def rInPL (K : PySem.W.Frag) : R2 := fun x y H Q => ∃ (p : E2) (t : Addr) (xs : List V) (es : List E2), PairAt K H x p ∧ y = .ref t ∧ (SqL K H t xs ∨ SqT K H t xs) ∧ PairsAt K H xs es ∧ Q (.bl (decide (p ∈ es))) H
theorem op_inPL (hu : X.A.units + 64 < cLine) : OpR X (compareOp .In) (rInPL X.K) := by
  rintro pins s σ H x y v u Q I rx ry ⟨p, t, xs, es, hp, rfl, ht, hes, q⟩
  rcases ht with ht | ht
  · obtain ⟨as, r1⟩ := Dp.reads I _ x v hp.dp rx
    obtain ⟨bs, r2⟩ := Dp.reads I (.list (es.map pairD)) (.ref t) u (.lst ht hes.dp) ry
    refine SeqAt.in_list_reads r2 r1 (pairsD_lay es) (pairD_lay p) ?_ ?_
    · have := pairD_depth p
      have := Nat.min_le_right (PyData.depthAll (es.map pairD)) (pairD p).depth
      omega
    · rw [any_pairs]
      exact ⟨.bl _, H, I, rfl, q⟩
  · exact op_inP hu pins s σ H x _ v u Q I rx ry ⟨p, t, xs, es, hp, rfl, ht, hes, q⟩
end
end My
namespace My
open PySem PySem.Spec PyProof.Rows L2
theorem pairs_ksT {H : Hp} : ∀ {ys : List V} {qs : List E2}, PairsT H ys qs → ∃ ks : List (Addr × List Int), ys = ks.map (fun p => V.ref p.1) ∧ ks.map (·.2) = qs.map (fun q => [(q.1 : Int), (q.2 : Int)]) ∧ ∀ p ∈ ks, H p.1 = some (.tup (p.2.map V.int))
  | _, _, .nil => ⟨[], rfl, rfl, fun _ z => nomatch z⟩
  | _, _, .cons a b => by
    obtain ⟨t, rfl, h⟩ := a
    obtain ⟨ks, h1, h2, h3⟩ := pairs_ksT b
    refine ⟨(t, _) :: ks, by rw [h1]; rfl, by rw [List.map_cons, h2]; rfl, ?_⟩
    intro p hp
    rcases List.mem_cons.mp hp with rfl | hp
    · exact h
    · exact h3 p hp
theorem ks_pairsT {H : Hp} : ∀ {L : List (Addr × List Int)}, (∀ p ∈ L, H p.1 = some (.tup (p.2.map V.int))) → (∀ p ∈ L, p.2 = [((toEO p.2).1 : Int), ((toEO p.2).2 : Int)]) → PairsT H (L.map fun q => V.ref q.1) (L.map fun p => toEO p.2)
  | [], _, _ => .nil
  | p :: L, h, b => by
    refine .cons ⟨p.1, rfl, ?_⟩ (ks_pairsT (fun r hr => h r (List.mem_cons_of_mem _ hr)) fun r hr => b r (List.mem_cons_of_mem _ hr))
    have z := h p (List.mem_cons_self ..)
    rw [b p (List.mem_cons_self ..)] at z
    exact z
def lotsD (L : List (List Nat)) : List PyData := L.map fun l => .tuple (numsD l)
theorem lotsD_lay : ∀ L : List (List Nat), PyData.canLayAll0 (lotsD L) = true ∧ PyData.depthAll (lotsD L) ≤ 3
  | [] => by constructor <;> simp [lotsD, PyData.canLayAll0, PyData.depthAll]
  | l :: r => by
    obtain ⟨h1, h2⟩ := lotsD_lay r
    obtain ⟨g1, g2⟩ := numsD_lay l
    unfold lotsD at h1 h2 ⊢
    rw [List.map_cons]
    constructor
    · simp only [PyData.canLayAll0, PyData.canLay0, h1, g1, Bool.and_true]
    · simp only [PyData.depthAll, PyData.depth]
      omega
theorem lotsD_sh (L : List (List Nat)) : SeqAt.shaped (.list (lotsD L)) = true := by
  obtain ⟨h1, h2⟩ := lotsD_lay L
  unfold SeqAt.shaped
  rw [Bool.and_eq_true, decide_eq_true_eq]
  refine ⟨?_, ?_⟩
  · simp only [PyData.canLay0, h1]
  · simp only [PyData.depth]
    omega
theorem lotsD_nil (L : List (List Nat)) : PyData.eqv (.list (lotsD L)) (.list (lotsD [])) = L.isEmpty := by
  cases L with
  | nil => simp [lotsD, PyData.eqv, PyData.eqvAll]
  | cons a r => simp [lotsD, PyData.eqv, PyData.eqvAll]
end My
namespace My
open PySem PySem.Spec PyProof.Rows L2
section
variable {X : Cx}
def rListRng2 : List V → Hp → VK → Prop := fun vs H Q => ∃ (a : Addr) (lo n : Nat), vs = [V.ref a] ∧ H a = some (.rng (lo : Int) ((lo + n : Nat) : Int)) ∧ n ≤ 1000 ∧ lo ≤ 1000 ∧ ∀ p, H p = none → Q (.ref p) (upd H p (.lst (numsN ((List.range n).map (lo + ·)))))
theorem call_listRng2 (hc : X.calm = true) : CallR X (.type "list") rListRng2 := by
  intro pins s σ H vs us Q I r h
  obtain ⟨a, lo, n, rfl, ha, hn, hlo, q⟩ := h
  obtain ⟨u1, rfl, ru⟩ := vals1 r
  obtain rfl : u1 = Value.ref a := ru
  obtain ⟨t1, t2, t3, ho⟩ := I.hok a _ ha
  refine call_list_range (I.ok.hd hc) (n := n) ho (small_one (by omega) (by omega) (by omega) (by omega)) (by rw [rangeSize_one]; split <;> omega) (by omega) fun h' tk acc c' hk e' hi => ?_
  refine ⟨.ref s.heap.objs.size, upd H s.heap.objs.size (.lst (numsN ((List.range n).map (lo + ·)))), I.laid hk (Nat.le_refl _) (show ObjOk X.prog X.w _ _ _ (.lst (numsN ((List.range n).map (lo + ·)))) from ⟨?_, acc.toList, c', ?_, ?_⟩), rfl, q _ (I.hok.fresh (Nat.le_refl _))⟩
  · rw [numsN_len, List.length_map, List.length_range]; exact small hn
  · have la : acc.toList.length = n := by rw [Array.length_toList]; exact hi.1
    have es : numsN ((List.range n).map (lo + ·)) = (List.range acc.toList.length).map fun i => V.int (((lo + i : Nat)) : Int) := by
      rw [la]
      unfold numsN
      rw [List.map_map]
      rfl
    rw [es]
    refine vals_of_get acc.toList _ fun j u hj => ?_
    obtain ⟨t, rfl⟩ := hi.2 j u (by rw [← hj, Array.getElem?_toList])
    refine ⟨t, ?_⟩
    rw [Int.mul_one]
    congr 1
  · rw [Array.toArray_toList]
    exact e'
end
end My

set_option maxHeartbeats 8000000
namespace My
open PySem PySem.Spec PyProof.Rows L2
abbrev sLAll : Stmt := top 47
abbrev sLAg : Stmt := top 49
theorem scLAll : FnScope ["rows", "lot", "due", "k", "j"] ["rows", "lot", "due"] (defScope sLAll) := ⟨rfl, rfl, rfl, by decide +kernel, rfl, by decide +kernel, by decide +kernel⟩
theorem scLAg : FnScope ["rows", "arcs", "found", "lot", "ends", "end", "each"] ["rows", "arcs"] (defScope sLAg) := ⟨rfl, rfl, rfl, by decide +kernel, rfl, by decide +kernel, by decide +kernel⟩
def spLAll (K : PySem.W.Frag) : Sp := fun vs H Q _ => ∃ (D t : Addr) (n : Nat) (es : List E2) (rs : List Addr) (l : List Nat) (due : Bool), vs = [.ref D, .ref t, .bl due] ∧ TabR H D n (adjB es) rs ∧ SqT K H t (numsN l) ∧ (∀ k ∈ l, k < n) ∧ l.length ≤ 9 ∧ Q (.bl (decide (PairB es due l))) H
def spLAg (K : PySem.W.Frag) : Sp := fun vs H Q _ => ∃ (D A : Addr) (n : Nat) (es : List E2) (rs : List Addr) (xs : List V) (as : List E2), vs = [.ref D, .ref A] ∧ TabR H D n (adjB es) rs ∧ n ≤ 9 ∧ (SqL K H A xs ∨ SqT K H A xs) ∧ PairsAt K H xs as ∧ ∀ (R : Addr) (zs : List V) (L : List (List Nat)) H', Same H H' → H' R = some (.lst zs) → LotsT H' zs L → (∀ l, l ∈ L ↔ LotOk n l ∧ agst es as l = true) → L.length ≤ 512 → Q (.ref R) H'
  -- 49
theorem pair_snoc {es : List E2} {due : Bool} {l : List Nat} {a : Nat} : PairB es due (l ++ [a]) ↔ PairB es due l ∧ ∀ b ∈ l, adjB es b a = due := by
  unfold PairB
  rw [List.pairwise_append]
  constructor
  · rintro ⟨h1, _, h3⟩
    exact ⟨h1, fun b hb => h3 b hb a (List.mem_singleton.mpr rfl)⟩
  · rintro ⟨h1, h3⟩
    refine ⟨h1, List.pairwise_singleton _ _, fun b hb c hc => ?_⟩
    rw [List.mem_singleton.mp hc]
    exact h3 b hb
theorem pair_take_mono {es : List E2} {due : Bool} {l : List Nat} (h : PairB es due l) (k : Nat) : PairB es due (l.take k) := List.Pairwise.sublist (List.take_sublist k l) h
section
variable {P : Program} {w : World} {K : PySem.W.Frag} {mg : Str → Option Value} {base : Heap} {f fL fA : Addr} {fd dL dA : FuncData}
theorem ok_lall (F : L2.Fun K "_law_all" "_law_all" sLAll f fd) (mr : mg "range" = none) (ml : mg "len" = none) : FnOk P w K mg base CX0 1 f fd ["rows", "lot", "due"] (spLAll K) := by
  refine F.ok scLAll (fun vs H Q E h => ?_) (fun cdv A outer s H vs Q E hr h => ?_)
  · obtain ⟨D, t, n, es, rs, l, due, rfl, _⟩ := h
    rfl
  obtain ⟨D, t, n, es, rs, l, due, rfl, T, ht, lt, l9, q⟩ := h
  refine ⟨_, pss_cons (ps_for PassesOwn.never rfl (pi_range1 rfl mr (pa_cons (pe_callB call_len_seq (by rfl) ml PySem.boot_len (pa_cons (pv 1) pa_nil)) pa_nil)) (pg_name (i := 3) scLAll.nd rfl (.inl rfl))
      (pss_one (ps_for PassesOwn.never rfl (pi_range1 rfl mr (pa_cons (pv 3) pa_nil)) (pg_name (i := 4) scLAll.nd rfl (.inl rfl))
        (pss_one (ps_if (pt_cmpR op_ne (pe_ix (r := rIxL K) ix_list (pe_ix (r := rIxL K) ix_list (pv 0) (pe_ix (r := rIxT K) ix_tup (pv 1) (pv 4) (fun _ _ => rfl)) (fun _ _ => rfl)) (pe_ix (r := rIxT K) ix_tup (pv 1) (pv 3) (fun _ _ => rfl)) (fun _ _ => rfl)) (pv 2) (nomark _)) (pss_one (ps_ret pe_bl)) pss_nil)))))
    (pss_one (ps_ret pe_bl)), ?_⟩
  have ev : ∀ a b : Bool, (!decide (V.bl a = V.bl b)) = !(a == b) := fun a b => by cases a <;> cases b <;> rfl
  refine ⟨_, rfl, t, _, rfl, .inr (ht), _, rfl, by rw [numsN_len]; omega, by rw [numsN_len]; omega, for_range (lo := 0) (n := (((numsN l).length : Nat) : Int).toNat) (fun i σ H' => ∃ (s3 s4 : Option V), σ = [some (.ref D), some (.ref t), some (.bl due), s3, s4] ∧ H' = H ∧ PairB es due (l.take i)) ⟨none, none, rfl, rfl, .nil⟩ ?_ ?_⟩
  · rintro k σ H1 lk ⟨s3, s4, rfl, rfl, pk⟩
    rw [numsN_len, Int.toNat_natCast] at lk
    rw [Int.zero_add]
    refine ⟨_, rfl, (k : Int), rfl, by omega, by omega, for_range (lo := 0) (n := ((k : Nat) : Int).toNat) (fun j σ H' => ∃ (s4 : Option V), σ = [some (.ref D), some (.ref t), some (.bl due), some (.int (k : Int)), s4] ∧ H' = H1 ∧ ∀ b ∈ (l.take k).take j, adjB es b l[k] = due) ⟨_, rfl, rfl, fun _ z => by simp at z⟩ ?_ ?_⟩
    · rintro j σ H2 lj ⟨s4', rfl, rfl, hj⟩
      rw [Int.toNat_natCast] at lj
      rw [Int.zero_add]
      have jl : j < l.length := by omega
      have gj : (numsN l)[j]? = some (.int ((l[j] : Nat) : Int)) := by unfold numsN; rw [List.getElem?_map, List.getElem?_eq_getElem jl]; rfl
      have gk : (numsN l)[k]? = some (.int ((l[k] : Nat) : Int)) := by unfold numsN; rw [List.getElem?_map, List.getElem?_eq_getElem lk]; rfl
      have nj := lt l[j] (List.getElem_mem jl)
      have nk := lt l[k] (List.getElem_mem lk)
      obtain ⟨r, hr', hv, row⟩ := T.get nj
      refine ⟨_, rfl, _, rfl, _, rfl, t, _, _, _, rfl, rfl, ht, atI_nat gj, D, _, _, _, rfl, rfl, SqL.of T.hd, atI_nat hv, _, rfl, _, rfl, t, _, _, _, rfl, rfl, ht, atI_nat gk, r, _, _, _, rfl, rfl, SqL.of row, atI_nat (rowV_get _ nk), _, rfl, rfl, _, rfl, ?_⟩
      rw [ev]
      have tj : ((l.take k)[j]?) = some l[j] := by rw [List.getElem?_take_of_lt lj, List.getElem?_eq_getElem jl]
      refine iteB (fun c => ?_) (fun c => ⟨_, rfl, rfl, fun b hb => ?_⟩)
      · have no : ¬ PairB es due l := fun z => by
          have z2 := pair_take_mono z (k + 1)
          rw [take_succ (List.getElem?_eq_getElem lk), pair_snoc] at z2
          have z3 := z2.2 l[j] (List.mem_of_getElem? tj)
          rw [z3] at c
          simp at c
        rw [decide_eq_false no] at q
        exact q
      · rw [take_succ tj] at hb
        rcases List.mem_append.mp hb with z | z
        · exact hj b z
        · rw [List.mem_singleton.mp z]
          simpa using c
    · rintro σ H2 ⟨s4', rfl, rfl, hj⟩
      refine ⟨_, _, rfl, rfl, ?_⟩
      rw [Int.toNat_natCast, List.take_of_length_le (by rw [List.length_take]; omega)] at hj
      rw [take_succ (List.getElem?_eq_getElem lk), pair_snoc]
      exact ⟨pk, hj⟩
  · rintro σ H1 ⟨s3, s4, rfl, rfl, pk⟩
    rw [numsN_len, Int.toNat_natCast, List.take_length] at pk
    rw [decide_eq_true pk] at q
    exact q
theorem ok_lag (F : L2.Fun K "_law_cliques_against" "_law_cliques_against" sLAg f fd)
    (GL : FnOk P w K mg base CX0 1 fL dL ["many"] (spLots K)) (bL : L2.Binds K dL ["many"] []) (kL : PySem.W.keepIn K (.ref fL) = true) (mL : mg "_law_lots" = some (.ref fL))
    (GA : FnOk P w K mg base CX0 1 fA dA ["rows", "lot", "due"] (spLAll K)) (bA : L2.Binds K dA ["rows", "lot", "due"] []) (kA : PySem.W.keepIn K (.ref fA) = true) (mA : mg "_law_all" = some (.ref fA))
    (ml : mg "len" = none) (ma : mg "all" = none) : FnOk P w K mg base CX0 2 f fd ["rows", "arcs"] (spLAg K) := by
  refine F.ok scLAg (fun vs H Q E h => ?_) (fun cdv A outer s H vs Q E hr h => ?_)
  · obtain ⟨D, A', n, es, rs, xs, as, rfl, _⟩ := h
    rfl
  obtain ⟨D, A', n, es, rs, xs, as, rfl, T, n9, hA, hp, q⟩ := h
  refine ⟨_, pss_cons (ps_set (i := 2) scLAg.nd rfl (.inl rfl) (pe_lst pa_nil))
    (pss_cons (ps_for PassesOwn.never rfl (pi_list (pe_call GL hr (by rfl) mL kL bL .nil pass0 (pa_cons (pe_callB call_len_seq (by rfl) ml PySem.boot_len (pa_cons (pv 0) pa_nil)) pa_nil))) (pg_name (i := 3) scLAg.nd rfl (.inr rfl))
      (pss_one (ps_if (PW.pt (pw_and (pt_cmpR (op_neD hr.units) (pv 3) (pe_tup pa_nil) (nomark _)) (pw_and1 (pt_val (pe_call GA hr (by rfl) mA kA bA .nil pass0 (pa_cons (pv 0) (pa_cons (pv 3) (pa_cons pe_bl pa_nil))))))))
        (pss_cons (ps_setLc (i := 4) (own := [("end", 5)]) (g := gName 5) (tt := tB (tCB (rAll K) (tCons (tLc (iTup K (tVar 3)) (gName 6) tYes (tOrV (tOp rEq (tVar 6) (tVar 5)) (tOp (rInPL K) (tTup (tCons (tVar 6) (tCons (tVar 5) tNil))) (tVar 1))) [6]) tNil))) rfl scLAg.nd rfl rfl (sw_true rfl rfl rfl (by decide +kernel)) (pi_tup (pv 3))
          (blkOk_by (N := ["rows", "arcs", "found", "lot", "ends", "end", "each"]) (sc := defScope sLAg) (by decide +kernel)) (fun _ _ _ _ _ => pg_name (i := 5) scLAg.nd rfl (Or.inr rfl))
          (fun _ _ _ _ _ => pts_one (pt_val (pe_callB (cr_all rfl) (by rfl) ma (by decide +kernel) (pa_cons (pe_lc (own := [("each", 6)]) (g := gName 6) (tt := tYes) rfl scLAg.nd (pi_tup (pv 3))
            (blkOk_by (N := ["rows", "arcs", "found", "lot", "ends", "end", "each"]) rfl) (fun _ _ _ _ _ => pg_name (i := 6) scLAg.nd rfl (Or.inl rfl)) (fun _ _ _ _ _ => pts_nil)
            (fun _ _ _ _ _ => pe_or (pe_cmpR op_eq (pv 6) (pv 5) (nomark _)) (pe_one (pe_cmpR (r := rInPL K) (op_inPL hr.units) (pe_tup (pa_cons (pv 6) (pa_cons (pv 5) pa_nil))) (pv 1) (by rfl))))) pa_nil))))
          (fun _ _ _ _ _ => pv 5))
        (pss_one (ps_set (i := 2) scLAg.nd rfl (.inl rfl) (pe_op op_cat (pv 2) (pe_ifExp (pt_cmpR (op_eqD hr.units) (pv 4) (pe_lst pa_nil) (nomark _)) (pe_lst (pa_cons (pv 3) pa_nil)) (pe_lst pa_nil)))))) pss_nil)))
    (pss_one (ps_ret (pv 2)))), ?_⟩
  have line : ∀ k, k ≤ 1000 → k ≤ sizeLine := fun k hk => small hk
  refine ⟨line 0 (by decide), fun R0 nR0 => ?_⟩
  have sR0 := same_new nR0 (.lst [])
  have hR0 := upd_same (H := H) (a := R0) (o := .lst [])
  generalize upd H R0 (.lst []) = H0 at sR0 hR0 ⊢
  have lr : (rs.map V.ref).length = n := by rw [List.length_map]; exact T.len
  refine ⟨_, rfl, D, _, rfl, .inl (SqL.of (T.same sR0).hd), ?_⟩
  rw [lr]
  refine ⟨n, rfl, n9, fun F0 ls L H1 s1 hF hl al len => ?_⟩
  have l512 : L.length ≤ 512 := by rw [len]; exact Nat.le_trans (Nat.pow_le_pow_right (by decide) n9) (by decide)
  have hl' : LotsT H1 ls L := hl
  have ll := hl.len
  refine ⟨F0, rfl, ⟨_, SqL.of hF⟩, for_it (walk_list (xs := ls)) (fun i σ H' => ∃ (R : Addr) (zs : List V) (s3 s4 : Option V), σ = [some (.ref D), some (.ref A'), some (.ref R), s3, s4, none, none] ∧ Same H1 H' ∧ H' R = some (.lst zs) ∧ LotsT H' zs ((L.take i).filter (agst es as))) ⟨R0, [], none, none, rfl, Same.refl _, s1 _ _ hR0, .nil⟩ (fun i σ H' _ ⟨_, _, _, _, _, s, _⟩ => SqL.of (s _ _ hF)) ?_ ?_⟩
  · rintro i v σ H2 H3 li ⟨R, zs, s3', s4', rfl, s2, hR, pz⟩ ⟨rfl, hi⟩
    obtain ⟨l, hL, hx⟩ := hl'.get hi
    obtain ⟨t, rfl, ht1⟩ := hx.same s2
    have ht : H3 t = some (.tup (numsN l)) := ht1
    have lo := (al.2 l).mp (List.mem_of_getElem? hL)
    have l9 : l.length ≤ 9 := Nat.le_trans (by
      have z := sub_few (lo.up.imp fun z => Nat.ne_of_lt z) (m := List.range n) fun k hk => List.mem_range.mpr (lo.lt k hk)
      rw [List.length_range] at z
      exact z) n9
    have lz := pz.len
    have fl : ((L.take i).filter (agst es as)).length ≤ 512 := Nat.le_trans (List.length_filter_le _ _) (by rw [List.length_take]; omega)
    have s03 : Same H H3 := sR0.trans (s1.trans s2)
    refine ⟨_, rfl, line 0 (by decide), fun e ne => ?_⟩
    have se := same_new ne (.tup [])
    have he := upd_same (H := H3) (a := e) (o := .tup [])
    generalize upd H3 e (.tup []) = H4 at se he ⊢
    have ht4 := se _ _ ht
    refine ⟨.tuple (numsD l), .tuple (numsD []), .tup (SqT.of ht4) (numsD_dp l), .tup (SqT.of he) (numsD_dp []), numsD_shT l, numsD_shT [], _, rfl, ?_⟩
    rw [numsD_nilT]
    have stop : agst es as l = false → LotsT H4 zs ((L.take (i + 1)).filter (agst es as)) := fun c => by
      rw [take_succ hL, List.filter_append, List.filter_cons_of_neg (by rw [c]; decide), List.filter_nil, List.append_nil]
      exact pz.same se
    refine iteB (fun c1 => ?_) (fun c1 => iteF ⟨R, zs, _, _, rfl, s2.trans se, se _ _ hR, stop ?_⟩)
    rotate_left 1
    · unfold agst
      rw [c1, Bool.false_and]
    refine ⟨_, rfl, _, rfl, D, t, n, es, rs, l, true, rfl, T.same (s03.trans se), SqT.of ht4, lo.lt, l9, _, rfl, iteB (fun c2 => ?_) (fun c2 => ⟨R, zs, _, _, rfl, s2.trans se, se _ _ hR, stop ?_⟩)⟩
    rotate_left 1
    · unfold agst
      rw [c2, Bool.false_and, Bool.and_false]
    have s04 := s03.trans se
    have ag : agst es as l = (l.filter (endOk as l)).isEmpty := by
      unfold agst
      rw [c1, c2, Bool.true_and, Bool.true_and]
    have gN : ∀ {j : Nat} {e : Nat}, l[j]? = some e → (numsN l)[j]? = some (.int (e : Int)) := fun h => by
      unfold numsN
      rw [List.getElem?_map, h]
      rfl
    refine ⟨_, rfl, t, rfl, ⟨_, SqT.of ht4⟩, fun B nB => lo_it (walk_tup (xs := numsN l)) (fun i H5 => Same H4 H5 ∧ H5 B = some (.lst (numsN ((l.take i).filter (endOk as l))))) ⟨same_new nB _, upd_same⟩ (fun i H5 _ ⟨s5, _⟩ => SqT.of (s5 _ _ ht4)) ?_ ?_⟩
    · rintro a y _ H5 la ⟨s5, hB⟩ ⟨rfl, hy⟩
      obtain ⟨en, hen, rfl⟩ := numsN_get hy
      have ht5 := s5 _ _ ht4
      have fl2 : ((l.take a).filter (endOk as l)).length ≤ 9 := by
        refine Nat.le_trans (List.length_filter_le _ _) ?_
        rw [List.length_take]
        omega
      refine ⟨rfl, ?_⟩
      refine ⟨_, rfl, t, rfl, ⟨_, SqT.of ht5⟩, fun C nC => lo_it (walk_tup (xs := numsN l)) (fun j H6 => Same H5 H6 ∧ H6 C = some (.lst (((l.take j).map fun v => decide (v = en) || decide ((v, en) ∈ as)).map V.bl))) ⟨same_new nC _, upd_same⟩ (fun j H6 _ ⟨s6, _⟩ => SqT.of (s6 _ _ ht5)) ?_ ?_⟩
      · rintro b y _ H6 lb ⟨s6, hC⟩ ⟨rfl, hy2⟩
        obtain ⟨v, hv, rfl⟩ := numsN_get hy2
        rw [numsN_len] at lb
        have ev : decide (V.int (v : Int) = V.int (en : Int)) = decide (v = en) := by
          by_cases h : v = en
          · subst h; simp
          · rw [decide_eq_false h, decide_eq_false (fun z => h (by injection z with z; exact Int.ofNat.inj z))]
        refine ⟨rfl, ?_⟩
        refine ⟨_, rfl, _, rfl, rfl, _, rfl, ?_⟩
        rw [ev]
        refine iteB (fun c3 => ?_) (fun c3 => ?_)
        · refine ⟨_, hC, small1000 (by rw [List.length_map, List.length_map, List.length_take]; omega), same_put s6 nC, ?_⟩
          rw [upd_same, take_succ hv, List.map_append, List.map_append, List.map_singleton, List.map_singleton, c3, Bool.true_or]
        · refine ⟨_, rfl, _, rfl, line 2 (by decide), fun w nw => ?_⟩
          have sw' := same_new nw (.tup [V.int (v : Int), V.int (en : Int)])
          have s06 := s04.trans (s5.trans (s6.trans sw'))
          refine ⟨_, rfl, (v, en), A', xs, as, ⟨w, rfl, SqT.of upd_same⟩, rfl, hA.imp (L2.Same.seq s06) (Same.tup s06), hp.same s06, _, sw' _ _ hC, small1000 (by rw [List.length_map, List.length_map, List.length_take]; omega), same_put (s6.trans sw') nC, ?_⟩
          rw [upd_same, take_succ hv, List.map_append, List.map_append, List.map_singleton, List.map_singleton, c3, Bool.false_or]
      · rintro H6 ⟨s6, hC⟩
        rw [numsN_len, List.take_length] at hC
        refine ⟨C, _, rfl, SqL.of hC, _, rfl, ?_⟩
        rw [all_id]
        refine iteB (fun c3 => ?_) (fun c3 => ?_)
        · refine ⟨_, rfl, _, s6 _ _ hB, small1000 (by rw [numsN_len]; omega), same_put (s5.trans s6) nB, ?_⟩
          rw [upd_same, take_succ hen, List.filter_append, List.filter_cons_of_pos (p := endOk as l) c3, numsN_app]
          rfl
        · refine ⟨s5.trans s6, ?_⟩
          rw [s6 _ _ hB, take_succ hen, List.filter_append, List.filter_cons_of_neg (p := endOk as l) (by show ¬ (l.all fun v => decide (v = en) || decide ((v, en) ∈ as)) = true; rw [c3]; decide), List.filter_nil, List.append_nil]
    rintro H5 ⟨s5, hB⟩
    rw [numsN_len, List.take_length] at hB
    refine ⟨_, rfl, _, rfl, line 0 (by decide), fun e2 ne2 => ?_⟩
    have se2 := same_new ne2 (.lst [])
    have he2 := upd_same (H := H5) (a := e2) (o := .lst [])
    generalize upd H5 e2 (.lst []) = H6 at se2 he2 ⊢
    have s46 := s5.trans se2
    refine ⟨.list (numsD (l.filter (endOk as l))), .list (numsD []), .lst (SqL.of (se2 _ _ hB)) (numsD_dp _), .lst (SqL.of he2) (numsD_dp []), numsD_shL _, numsD_shL [], _, rfl, ?_⟩
    rw [numsD_nilL, ← ag]
    have hR6 := s46 _ _ (se _ _ hR)
    refine iteB (fun c3 => ?_) (fun c3 => ?_)
    · refine ⟨_, rfl, line 1 (by decide), fun X nX => ?_⟩
      have sX := same_new nX (.lst [.ref t])
      have hX := upd_same (H := H6) (a := X) (o := .lst [.ref t])
      generalize upd H6 X (.lst [.ref t]) = H7 at sX hX ⊢
      refine ⟨R, X, _, _, rfl, rfl, sX _ _ hR6, hX, line _ (by rw [List.length_singleton]; omega), fun Z nZ => ?_⟩
      have sZ := same_new nZ (.lst (zs ++ [.ref t]))
      have s37 := se.trans (s46.trans (sX.trans sZ))
      refine ⟨Z, zs ++ [.ref t], _, _, rfl, s2.trans s37, upd_same, ?_⟩
      rw [take_succ hL, List.filter_append, List.filter_cons_of_pos c3, List.filter_nil]
      exact (pz.same s37).snoc ⟨t, rfl, s37 _ _ ht1⟩
    · refine ⟨line 0 (by decide), fun X nX => ?_⟩
      have sX := same_new nX (.lst [])
      have hX := upd_same (H := H6) (a := X) (o := .lst [])
      generalize upd H6 X (.lst []) = H7 at sX hX ⊢
      refine ⟨R, X, _, _, rfl, rfl, sX _ _ hR6, hX, line _ (by rw [List.length_nil]; omega), fun Z nZ => ?_⟩
      have sZ := same_new nZ (.lst (zs ++ []))
      have s37 := se.trans (s46.trans (sX.trans sZ))
      refine ⟨Z, zs ++ [], _, _, rfl, s2.trans s37, upd_same, ?_⟩
      rw [take_succ hL, List.filter_append, List.filter_cons_of_neg (by rw [c3]; decide), List.filter_nil, List.append_nil, List.append_nil]
      have z := pz.same s37
      rw [List.append_nil] at z
      exact z
  · rintro σ H2 ⟨R, zs, s3', s4', rfl, s2, hR, pz⟩
    rw [ll, List.take_length] at pz
    refine ⟨_, rfl, q R zs _ H2 (sR0.trans (s1.trans s2)) hR pz (fun l => ?_) (Nat.le_trans (List.length_filter_le _ _) l512)⟩
    rw [List.mem_filter, al.2]
end
end My

set_option maxHeartbeats 4000000
/-! f(name=e) of a def that may raise; isinstance(e, C) in an except suite, e with an own dict. -/
namespace My
open PySem PySem.Spec PyProof.Rows L2
section
variable {X : Cx} {CX : CXT} {k : Nat} {f : Addr} {fd : FuncData} {sp : Sp} {E : L2.St → XK} {x fld : Str} {p pos : Pos} {tk : TA}
theorem pe_kw1 (F : FnOk X.prog X.w X.K X.mg X.base CX k f fd [fld] sp) (hr : Room k X.A) (hg : Gl X x) (hm : X.mg x = some (.ref f)) (hk : PySem.W.keepIn X.K (.ref f) = true) (hb : ∀ (s : Shared) (u : Value), BindsTo s fd ⟨[], [(fld, u)]⟩ ([fld].zip [u])) (hx : ∀ σ, PassesAt CX X σ (E σ))
    {kws : List Keyword} (hkw : PK X kws tk) (hall : (backToKw pos (keywordEach kws X.env)).all (·.1.isSome) = true := by rfl) (hks : (backToKw pos (keywordEach kws X.env)).filterMap (·.1) = [fld] := by rfl)
    (hdb : (x == ("__debug__" : Str)) = false := by decide) (hpl : ((backTo pos (starEach [] X.env)).any (·.1) || (backToKw pos (keywordEach kws X.env)).any (·.1.isNone)) = false := by rfl) :
    PE X (.Call (.Name x p) [] kws pos) (tCallS sp E tk) := by
  refine ⟨?_⟩
  intro pins s σ H Q I h
  refine wpAny_Call_Name_kw (ld_glob I hg hm ?_ hdb)
  refine PySem.W.callWith_KW0 (h₀ := X.base) I.ok.mod.kin hk hall (thn (hkw.run pos pins s σ H _ I h) ?_) hpl
  rintro us s1 ⟨vs, H1, I1, r, q1⟩
  refine ⟨I1.kIn, ?_⟩
  rw [hks]
  have hl : us.length = 1 := by rw [← r.length]; exact F.len _ _ _ _ q1
  obtain ⟨u, rfl⟩ : ∃ u, us = [u] := by
    match us, hl with
    | [u], _ => exact ⟨u, rfl⟩
  refine wpAny_call (codeAny_mono (F.run X.A X.stack s1 H1 ⟨[], [(fld, u)]⟩ [u] vs Q (E σ) hr I1.env0 (hb _ _) r q1) fun r s' hq => ?_)
  cases r with
  | error e => exact hx σ pins H1 s1 e s' I1 hq
  | ok fl =>
    cases fl with
    | ret u => exact I1.after hq
    | next => exact False.elim hq
    | brk => exact False.elim hq
    | cont => exact False.elim hq
theorem passAt0 {X : Cx} {σ : L2.St} {E : XK} : PassesAt CX0 X σ E := fun _ _ _ _ _ _ h => h.elim
end
def rIsF (K : PySem.W.Frag) (a : Addr) (cls : Value) (d : Option Addr) : List V → Hp → VK → Prop := fun xs H Q => ∃ (C dd : Addr) (c : V) (u : Value) (b : Bool) (fs : List (Str × V)), xs = [.ref a, c] ∧ ClsV c u ∧ cls = .ref C ∧ d = some dd ∧ H dd = some (.xd fs) ∧ XIs K C ∧ PySem.W.kitOne K (.ref C) u = some b ∧ Q (.bl b) H
theorem call_isF {X : Cx} {a : Addr} {oe : Obj} {cls : Value} {d : Option Addr} {pn : List (Addr × Obj)} (hz : Zc cls d oe) (hf : ∃ vs, oe.data = .fields vs) : CallR (X.suite a ((a, oe) :: pn)) (.builtin "isinstance") (rIsF X.K a cls d) := by
  rintro pins s σ H xs us Q I r ⟨C, dd, c, u, b, fs, rfl, cv, rfl, rfl, ea, T, kit, q⟩
  obtain ⟨u1, u2, rfl, r1, r2⟩ := vals2 r
  obtain rfl : u2 = u := cv.eq r2
  obtain rfl : u1 = Value.ref a := r1
  obtain ⟨ha, _⟩ := I.pin (a, oe) (List.mem_append_left _ List.mem_cons_self)
  obtain ⟨vs, hd⟩ := hf
  have hx : ObjOk X.prog X.w H s.heap dd (.xd fs) := I.hok dd _ ea
  obtain ⟨mA, hns, hr⟩ := hx
  obtain ⟨od, ho, hl⟩ := lookIn_ns hns
  have J : PySem.W.InstAt s.heap a oe C (some od) := by
    refine ⟨ha, hz.1, ?_, ?_⟩
    · unfold PySem.W.notCls
      rw [hd]
    · rw [hz.2]
      exact ho
  exact PySem.W.kia_one (PySem.W.kitx_exc T.cl T.xf.ga T.xf.gg T.xf.exC T.ha T.hn T.ht T.hm) I.kIn J kit (fun z => nomatch z) fun tk => ⟨.bl b, H, I.tok tk, rfl, q⟩
end My

set_option maxHeartbeats 4000000
namespace My
open PySem PySem.Spec PyProof.Rows L2
/-- f(a=.., b=..), the other way round than f's parameters -/
def tKw2 (sp : Sp) (E : L2.St → XK) (t : TA) : TE := fun σ H Q => t σ H fun vs H1 => ∃ a b, vs = [a, b] ∧ sp [b, a] H1 Q (E σ)
section
variable {X : Cx} {CX : CXT} {k : Nat} {f : Addr} {fd : FuncData} {sp : Sp} {E : L2.St → XK} {x f1 f2 : Str} {p pos : Pos} {tk : TA}
theorem pe_kw2 (F : FnOk X.prog X.w X.K X.mg X.base CX k f fd [f1, f2] sp) (hr : Room k X.A) (hg : Gl X x) (hm : X.mg x = some (.ref f)) (hk : PySem.W.keepIn X.K (.ref f) = true) (hb : ∀ (s : Shared) (u v : Value), BindsTo s fd ⟨[], [(f2, u), (f1, v)]⟩ ([f1, f2].zip [v, u])) (hx : ∀ σ, PassesAt CX X σ (E σ))
    {kws : List Keyword} (hkw : PK X kws tk) (hall : (backToKw pos (keywordEach kws X.env)).all (·.1.isSome) = true := by rfl) (hks : (backToKw pos (keywordEach kws X.env)).filterMap (·.1) = [f2, f1] := by rfl)
    (hdb : (x == ("__debug__" : Str)) = false := by decide) (hpl : ((backTo pos (starEach [] X.env)).any (·.1) || (backToKw pos (keywordEach kws X.env)).any (·.1.isNone)) = false := by rfl) :
    PE X (.Call (.Name x p) [] kws pos) (tKw2 sp E tk) := by
  refine ⟨?_⟩
  intro pins s σ H Q I h
  refine wpAny_Call_Name_kw (ld_glob I hg hm ?_ hdb)
  refine PySem.W.callWith_KW0 (h₀ := X.base) I.ok.mod.kin hk hall (thn (hkw.run pos pins s σ H _ I h) ?_) hpl
  rintro us s1 ⟨vs, H1, I1, r, a, b, rfl, q1⟩
  refine ⟨I1.kIn, ?_⟩
  rw [hks]
  obtain ⟨u, v, rfl, ru, rv⟩ := vals2 r
  refine wpAny_call (codeAny_mono (F.run X.A X.stack s1 H1 ⟨[], [(f2, u), (f1, v)]⟩ [v, u] [b, a] Q (E σ) hr I1.env0 (hb _ _ _) (.cons rv (.cons ru .nil)) q1) fun r s' hq => ?_)
  cases r with
  | error e => exact hx σ pins H1 s1 e s' I1 hq
  | ok fl =>
    cases fl with
    | ret u => exact I1.after hq
    | next => exact False.elim hq
    | brk => exact False.elim hq
    | cont => exact False.elim hq
end
end My

set_option maxHeartbeats 8000000
namespace My
open PySem PySem.Spec PyProof.Rows L2
abbrev sLAc : Stmt := top 50
theorem scLAc : FnScope ["pot", "graph", "rows", "order", "arcs", "turn", "at", "way", "bent", "edge"] ["pot", "graph"] (defScope sLAc) := ⟨rfl, rfl, rfl, by decide +kernel, rfl, by decide +kernel, by decide +kernel⟩
theorem lots_dp {K : PySem.W.Frag} {H : Hp} {zs : List V} {L : List (List Nat)} (h : LotsT H zs L) : DpAll K H zs (lotsD L) := by
  induction h with
  | nil => exact .nil
  | cons a b ih =>
    obtain ⟨t, rfl, ht⟩ := a
    exact .cons (.tup (SqT.of ht) (numsD_dp _)) ih
structure BentOk (es bs : List E2) (m : Nat) : Prop where
  sub : ∀ q ∈ bs, q ∈ es ∨ sw q ∈ es
  cov : ∀ e ∈ es, e ∈ bs ∨ sw e ∈ bs
  few : bs.length ≤ m
theorem sw_sw (q : E2) : sw (sw q) = q := rfl
theorem bent1 {es as : List E2} {q : E2} (h : ArcsOk es as) (hq : q ∈ as) : BentOk es (as ++ [sw q]) (as.length + 1) := by
  refine ⟨fun r hr => ?_, fun e he => (h.cov e he).imp (List.mem_append_left _) (List.mem_append_left _), by rw [List.length_append]; exact Nat.le_refl _⟩
  rcases List.mem_append.mp hr with z | z
  · exact h.sub r z
  · rw [List.mem_singleton.mp z]
    exact (h.sub q hq).symm
theorem bent2 {es as : List E2} {q : E2} {i : Nat} (h : ArcsOk es as) (hi : as[i]? = some q) : BentOk es (as.take i ++ [sw q] ++ as.drop (i + 1)) (as.length + 1) := by
  have hq := List.mem_of_getElem? hi
  have pm := perm_cut hi
  have mem : ∀ r, r ∈ as.take i ++ [sw q] ++ as.drop (i + 1) ↔ r = sw q ∨ r ∈ as.take i ++ as.drop (i + 1) := fun r => by
    simp only [List.mem_append, List.mem_singleton]
    constructor
    · rintro ((a | b) | c)
      · exact .inr (.inl a)
      · exact .inl b
      · exact .inr (.inr c)
    · rintro (b | a | c)
      · exact .inl (.inr b)
      · exact .inl (.inl a)
      · exact .inr c
  have mas : ∀ r, r ∈ as ↔ r = q ∨ r ∈ as.take i ++ as.drop (i + 1) := fun r => by
    rw [pm.mem_iff, List.mem_cons]
  refine ⟨fun r hr => ?_, fun e he => ?_, ?_⟩
  · rcases (mem r).mp hr with rfl | z
    · exact (h.sub q hq).symm
    · exact h.sub r ((mas r).mpr (.inr z))
  · rcases h.cov e he with z | z
    · rcases (mas e).mp z with rfl | z
      · exact .inr ((mem _).mpr (.inl rfl))
      · exact .inl ((mem e).mpr (.inr z))
    · rcases (mas _).mp z with y | z
      · refine .inl ((mem e).mpr (.inl ?_))
        rw [← y]
        rfl
      · exact .inr ((mem _).mpr (.inr z))
  · rw [List.length_append, List.length_append, List.length_take, List.length_drop, List.length_singleton]
    omega
theorem bent_arcs {es as bs : List E2} {m : Nat} (h : BentOk es bs m) (up : as.Pairwise ahead) (mm : ∀ q, q ∈ as ↔ q ∈ bs) : ArcsOk es as ∧ as.length ≤ m := by
  have nd : as.Nodup := up.imp fun {a b} z e => by
    subst e
    unfold ahead at z
    omega
  have sub : ∀ q ∈ as, q ∈ es ∨ sw q ∈ es := fun q hq => h.sub q ((mm q).mp hq)
  refine ⟨⟨nd, sub, fun e he => (h.cov e he).imp (mm e).mpr (mm _).mpr, ?_⟩, Nat.le_trans (sub_few nd fun q hq => (mm q).mp hq) h.few⟩
  have z := sub_few nd (m := es ++ es.map sw) fun q hq => by
    rcases sub q hq with y | y
    · exact List.mem_append_left _ y
    · exact List.mem_append_right _ (List.mem_map.mpr ⟨sw q, y, rfl⟩)
  rw [List.length_append, List.length_map] at z
  omega
theorem PairsT.takeO {H : Hp} : ∀ {xs : List V} {ps : List E2} (k : Nat), PairsT H xs ps → PairsT H (xs.take k) (ps.take k)
  | _, _, 0, _ => .nil
  | _, _, k + 1, .nil => .nil
  | _, _, k + 1, .cons a r => .cons a (PairsT.takeO k r)
theorem PairsT.dropO {H : Hp} : ∀ {xs : List V} {ps : List E2} (k : Nat), PairsT H xs ps → PairsT H (xs.drop k) (ps.drop k)
  | _, _, 0, h => h
  | _, _, k + 1, .nil => .nil
  | _, _, k + 1, .cons _ r => PairsT.dropO k r
section
variable {P : Program} {w : World} {K : PySem.W.Frag} {mg : Str → Option Value} {base : Heap} {f fD fT fX fG : Addr} {fd dD dT dX dG : FuncData}
theorem ok_lac (F : L2.Fun K "_law_acyclic" "_law_acyclic" sLAc f fd)
    (GD : FnOk P w K mg base CX0 1 fD dD ["pot", "few"] spDraw) (bD : L2.Binds K dD ["pot", "few"] []) (kD : PySem.W.keepIn K (.ref fD) = true) (mD : mg "_law_draw" = some (.ref fD))
    (GT : FnOk P w K mg base CX0 1 fT dT ["graph"] (spTable K)) (bT : L2.Binds K dT ["graph"] []) (kT : PySem.W.keepIn K (.ref fT) = true) (mT : mg "_law_table" = some (.ref fT))
    (GX : FnOk P w K mg base CX0 2 fX dX ["pot", "some"] (spMixed K)) (bX : L2.Binds K dX ["pot", "some"] []) (kX : PySem.W.keepIn K (.ref fX) = true) (mX : mg "_law_mixed" = some (.ref fX))
    (GG : FnOk P w K mg base CX0 2 fG dG ["rows", "arcs"] (spLAg K)) (bG : L2.Binds K dG ["rows", "arcs"] []) (kG : PySem.W.keepIn K (.ref fG) = true) (mG : mg "_law_cliques_against" = some (.ref fG))
    (mr : mg "range" = none) (mli : mg "list" = none) (mn : mg "min" = none) (ml : mg "len" = none) (mso : mg "sorted" = none) (mst : mg "set" = none) (mt : mg "tuple" = none) : FnOk P w K mg base CX0 3 f fd ["pot", "graph"] spArcs := by
  refine F.ok scLAc (fun vs H Q E h => ?_) (fun cdv A outer s0 H vs Q E hr h => ?_)
  · obtain ⟨p, x, n, es, rfl, _⟩ := h
    rfl
  obtain ⟨p, x, n, es, rfl, hW, hx, g, q⟩ := h
  have h1 := hr.mono (show 1 ≤ 2 by decide)
  refine ⟨_, pss_cons (ps_asg (pe_tup (pa_cons (pe_call GT h1 (by rfl) mT kT bT .nil pass0 (pa_cons (pv 1) pa_nil)) (pa_cons (pe_call GX hr (by rfl) mX kX bX .nil pass0 (pa_cons (pv 0) (pa_cons (pe_callTy (call_listRng rfl) (by rfl) mli (by decide +kernel) (pa_cons (pe_callTy cr_range1 (by rfl) mr (by decide +kernel) (pa_cons (pe_ix (r := rIxT K) ix_tup (pv 1) pe_int (fun _ _ => rfl)) pa_nil)) pa_nil)) pa_nil))) pa_nil)))
        (pg_tup (by rfl) (pgs_cons (pg_name (i := 2) scLAc.nd rfl (.inl rfl)) (pgs_cons (pg_name (i := 3) scLAc.nd rfl (.inr rfl)) pgs_nil))))
    (pss_cons (ps_setLc (i := 4) (own := [("edge", 9)]) (g := gName 9) (tt := tYes) rfl scLAc.nd rfl rfl (sw_true rfl rfl rfl (by decide +kernel)) (pi_tup (pe_ix (r := rIxT K) ix_tup (pv 1) pe_int (fun _ _ => rfl)))
        (blkOk_by (N := ["pot", "graph", "rows", "order", "arcs", "turn", "at", "way", "bent", "edge"]) (sc := defScope sLAc) (by decide +kernel)) (fun _ _ _ _ _ => pg_name (i := 9) scLAc.nd rfl (Or.inl rfl)) (fun _ _ _ _ _ => pts_nil)
        (fun _ _ _ _ _ => pe_ifExp (pt_cmpR op_lt (pe_ix (r := rIxL K) ix_list (pv 3) (pe_ix (r := rIxT K) ix_tup (pv 9) pe_int (fun _ _ => rfl)) (fun _ _ => rfl)) (pe_ix (r := rIxL K) ix_list (pv 3) (pe_ix (r := rIxT K) ix_tup (pv 9) pe_int (fun _ _ => rfl)) (fun _ _ => rfl)) (nomark _)) (pv 9) (pe_revK (K := K) (pv 9))))
    (pss_cons (ps_for PassesOwn.never rfl (pi_range1 rfl mr (pa_cons (pe_callB (call_min2 rfl) (by rfl) mn (by decide +kernel) (pa_cons (pe_callB call_len_seq (by rfl) ml PySem.boot_len (pa_cons (pv 4) pa_nil)) (pa_cons (pe_call GD h1 (by rfl) mD kD bD .nil pass0 (pa_cons (pv 0) (pa_cons pe_int pa_nil))) pa_nil))) pa_nil)) (pg_name (i := 5) scLAc.nd rfl (.inl rfl))
      (pss_cons (ps_par (by rfl) scLAc.nd (i := 6) (j := 7) rfl rfl (by decide) rfl rfl (pa_cons (pe_call GD h1 (by rfl) mD kD bD .nil pass0 (pa_cons (pv 0) (pa_cons (pe_callB call_len_seq (by rfl) ml PySem.boot_len (pa_cons (pv 4) pa_nil)) pa_nil))) (pa_cons (pe_call GD h1 (by rfl) mD kD bD .nil pass0 (pa_cons (pv 0) (pa_cons pe_int pa_nil))) pa_nil)) (by rfl))
      (pss_cons (ps_set (i := 8) scLAc.nd rfl (.inl rfl) (pe_ifExp (pt_cmpR op_eq (pv 7) pe_int (nomark _)) (pe_op op_cat (pv 4) (pe_lst (pa_cons (pe_revK (K := K) (pe_ix (r := rIxL K) ix_list (pv 4) (pv 6) (fun _ _ => rfl))) pa_nil)))
        (pe_op op_cat (pe_op op_cat (pe_slice sl_list (pv 4) po_none (po_some (pv 6))) (pe_lst (pa_cons (pe_revK (K := K) (pe_ix (r := rIxL K) ix_list (pv 4) (pv 6) (fun _ _ => rfl))) pa_nil))) (pe_slice sl_list (pv 4) (po_some (pe_op op_add (pv 6) pe_int)) po_none))))
      (pss_cons (ps_set (i := 8) scLAc.nd rfl (.inl rfl) (pe_callB (cr_sortedT rfl) (by rfl) mso (by decide +kernel) (pa_cons (pe_callTy (cr_setM rfl hr.units) (by rfl) mst (by decide +kernel) (pa_cons (pv 8) pa_nil)) pa_nil)))
      (pss_one (ps_if (pt_cmpR (op_eqD hr.units) (pe_call GG hr (by rfl) mG kG bG .nil pass0 (pa_cons (pv 2) (pa_cons (pv 8) pa_nil))) (pe_lst pa_nil) (nomark _)) (pss_one (ps_set (i := 4) scLAc.nd rfl (.inl rfl) (pv 8))) pss_nil))))))
    (pss_one (ps_ret (pe_callTy call_tuple_of (by rfl) mt (by decide +kernel) (pa_cons (pe_callB cr_sortedPO (by rfl) mso (by decide +kernel) (pa_cons (pv 4) pa_nil)) pa_nil)))))), ?_⟩
  have line : ∀ k, k ≤ 1000 → k ≤ sizeLine := fun k hk => small hk
  have few := g.few
  have n9 := g.n9
  refine ⟨_, rfl, x, n, es, rfl, hx.at, g, fun D rs H1 s1 _ T => ?_⟩
  have hx1 := hx.same s1
  have w1 := hW.same s1
  obtain ⟨t, e, ys, rfl, ht, he, hes⟩ := hx1
  have a0 : atI [V.int (n : Int), V.ref e] 0 = some (.int (n : Int)) := atI_nat (j := 0) rfl
  have a1 : atI [V.int (n : Int), V.ref e] 1 = some (.ref e) := atI_nat (j := 1) rfl
  refine ⟨_, rfl, _, rfl, t, _, 0, _, rfl, rfl, SqT.of ht, a0, ?_⟩
  refine ⟨_, rfl, fun r nr => ?_⟩
  have sr := same_new nr (.rng 0 (n : Int))
  refine ⟨r, n, rfl, upd_same, by omega, fun l nl => ?_⟩
  have sl := same_new nl (.lst (numsN (List.range n)))
  have w2 := w1.same (sr.trans sl)
  refine ⟨p, l, _, rfl, w2, .inl (SqL.of upd_same), by rw [numsN_len, List.length_range]; omega, fun L zs0 H3 pm hL Lp b23 w3 => ?_⟩
  obtain ⟨os, rfl, pz⟩ := perm_numsN pm
  have lo : os.length = n := by rw [pz.length_eq, List.length_range]
  have b13 : But p H1 H3 := (But.of (sr.trans sl)).trans b23
  clear sr sl w2 pm b23 nr nl
  refine ⟨line 2 (by decide), fun tp ntp => ?_⟩
  have stp := same_new ntp (.tup [.ref D, .ref L])
  have htp := upd_same (H := H3) (a := tp) (o := .tup [.ref D, .ref L])
  have hL4 := stp _ _ hL
  have w4 := w3.same stp
  have b14 := b13.trans (But.of stp)
  generalize upd H3 tp (.tup [.ref D, .ref L]) = H4 at htp hL4 w4 b14 ⊢
  refine ⟨tp, _, rfl, SqT.of htp, rfl, _, _, rfl, _, _, rfl, rfl, ?_⟩
  have ht4 := b14 _ _ (wl_tup w1 ht) ht
  have he4 := b14 _ _ (wl_tup w1 he) he
  have hes4 := hes.but b14 w1
  have le := PairsT.len hes4
  have gO : ∀ k, k < n → (numsN os)[k]? = some (.int ((os.getD k 0 : Nat) : Int)) := fun k hk => numsN_getD (by omega)
  refine ⟨_, rfl, t, _, 1, _, rfl, rfl, SqT.of ht4, a1, e, rfl, ⟨_, SqT.of he4⟩, fun B nB => lo_it (walk_tup (xs := ys)) (fun i H5 => Same H4 H5 ∧ ∃ zs as, H5 B = some (.lst zs) ∧ PairsT H5 zs as ∧ ArcsOk (es.take i) as ∧ as.length ≤ i) ⟨same_new nB _, [], [], upd_same, .nil, ⟨List.nodup_nil, (fun _ z => nomatch z), (fun _ z => nomatch z), Nat.zero_le _⟩, Nat.le_refl _⟩ (fun i H5 _ ⟨s5, _⟩ => SqT.of (s5 _ _ he4)) ?_ ?_⟩
  · rintro i y _ H5 li ⟨s5, zs, as, hB, pzs, ok, la⟩ ⟨rfl, hy⟩
    obtain ⟨c, hc, u, rfl, hu⟩ := PairsT.getO (hes4.same s5) hy
    obtain ⟨l1, l2⟩ := g.lt c (List.mem_of_getElem? hc)
    have lz := PairsT.len pzs
    have hL5 := s5 _ _ hL4
    have u0 : atI [V.int (c.1 : Int), V.int (c.2 : Int)] 0 = some (.int (c.1 : Int)) := atI_nat (j := 0) rfl
    have u1 : atI [V.int (c.1 : Int), V.int (c.2 : Int)] 1 = some (.int (c.2 : Int)) := atI_nat (j := 1) rfl
    refine ⟨rfl, ?_⟩
    refine ⟨_, rfl, _, rfl, u, _, 0, _, rfl, rfl, SqT.of hu, u0, L, _, _, _, rfl, rfl, SqL.of hL5, atI_nat (gO c.1 (by omega)), _, rfl, _, rfl, u, _, 1, _, rfl, rfl, SqT.of hu, u1, L, _, _, _, rfl, rfl, SqL.of hL5, atI_nat (gO c.2 l2), _, _, rfl, rfl, _, rfl, iteB (fun _ => ?_) (fun _ => ?_)⟩
    · refine ⟨_, rfl, _, hB, small1000 (by omega), same_put s5 nB, _, as ++ [c], upd_same, ?_, ok.step g hc (by simp) (fun q hq => .inl (List.mem_singleton.mp hq)) (.inl (List.mem_cons_self ..)) (by show 1 ≤ 2; decide), by rw [List.length_append, List.length_singleton]; omega⟩
      exact (pzs.append (.cons ⟨u, rfl, hu⟩ .nil)).put hB
    · refine ⟨_, rfl, u, _, rfl, SqT.of hu, fun v nv => ?_⟩
      have pp := push_pairT (sw c) hB nv pzs
      have sv := same_new nv (.tup [V.int (c.1 : Int), V.int (c.2 : Int)].reverse)
      exact ⟨_, sv _ _ hB, small1000 (by omega), same_put (s5.trans sv) nB, _, as ++ [sw c], upd_same, pp, ok.step g hc (by simp) (fun q hq => .inr (List.mem_singleton.mp hq)) (.inr (List.mem_cons_self ..)) (by show 1 ≤ 2; decide), by rw [List.length_append, List.length_singleton]; omega⟩
  rintro H5 ⟨s5, zs0, as0, hB, pz0, ok0, la0⟩
  rw [le, List.take_length] at ok0
  have w5 := w4.same s5
  have b15 := b14.trans (But.of s5)
  have Bp := w4.ne nB
  have lz0 := PairsT.len pz0
  have lz0' : zs0.length ≤ 36 := by omega
  refine ⟨_, rfl, B, zs0, rfl, .inl (SqL.of hB), _, rfl, p, 8, rfl, w5, by decide, by decide, fun d8 H6 d0 d1 b6 w6 => ?_⟩
  refine ⟨_, _, rfl, ?_⟩
  obtain ⟨J, hJ, j7, jl⟩ : ∃ J : Nat, (if d8 < ((zs0.length : Nat) : Int) then d8 else ((zs0.length : Nat) : Int)) = (J : Int) ∧ J ≤ 7 ∧ J ≤ zs0.length := by
    split
    · exact ⟨d8.toNat, by omega, by omega, by omega⟩
    · exact ⟨zs0.length, rfl, by omega, Nat.le_refl _⟩
  rw [hJ]
  have hB6 := b6 _ _ Bp hB
  have pz6 := pz0.but b6 w5
  have b16 := b15.trans b6
  refine ⟨(J : Int), rfl, by omega, by omega, for_range (lo := 0) (n := ((J : Nat) : Int).toNat) (fun i σ H' => ∃ (R : Addr) (zs : List V) (as : List E2) (s5 s6 s7 s8 : Option V), σ = [some (.ref p), some (.ref t), some (.ref D), some (.ref L), some (.ref R), s5, s6, s7, s8, none] ∧ But p H1 H' ∧ Wl H' p ∧ R ≠ p ∧ H' R = some (.lst zs) ∧ PairsT H' zs as ∧ ArcsOk es as ∧ as.length ≤ 36 + i)
    ⟨B, zs0, as0, none, none, none, none, rfl, b16, w6, Bp, hB6, pz6, ok0, by omega⟩ ?_ ?_⟩
  · rintro i σ H7 li ⟨R, zs, as, s5', s6', s7', s8', rfl, b7, w7, Rp, hR, pzs, ok, la⟩
    have lz := PairsT.len pzs
    have pos : 0 < as.length := by
      have i0 : 0 < as0.length := by omega
      have c0 := List.getElem_mem i0
      have : ∃ q, q ∈ es := by
        rcases ok0.sub _ c0 with z | z
        · exact ⟨_, z⟩
        · exact ⟨_, z⟩
      obtain ⟨q, hq⟩ := this
      rcases ok.cov q hq with z | z
      · exact List.length_pos_of_mem z
      · exact List.length_pos_of_mem z
    refine ⟨_, rfl, _, rfl, R, zs, rfl, .inl (SqL.of hR), p, _, rfl, w7, by omega, by omega, fun at' H8 a0' a1' b8 w8 => ?_⟩
    obtain ⟨k, rfl⟩ : ∃ k : Nat, at' = (k : Int) := ⟨at'.toNat, by omega⟩
    refine ⟨_, rfl, p, 3, rfl, w8, by decide, by decide, fun way H9 _ _ b9 w9 => ⟨_, _, rfl, ?_⟩⟩
    have b79 := b8.trans b9
    have hR9 := b79 _ _ Rp hR
    have pz9 := pzs.but b79 w7
    have b19 := b7.trans b79
    have kl : k < zs.length := by omega
    obtain ⟨c, hc, u, hcu, hu⟩ := PairsT.getO pz9 (List.getElem?_eq_getElem kl)
    have gz : zs[k]? = some (.ref u) := by rw [List.getElem?_eq_getElem kl, hcu]
    refine' joinS (i := 8) (R := fun v H' => ∃ (Z : Addr) (vs : List V) (bs : List E2), v = .ref Z ∧ Same H9 H' ∧ H' Z = some (.lst vs) ∧ PairsT H' vs bs ∧ BentOk es bs (as.length + 1)) (fun go => ?_) ?_
    rotate_left 2
    · refine ⟨_, rfl, rfl, _, rfl, iteB (fun _ => ?_) (fun _ => ?_)⟩
      · refine ⟨_, rfl, _, rfl, _, rfl, R, _, _, _, rfl, rfl, SqL.of hR9, atI_nat gz, u, _, rfl, SqT.of hu, fun v nv => ?_⟩
        have sv := same_new nv (.tup [V.int (c.1 : Int), V.int (c.2 : Int)].reverse)
        have hv : upd H9 v (.tup [V.int (c.1 : Int), V.int (c.2 : Int)].reverse) v = some (.tup [.int ((sw c).1 : Int), .int ((sw c).2 : Int)]) := upd_same
        generalize upd H9 v (.tup [V.int (c.1 : Int), V.int (c.2 : Int)].reverse) = H10 at sv hv ⊢
        refine ⟨line 1 (by decide), fun X nX => ?_⟩
        have sX := same_new nX (.lst [.ref v])
        have hX := upd_same (H := H10) (a := X) (o := .lst [.ref v])
        generalize upd H10 X (.lst [.ref v]) = H11 at sX hX ⊢
        have s911 := sv.trans sX
        refine ⟨R, X, _, _, rfl, rfl, s911 _ _ hR9, hX, line _ (by rw [List.length_singleton]; omega), fun Z nZ => ?_⟩
        have sZ := same_new nZ (.lst (zs ++ [.ref v]))
        exact go _ _ ⟨Z, _, as ++ [sw c], rfl, s911.trans sZ, upd_same, (pz9.same (s911.trans sZ)).append (.cons ⟨v, rfl, sZ _ _ (sX _ _ hv)⟩ .nil), bent1 ok (List.mem_of_getElem? hc)⟩
      · refine ⟨_, rfl, _, rfl, _, rfl, R, zs, rfl, SqL.of hR9, ?_⟩
        rw [cut_to (by omega)]
        intro x1 n1
        have sx1 := same_new n1 (.lst (zs.take k))
        have hx1 := upd_same (H := H9) (a := x1) (o := .lst (zs.take k))
        generalize upd H9 x1 (.lst (zs.take k)) = Ha at sx1 hx1 ⊢
        have hu' := sx1 _ _ hu
        refine ⟨_, rfl, _, rfl, R, _, _, _, rfl, rfl, SqL.of (sx1 _ _ hR9), atI_nat gz, u, _, rfl, SqT.of hu', fun v nv => ?_⟩
        have sv := same_new nv (.tup [V.int (c.1 : Int), V.int (c.2 : Int)].reverse)
        have hv : upd Ha v (.tup [V.int (c.1 : Int), V.int (c.2 : Int)].reverse) v = some (.tup [.int ((sw c).1 : Int), .int ((sw c).2 : Int)]) := upd_same
        generalize upd Ha v (.tup [V.int (c.1 : Int), V.int (c.2 : Int)].reverse) = H10 at sv hv ⊢
        refine ⟨line 1 (by decide), fun X nX => ?_⟩
        have sX := same_new nX (.lst [.ref v])
        have hX := upd_same (H := H10) (a := X) (o := .lst [.ref v])
        generalize upd H10 X (.lst [.ref v]) = H11 at sX hX ⊢
        have sa := sv.trans sX
        refine ⟨x1, X, _, _, rfl, rfl, sa _ _ hx1, hX, line _ (by rw [List.length_singleton, List.length_take]; omega), fun x2 n2 => ?_⟩
        have sx2 := same_new n2 (.lst (zs.take k ++ [.ref v]))
        have hx2 := upd_same (H := H11) (a := x2) (o := .lst (zs.take k ++ [.ref v]))
        generalize upd H11 x2 (.lst (zs.take k ++ [.ref v])) = H12 at sx2 hx2 ⊢
        have sb := sx1.trans (sa.trans sx2)
        have ec : cutV zs (some ((k : Int) + 1)) none = zs.drop (k + 1) := cut_from (k := k + 1) (by omega)
        refine ⟨_, rfl, _, rfl, _, _, rfl, rfl, _, rfl, R, zs, rfl, SqL.of (sb _ _ hR9), ?_⟩
        rw [ec]
        intro x3 n3
        have sx3 := same_new n3 (.lst (zs.drop (k + 1)))
        have hx3 := upd_same (H := H12) (a := x3) (o := .lst (zs.drop (k + 1)))
        generalize upd H12 x3 (.lst (zs.drop (k + 1))) = H13 at sx3 hx3 ⊢
        refine ⟨x2, x3, _, _, rfl, rfl, sx3 _ _ hx2, hx3, line _ (by rw [List.length_append, List.length_singleton, List.length_take, List.length_drop]; omega), fun Z nZ => ?_⟩
        have sZ := same_new nZ (.lst (zs.take k ++ [.ref v] ++ zs.drop (k + 1)))
        have sall := sb.trans (sx3.trans sZ)
        have pall := pz9.same sall
        exact go _ _ ⟨Z, _, _, rfl, sall, upd_same, ((pall.takeO k).append (.cons ⟨v, rfl, (sx2.trans (sx3.trans sZ)) _ _ (sX _ _ hv)⟩ .nil)).append (pall.dropO (k + 1)), bent2 ok hc⟩
    rintro _ H14 ⟨Z, vs, bs, rfl, s14, hZ, pb, bok⟩
    have w14 := w9.same s14
    have b114 := b19.trans (But.of s14)
    have lb := PairsT.len pb
    have fb := bok.few
    obtain ⟨ks, e1, e2, e3⟩ := pairs_ksT pb
    have form : ∀ p ∈ ks, ∃ r ∈ bs, p.2 = [(r.1 : Int), (r.2 : Int)] := fun p hp => by
      have z : p.2 ∈ ks.map (·.2) := List.mem_map.mpr ⟨p, hp, rfl⟩
      rw [e2] at z
      obtain ⟨r, h1, h2⟩ := List.mem_map.mp z
      exact ⟨r, h1, h2.symm⟩
    have small' : ∀ r ∈ bs, r.1 < 9 ∧ r.2 < 9 := fun r hr => by
      rcases bok.sub r hr with z | z
      · have := g.lt _ z
        omega
      · have := g.lt _ z
        simp only [sw] at this
        omega
    have lks : ks.length = vs.length := by rw [e1, List.length_map]
    refine ⟨_, rfl, Z, ks, rfl, by rw [← e1]; exact SqL.of hZ, fun p hp => SqT.of (e3 p hp), fun M hM nd => ?_, fun a LL na sub sup => ?_⟩
    · have z := sub_few nd (m := ks.map (·.2)) fun y hy => by
        obtain ⟨p, hp, rfl⟩ := List.mem_map.mp hy
        exact List.mem_map.mpr ⟨p, hM p hp, rfl⟩
      rw [List.length_map, List.length_map] at z
      omega
    refine ⟨a, LL, 2, 9, rfl, upd_same, fun p hp => SqT.of ((same_new na _) _ _ (e3 p (sub p hp))), by decide, fun p hp => ?_, fun L' b perm nd few' up nb => ?_⟩
    · obtain ⟨r, hr, e⟩ := form p (sub p hp)
      have z := small' r hr
      rw [e]
      refine ⟨rfl, fun m hm => ?_⟩
      rcases List.mem_cons.mp hm with rfl | hm
      · omega
      · have := List.mem_singleton.mp hm
        omega
    have m' : ∀ p ∈ L', p ∈ ks := fun p hp => sub p (perm.mem_iff.mp hp)
    have back : ∀ p ∈ L', p.2 = [((toEO p.2).1 : Int), ((toEO p.2).2 : Int)] ∧ toEO p.2 ∈ bs := fun p hp => by
      obtain ⟨r, hr, e⟩ := form p (m' p hp)
      rw [e, toEO_of]
      exact ⟨rfl, hr⟩
    have s45 := (same_new na (SetTO P w a LL)).trans (same_new nb (.lst (L'.map fun q => V.ref q.1)))
    have hb := upd_same (H := upd H14 a (SetTO P w a LL)) (a := b) (o := .lst (L'.map fun q => V.ref q.1))
    have bp : b ≠ p := (w14.same (same_new na (SetTO P w a LL))).ne nb
    have pw := ks_pairsT (fun p hp => s45 _ _ (e3 p (m' p hp))) fun p hp => (back p hp).1
    have upw : (L'.map fun p => toEO p.2).Pairwise ahead := by
      rw [List.pairwise_map]
      have nd2 := List.pairwise_map.mp nd
      have both := up.and nd2
      refine both.imp_of_mem ?_
      intro p r hp hr ⟨le, neq⟩
      have b1 := (back p hp).1
      have b2 := (back r hr).1
      have z1 := small' _ (back p hp).2
      have z2 := small' _ (back r hr).2
      rw [b1, b2] at le neq
      have c1 : TS.code 9 [((toEO p.2).1 : Int), ((toEO p.2).2 : Int)] = ((toEO p.2).1 : Int) * 9 + ((toEO p.2).2 : Int) := by simp [TS.code]
      have c2 : TS.code 9 [((toEO r.2).1 : Int), ((toEO r.2).2 : Int)] = ((toEO r.2).1 : Int) * 9 + ((toEO r.2).2 : Int) := by simp [TS.code]
      rw [c1, c2] at le
      have ne2 : ¬ ((toEO p.2).1 = (toEO r.2).1 ∧ (toEO p.2).2 = (toEO r.2).2) := fun ⟨x, y⟩ => neq (by rw [x, y])
      show (toEO p.2).1 < (toEO r.2).1 ∨ ((toEO p.2).1 = (toEO r.2).1 ∧ (toEO p.2).2 < (toEO r.2).2)
      omega
    have mw : ∀ q, q ∈ (L'.map fun p => toEO p.2) ↔ q ∈ bs := fun r => by
      constructor
      · intro hr
        obtain ⟨p, hp, rfl⟩ := List.mem_map.mp hr
        exact (back p hp).2
      · intro hr
        have z : [(r.1 : Int), (r.2 : Int)] ∈ ks.map (·.2) := by
          rw [e2]
          exact List.mem_map.mpr ⟨r, hr, rfl⟩
        obtain ⟨p, hp, ep⟩ := List.mem_map.mp z
        have z2 := sup p hp
        obtain ⟨p2, hp2, ep2⟩ := List.mem_map.mp z2
        refine List.mem_map.mpr ⟨p2, perm.mem_iff.mpr hp2, ?_⟩
        rw [ep2, ep, toEO_of]
    obtain ⟨ok2, la2⟩ := bent_arcs bok upw mw
    have T15 := T.but (b114.trans (But.of s45)) w1
    refine ⟨_, rfl, _, rfl, D, b, n, es, rs, _, _, rfl, T15, n9, .inl (SqL.of hb), pw.at, fun R2 zs2 L2' H16 s16 hR2 hl2 _ l512 => ?_⟩
    have s1416 := s45.trans s16
    refine ⟨line 0 (by decide), fun e5 ne5 => ?_⟩
    have se5 := same_new ne5 (.lst [])
    have he5 := upd_same (H := H16) (a := e5) (o := .lst [])
    refine ⟨.list (lotsD L2'), .list (lotsD []), .lst (SqL.of (se5 _ _ hR2)) (lots_dp (hl2.same se5)), .lst (SqL.of he5) .nil, lotsD_sh _, lotsD_sh [], _, rfl, ?_⟩
    have s1417 := s1416.trans se5
    refine iteB (fun _ => ?_) (fun _ => ?_)
    · exact ⟨_, rfl, b, _, _, _, _, _, _, rfl, b114.trans (But.of s1417), w14.same s1417, bp, (s16.trans se5) _ _ hb, pw.same (s16.trans se5), ok2, by omega⟩
    · have s917 := s14.trans s1417
      exact ⟨R, zs, as, _, _, _, _, rfl, b114.trans (But.of s1417), w14.same s1417, Rp, s917 _ _ hR9, pz9.same s917, ok, by omega⟩
  · rintro σ H7 ⟨R, zs, as, s5', s6', s7', s8', rfl, b7, w7, Rp, hR, pzs, ok, la⟩
    refine ⟨_, rfl, R, _, kOf H7, rfl, SqL.of hR, pzs.ks, fun ys S so st nS => ?_⟩
    obtain ⟨g1, g2, g3⟩ := sorted_pairs pzs ok.nd so st
    obtain ⟨_, _, g4⟩ := sorted_pairsD pzs so st
    generalize ys.map (gOf H7) = qs at g1 g2 g3 g4
    have sS := same_new nS (.lst ys)
    have hS := upd_same (H := H7) (a := S) (o := .lst ys)
    generalize upd H7 S (.lst ys) = H8 at sS hS ⊢
    refine ⟨S, ys, rfl, .inl ⟨SqL.of hS, fun T' nT => ?_⟩⟩
    have sT := same_new nT (.tup ys)
    refine q T' ys qs _ ((But.of s1).trans (b7.trans (But.of (sS.trans sT)))) (w7.same (sS.trans sT)) upd_same (g1.same (sS.trans sT)) g2 ⟨g4.nodup_iff.mpr ok.nd, fun r hr => ok.sub r ((g3 r).mp hr), fun r hr => (ok.cov r hr).imp (g3 r).mpr (g3 _).mpr, by rw [g4.length_eq]; exact ok.few⟩
end
end My

set_option maxHeartbeats 8000000
namespace My
open PySem PySem.Spec PyProof.Rows L2
abbrev sStbM : Stmt := top 25
abbrev sWoe : Stmt := top 33
abbrev sKers : Stmt := top 31
theorem scStbM : FnScope ["graph"] ["graph"] (defScope sStbM) := ⟨rfl, rfl, rfl, by decide +kernel, rfl, by decide +kernel, by decide +kernel⟩
theorem scWoe : FnScope ["ends", "mask", "vertex", "end"] ["ends", "mask"] (defScope sWoe) := ⟨rfl, rfl, rfl, by decide +kernel, rfl, by decide +kernel, by decide +kernel⟩
theorem scKers : FnScope ["graph", "orientation", "ends", "mask"] ["graph", "orientation"] (defScope sKers) := ⟨rfl, rfl, rfl, by decide +kernel, rfl, by decide +kernel, by decide +kernel⟩
/-- a kernel: no two of it adjacent, from each other vertex an arc to one of it -/
def Ker (n : Nat) (es as : List E2) (l : List Nat) : Prop := LotOk n l ∧ PairB es false l ∧ ∀ v, v < n → v ∉ l → ∃ e ∈ l, (v, e) ∈ as
/-- all kernels, ascending -/
def Kers (n : Nat) (es as : List E2) (L : List (List Nat)) : Prop := L.Pairwise ltL ∧ ∀ l, l ∈ L ↔ Ker n es as l
theorem Kers.uniq {n : Nat} {es as : List E2} {L M : List (List Nat)} (h : Kers n es as L) (k : Kers n es as M) : L = M := eq_of_ltL h.1 k.1 fun l => (h.2 l).trans (k.2 l).symm
/-- those outside the mask without an arc to it -/
def woeL (nb : List Nat) (mask : Nat) (k : Nat) : List Nat := (List.range k).filter fun v => !mask.testBit v && decide (nb.getD v 0 &&& mask = 0)
def spStbM (K : PySem.W.Frag) : Sp := fun vs H Q _ => ∃ (x : V) (n : Nat) (es : List E2), vs = [x] ∧ GraphAt K H x n es ∧ Good n es ∧ ∀ (F : Addr) (found : List Nat) H', Same H H' → H' F = some (.lst (numsN found)) → FoundOk (leftP n es) n found → (∃ r, found = 0 :: r) → Q (.ref F) H'
def spWoe (K : PySem.W.Frag) : Sp := fun vs H Q _ => ∃ (D : Addr) (nb : List Nat) (mask : Nat), vs = [.ref D, .int (mask : Int)] ∧ SqL K H D (numsN nb) ∧ nb.length ≤ 9 ∧ ∀ t H', Same H H' → H' t = some (.tup (numsN (woeL nb mask nb.length))) → Q (.ref t) H'
def spKers (K : PySem.W.Frag) : Sp := fun vs H Q _ => ∃ (x y : V) (n : Nat) (es as : List E2), vs = [x, y] ∧ GraphAt K H x n es ∧ Good n es ∧ OrAt K H y es as ∧ ∀ (t : Addr) (zs : List V) (L : List (List Nat)) H', Same H H' → H' t = some (.tup zs) → LotsT H' zs L → L.length ≤ 512 → Kers n es as L → Q (.ref t) H'
theorem bit_below {m n e : Nat} (h : m < 2 ^ n) (b : m.testBit e = true) : e < n := by
  by_cases c : e < n
  · exact c
  · rw [Nat.testBit_lt_two_pow (Nat.lt_of_lt_of_le h (Nat.pow_le_pow_right (by decide) (by omega)))] at b
    cases b
theorem adj_left {n : Nat} {es : List E2} {u v : Nat} (hu : u < n) (hv : v < n) (ne : u ≠ v) : adjB (leftP n es) u v = !adjB es u v := by
  unfold adjB
  have h : (min u v, max u v) ∈ allP n := mem_allP.mpr (by dsimp only; omega)
  rw [Bool.eq_iff_iff, decide_eq_true_eq]
  show (_ ∈ (allP n).filter fun p => decide (p ∉ es)) ↔ _
  rw [List.mem_filter]
  simp [h]
theorem clq_stb {n : Nat} {es : List E2} {m : Nat} (lt : m < 2 ^ n) : Clq (leftP n es) m ↔ PairB es false (bitsN n m) := by
  rw [pairB_mem ((bits_up n m).imp fun z => Nat.ne_of_lt z)]
  constructor
  · intro h u hu v hv ne
    obtain ⟨un, ub⟩ := mem_bits.mp hu
    obtain ⟨vn, vb⟩ := mem_bits.mp hv
    have z := h u v ub vb ne
    rw [adj_left un vn ne] at z
    simpa using z
  · intro h u v ub vb ne
    have un := bit_below lt ub
    have vn := bit_below lt vb
    rw [adj_left un vn ne, h u (mem_bits.mpr ⟨un, ub⟩) v (mem_bits.mpr ⟨vn, vb⟩) ne]
    rfl
theorem and_zeroK {a b : Nat} : a &&& b = 0 ↔ ∀ e, ¬ (a.testBit e = true ∧ b.testBit e = true) := by
  constructor
  · intro h e ⟨h1, h2⟩
    have z : (a &&& b).testBit e = false := by rw [h, Nat.zero_testBit]
    rw [Nat.testBit_and, h1, h2] at z
    cases z
  · intro h
    refine Nat.eq_of_testBit_eq fun e => ?_
    rw [Nat.testBit_and, Nat.zero_testBit]
    cases h1 : a.testBit e with
    | false => rfl
    | true =>
      cases h2 : b.testBit e with
      | false => rfl
      | true => exact absurd ⟨h1, h2⟩ (h e)
theorem woe_ker {n : Nat} {as : List E2} {nb : List Nat} {m : Nat} (ok : EndsOk n as nb) (lt : m < 2 ^ n) : woeL nb m n = [] ↔ ∀ v, v < n → v ∉ bitsN n m → ∃ e ∈ bitsN n m, (v, e) ∈ as := by
  unfold woeL
  rw [List.filter_eq_nil_iff]
  constructor
  · intro h v vn hv
    have nb' : m.testBit v = false := by
      cases e : m.testBit v with
      | false => rfl
      | true => exact absurd (mem_bits.mpr ⟨vn, e⟩) hv
    have z := h v (List.mem_range.mpr vn)
    rw [nb'] at z
    have z2 : ¬ (nb.getD v 0 &&& m = 0) := fun e => z (by rw [e]; rfl)
    rw [and_zeroK] at z2
    have z3 : ∃ e, (nb.getD v 0).testBit e = true ∧ m.testBit e = true := by
      by_cases c : ∃ e, (nb.getD v 0).testBit e = true ∧ m.testBit e = true
      · exact c
      · exact absurd (fun e he => c ⟨e, he⟩) z2
    obtain ⟨e, h1, h2⟩ := z3
    rw [ok.2 v vn] at h1
    exact ⟨e, mem_bits.mpr ⟨bit_below lt h2, h2⟩, of_decide_eq_true h1⟩
  · intro h v hv hh
    have vn := List.mem_range.mp hv
    rw [Bool.and_eq_true, Bool.not_eq_true', decide_eq_true_eq] at hh
    obtain ⟨e, he, hm⟩ := h v vn (fun z => by rw [(mem_bits.mp z).2] at hh; cases hh.1)
    exact and_zeroK.mp hh.2 e ⟨by rw [ok.2 v vn]; exact decide_eq_true hm, (mem_bits.mp he).2⟩
section
variable {P : Program} {w : World} {K : PySem.W.Frag} {mg : Str → Option Value} {base : Heap} {f fC fN fM fO fE fS fL fW : Addr} {fd dC dN dM dO dE dS dL dW : FuncData}
theorem ok_stbm (F : L2.Fun K "stable_masks" "stable_masks" sStbM f fd)
    (GC : FnOk P w K mg base CX0 6 fC dC ["graph"] (spComplement K)) (bC : L2.Binds K dC ["graph"] []) (kC : PySem.W.keepIn K (.ref fC) = true) (mC : mg "complement" = some (.ref fC))
    (GN : FnOk P w K mg base CX0 1 fN dN ["graph"] (spMasks K)) (bN : L2.Binds K dN ["graph"] []) (kN : PySem.W.keepIn K (.ref fN) = true) (mN : mg "neighbour_masks" = some (.ref fN))
    (GM : FnOk P w K mg base CX0 1 fM dM ["neighbours"] (spCMasks K)) (bM : L2.Binds K dM ["neighbours"] []) (kM : PySem.W.keepIn K (.ref fM) = true) (mM : mg "clique_masks" = some (.ref fM)) : FnOk P w K mg base CX0 7 f fd ["graph"] (spStbM K) := by
  refine F.ok scStbM (fun vs H Q E h => ?_) (fun cdv A outer s0 H vs Q E hr h => ?_)
  · obtain ⟨x, n, es, rfl, _⟩ := h
    rfl
  obtain ⟨x, n, es, rfl, hx, g, q⟩ := h
  have h1 := hr.mono (show 1 ≤ 6 by decide)
  refine ⟨_, pss_one (ps_ret (pe_call GM h1 (by rfl) mM kM bM .nil pass0 (pa_cons (pe_call GN h1 (by rfl) mN kN bN .nil pass0 (pa_cons (pe_call GC hr (by rfl) mC kC bC .nil pass0 (pa_cons (pv 0) pa_nil)) pa_nil)) pa_nil))), ?_⟩
  refine ⟨_, rfl, x, n, es, rfl, hx, g, fun y H1 s1 hy => ⟨y, n, leftP n es, rfl, hy, (Good.filter g.n9 _), fun D nb H2 nD s2 hD ok => ⟨D, nb, n, leftP n es, rfl, SqL.of hD, ok, g.n9, fun F found H3 s3 hF fo h0 => q F found H3 (s1.trans (s2.trans s3)) hF fo h0⟩⟩⟩
theorem ok_woe (F : L2.Fun K "_without_end_in" "_without_end_in" sWoe f fd) (me : mg "enumerate" = none) (mt : mg "tuple" = none) : FnOk P w K mg base CX0 1 f fd ["ends", "mask"] (spWoe K) := by
  refine F.ok scWoe (fun vs H Q E h => ?_) (fun cdv A outer s0 H vs Q E hr h => ?_)
  · obtain ⟨D, nb, m, rfl, _⟩ := h
    rfl
  obtain ⟨D, nb, m, rfl, hD, l9, q⟩ := h
  refine ⟨_, pss_one (ps_ret (pe_callTy call_tuple_of (by rfl) mt (by decide +kernel) (pa_cons (pe_lc (own := [("vertex", 2), ("end", 3)]) (g := gTup K 2 (gCons (gName 2) (gCons (gName 3) gNil)))
        (tt := tAnd (tNot (tTruM K (tOp (rI0 fun i j => .int (Builtin.bitAnd i j)) (tOp (rI (fun _ j => 0 ≤ j) fun i j => .int (i / 2 ^ j.toNat)) (tVar 1) (tVar 2)) (tC (.int 1))))) (tNot (tTruM K (tOp (rI0 fun i j => .int (Builtin.bitAnd i j)) (tVar 3) (tVar 1))))) rfl scWoe.nd (pi_enum (by rfl) me (pa_cons (pv 0) pa_nil))
        (blkOk_by (N := ["ends", "mask", "vertex", "end"]) (sc := defScope sWoe) (by decide +kernel)) (fun _ _ _ _ _ => pg_tup (by rfl) (pgs_cons (pg_name (i := 2) scWoe.nd rfl (Or.inl rfl)) (pgs_cons (pg_name (i := 3) scWoe.nd rfl (Or.inl rfl)) pgs_nil)))
        (fun _ _ _ _ _ => pts_one (PW.pt (pw_and (pt_not (pt_truth (pe_op op_and (pe_op op_shr (pv 1) (pv 2)) pe_int) (by intro _; rfl))) (pw_and1 (pt_not (pt_truth (pe_op op_and (pv 3) (pv 1)) (by intro _; rfl))))))) (fun _ _ _ _ _ => pv 2)) pa_nil))), ?_⟩
  refine ⟨_, rfl, D, _, rfl, hD, fun B nB => lo_it (walk_enum (xs := numsN nb)) (fun i H4 => Same H H4 ∧ H4 B = some (.lst (numsN (woeL nb m i)))) ⟨same_new nB _, upd_same⟩ (fun i H4 _ ⟨s4, _⟩ => L2.Same.seq s4 hD) ?_ ?_⟩
  · rintro i x H3 H4 li ⟨s4, hB⟩ ⟨T, y, v, rfl, nT, rfl, e1, e2⟩
    obtain rfl : V.int ((i : Nat) : Int) = y := Option.some.inj e1
    rw [numsN_len] at li
    have e2' : (numsN nb)[i]? = some v := e2
    rw [numsN_getD li] at e2'
    obtain rfl := Option.some.inj e2'
    have sT := same_new nT (.tup [.int ((i : Nat) : Int), .int ((nb.getD i 0 : Nat) : Int)])
    have hB3 := sT _ _ hB
    have few : (woeL nb m i).length ≤ i := Nat.le_trans (List.length_filter_le _ _) (by rw [List.length_range]; exact Nat.le_refl _)
    have step : woeL nb m (i + 1) = woeL nb m i ++ (if (!m.testBit i && decide (nb.getD i 0 &&& m = 0)) = true then [i] else []) := by
      unfold woeL
      rw [List.range_succ, List.filter_append]
      congr 1
      by_cases c : (!m.testBit i && decide (nb.getD i 0 &&& m = 0)) = true
      · rw [if_pos c, List.filter_cons_of_pos (p := fun v => !m.testBit v && decide (nb.getD v 0 &&& m = 0)) c]
        rfl
      · rw [if_neg c, List.filter_cons_of_neg (p := fun v => !m.testBit v && decide (nb.getD v 0 &&& m = 0)) c]
        rfl
    refine ⟨T, _, rfl, SqT.of upd_same, rfl, _, _, rfl, _, _, rfl, rfl, ?_⟩
    refine ⟨rfl, ?_⟩
    refine ⟨_, rfl, _, rfl, _, _, rfl, rfl, by omega, _, _, rfl, rfl, _, rfl, ?_⟩
    simp only [shr_bit]
    cases e : m.testBit i with
    | true =>
      refine iteF ⟨s4.trans sT, ?_⟩
      rw [hB3, step, if_neg (by rw [e]; simp), List.append_nil]
    | false =>
      refine iteT ?_
      refine ⟨_, rfl, _, rfl, _, _, rfl, rfl, _, rfl, ?_⟩
      simp only [and_nn]
      by_cases z : nb.getD i 0 &&& m = 0
      · rw [if_pos (by rw [z]; rfl)]
        refine ⟨_, rfl, _, hB3, small1000 (by rw [numsN_len]; omega), same_put (s4.trans sT) nB, ?_⟩
        rw [upd_same, step, if_pos (by rw [e, decide_eq_true z]; rfl)]
        unfold numsN
        rw [List.map_append]
        rfl
      · rw [if_neg (by
          intro h
          rw [Bool.not_eq_true'] at h
          have h2 : ((nb.getD i 0 &&& m : Nat) : Int) = 0 := by
            by_cases y : ((nb.getD i 0 &&& m : Nat) : Int) = 0
            · exact y
            · rw [bne_iff_ne.mpr y] at h
              cases h
          omega)]
        refine ⟨s4.trans sT, ?_⟩
        rw [hB3, step, if_neg (by rw [e, decide_eq_false z]; simp), List.append_nil]
  rintro H4 ⟨s4, hB⟩
  rw [numsN_len] at hB
  exact ⟨B, _, rfl, .inl ⟨SqL.of hB, fun l nl => q l _ (s4.trans (same_new nl _)) upd_same⟩⟩
theorem kers_of {n : Nat} {es as : List E2} {nb found : List Nat} {ls : List (List Nat)} (g : Good n es) (ok : EndsOk n as nb) (fo : FoundOk (leftP n es) n found)
    (h2 : ls.Pairwise ltL) (h3 : ∀ l, l ∈ ls ↔ l ∈ (found.filter fun m => (woeL nb m n).isEmpty).map (bitsN n)) : Kers n es as ls := by
  refine ⟨h2, fun l => (h3 l).trans ?_⟩
  rw [List.mem_map]
  constructor
  · rintro ⟨m, hm, rfl⟩
    obtain ⟨hf, hw⟩ := List.mem_filter.mp hm
    obtain ⟨lt, cq⟩ := (fo.2 m).mp hf
    exact ⟨⟨fun k hk => (mem_bits.mp hk).1, bits_up n m⟩, (clq_stb lt).mp cq, (woe_ker ok lt).mp (List.isEmpty_iff.mp hw)⟩
  · rintro ⟨lo, pb, hk⟩
    have lm : maskN l < 2 ^ n := by rw [← mask_rev]; exact desc_lt (List.pairwise_reverse.mpr lo.up) fun a ha => lo.lt a (List.mem_reverse.mp ha)
    have lb : bitsN n (maskN l) = l := bits_mask lo.up lo.lt
    refine ⟨maskN l, List.mem_filter.mpr ⟨(fo.2 _).mpr ⟨lm, (clq_stb lm).mpr (by rw [lb]; exact pb)⟩, ?_⟩, lb⟩
    rw [List.isEmpty_iff]
    exact (woe_ker ok lm).mpr (by rw [lb]; exact hk)
theorem ker_nodup {n : Nat} {ms : List Nat} (nd : ms.Nodup) (lt : ∀ m ∈ ms, m < 2 ^ n) : (ms.map (bitsN n)).Nodup := by
  show List.Pairwise _ _
  rw [List.pairwise_map]
  refine List.Pairwise.imp_of_mem ?_ nd
  intro a b ha hb ne e
  refine ne (?_ : a = b)
  rw [← mask_bits (lt a ha), ← mask_bits (lt b hb), e]
theorem kers_sort {n : Nat} {found : List Nat} {p : Nat → Bool} (lt : ∀ m ∈ found, m < 2 ^ n) (nd : found.Nodup) (h0 : ∃ r, found = 0 :: r) : Sortish (((found.filter p).map (bitsN n)).map natI) := by
  obtain ⟨r, rfl⟩ := h0
  have e0 : bitsN n 0 = [] := List.eq_nil_iff_forall_not_mem.mpr fun k hk => by
    have := (mem_bits.mp hk).2
    rw [Nat.zero_testBit] at this
    cases this
  by_cases c : p 0 = true
  · rw [List.filter_cons_of_pos c, List.map_cons, e0]
    exact sortish_nil _
  · rw [List.filter_cons_of_neg c]
    refine sortish_ne fun l hl e => ?_
    obtain ⟨m, hm, rfl⟩ := List.mem_map.mp hl
    have hr := (List.mem_filter.mp hm).1
    have y := mask_bits (lt m (List.mem_cons_of_mem _ hr))
    rw [e] at y
    have z : m = 0 := y.symm
    subst z
    exact (List.nodup_cons.mp nd).1 hr
theorem ok_kernels (F : L2.Fun K "kernels" "kernels" sKers f fd)
    (GC : FnOk P w K mg base CX0 7 fC dC ["graph", "orientation"] (spChkOr K)) (bC : L2.Binds K dC ["graph", "orientation"] []) (kC : PySem.W.keepIn K (.ref fC) = true) (mC : mg "check_orientation" = some (.ref fC))
    (GE : FnOk P w K mg base CX0 1 fE dE ["graph", "arcs"] (spByStartT K)) (bE : L2.Binds K dE ["graph", "arcs"] []) (kE : PySem.W.keepIn K (.ref fE) = true) (mE : mg "_ends_by_start" = some (.ref fE))
    (GS : FnOk P w K mg base CX0 7 fS dS ["graph"] (spStbM K)) (bS : L2.Binds K dS ["graph"] []) (kS : PySem.W.keepIn K (.ref fS) = true) (mS : mg "stable_masks" = some (.ref fS))
    (GL : FnOk P w K mg base CX0 1 fL dL ["mask"] (spLotOf K)) (bL : L2.Binds K dL ["mask"] []) (kL : PySem.W.keepIn K (.ref fL) = true) (mL : mg "lot_of" = some (.ref fL))
    (GW : FnOk P w K mg base CX0 1 fW dW ["ends", "mask"] (spWoe K)) (bW : L2.Binds K dW ["ends", "mask"] []) (kW : PySem.W.keepIn K (.ref fW) = true) (mW : mg "_without_end_in" = some (.ref fW))
    (mt : mg "tuple" = none) (mso : mg "sorted" = none) : FnOk P w K mg base CX0 8 f fd ["graph", "orientation"] (spKers K) := by
  refine F.ok scKers (fun vs H Q E h => ?_) (fun cdv A outer s0 H vs Q E hr h => ?_)
  · obtain ⟨x, y, n, es, as, rfl, _⟩ := h
    rfl
  obtain ⟨x, y, n, es, as, rfl, hx, g, ha, q⟩ := h
  have h1 := hr.mono (show 1 ≤ 7 by decide)
  refine ⟨_, pss_cons (ps_expr (pe_call GC hr (by rfl) mC kC bC .nil pass0 (pa_cons (pv 0) (pa_cons (pv 1) pa_nil))))
    (pss_cons (ps_set (i := 2) scKers.nd rfl (.inr rfl) (pe_call GE h1 (by rfl) mE kE bE .nil pass0 (pa_cons (pv 0) (pa_cons (pv 1) pa_nil))))
    (pss_one (ps_ret (pe_callTy call_tuple_of (by rfl) mt (by decide +kernel) (pa_cons (pe_callB (cr_sortTI hr.units) (by rfl) mso (by decide +kernel) (pa_cons (pe_lc (own := [("mask", 3)]) (g := gName 3) (tt := tNot (tTruM K (tCall (spWoe K) [] E0 (tCons (tVar 2) (tCons (tVar 3) tNil))))) rfl scKers.nd (pi_list (pe_call GS hr (by rfl) mS kS bS .nil pass0 (pa_cons (pv 0) pa_nil)))
        (blkOk_by (N := ["graph", "orientation", "ends", "mask"]) (sc := defScope sKers) (by decide +kernel)) (fun _ _ _ _ _ => pg_name (i := 3) scKers.nd rfl (Or.inl rfl)) (fun _ _ _ _ _ => pts_one (pt_not (pt_truth (pe_call GW h1 (by rfl) mW kW bW .nil pass0 (pa_cons (pv 2) (pa_cons (pv 3) pa_nil))) (by intro _; rfl))))
        (fun _ _ _ _ _ => pe_call GL h1 (by rfl) mL kL bL .nil pass0 (pa_cons (pv 3) pa_nil))) pa_nil)) pa_nil))))), ?_⟩
  have n9 := g.n9
  have ao := ha.ok
  have hlt := arcs_ltO g ao
  refine ⟨_, rfl, _, rfl, x, y, n, es, as, rfl, hx, g, ha, fun H1 s1 => ?_⟩
  have ha1 := ha.same s1
  obtain ⟨A', xs, rfl, hA, hp⟩ := id ha1.at_
  refine ⟨_, rfl, _, rfl, x, n, es, A', xs, as, rfl, hx.same s1, n9, hA, hp, hlt, fun D nb H2 s2 hD ok => ?_⟩
  refine ⟨_, rfl, x, n, es, rfl, hx.same (s1.trans s2), g, fun F1 found H3 s3 hF fo h0 => ?_⟩
  have ln := ok.1
  have fewf := found_few fo (Nat.le_refl n) n9
  have hD3 := s3 _ _ hD
  refine ⟨F1, rfl, ⟨_, SqL.of hF⟩, fun B nB => lo_it (walk_list (xs := numsN found)) (fun i H4 => Same H3 H4 ∧ ∃ zs, H4 B = some (.lst zs) ∧ LotsT H4 zs (((found.take i).filter fun m => (woeL nb m n).isEmpty).map (bitsN n))) ⟨same_new nB _, [], upd_same, .nil⟩ (fun i H4 _ ⟨s4, _⟩ => SqL.of (s4 _ _ hF)) ?_ ?_⟩
  · rintro i z _ H4 li ⟨s4, zs, hB, hz⟩ ⟨rfl, hi⟩
    obtain ⟨m, hm, rfl⟩ := numsN_get hi
    have m2 := ((fo.2 m).mp (List.mem_of_getElem? hm)).1
    have lz := hz.len
    have lf := List.length_filter_le (fun m => (woeL nb m n).isEmpty) (found.take i)
    rw [List.length_map] at lz
    rw [List.length_take] at lf
    refine ⟨rfl, ?_⟩
    refine ⟨_, rfl, _, rfl, D, nb, m, rfl, SqL.of (s4 _ _ hD3), by omega, fun u H5 s5 hu => ?_⟩
    have hB5 := s5 _ _ hB
    refine ⟨_, .inr (.inl ⟨_, SqT.of hu, rfl⟩), ?_⟩
    rw [ln]
    have eb : (!(!(numsN (woeL nb m n)).isEmpty)) = (woeL nb m n).isEmpty := by cases woeL nb m n <;> rfl
    refine iteB (fun c => ?_) (fun c => ?_)
    · have c := eb.symm.trans c
      refine ⟨_, rfl, m, n, rfl, m2, n9, fun v H6 nv s6 hv => ?_⟩
      have hB6 := s6 _ _ hB5
      refine ⟨zs, hB6, small1000 (by omega), same_put (s4.trans (s5.trans s6)) nB, _, upd_same, ?_⟩
      rw [take_succ hm, List.filter_append, List.filter_cons_of_pos (p := fun m => (woeL nb m n).isEmpty) c, List.map_append]
      have hx6 : LotT H6 (.ref v) (bitsN n m) := ⟨v, rfl, hv⟩
      exact ((hz.same (s5.trans s6)).put hB6).snoc (hx6.put hB6)
    · have c := eb.symm.trans c
      refine ⟨s4.trans s5, zs, hB5, ?_⟩
      rw [take_succ hm, List.filter_append, List.filter_cons_of_neg (p := fun m => (woeL nb m n).isEmpty) (by rw [c]; decide), List.filter_nil, List.append_nil]
      exact hz.same s5
  rintro H4 ⟨s4, zs, hB, hz⟩
  rw [numsN_len, List.take_length] at hz
  have lt : ∀ m ∈ found.filter fun m => (woeL nb m n).isEmpty, m < 2 ^ n := fun m hm => ((fo.2 m).mp (List.mem_filter.mp hm).1).1
  obtain ⟨p1, p2⟩ := lots_sort (K := K) hz (.inl (kers_sort (fun m hm => ((fo.2 m).mp hm).1) fo.1 h0))
  refine ⟨B, zs, fun x => natI (kN H4 x), rfl, SqL.of hB, p1, p2, fun ys p so st np => ?_⟩
  obtain ⟨e1, e2, e3⟩ := sorted_lots hz (ker_nodup (fo.1.filter _) lt) so st
  refine ⟨p, _, rfl, .inl ⟨SqL.of upd_same, fun t nt => ?_⟩⟩
  have sp := same_new np (.lst ys)
  have st' := same_new nt (.tup ys)
  have l1 := e1.len
  have l2 := st.perm.length_eq
  have l3 := hz.len
  have l4 := List.length_filter_le (fun m => (woeL nb m n).isEmpty) found
  rw [List.length_map] at l3
  refine q t ys _ _ (s1.trans (s2.trans (s3.trans (s4.trans (sp.trans st'))))) upd_same ((e1.same sp).same st') (by omega) (kers_of g ok fo e2 fun l => e3.mem_iff)
end
end My

/-! x in a row of numbers. -/
namespace My
open PySem PySem.Spec PyProof.Rows L2
theorem inV_k (k : Nat) : ∀ l : List Nat, inV (V.int (k : Int)) (numsN l) = decide (k ∈ l)
  | [] => by simp [inV, numsN]
  | a :: l => by
    have ih := inV_k k l
    unfold inV numsN at ih ⊢
    rw [List.map_cons, List.any_cons, ih]
    by_cases e : a = k
    · subst e; simp [eqV]
    · have : eqV (V.int (a : Int)) (V.int (k : Int)) = false := by
        simp [eqV]
        omega
      rw [this, Bool.false_or]
      simp [Ne.symm e]
theorem flat_k (l : List Nat) : (numsN l).all flatV = true := by
  rw [List.all_eq_true]
  intro v hv
  obtain ⟨k, _, rfl⟩ := List.mem_map.mp hv
  rfl
end My

set_option maxHeartbeats 8000000
namespace My
open PySem PySem.Spec PyProof.Rows L2
abbrev sLKr : Stmt := top 51
theorem scLKr : FnScope ["graph", "arcs", "rows", "found", "lot", "out", "each", "seen", "end"] ["graph", "arcs"] (defScope sLKr) := ⟨rfl, rfl, rfl, by decide +kernel, rfl, by decide +kernel, by decide +kernel⟩
def outN (n : Nat) (l : List Nat) : List Nat := (List.range n).filter fun v => !decide (v ∈ l)
def hitB (as : List E2) (l : List Nat) (v : Nat) : Bool := l.any fun e => decide ((v, e) ∈ as)
def kerB (n : Nat) (es as : List E2) (l : List Nat) : Bool := decide (PairB es false l) && decide ((outN n l).filter (hitB as l) = outN n l)
theorem kers_all {n : Nat} {es as : List E2} {L : List (List Nat)} (al : AllLots n L) : Kers n es as (L.filter (kerB n es as)) := by
  refine ⟨al.1.filter _, fun l => ?_⟩
  rw [List.mem_filter, al.2]
  unfold kerB Ker
  rw [Bool.and_eq_true, decide_eq_true_eq, decide_eq_true_eq, List.filter_eq_self]
  refine and_congr Iff.rfl (and_congr Iff.rfl ⟨fun h v vn nv => ?_, fun h v hv => ?_⟩)
  · have z := h v (List.mem_filter.mpr ⟨List.mem_range.mpr vn, by rw [decide_eq_false nv]; rfl⟩)
    obtain ⟨e, he, hd⟩ := List.any_eq_true.mp z
    exact ⟨e, he, of_decide_eq_true hd⟩
  · obtain ⟨hr, hn⟩ := List.mem_filter.mp hv
    obtain ⟨e, he, hd⟩ := h v (List.mem_range.mp hr) (fun z => by rw [decide_eq_true z] at hn; cases hn)
    exact List.any_eq_true.mpr ⟨e, he, decide_eq_true hd⟩
theorem numsD_allK : ∀ l m : List Nat, PyData.eqvAll (numsD l) (numsD m) = decide (l = m)
  | [], [] => by simp [numsD, PyData.eqvAll]
  | [], b :: m => by simp [numsD, PyData.eqvAll]
  | a :: l, [] => by simp [numsD, PyData.eqvAll]
  | a :: l, b :: m => by
    have ih := numsD_allK l m
    unfold numsD at ih ⊢
    rw [List.map_cons, List.map_cons]
    simp only [PyData.eqvAll, PyData.eqv, ih]
    rw [Bool.eq_iff_iff]
    simp
    intro _
    omega
theorem numsD_eqK (l m : List Nat) : PyData.eqv (.list (numsD l)) (.list (numsD m)) = decide (l = m) := by
  rw [← numsD_allK l m]
  simp [PyData.eqv]
def spLKers (K : PySem.W.Frag) : Sp := fun vs H Q _ => ∃ (x : V) (A : Addr) (n : Nat) (es as : List E2) (xs : List V), vs = [x, .ref A] ∧ GraphAt K H x n es ∧ Good n es ∧ SqT K H A xs ∧ PairsAt K H xs as ∧
  ∀ (t : Addr) (zs : List V) (L : List (List Nat)) H', Same H H' → H' t = some (.tup zs) → LotsT H' zs L → L.length ≤ 512 → Kers n es as L → Q (.ref t) H'
section
variable {P : Program} {w : World} {K : PySem.W.Frag} {mg : Str → Option Value} {base : Heap} {f fL fA fT : Addr} {fd dL dA dT : FuncData}
theorem ok_lkers (F : L2.Fun K "_law_kernels" "_law_kernels" sLKr f fd)
    (GT : FnOk P w K mg base CX0 1 fT dT ["graph"] (spTable K)) (bT : L2.Binds K dT ["graph"] []) (kT : PySem.W.keepIn K (.ref fT) = true) (mT : mg "_law_table" = some (.ref fT))
    (GL : FnOk P w K mg base CX0 1 fL dL ["many"] (spLots K)) (bL : L2.Binds K dL ["many"] []) (kL : PySem.W.keepIn K (.ref fL) = true) (mL : mg "_law_lots" = some (.ref fL))
    (GA : FnOk P w K mg base CX0 1 fA dA ["rows", "lot", "due"] (spLAll K)) (bA : L2.Binds K dA ["rows", "lot", "due"] []) (kA : PySem.W.keepIn K (.ref fA) = true) (mA : mg "_law_all" = some (.ref fA))
    (mr : mg "range" = none) (my : mg "any" = none) (mt : mg "tuple" = none) : FnOk P w K mg base CX0 2 f fd ["graph", "arcs"] (spLKers K) := by
  refine F.ok scLKr (fun vs H Q E h => ?_) (fun cdv A outer s H vs Q E hr h => ?_)
  · obtain ⟨x, A', n, es, as, xs, rfl, _⟩ := h
    rfl
  obtain ⟨x, A', n, es, as, xs, rfl, hx, g, hA, hp, q⟩ := h
  refine ⟨_, pss_cons (ps_par (by rfl) scLKr.nd (i := 2) (j := 3) rfl rfl (by decide) rfl rfl (pa_cons (pe_call GT hr (by rfl) mT kT bT .nil pass0 (pa_cons (pv 0) pa_nil)) (pa_cons (pe_lst pa_nil) pa_nil)) (by rfl))
    (pss_cons (ps_for PassesOwn.never rfl (pi_list (pe_call GL hr (by rfl) mL kL bL .nil pass0 (pa_cons (pe_ix (r := rIxT K) ix_tup (pv 0) pe_int (fun _ _ => rfl)) pa_nil))) (pg_name (i := 4) scLKr.nd rfl (.inr rfl))
      (pss_one (ps_if (pt_val (pe_call GA hr (by rfl) mA kA bA .nil pass0 (pa_cons (pv 2) (pa_cons (pv 4) (pa_cons pe_bl pa_nil)))))
        (pss_cons (ps_setLc (i := 5) (own := [("each", 6)]) (g := gName 6) (tt := tTest (tOp (rIn K true) (tVar 6) (tVar 4))) rfl scLKr.nd rfl rfl (sw_true rfl rfl rfl (by decide +kernel)) (pi_range1 rfl mr (pa_cons (pe_ix (r := rIxT K) ix_tup (pv 0) pe_int (fun _ _ => rfl)) pa_nil))
          (blkOk_by (N := ["graph", "arcs", "rows", "found", "lot", "out", "each", "seen", "end"]) (sc := defScope sLKr) (by decide +kernel)) (fun _ _ _ _ _ => pg_name (i := 6) scLKr.nd rfl (Or.inl rfl))
          (fun _ _ _ _ _ => pts_one (pt_cmpR (r := rIn K true) op_notIn_seq (pv 6) (pv 4) (by rfl)))
          (fun _ _ _ _ _ => pv 6))
        (pss_cons (ps_setLc (i := 7) (own := [("each", 6)]) (g := gName 6) (tt := tB (tCB (rAny K) (tCons (tLc (iTup K (tVar 4)) (gName 8) tYes (tOp (rInPL K) (tTup (tCons (tVar 6) (tCons (tVar 8) tNil))) (tVar 1)) [8]) tNil))) rfl scLKr.nd rfl rfl (sw_true rfl rfl rfl (by decide +kernel)) (pi_list (pv 5))
          (blkOk_by (N := ["graph", "arcs", "rows", "found", "lot", "out", "each", "seen", "end"]) (sc := defScope sLKr) (by decide +kernel)) (fun _ _ _ _ _ => pg_name (i := 6) scLKr.nd rfl (Or.inr rfl))
          (fun _ _ _ _ _ => pts_one (pt_val (pe_callB (id := "any") (r := rAny K) (cr_any rfl) (by rfl) my (by decide +kernel) (pa_cons (pe_lc (own := [("end", 8)]) (g := gName 8) (tt := tYes) rfl scLKr.nd (pi_tup (pv 4))
            (blkOk_by (N := ["graph", "arcs", "rows", "found", "lot", "out", "each", "seen", "end"]) rfl) (fun _ _ _ _ _ => pg_name (i := 8) scLKr.nd rfl (Or.inl rfl)) (fun _ _ _ _ _ => pts_nil)
            (fun _ _ _ _ _ => pe_cmpR (r := rInPL K) (op_inPL hr.units) (pe_tup (pa_cons (pv 6) (pa_cons (pv 8) pa_nil))) (pv 1) (by rfl))) pa_nil))))
          (fun _ _ _ _ _ => pv 6))
        (pss_one (ps_set (i := 3) scLKr.nd rfl (.inl rfl) (pe_op op_cat (pv 3) (pe_ifExp (pt_cmpR (op_eqD hr.units) (pv 7) (pv 5) (nomark _)) (pe_lst (pa_cons (pv 4) pa_nil)) (pe_lst pa_nil))))))) pss_nil)))
    (pss_one (ps_ret (pe_callTy call_tuple_of (by rfl) mt (by decide +kernel) (pa_cons (pv 3) pa_nil))))), ?_⟩
  have line : ∀ k, k ≤ 1000 → k ≤ sizeLine := fun k hk => small hk
  have n9 := g.n9
  refine ⟨_, rfl, x, n, es, rfl, hx, g, fun D rs H0 sD _ T => ?_⟩
  refine ⟨line 0 (by decide), fun R0 nR0 => ⟨_, _, rfl, ?_⟩⟩
  have sR0 := same_new nR0 (.lst [])
  have hR0 := upd_same (H := H0) (a := R0) (o := .lst [])
  generalize upd H0 R0 (.lst []) = H1 at sR0 hR0 ⊢
  have s01 := sD.trans sR0
  have T1 := T.same sR0
  obtain ⟨tg, eg, ys, rfl, htg, heg, hes⟩ := hx.same s01
  have htg1 := htg
  have a0 : atI [V.int (n : Int), V.ref eg] 0 = some (.int (n : Int)) := atI_nat (j := 0) rfl
  refine ⟨_, rfl, tg, _, 0, _, rfl, rfl, htg, a0, n, rfl, n9, fun F0 ls L H2 s2 hF hl al len => ?_⟩
  have l512 : L.length ≤ 512 := by rw [len]; exact Nat.le_trans (Nat.pow_le_pow_right (by decide) n9) (by decide)
  have ll := hl.len
  have T2 := T1.same s2
  have htg2 := Same.tup s2 htg
  have hA2 := Same.tup (s01.trans s2) hA
  have hp2 := hp.same (s01.trans s2)
  refine ⟨F0, rfl, ⟨_, SqL.of hF⟩, for_it (walk_list (xs := ls)) (fun i σ H' => ∃ (R : Addr) (zs : List V) (s4 s5 s7 : Option V), σ = [some (.ref tg), some (.ref A'), some (.ref D), some (.ref R), s4, s5, none, s7, none] ∧ Same H2 H' ∧ H' R = some (.lst zs) ∧ LotsT H' zs ((L.take i).filter (kerB n es as))) ⟨R0, [], none, none, none, rfl, Same.refl _, s2 _ _ hR0, .nil⟩ (fun i σ H' _ ⟨_, _, _, _, _, _, s, _⟩ => SqL.of (s _ _ hF)) ?_ ?_⟩
  · rintro i v σ H2' H3 li ⟨R, zs, s4', s5', s7', rfl, s3, hR, pz⟩ ⟨rfl, hi⟩
    obtain ⟨l, hL, hx'⟩ := hl.get hi
    obtain ⟨t, rfl, ht1⟩ := hx'.same s3
    have ht : H3 t = some (.tup (numsN l)) := ht1
    have lo := (al.2 l).mp (List.mem_of_getElem? hL)
    have l9 : l.length ≤ 9 := Nat.le_trans lo.few n9
    have lz := pz.len
    have fl : ((L.take i).filter (kerB n es as)).length ≤ 512 := Nat.le_trans (List.length_filter_le _ _) (by rw [List.length_take]; omega)
    have stop : ∀ H4, Same H3 H4 → kerB n es as l = false → LotsT H4 zs ((L.take (i + 1)).filter (kerB n es as)) := fun H4 s4 c => by
      rw [take_succ hL, List.filter_append, List.filter_cons_of_neg (by rw [c]; decide), List.filter_nil, List.append_nil]
      exact pz.same s4
    refine ⟨_, rfl, _, rfl, D, t, n, es, rs, l, false, rfl, T2.same s3, SqT.of ht, lo.lt, l9, _, rfl, iteB (fun c2 => ?_) (fun c2 => ⟨R, zs, _, _, _, rfl, s3, hR, stop _ (Same.refl _) ?_⟩)⟩
    rotate_left 1
    · unfold kerB
      rw [c2, Bool.false_and]
    refine ⟨_, rfl, tg, _, 0, _, rfl, rfl, Same.tup s3 htg2, a0, _, rfl, by omega, by omega, fun B nB => lo_it (walk_range (lo := 0) (n := ((n : Nat) : Int).toNat)) (fun k H4 => Same H3 H4 ∧ H4 B = some (.lst (numsN (outN k l)))) ⟨same_new nB _, upd_same⟩ (fun _ _ _ _ => trivial) ?_ ?_⟩
    · rintro k y H4' H4 lk ⟨s4, hB⟩ ⟨rfl, ex⟩
      obtain rfl : y = V.int ((k : Nat) : Int) := ex.trans (congrArg V.int (Int.zero_add _))
      rw [Int.toNat_natCast] at lk
      have few : (outN k l).length ≤ k := Nat.le_trans (List.length_filter_le _ _) (by rw [List.length_range]; exact Nat.le_refl _)
      have step : outN (k + 1) l = outN k l ++ (if (!decide (k ∈ l)) = true then [k] else []) := by
        unfold outN
        rw [List.range_succ, List.filter_append]
        congr 1
        by_cases c : (!decide (k ∈ l)) = true
        · rw [if_pos c, List.filter_cons_of_pos (p := fun v => !decide (v ∈ l)) c]
          rfl
        · rw [if_neg c, List.filter_cons_of_neg (p := fun v => !decide (v ∈ l)) c]
          rfl
      refine ⟨rfl, ?_⟩
      refine ⟨_, rfl, _, rfl, t, numsN l, rfl, .inr (SqT.of (s4 _ _ ht)), rfl, flat_k l, _, rfl, ?_⟩
      rw [if_pos rfl, inV_k]
      refine iteB (fun c => ?_) (fun c => ?_)
      · refine ⟨_, rfl, _, hB, small1000 (by rw [numsN_len]; omega), same_put s4 nB, ?_⟩
        rw [upd_same, step, if_pos c, numsN_app]
        rfl
      · refine ⟨s4, ?_⟩
        rw [hB, step, if_neg (by rw [c]; decide), List.append_nil]
    rintro H4 ⟨s4, hB⟩
    rw [Int.toNat_natCast] at hB
    have ht4 := s4 _ _ ht
    have lon : (outN n l).length ≤ 9 := Nat.le_trans (List.length_filter_le _ _) (by rw [List.length_range]; exact n9)
    generalize eo : outN n l = out at hB lon
    refine ⟨_, rfl, B, rfl, ⟨_, SqL.of hB⟩, fun B2 nB2 => lo_it (walk_list (xs := numsN out)) (fun a H5 => Same H4 H5 ∧ H5 B2 = some (.lst (numsN ((out.take a).filter (hitB as l))))) ⟨same_new nB2 _, upd_same⟩ (fun a H5 _ ⟨s5, _⟩ => SqL.of (s5 _ _ hB)) ?_ ?_⟩
    · rintro a y _ H5 la ⟨s5, hB2⟩ ⟨rfl, hy⟩
      obtain ⟨v, hv, rfl⟩ := numsN_get hy
      have ht5 := s5 _ _ ht4
      have s25 := s3.trans (s4.trans s5)
      have fl2 : ((out.take a).filter (hitB as l)).length ≤ 9 := by
        refine Nat.le_trans (List.length_filter_le _ _) ?_
        rw [List.length_take]
        omega
      refine ⟨rfl, ?_⟩
      refine ⟨_, rfl, t, rfl, ⟨_, SqT.of ht5⟩, fun C nC => lo_it (walk_tup (xs := numsN l)) (fun j H6 => Same H5 H6 ∧ H6 C = some (.lst (((l.take j).map fun e => decide ((v, e) ∈ as)).map V.bl))) ⟨same_new nC _, upd_same⟩ (fun j H6 _ ⟨s6, _⟩ => SqT.of (s6 _ _ ht5)) ?_ ?_⟩
      · rintro b y _ H6 lb ⟨s6, hC⟩ ⟨rfl, hy2⟩
        obtain ⟨e, he, rfl⟩ := numsN_get hy2
        rw [numsN_len] at lb
        refine ⟨rfl, ?_⟩
        refine ⟨_, rfl, _, rfl, line 2 (by decide), fun w nw => ?_⟩
        have sw' := same_new nw (.tup [V.int (v : Int), V.int (e : Int)])
        have s26 := s25.trans (s6.trans sw')
        refine ⟨_, rfl, (v, e), A', xs, as, ⟨w, rfl, SqT.of upd_same⟩, rfl, .inr (Same.tup s26 hA2), hp2.same s26, _, sw' _ _ hC, small1000 (by rw [List.length_map, List.length_map, List.length_take]; omega), same_put (s6.trans sw') nC, ?_⟩
        rw [upd_same, take_succ he, List.map_append, List.map_append, List.map_singleton, List.map_singleton]
      · rintro H6 ⟨s6, hC⟩
        rw [numsN_len, List.take_length] at hC
        refine ⟨C, _, rfl, SqL.of hC, _, rfl, ?_⟩
        rw [List.any_map]
        have eh : l.any (id ∘ fun e => decide ((v, e) ∈ as)) = hitB as l v := rfl
        rw [eh]
        refine iteB (fun c3 => ?_) (fun c3 => ?_)
        · refine ⟨_, rfl, _, s6 _ _ hB2, small1000 (by rw [numsN_len]; omega), same_put (s5.trans s6) nB2, ?_⟩
          rw [upd_same, take_succ hv, List.filter_append, List.filter_cons_of_pos c3, numsN_app]
          rfl
        · refine ⟨s5.trans s6, ?_⟩
          rw [s6 _ _ hB2, take_succ hv, List.filter_append, List.filter_cons_of_neg (by rw [c3]; decide), List.filter_nil, List.append_nil]
    rintro H5 ⟨s5, hB2⟩
    rw [numsN_len, List.take_length] at hB2
    have hB5 := s5 _ _ hB
    have s35 := s4.trans s5
    refine ⟨_, rfl, _, rfl, _, rfl, .list (numsD (out.filter (hitB as l))), .list (numsD out), .lst (SqL.of hB2) (numsD_dp _), .lst (SqL.of hB5) (numsD_dp _), numsD_shL _, numsD_shL _, _, rfl, ?_⟩
    have ek : PyData.eqv (.list (numsD (out.filter (hitB as l)))) (.list (numsD out)) = kerB n es as l := by
      rw [numsD_eqK]
      unfold kerB
      rw [c2, Bool.true_and, eo]
    rw [ek]
    have hR5 := s35 _ _ hR
    refine iteB (fun c3 => ?_) (fun c3 => ?_)
    · refine ⟨_, rfl, line 1 (by decide), fun X nX => ?_⟩
      have sX := same_new nX (.lst [.ref t])
      have hX := upd_same (H := H5) (a := X) (o := .lst [.ref t])
      generalize upd H5 X (.lst [.ref t]) = H7 at sX hX ⊢
      refine ⟨R, X, _, _, rfl, rfl, sX _ _ hR5, hX, line _ (by rw [List.length_singleton]; omega), fun Z nZ => ?_⟩
      have sZ := same_new nZ (.lst (zs ++ [.ref t]))
      have s37 := s35.trans (sX.trans sZ)
      refine ⟨Z, zs ++ [.ref t], _, _, _, rfl, s3.trans s37, upd_same, ?_⟩
      rw [take_succ hL, List.filter_append, List.filter_cons_of_pos c3, List.filter_nil]
      exact (pz.same s37).snoc ⟨t, rfl, s37 _ _ ht1⟩
    · refine ⟨line 0 (by decide), fun X nX => ?_⟩
      have sX := same_new nX (.lst [])
      have hX := upd_same (H := H5) (a := X) (o := .lst [])
      generalize upd H5 X (.lst []) = H7 at sX hX ⊢
      refine ⟨R, X, _, _, rfl, rfl, sX _ _ hR5, hX, line _ (by rw [List.length_nil]; omega), fun Z nZ => ?_⟩
      have sZ := same_new nZ (.lst (zs ++ []))
      have s37 := s35.trans (sX.trans sZ)
      refine ⟨Z, zs ++ [], _, _, _, rfl, s3.trans s37, upd_same, ?_⟩
      have z := stop _ s37 c3
      rw [List.append_nil] at z ⊢
      exact z
  · rintro σ H3 ⟨R, zs, s4', s5', s7', rfl, s3, hR, pz⟩
    rw [ll, List.take_length] at pz
    refine ⟨_, rfl, R, zs, rfl, .inl ⟨SqL.of hR, fun t nt => ?_⟩⟩
    have st := same_new nt (.tup zs)
    exact q t zs _ _ (s01.trans (s2.trans (s3.trans st))) upd_same (pz.same st) (Nat.le_trans (List.length_filter_le _ _) l512) (kers_all al)
end
end My

/-! A ring as it goes round, plain. -/
namespace My
/-- those of l next to z that are not yet told -/
def rdNext (f : Nat → Nat → Bool) (l ts : List Nat) (z : Nat) : List Nat := l.filter fun w => f z w && !decide (w ∈ ts ++ [z])
/-- the vertices told after so many turns, the last one apart -/
def rdRun (f : Nat → Nat → Bool) (l : List Nat) : Nat → Option (List Nat × Nat)
  | 0 => some ([], l.headD 0)
  | k + 1 => match rdRun f l k with
    | none => none
    | some (ts, z) => match rdNext f l ts z with
      | [] => none
      | a :: _ => some (ts ++ [z], a)
def degB (f : Nat → Nat → Bool) (l : List Nat) (v : Nat) : Bool := decide ((l.filter fun w => f v w).length = 2)
def roundL (f : Nat → Nat → Bool) (l : List Nat) : List Nat := if l.length < 4 ∨ l.all (degB f l) = false then [] else match rdRun f l (l.length - 1) with
  | none => []
  | some (ts, z) => ts ++ [z]
theorem run_in {f : Nat → Nat → Bool} {l : List Nat} (ne : l ≠ []) : ∀ {k : Nat} {ts : List Nat} {z : Nat}, rdRun f l k = some (ts, z) → ts.length = k ∧ (∀ v ∈ ts ++ [z], v ∈ l) ∧ (ts ++ [z]).Nodup
  | 0, ts, z, e => by
    cases e
    refine ⟨rfl, fun v hv => ?_, by simp⟩
    have hv : v = l.headD 0 := by simpa using hv
    subst hv
    obtain ⟨b, r, rfl⟩ := List.exists_cons_of_ne_nil ne
    exact List.mem_cons_self ..
  | k + 1, ts, z, e => by
    unfold rdRun at e
    cases e1 : rdRun f l k with
    | none => rw [e1] at e; cases e
    | some tz =>
      obtain ⟨us, y⟩ := tz
      rw [e1] at e
      obtain ⟨h1, h2, h3⟩ := run_in ne e1
      dsimp only at e
      cases e2 : rdNext f l us y with
      | nil => rw [e2] at e; cases e
      | cons a r =>
        rw [e2] at e
        dsimp only at e
        have ⟨e3, e4⟩ : us ++ [y] = ts ∧ a = z := by cases e; exact ⟨rfl, rfl⟩
        subst e3
        subst e4
        have ma : a ∈ rdNext f l us y := by rw [e2]; exact List.mem_cons_self ..
        obtain ⟨m1, m2⟩ := List.mem_filter.mp ma
        have m3 : a ∉ us ++ [y] := by
          rw [Bool.and_eq_true, Bool.not_eq_true', decide_eq_false_iff_not] at m2
          exact m2.2
        refine ⟨by rw [List.length_append, h1]; rfl, fun v hv => ?_, ?_⟩
        · rcases List.mem_append.mp hv with hv | hv
          · exact h2 v hv
          · rw [List.mem_singleton.mp hv]; exact m1
        · exact List.nodup_append.mpr ⟨h3, by simp, fun u hu w hw e => m3 (by rw [← List.mem_singleton.mp hw, ← e]; exact hu)⟩
theorem run_none {f : Nat → Nat → Bool} {l : List Nat} {k : Nat} (h : rdRun f l k = none) : ∀ m, rdRun f l (k + m) = none
  | 0 => h
  | m + 1 => by
    have ih := run_none h m
    show rdRun f l ((k + m) + 1) = none
    unfold rdRun
    rw [ih]
def Steps (f : Nat → Nat → Bool) (c : List Nat) : Prop := ∀ i, i + 1 < c.length → f (c.getD i 0) (c.getD (i + 1) 0) = true
theorem getD_left {c : List Nat} {a i : Nat} (h : i < c.length) : (c ++ [a]).getD i 0 = c.getD i 0 := by
  rw [List.getD_eq_getElem?_getD, List.getD_eq_getElem?_getD, List.getElem?_append_left h]
theorem getD_end (c : List Nat) (a : Nat) : (c ++ [a]).getD c.length 0 = a := by
  rw [List.getD_eq_getElem?_getD, List.getElem?_append_right (Nat.le_refl _), Nat.sub_self]
  rfl
theorem run_adj {f : Nat → Nat → Bool} {l : List Nat} : ∀ {k : Nat} {ts : List Nat} {z : Nat}, rdRun f l k = some (ts, z) → Steps f (ts ++ [z])
  | 0, ts, z, e => by
    cases e
    intro i h
    simp at h
  | k + 1, ts, z, e => by
    unfold rdRun at e
    cases e1 : rdRun f l k with
    | none => rw [e1] at e; cases e
    | some tz =>
      obtain ⟨us, y⟩ := tz
      rw [e1] at e
      have ih := run_adj e1
      dsimp only at e
      cases e2 : rdNext f l us y with
      | nil => rw [e2] at e; cases e
      | cons a r =>
        rw [e2] at e
        dsimp only at e
        have ⟨e3, e4⟩ : us ++ [y] = ts ∧ a = z := by cases e; exact ⟨rfl, rfl⟩
        subst e3
        subst e4
        have ma : a ∈ rdNext f l us y := by rw [e2]; exact List.mem_cons_self ..
        have m2 := (List.mem_filter.mp ma).2
        rw [Bool.and_eq_true] at m2
        intro i hi
        rw [List.length_append, List.length_singleton] at hi
        by_cases c : i + 1 < (us ++ [y]).length
        · rw [getD_left (by omega), getD_left c]
          exact ih i c
        · have ei : i + 1 = (us ++ [y]).length := by omega
          rw [getD_left (by omega), ei, getD_end]
          have e5 : i = us.length := by
            rw [List.length_append, List.length_singleton] at ei
            omega
          rw [e5, getD_end]
          exact m2.1
/-- two places and no third -/
theorem two_only {l : List Nat} {p : Nat → Bool} (nd : l.Nodup) (two : (l.filter p).length = 2) {a b : Nat} (ab : a ≠ b) (ha : a ∈ l) (hb : b ∈ l) (pa : p a = true) (pb : p b = true) {x : Nat} (hx : x ∈ l) (px : p x = true) : x = a ∨ x = b := by
  by_cases h1 : x = a
  · exact .inl h1
  by_cases h2 : x = b
  · exact .inr h2
  exfalso
  have z := sub_few (l := [a, b, x]) (m := l.filter p) (by simp [ab, Ne.symm h1, Ne.symm h2]) fun v hv => by
    simp only [List.mem_cons, List.mem_nil_iff, or_false] at hv
    rcases hv with rfl | rfl | rfl
    · exact List.mem_filter.mpr ⟨ha, pa⟩
    · exact List.mem_filter.mpr ⟨hb, pb⟩
    · exact List.mem_filter.mpr ⟨hx, px⟩
  rw [two] at z
  simp at z
/-- what a round that is told is: all of the lot, each next to the one before, every one with two neighbours in it -/
theorem round_is {f : Nat → Nat → Bool} {l : List Nat} (h : roundL f l ≠ []) : 4 ≤ l.length ∧ l.all (degB f l) = true ∧ (roundL f l).length = l.length ∧ (roundL f l).Nodup ∧ (∀ v ∈ roundL f l, v ∈ l) ∧ Steps f (roundL f l) := by
  have c : ¬ (l.length < 4 ∨ l.all (degB f l) = false) := fun z => h (by unfold roundL; rw [if_pos z])
  have l4 : 4 ≤ l.length := by
    by_cases y : l.length < 4
    · exact absurd (.inl y) c
    · omega
  have al : l.all (degB f l) = true := by
    cases y : l.all (degB f l) with
    | true => rfl
    | false => exact absurd (.inr y) c
  have ne : l ≠ [] := fun z => by rw [z] at l4; exact absurd l4 (by decide)
  have e : roundL f l = match rdRun f l (l.length - 1) with
    | none => []
    | some (ts, z) => ts ++ [z] := by
    unfold roundL
    rw [if_neg c]
  cases e1 : rdRun f l (l.length - 1) with
  | none => rw [e, e1] at h; exact absurd rfl h
  | some tz =>
    obtain ⟨ts, z⟩ := tz
    have e2 : roundL f l = ts ++ [z] := by rw [e, e1]
    obtain ⟨r1, r2, r3⟩ := run_in ne e1
    rw [e2]
    refine ⟨l4, al, ?_, r3, r2, run_adj e1⟩
    rw [List.length_append, List.length_singleton, r1]
    omega
/-- side by side on a ring of so many -/
def Beside (m i j : Nat) : Prop := i + 1 = j ∨ j + 1 = i ∨ (i = 0 ∧ j + 1 = m) ∨ (j = 0 ∧ i + 1 = m)
/-- a round that is told is a ring: its vertices are those of the lot, and two of them are adjacent if they are side by side -/
theorem ring_is {f : Nat → Nat → Bool} {l : List Nat} (nd : l.Nodup) (sym : ∀ u v, f u v = f v u) (irr : ∀ v, f v v = false) (h : roundL f l ≠ []) :
    (∀ v, v ∈ roundL f l ↔ v ∈ l) ∧ ∀ i j, i < l.length → j < l.length → (f ((roundL f l).getD i 0) ((roundL f l).getD j 0) = true ↔ Beside l.length i j) := by
  obtain ⟨l4, al, len, cnd, sub, st⟩ := round_is h
  generalize roundL f l = c at len cnd sub st
  have sup : ∀ v ∈ l, v ∈ c := fun v hv => by
    by_cases y : v ∈ c
    · exact y
    · have z := sub_few (l := v :: c) (m := l) (List.nodup_cons.mpr ⟨y, cnd⟩) fun x hx => by
        rcases List.mem_cons.mp hx with rfl | hx
        · exact hv
        · exact sub x hx
      rw [List.length_cons] at z
      omega
  have at_ : ∀ i (hi : i < l.length), c.getD i 0 = c[i]'(by omega) := fun i hi => by
    rw [List.getD_eq_getElem?_getD, List.getElem?_eq_getElem (by omega)]
    rfl
  have inC : ∀ i, i < l.length → c.getD i 0 ∈ c := fun i hi => by rw [at_ i hi]; exact List.getElem_mem _
  have inL : ∀ i, i < l.length → c.getD i 0 ∈ l := fun i hi => sub _ (inC i hi)
  have inj : ∀ i j, i < l.length → j < l.length → i ≠ j → c.getD i 0 ≠ c.getD j 0 := fun i j hi hj ne e => by
    rw [at_ i hi, at_ j hj] at e
    rcases Nat.lt_or_gt_of_ne ne with y | y
    · exact List.pairwise_iff_getElem.mp cnd i j (by omega) (by omega) y e
    · exact List.pairwise_iff_getElem.mp cnd j i (by omega) (by omega) y e.symm
  have place : ∀ v ∈ l, ∃ k, k < l.length ∧ c.getD k 0 = v := fun v hv => by
    obtain ⟨k, hk, e⟩ := List.getElem_of_mem (sup v hv)
    exact ⟨k, by omega, by rw [at_ k (by omega)]; exact e⟩
  have two : ∀ i, i < l.length → (l.filter (f (c.getD i 0))).length = 2 := fun i hi => of_decide_eq_true (List.all_eq_true.mp al _ (inL i hi))
  have nx : ∀ i, i + 1 < l.length → f (c.getD i 0) (c.getD (i + 1) 0) = true := fun i hi => st i (by omega)
  have pv : ∀ i, i + 1 < l.length → f (c.getD (i + 1) 0) (c.getD i 0) = true := fun i hi => by rw [sym]; exact nx i hi
  have same : ∀ i j, i < l.length → j < l.length → c.getD i 0 = c.getD j 0 → i = j := fun i j hi hj e => by
    by_cases y : i = j
    · exact y
    · exact absurd e (inj i j hi hj y)
  have mid : ∀ i j, i + 2 < l.length → j < l.length → f (c.getD (i + 1) 0) (c.getD j 0) = true → j = i ∨ j = i + 2 := fun i j hi hj e => by
    rcases two_only nd (two (i + 1) (by omega)) (inj i (i + 2) (by omega) hi (by omega)) (inL i (by omega)) (inL (i + 2) hi) (pv i (by omega)) (nx (i + 1) hi) (inL j hj) e with z | z
    · exact .inl (same j i hj (by omega) z)
    · exact .inr (same j (i + 2) hj hi z)
  obtain ⟨x, hx, fx, nx1⟩ : ∃ x ∈ l, f (c.getD 0 0) x = true ∧ x ≠ c.getD 1 0 := by
    have t0 := two 0 (by omega)
    have fnd : (l.filter (f (c.getD 0 0))).Nodup := nd.filter _
    match e : l.filter (f (c.getD 0 0)), t0, fnd with
    | [a, b], _, fnd =>
      have ma : a ∈ l.filter (f (c.getD 0 0)) := by rw [e]; simp
      have mb : b ∈ l.filter (f (c.getD 0 0)) := by rw [e]; simp
      have ab : a ≠ b := by simpa using fnd
      obtain ⟨a1, a2⟩ := List.mem_filter.mp ma
      obtain ⟨b1, b2⟩ := List.mem_filter.mp mb
      by_cases y : a = c.getD 1 0
      · exact ⟨b, b1, b2, fun z => ab (y.trans z.symm)⟩
      · exact ⟨a, a1, a2, y⟩
  obtain ⟨k, hk, rfl⟩ := place x hx
  have k0 : k ≠ 0 := fun z => by rw [z, irr] at fx; cases fx
  have k1 : k ≠ 1 := fun z => nx1 (by rw [z])
  have km : k + 1 = l.length := by
    by_cases y : k + 1 < l.length
    · obtain ⟨k', rfl⟩ : ∃ k', k = k' + 1 := ⟨k - 1, by omega⟩
      rcases mid k' 0 (by omega) (by omega) (by rw [sym]; exact fx) with z | z <;> omega
    · omega
  have f0 : ∀ j, j < l.length → f (c.getD 0 0) (c.getD j 0) = true → j = 1 ∨ j + 1 = l.length := fun j hj e => by
    rcases two_only nd (two 0 (by omega)) (inj 1 k (by omega) hk (Ne.symm k1)) (inL 1 (by omega)) (inL k hk) (nx 0 (by omega)) fx (inL j hj) e with z | z
    · exact .inl (same j 1 hj (by omega) z)
    · have := same j k hj hk z
      omega
  have fl : ∀ j, j < l.length → f (c.getD k 0) (c.getD j 0) = true → j = 0 ∨ j + 1 = k := fun j hj e => by
    obtain ⟨k', rfl⟩ : ∃ k', k = k' + 1 := ⟨k - 1, by omega⟩
    rcases two_only nd (two (k' + 1) hk) (inj 0 k' (by omega) (by omega) (by omega)) (inL 0 (by omega)) (inL k' (by omega)) (by rw [sym]; exact fx) (pv k' hk) (inL j hj) e with z | z
    · exact .inl (same j 0 hj (by omega) z)
    · have := same j k' hj (by omega) z
      omega
  refine ⟨fun v => ⟨sub v, sup v⟩, fun i j hi hj => ⟨fun e => ?_, fun b => ?_⟩⟩
  · by_cases i0 : i = 0
    · subst i0
      rcases f0 j hj e with z | z
      · exact .inl z.symm
      · exact .inr (.inr (.inl ⟨rfl, z⟩))
    · by_cases im : i + 1 = l.length
      · have ik : i = k := by omega
        subst ik
        rcases fl j hj e with z | z
        · exact .inr (.inr (.inr ⟨z, im⟩))
        · exact .inr (.inl z)
      · obtain ⟨i', rfl⟩ : ∃ i', i = i' + 1 := ⟨i - 1, by omega⟩
        rcases mid i' j (by omega) hj e with z | z
        · exact .inr (.inl (by omega))
        · exact .inl (by omega)
  · rcases b with z | z | ⟨z1, z2⟩ | ⟨z1, z2⟩
    · subst z
      exact nx i hj
    · subst z
      exact pv j hi
    · subst z1
      have jk : j = k := by omega
      subst jk
      exact fx
    · subst z1
      have ik : i = k := by omega
      subst ik
      rw [sym]
      exact fx
end My

set_option maxHeartbeats 4000000
/-! The rings of 5, 7 and 9 places with their arcs: no kernel, and an end in each clique. -/
namespace My
def stepsZ (hole : Bool) (m : Nat) : List (Nat × Nat) := if hole then [(0, 1)] else if m = 5 then [(0, 2)] else if m = 7 then [(0, 2), (3, 0)] else [(0, 2), (0, 4), (0, 3), (3, 0)]
/-- an arc from place i to place j -/
def arcZ (hole : Bool) (m i j : Nat) : Bool := (stepsZ hole m).any fun s => (List.range m).any fun k => (k + s.1) % m == i && (k + s.2) % m == j
def besZ (m i j : Nat) : Bool := i + 1 == j || j + 1 == i || (i == 0 && j + 1 == m) || (j == 0 && i + 1 == m)
def adjZ (hole : Bool) (m i j : Nat) : Bool := if hole then besZ m i j else !(i == j) && !besZ m i j
def maskZ (m : Nat) (p : Nat → Bool) : Nat := (List.range m).foldl (fun a j => if p j then a ||| 1 <<< j else a) 0
/-- for each place the masks of its ends, of its neighbours, of those that have an arc to it -/
def rowsZ (hole : Bool) (m : Nat) : List (Nat × Nat × Nat × Nat) := (List.range m).map fun i => (i, maskZ m (arcZ hole m i), maskZ m (adjZ hole m i), maskZ m fun j => arcZ hole m j i)
def kerZ (r : List (Nat × Nat × Nat × Nat)) (s : Nat) : Bool := r.all fun q => if s.testBit q.1 then s &&& q.2.2.1 == 0 else !(s &&& q.2.1 == 0)
def clqZ (r : List (Nat × Nat × Nat × Nat)) (s : Nat) : Bool := r.all fun q => !s.testBit q.1 || (s &&& (q.2.2.1 ||| 1 <<< q.1)) == s
def endZ (r : List (Nat × Nat × Nat × Nat)) (s : Nat) : Bool := r.any fun q => s.testBit q.1 && (s &&& (q.2.2.2 ||| 1 <<< q.1)) == s
def okZ (hole : Bool) (m : Nat) : Bool := let r := rowsZ hole m
  (List.range (2 ^ m)).all fun s => !kerZ r s && (s == 0 || !clqZ r s || endZ r s)
theorem ok_h5 : okZ true 5 = true := by decide +kernel
theorem ok_h7 : okZ true 7 = true := by decide +kernel
theorem ok_h9 : okZ true 9 = true := by decide +kernel
theorem ok_a5 : okZ false 5 = true := by decide +kernel
theorem ok_a7 : okZ false 7 = true := by decide +kernel
theorem ok_a9 : okZ false 9 = true := by decide +kernel
theorem okZ_of {m : Nat} (h : m = 5 ∨ m = 7 ∨ m = 9) (hole : Bool) : okZ hole m = true := by
  cases hole <;> rcases h with rfl | rfl | rfl
  · exact ok_a5
  · exact ok_a7
  · exact ok_a9
  · exact ok_h5
  · exact ok_h7
  · exact ok_h9
theorem mask_z (p : Nat → Bool) (j : Nat) : ∀ m, (maskZ m p).testBit j = (decide (j < m) && p j)
  | 0 => by
    show (0 : Nat).testBit j = _
    simp
  | m + 1 => by
    have ih := mask_z p j m
    have e : maskZ (m + 1) p = if p m = true then maskZ m p ||| 1 <<< m else maskZ m p := by
      unfold maskZ
      rw [List.range_succ, List.foldl_append]
      rfl
    rw [e]
    by_cases c : p m = true
    · rw [if_pos c, Nat.testBit_or, ih, Nat.one_shiftLeft, Nat.testBit_two_pow]
      by_cases h : m = j
      · subst h
        simp [c]
      · have : decide (j < m + 1) = decide (j < m) := by
          rw [decide_eq_decide]; omega
        rw [this, decide_eq_false h, Bool.or_false]
    · rw [if_neg c, ih]
      by_cases h : m = j
      · subst h
        simp at c
        simp [c]
      · have : decide (j < m + 1) = decide (j < m) := by
          rw [decide_eq_decide]; omega
        rw [this]
theorem mask_zlt (p : Nat → Bool) (m : Nat) : maskZ m p < 2 ^ m := by
  refine Nat.lt_pow_two_of_testBit _ fun i hi => ?_
  rw [mask_z, decide_eq_false (by omega), Bool.false_and]
theorem row_z {hole : Bool} {m : Nat} {q : Nat × Nat × Nat × Nat} (h : q ∈ rowsZ hole m) : q.1 < m ∧ q = (q.1, maskZ m (arcZ hole m q.1), maskZ m (adjZ hole m q.1), maskZ m fun j => arcZ hole m j q.1) := by
  obtain ⟨i, hi, rfl⟩ := List.mem_map.mp h
  exact ⟨List.mem_range.mp hi, rfl⟩
theorem ring_free {hole : Bool} {m : Nat} (h : m = 5 ∨ m = 7 ∨ m = 9) (S : Nat → Bool) (st : ∀ i, i < m → S i = true → ∀ j, j < m → S j = true → adjZ hole m i j = false)
    (ab : ∀ i, i < m → S i = false → ∃ j, j < m ∧ S j = true ∧ arcZ hole m i j = true) : False := by
  have ok := List.all_eq_true.mp (okZ_of h hole) (maskZ m S) (List.mem_range.mpr (mask_zlt S m))
  rw [Bool.and_eq_true, Bool.not_eq_true'] at ok
  have k : kerZ (rowsZ hole m) (maskZ m S) = true := by
    unfold kerZ
    rw [List.all_eq_true]
    intro q hq
    obtain ⟨qm, eq⟩ := row_z hq
    generalize q.1 = i at qm eq
    subst eq
    dsimp only
    rw [mask_z, decide_eq_true qm, Bool.true_and]
    by_cases c : S i = true
    · rw [if_pos c]
      refine beq_iff_eq.mpr (Nat.eq_of_testBit_eq fun j => ?_)
      rw [Nat.testBit_and, mask_z, mask_z, Nat.zero_testBit]
      by_cases jm : j < m
      · cases e : S j with
        | false => simp
        | true => rw [st i qm c j jm e]; simp
      · rw [decide_eq_false jm]; simp
    · rw [if_neg c]
      obtain ⟨j, jm, sj, aj⟩ := ab i qm (by simpa using c)
      rw [Bool.not_eq_true', beq_eq_false_iff_ne]
      intro z
      have y : (maskZ m S &&& maskZ m (arcZ hole m i)).testBit j = false := by rw [z, Nat.zero_testBit]
      rw [Nat.testBit_and, mask_z, mask_z, decide_eq_true jm, sj, aj] at y
      cases y
  rw [k] at ok
  cases ok.1
theorem ring_end {hole : Bool} {m : Nat} (h : m = 5 ∨ m = 7 ∨ m = 9) (S : Nat → Bool) {i0 : Nat} (h0 : i0 < m) (s0 : S i0 = true) (cl : ∀ i, i < m → S i = true → ∀ j, j < m → S j = true → i ≠ j → adjZ hole m i j = true) :
    ∃ e, e < m ∧ S e = true ∧ ∀ v, v < m → S v = true → v ≠ e → arcZ hole m v e = true := by
  have ok := List.all_eq_true.mp (okZ_of h hole) (maskZ m S) (List.mem_range.mpr (mask_zlt S m))
  rw [Bool.and_eq_true] at ok
  have nz : (maskZ m S == 0) = false := by
    rw [beq_eq_false_iff_ne]
    intro z
    have y := mask_z S i0 m
    rw [z, Nat.zero_testBit, decide_eq_true h0, s0] at y
    cases y
  have cq : clqZ (rowsZ hole m) (maskZ m S) = true := by
    unfold clqZ
    rw [List.all_eq_true]
    intro q hq
    obtain ⟨qm, eq⟩ := row_z hq
    generalize q.1 = i at qm eq
    subst eq
    dsimp only
    rw [mask_z, decide_eq_true qm, Bool.true_and]
    cases c : S i with
    | false => rfl
    | true =>
      rw [Bool.not_true, Bool.false_or]
      refine beq_iff_eq.mpr (Nat.eq_of_testBit_eq fun j => ?_)
      rw [Nat.testBit_and, Nat.testBit_or, mask_z, mask_z, Nat.one_shiftLeft, Nat.testBit_two_pow]
      by_cases jm : j < m
      · cases e : S j with
        | false => simp
        | true =>
          by_cases ij : i = j
          · simp [ij, jm]
          · rw [cl i qm c j jm e ij]; simp [jm]
      · rw [decide_eq_false jm]; simp
  rw [nz, cq] at ok
  have oe : endZ (rowsZ hole m) (maskZ m S) = true := by simpa using ok.2
  obtain ⟨q, hq, hp⟩ := List.any_eq_true.mp oe
  obtain ⟨qm, eq⟩ := row_z hq
  generalize q.1 = i at qm eq
  subst eq
  dsimp only at hp
  rw [Bool.and_eq_true, mask_z, decide_eq_true qm, Bool.true_and] at hp
  refine ⟨i, qm, hp.1, fun v vm sv ne => ?_⟩
  have y := beq_iff_eq.mp hp.2
  have z : (maskZ m S &&& (maskZ m (fun j => arcZ hole m j i) ||| 1 <<< i)).testBit v = (maskZ m S).testBit v := by rw [y]
  rw [Nat.testBit_and, Nat.testBit_or, mask_z, mask_z, Nat.one_shiftLeft, Nat.testBit_two_pow, decide_eq_true vm, sv, decide_eq_false (Ne.symm ne)] at z
  simpa using z
end My

set_option maxHeartbeats 8000000
/-! is_kernel, without_arc_to. -/
namespace My
open PySem PySem.Spec PyProof.Rows L2
/-! is_kernel -/
abbrev sWat : Stmt := top 32
abbrev sIsKer : Stmt := top 30
theorem scWat : FnScope ["graph", "orientation", "lot"] ["graph", "orientation", "lot"] (defScope sWat) := ⟨rfl, rfl, rfl, by decide +kernel, rfl, by decide +kernel, by decide +kernel⟩
theorem scIsKer : FnScope ["graph", "orientation", "lot"] ["graph", "orientation", "lot"] (defScope sIsKer) := ⟨rfl, rfl, rfl, by decide +kernel, rfl, by decide +kernel, by decide +kernel⟩
/-- the vertices outside the lot without an arc into it -/
def watL (n : Nat) (as : List E2) (l : List Nat) : List Nat := (List.range n).filter fun v => !decide (v ∈ l) && !(l.any fun e => decide ((v, e) ∈ as))
def spWat (K : PySem.W.Frag) : Sp := fun vs H Q _ => ∃ (x y z : V) (n : Nat) (es as : List E2) (l : List Nat), vs = [x, y, z] ∧ GraphAt K H x n es ∧ Good n es ∧ OrAt K H y es as ∧ LotAt K H z l ∧ LotOk n l ∧ ∀ t H', Same H H' → H' t = some (.tup (numsN (watL n as l))) → Q (.ref t) H'
def isKerB (n : Nat) (es as : List E2) (l : List Nat) : Bool := (watL n as l).isEmpty && decide (PairB es false l)
def spIsKer (K : PySem.W.Frag) : Sp := fun vs H Q _ => ∃ (x y z : V) (n : Nat) (es as : List E2) (l : List Nat), vs = [x, y, z] ∧ GraphAt K H x n es ∧ Good n es ∧ OrAt K H y es as ∧ LotAt K H z l ∧ LotOk n l ∧ ∀ H', Same H H' → Q (.bl (isKerB n es as l)) H'
theorem isKerB_iff {n : Nat} {es as : List E2} {l : List Nat} (lo : LotOk n l) : isKerB n es as l = true ↔ Ker n es as l := by
  unfold isKerB
  rw [Bool.and_eq_true, decide_eq_true_eq, List.isEmpty_iff]
  unfold watL
  rw [List.filter_eq_nil_iff]
  constructor
  · rintro ⟨h, pb⟩
    refine ⟨lo, pb, fun v hv nv => ?_⟩
    have z := h v (List.mem_range.mpr hv)
    simp only [nv, decide_false, Bool.not_false, Bool.true_and, Bool.not_eq_true', Bool.not_eq_false] at z
    obtain ⟨e, he, h2⟩ := List.any_eq_true.mp z
    exact ⟨e, he, of_decide_eq_true h2⟩
  · rintro ⟨_, pb, h⟩
    refine ⟨fun v hv => ?_, pb⟩
    by_cases c : v ∈ l
    · simp [c]
    · obtain ⟨e, he, h2⟩ := h v (List.mem_range.mp hv) c
      have z : (l.any fun e => decide ((v, e) ∈ as)) = true := List.any_eq_true.mpr ⟨e, he, decide_eq_true h2⟩
      rw [z]
      simp
section
variable {P : Program} {w : World} {K : PySem.W.Frag} {mg : Str → Option Value} {base : Heap} {f fI fC fL fO fA fS fG fH fB fM fW C CO CL CH : Addr} {fd dI dC dL dO dA dS dG dH dB dM dW : FuncData}
theorem woe_wat {n : Nat} {as : List E2} {nb l : List Nat} (ok : EndsOk n as nb) (lo : LotOk n l) : woeL nb (maskN l) n = watL n as l := by
  unfold woeL watL
  refine List.filter_congr fun v hv => ?_
  have vn := List.mem_range.mp hv
  rw [mask_bit lo.up]
  congr 1
  rw [Bool.eq_iff_iff, decide_eq_true_eq, Bool.not_eq_true', ← Bool.not_eq_true, List.any_eq_true]
  constructor
  · rintro h ⟨e, he, h2⟩
    have z : (nb.getD v 0 &&& maskN l).testBit e = true := by
      rw [Nat.testBit_and, ok.2 v vn, mask_bit lo.up, h2, decide_eq_true he]
      rfl
    rw [h, Nat.zero_testBit] at z
    cases z
  · intro h
    refine Nat.eq_of_testBit_eq fun e => ?_
    rw [Nat.testBit_and, ok.2 v vn, mask_bit lo.up, Nat.zero_testBit]
    cases c : decide ((v, e) ∈ as) with
    | false => rfl
    | true =>
      by_cases he : e ∈ l
      · exact absurd ⟨e, he, c⟩ h
      · rw [decide_eq_false he]
        rfl
theorem ok_wat (F : L2.Fun K "without_arc_to" "without_arc_to" sWat f fd)
    (GC : FnOk P w K mg base CX0 7 fC dC ["graph", "orientation"] (spChkOr K)) (bC : L2.Binds K dC ["graph", "orientation"] []) (kC : PySem.W.keepIn K (.ref fC) = true) (mC : mg "check_orientation" = some (.ref fC))
    (GL : FnOk P w K mg base CX0 7 fL dL ["graph", "lot"] (spCheckLot K)) (bL : L2.Binds K dL ["graph", "lot"] []) (kL : PySem.W.keepIn K (.ref fL) = true) (mL : mg "check_lot" = some (.ref fL))
    (GB : FnOk P w K mg base CX0 1 fB dB ["graph", "arcs"] (spByStartT K)) (bB : L2.Binds K dB ["graph", "arcs"] []) (kB : PySem.W.keepIn K (.ref fB) = true) (mB : mg "_ends_by_start" = some (.ref fB))
    (GM : FnOk P w K mg base CX0 1 fM dM ["lot"] (spMaskOf K)) (bM : L2.Binds K dM ["lot"] []) (kM : PySem.W.keepIn K (.ref fM) = true) (mM : mg "mask_of" = some (.ref fM))
    (GW : FnOk P w K mg base CX0 1 fW dW ["ends", "mask"] (spWoe K)) (bW : L2.Binds K dW ["ends", "mask"] []) (kW : PySem.W.keepIn K (.ref fW) = true) (mW : mg "_without_end_in" = some (.ref fW)) : FnOk P w K mg base CX0 8 f fd ["graph", "orientation", "lot"] (spWat K) := by
  refine F.ok scWat (fun vs H Q E h => ?_) (fun cdv A outer s0 H vs Q E hr h => ?_)
  · obtain ⟨x, y, z, n, es, as, l, rfl, _⟩ := h
    rfl
  obtain ⟨x, y, z, n, es, as, l, rfl, hx, g, hy, hz, lo, q⟩ := h
  have h1 := hr.mono (show 1 ≤ 7 by decide)
  refine ⟨_, pss_cons (ps_expr (pe_call GC hr (by rfl) mC kC bC .nil pass0 (pa_cons (pv 0) (pa_cons (pv 1) pa_nil))))
    (pss_cons (ps_expr (pe_call GL hr (by rfl) mL kL bL .nil pass0 (pa_cons (pv 0) (pa_cons (pv 2) pa_nil))))
    (pss_one (ps_ret (pe_call GW h1 (by rfl) mW kW bW .nil pass0 (pa_cons (pe_call GB h1 (by rfl) mB kB bB .nil pass0 (pa_cons (pv 0) (pa_cons (pv 1) pa_nil))) (pa_cons (pe_call GM h1 (by rfl) mM kM bM .nil pass0 (pa_cons (pv 2) pa_nil)) pa_nil)))))), ?_⟩
  have few := lo.few
  have n9 := g.n9
  refine ⟨_, rfl, _, rfl, x, y, n, es, as, rfl, hx, g, hy, fun H1 s1 => ?_⟩
  refine ⟨_, rfl, _, rfl, x, n, es, z, l, rfl, hx.same s1, g, hz.same s1, lo, fun H2 s2 => ?_⟩
  have s02 := s1.trans s2
  obtain ⟨⟨A', xs, rfl, hA, hp⟩, up, ok⟩ := hy.same s02
  refine ⟨_, rfl, _, rfl, x, n, es, A', xs, as, rfl, hx.same s02, n9, hA, hp, arcs_ltO g ok, fun D nb H3 s3 hD nok => ?_⟩
  refine ⟨_, rfl, z, l, rfl, hz.same (s02.trans s3), by omega, fun k hk => by have := lo.lt k hk; omega, fun H4 s4 => ?_⟩
  have ln := nok.1
  refine ⟨D, nb, _, rfl, SqL.of (s4 _ _ hD), by omega, fun t H5 s5 ht => ?_⟩
  rw [ln, woe_wat nok lo] at ht
  exact q t H5 (s02.trans (s3.trans (s4.trans s5))) ht
theorem ok_isker (F : L2.Fun K "is_kernel" "is_kernel" sIsKer f fd)
    (GA : FnOk P w K mg base CX0 8 fA dA ["graph", "orientation", "lot"] (spWat K)) (bA : L2.Binds K dA ["graph", "orientation", "lot"] []) (kA : PySem.W.keepIn K (.ref fA) = true) (mA : mg "without_arc_to" = some (.ref fA))
    (GS : FnOk P w K mg base CX0 9 fS dS ["graph", "lot"] (spIsClq K false)) (bS : L2.Binds K dS ["graph", "lot"] []) (kS : PySem.W.keepIn K (.ref fS) = true) (mS : mg "is_stable" = some (.ref fS)) : FnOk P w K mg base CX0 10 f fd ["graph", "orientation", "lot"] (spIsKer K) := by
  refine F.ok scIsKer (fun vs H Q E h => ?_) (fun cdv A outer s0 H vs Q E hr h => ?_)
  · obtain ⟨x, y, z, n, es, as, l, rfl, _⟩ := h
    rfl
  obtain ⟨x, y, z, n, es, as, l, rfl, hx, g, hy, hz, lo, q⟩ := h
  have h8 := hr.mono (show 8 ≤ 9 by decide)
  refine ⟨_, pss_one (ps_ret (pe_and (pe_notT (pe_call GA h8 (by rfl) mA kA bA .nil pass0 (pa_cons (pv 0) (pa_cons (pv 1) (pa_cons (pv 2) pa_nil))))) (pe_one (pe_call GS hr (by rfl) mS kS bS .nil pass0 (pa_cons (pv 0) (pa_cons (pv 2) pa_nil)))))), ?_⟩
  refine ⟨_, rfl, _, rfl, _, rfl, x, y, z, n, es, as, l, rfl, hx, g, hy, hz, lo, fun t H1 s1 ht => ?_⟩
  refine ⟨!(numsN (watL n as l)).isEmpty, .inr (.inl ⟨_, SqT.of ht, rfl⟩), ?_⟩
  rw [Bool.not_not]
  have e0 : (numsN (watL n as l)).isEmpty = (watL n as l).isEmpty := by cases watL n as l <;> rfl
  rw [e0]
  refine ⟨_, rfl, iteB (fun c => ?_) (fun c => ?_)⟩
  · refine ⟨_, rfl, _, rfl, x, n, es, z, l, rfl, hx.same s1, g, hz.same s1, lo, fun H2 s2 => ?_⟩
    have w := q H2 (s1.trans s2)
    unfold isKerB at w
    rw [c, Bool.true_and] at w
    exact w
  · have w := q H1 s1
    unfold isKerB at w
    rw [c, Bool.false_and] at w
    exact w
end
end My

set_option maxHeartbeats 4000000
/-! A lot in a tuple of lots. -/
namespace My
open PySem PySem.Spec PyProof.Rows L2
theorem nat_eqv : ∀ a b : List Nat, PyData.eqvAll (numsD a) (numsD b) = decide (a = b)
  | [], [] => by simp [numsD, PyData.eqvAll]
  | [], b :: r => by simp [numsD, PyData.eqvAll]
  | a :: l, [] => by simp [numsD, PyData.eqvAll]
  | a :: l, b :: r => by
    have ih := nat_eqv l r
    have e1 : numsD (a :: l) = .int (a : Int) :: numsD l := rfl
    have e2 : numsD (b :: r) = .int (b : Int) :: numsD r := rfl
    rw [e1, e2]
    simp only [PyData.eqvAll, PyData.eqv]
    rw [ih]
    by_cases h : a = b
    · subst h
      simp
    · have : ((a : Int) == (b : Int)) = false := beq_eq_false_iff_ne.mpr (by omega)
      simp [h, this]
theorem any_lots (l : List Nat) : ∀ L : List (List Nat), ((lotsD L).any fun z => PyData.eqv z (.tuple (numsD l))) = decide (l ∈ L)
  | [] => by simp [lotsD]
  | m :: L => by
    have ih := any_lots l L
    have e : PyData.eqv (.tuple (numsD m)) (.tuple (numsD l)) = decide (m = l) := by
      rw [← nat_eqv]
      simp [PyData.eqv]
    show (PyData.eqv (.tuple (numsD m)) (.tuple (numsD l)) || (lotsD L).any fun z => PyData.eqv z (.tuple (numsD l))) = _
    rw [ih, e, Bool.eq_iff_iff, Bool.or_eq_true, decide_eq_true_eq, decide_eq_true_eq, decide_eq_true_eq, List.mem_cons]
    exact or_congr eq_comm Iff.rfl
def rInLt (K : PySem.W.Frag) : R2 := fun x y H Q => ∃ (u t : Addr) (zs : List V) (l : List Nat) (L : List (List Nat)), x = .ref u ∧ y = .ref t ∧ SqT K H u (numsN l) ∧ SqT K H t zs ∧ DpAll K H zs (lotsD L) ∧ Q (.bl (decide (l ∈ L))) H
theorem op_inLt {X : Cx} (hu : X.A.units + 64 < cLine) : OpR X (compareOp .In) (rInLt X.K) := by
  rintro pins s σ H x y v u Q I rx ry ⟨a, t, zs, l, L, rfl, rfl, ha, ht, hz, q⟩
  obtain ⟨as, r1⟩ := Dp.reads I (.tuple (numsD l)) (.ref a) v (.tup ha (numsD_dp l)) rx
  obtain ⟨bs, r2⟩ := Dp.reads I (.tuple (lotsD L)) (.ref t) u (.tup ht hz) ry
  obtain ⟨h1, h2⟩ := lotsD_lay L
  obtain ⟨g1, g2⟩ := numsD_lay l
  refine SeqAt.in_tuple_reads r2 r1 h1 (by simp only [PyData.canLay0, g1]) ?_ ?_
  · have := Nat.min_le_left (PyData.depthAll (lotsD L)) (PyData.tuple (numsD l)).depth
    omega
  · rw [any_lots]
    exact ⟨.bl _, H, I, rfl, q⟩
end My

set_option maxHeartbeats 16000000
/-! Tuples of lots as data; two booleans in a list. -/
namespace My
open PySem PySem.Spec PyProof.Rows L2
theorem Lklots_dp {K : PySem.W.Frag} {H : Hp} {zs : List V} {L : List (List Nat)} (h : LotsT H zs L) : DpAll K H zs (lotsD L) := by
  induction h with
  | nil => exact .nil
  | cons a b ih =>
    obtain ⟨t, rfl, ht⟩ := a
    exact .cons (.tup (SqT.of ht) (numsD_dp _)) ih
theorem Lknums_fine : ∀ {l : List Nat}, (∀ k ∈ l, k ≤ 9) → ((PyData.shownAll (numsD l)).map (·.length)).sum ≤ l.length ∧ (PyData.shownAll (numsD l)).length = l.length ∧ PyData.showableAll (numsD l) = true ∧ PyData.hasDictAll (numsD l) = false
  | [], _ => ⟨Nat.le_refl _, rfl, by simp [numsD, PyData.showableAll], by simp [numsD, PyData.hasDictAll]⟩
  | k :: l, h => by
    obtain ⟨h1, h2, h3, h4⟩ := Lknums_fine (l := l) fun q hq => h q (List.mem_cons_of_mem _ hq)
    obtain ⟨f1, f2⟩ := num_fine k (h k (List.mem_cons_self ..))
    unfold numsD at h1 h2 h3 h4 ⊢
    rw [List.map_cons]
    simp only [PyData.shownAll, PyData.showableAll, PyData.hasDictAll, PyData.hasDict, List.map_cons, List.sum_cons, List.length_cons]
    refine ⟨by omega, by omega, ?_, ?_⟩
    · rw [f2, h3]; rfl
    · rw [h4]; rfl
theorem Lklot_fine {n : Nat} (n9 : n ≤ 9) {l : List Nat} (lo : LotOk n l) : (PyData.tuple (numsD l)).shown.length ≤ 40 ∧ (PyData.tuple (numsD l)).showable = true ∧ (PyData.tuple (numsD l)).depth ≤ 2 ∧ (PyData.tuple (numsD l)).hasDict = false := by
  obtain ⟨h1, h2, h3, h4⟩ := Lknums_fine (l := l) fun k hk => by have := lo.lt k hk; omega
  have lf := lo.few
  have t := tup_len (PyData.shownAll (numsD l))
  have dl := (numsD_lay l).2
  refine ⟨?_, ?_, ?_, ?_⟩
  · have e : (PyData.tuple (numsD l)).shown = tupleText (PyData.shownAll (numsD l)) := by simp [PyData.shown]
    rw [e]
    omega
  · simp only [PyData.showable, h3]
  · simp only [PyData.depth]
    omega
  · simp [PyData.hasDict, h4]
theorem Lklots_fine {n : Nat} (n9 : n ≤ 9) : ∀ {L : List (List Nat)}, (∀ l ∈ L, LotOk n l) → ((PyData.shownAll (lotsD L)).map (·.length)).sum ≤ 40 * L.length ∧ (PyData.shownAll (lotsD L)).length = L.length ∧ PyData.showableAll (lotsD L) = true ∧ PyData.depthAll (lotsD L) ≤ 2 ∧ PyData.hasDictAll (lotsD L) = false
  | [], _ => ⟨Nat.le_refl _, rfl, by simp [lotsD, PyData.showableAll], by simp [lotsD, PyData.depthAll], by simp [lotsD, PyData.hasDictAll]⟩
  | l :: L, h => by
    obtain ⟨h1, h2, h3, h4, h5⟩ := Lklots_fine n9 (L := L) fun q hq => h q (List.mem_cons_of_mem _ hq)
    obtain ⟨f1, f2, f3, f4⟩ := Lklot_fine n9 (h l (List.mem_cons_self ..))
    unfold lotsD at h1 h2 h3 h4 h5 ⊢
    rw [List.map_cons]
    simp only [PyData.shownAll, PyData.showableAll, PyData.depthAll, PyData.hasDictAll, List.map_cons, List.sum_cons, List.length_cons]
    refine ⟨by omega, by omega, ?_, by omega, ?_⟩
    · rw [f2, h3]; rfl
    · rw [f4, h5]; rfl
theorem Lktup_fine {n : Nat} (n9 : n ≤ 9) {L : List (List Nat)} (h : ∀ l ∈ L, LotOk n l) (l5 : L.length ≤ 512) : Fine (.tuple (lotsD L)) ∧ (PyData.tuple (lotsD L)).hasDict = false := by
  obtain ⟨h1, h2, h3, h4, h5⟩ := Lklots_fine n9 h
  have t := tup_len (PyData.shownAll (lotsD L))
  refine ⟨⟨?_, ?_, ?_⟩, ?_⟩
  · simp only [PyData.showable, h3]
  · simp only [PyData.depth]
    omega
  · have e : (PyData.tuple (lotsD L)).shown = tupleText (PyData.shownAll (lotsD L)) := by simp [PyData.shown]
    rw [e]
    refine Nat.le_trans t (Nat.le_trans (show _ ≤ 100000 by omega) ?_)
    rw [sizeLine_eq]
    decide
  · simp [PyData.hasDict, h5]
theorem Ltwo_lots {n : Nat} (n9 : n ≤ 9) {L : List (List Nat)} (h : ∀ l ∈ L, LotOk n l) (l5 : L.length ≤ 512) : Fine (.list [.tuple (lotsD L), .tuple (lotsD L)]) ∧ (PyData.list [.tuple (lotsD L), .tuple (lotsD L)]).hasDict = false := by
  obtain ⟨h1, h2, h3, h4, h5⟩ := Lklots_fine n9 h
  have t := tup_len (PyData.shownAll (lotsD L))
  have t2 := lst_len [tupleText (PyData.shownAll (lotsD L)), tupleText (PyData.shownAll (lotsD L))]
  refine ⟨⟨?_, ?_, ?_⟩, ?_⟩
  · simp [PyData.showable, PyData.showableAll, h3]
  · simp only [PyData.depth, PyData.depthAll]
    omega
  · have e : (PyData.list [.tuple (lotsD L), .tuple (lotsD L)]).shown = listText [tupleText (PyData.shownAll (lotsD L)), tupleText (PyData.shownAll (lotsD L))] := by simp [PyData.shown, PyData.shownAll]
    rw [e]
    simp only [List.map_cons, List.map_nil, List.sum_cons, List.sum_nil, List.length_cons, List.length_nil] at t2
    refine Nat.le_trans t2 (Nat.le_trans (show _ ≤ 100000 by omega) ?_)
    rw [sizeLine_eq]
    decide
  · simp [PyData.hasDict, PyData.hasDictAll, h5]
def LtwoD (a b : Bool) : PyData := .list [.bool a, .bool b]
theorem Ltwo_fine : ∀ a b : Bool, Fine (LtwoD a b) ∧ (LtwoD a b).hasDict = false := by decide +kernel
theorem Ltwo_dd {K : PySem.W.Frag} {H : Hp} {F : Addr} {a b : Bool} (hF : H F = some (.lst [.bl a, .bl b])) : Dd K H (.ref F) (LtwoD a b) :=
  .dat (.lst (SqL.of hF) (.cons (.bl _) (.cons (.bl _) .nil))) (Ltwo_fine a b).2
end My

set_option maxHeartbeats 4000000
namespace My
open PySem PySem.Spec PyProof.Rows L2
/-- f(a=.., b=.., c=..), the other way round than f's parameters -/
def tKw3 (sp : Sp) (E : L2.St → XK) (t : TA) : TE := fun σ H Q => t σ H fun vs H1 => ∃ a b c, vs = [a, b, c] ∧ sp [c, b, a] H1 Q (E σ)
section
variable {X : Cx} {CX : CXT} {k : Nat} {f : Addr} {fd : FuncData} {sp : Sp} {E : L2.St → XK} {x f1 f2 f3 : Str} {p pos : Pos} {tk : TA}
theorem pe_kw3 (F : FnOk X.prog X.w X.K X.mg X.base CX k f fd [f1, f2, f3] sp) (hr : Room k X.A) (hg : Gl X x) (hm : X.mg x = some (.ref f)) (hk : PySem.W.keepIn X.K (.ref f) = true) (hb : ∀ (s : Shared) (u v z : Value), BindsTo s fd ⟨[], [(f3, u), (f2, v), (f1, z)]⟩ ([f1, f2, f3].zip [z, v, u])) (hx : ∀ σ, PassesAt CX X σ (E σ))
    {kws : List Keyword} (hkw : PK X kws tk) (hall : (backToKw pos (keywordEach kws X.env)).all (·.1.isSome) = true := by rfl) (hks : (backToKw pos (keywordEach kws X.env)).filterMap (·.1) = [f3, f2, f1] := by rfl)
    (hdb : (x == ("__debug__" : Str)) = false := by decide) (hpl : ((backTo pos (starEach [] X.env)).any (·.1) || (backToKw pos (keywordEach kws X.env)).any (·.1.isNone)) = false := by rfl) :
    PE X (.Call (.Name x p) [] kws pos) (tKw3 sp E tk) := by
  refine ⟨?_⟩
  intro pins s σ H Q I h
  refine wpAny_Call_Name_kw (ld_glob I hg hm ?_ hdb)
  refine PySem.W.callWith_KW0 (h₀ := X.base) I.ok.mod.kin hk hall (thn (hkw.run pos pins s σ H _ I h) ?_) hpl
  rintro us s1 ⟨vs, H1, I1, r, a, b, c, rfl, q1⟩
  refine ⟨I1.kIn, ?_⟩
  rw [hks]
  obtain ⟨u, v, z, rfl, ru, rv, rz⟩ := vals3 r
  refine wpAny_call (codeAny_mono (F.run X.A X.stack s1 H1 ⟨[], [(f3, u), (f2, v), (f1, z)]⟩ [z, v, u] [c, b, a] Q (E σ) hr I1.env0 (hb _ _ _ _) (.cons rz (.cons rv (.cons ru .nil))) q1) fun r s' hq => ?_)
  cases r with
  | error e => exact hx σ pins H1 s1 e s' I1 hq
  | ok fl =>
    cases fl with
    | ret u => exact I1.after hq
    | next => exact False.elim hq
    | brk => exact False.elim hq
    | cont => exact False.elim hq
end
end My

set_option maxHeartbeats 6400000
/-! Sets of tuples of ints, up to 76 unlike ones: the table of 128 places holds them all. -/
namespace My
open PySem PySem.Spec PyProof.Rows L2
/-- the set stands at a; its rows are L -/
structure BgS (P : Program) (w : World) (hp : Heap) (a : Addr) (L : List (Addr × List Int)) (xs : Array (Int × Value)) (n : Nat) (T : SetTable) : Prop where
  obj : ∃ o, hp.get? a = some o ∧ o.ExactSet ∧ o.data = .set xs n T
  rws : xs.toList = rowsOf P w L
  tbl : TabOk T (L.map fun p => thash P w p.2)
  uni : (L.map (·.2)).Nodup
  tps : ∀ p ∈ L, IsT P w hp p.2 p.1
  pln : T.plain = true
  ord : w.params.followText "set-order" = true ∨ T.led = true
  fit : L.length * 5 < T.mask * 3
section
variable {P : Program} {w : World} {A : Around} {E : Value → Shared → Prop} {s : Shared} {a : Addr} {L : List (Addr × List Int)} {xs : Array (Int × Value)} {n : Nat} {T : SetTable}
theorem BgS.mask (B : BgS P w s.heap a L xs n T) : T.mask ≤ 127 := by
  rcases B.tbl.mok with e | e | e <;> omega
theorem BgS.few (B : BgS P w s.heap a L xs n T) : L.length ≤ 76 := by
  have h1 := B.fit
  have h2 := B.mask
  omega
theorem rows_len (e : xs.toList = rowsOf P w L) : xs.size = L.length := by
  have z := congrArg List.length e
  rwa [Array.length_toList, show (rowsOf P w L).length = L.length from List.length_map ..] at z
theorem BgS.full (B : BgS P w s.heap a L xs n T) : T.fits xs.size = true := by
  have h1 : T.place.size = L.length := by have z := B.tbl.sz; rwa [List.length_map] at z
  have h2 := rows_len B.rws
  have h3 := B.fit
  have h4 : T.fill = T.place.size := by unfold SetTable.fill; rw [B.tbl.dm]; rfl
  unfold SetTable.fits
  rw [h4, Bool.and_eq_true, beq_iff_eq, decide_eq_true_eq]
  omega
theorem BgS.row (B : BgS P w s.heap a L xs n T) {i : Nat} {p : Addr × List Int} (h : L[i]? = some p) : xs[i]? = some (thash P w p.2, Value.ref p.1) := by
  have e : xs.toList[i]? = some (thash P w p.2, Value.ref p.1) := by
    rw [B.rws]
    show (L.map _)[i]? = _
    rw [List.getElem?_map, h]
    rfl
  rwa [Array.getElem?_toList] at e
theorem BgS.stays (B : BgS P w s.heap a L xs n T) : ¬ T.gaveWay = true := by
  unfold SetTable.gaveWay
  rw [mask_odd B.tbl.mok]
  decide
theorem nth_dummy (m : Nat) : ∀ (c : Nat) (p : SetTable.Probe), p.dummy = none → (nth m p c).dummy = none
  | 0, _, h => h
  | c + 1, p, h => nth_dummy m c (adv m p) (by unfold adv; split <;> exact h)
/-- looking a tuple up, from the c-th place of its way on -/
theorem bg_look (B : BgS P w s.heap a L xs n T) {x : Addr} {k : List Int} (hx : IsT P w s.heap k x) (hu : A.units < cLine) {p0 : SetTable.Probe} (hp : p0 = T.probeStart (thash P w k)) {N : Nat} (lN : N < 10 * SetTable.turns T.mask)
    (off : (nth T.mask p0 N).j ∉ T.place.toList) (on : ∀ c, c < N → (nth T.mask p0 c).j ∈ T.place.toList) {Q : SetFound → Shared → Prop} (yes : k ∈ L.map (·.2) → Q (.there none) s) (no : k ∉ L.map (·.2) → Q (.free (nth T.mask p0 N).j false) s) :
    ∀ (f c : Nat) (st : Option SetTable.Probe), st.getD (T.probeStart (thash P w k)) = nth T.mask p0 c → c ≤ N → N - c < f →
      (∀ (i : Nat) q, L[i]? = some q → q.2 = k → ∃ d, c ≤ d ∧ d < N ∧ T.place.toList[i]? = some (nth T.mask p0 d).j) → wpAny (model P w) A (setSearchFrom a (.ref x) (thash P w k) true f st) Q E s := by
  intro f
  induction f with
  | zero => intro c st _ _ lt; exact absurd lt (Nat.not_lt_zero _)
  | succ f ih =>
    intro c st es lc lt ahead
    obtain ⟨o, ho, hex, hd⟩ := B.obj
    have fitz := B.full
    have atz : ∀ d, nth T.mask (nth T.mask p0 c) d = nth T.mask p0 (c + d) := fun d => (nth_add T.mask c p0 d).symm
    have cN : c + (N - c) = N := by omega
    have d0 : (nth T.mask p0 c).dummy = none := nth_dummy _ _ _ (by rw [hp]; rfl)
    have hsh : ∀ (i : Nat) q, L[i]? = some q → (xs[i]?.map (·.1)).getD 0 = thash P w q.2 := fun i q e => by rw [B.row e]; rfl
    have sp := go_spec T B.tbl.ris B.tbl.dm (fun i => (xs[i]?.map (·.1)).getD 0) (thash P w k) (10 * SetTable.turns T.mask) (N - c) _ d0 (by omega) (fun d ld => by rw [atz]; exact on (c + d) (by omega)) (by rw [atz, cN]; exact off)
    rw [setSearchFrom_succ]
    refine wpAny_bind (wpAny_setState_of ho hd fitz ?_)
    dsimp only
    refine wp_if_neg B.stays ?_
    try exact wpAny_bind (wpAny_pure ?_)
    rcases sp with ⟨d, i, ld, hi, hh, nohit, pr⟩ | ⟨nohit, pr⟩
    · rw [atz] at hi
      have pr2 : T.probe (fun i => (xs[i]?.map (·.1)).getD 0) (thash P w k) (st.getD (T.probeStart (thash P w k))) = some (.candidate (nth T.mask p0 (c + d)).j i (nth T.mask p0 (c + (d + 1)))) := by
        rw [es, ← atz, ← atz]
        exact pr
      rw [pr2]
      dsimp only
      have li : i < L.length := by
        have h1 := (List.getElem?_eq_some_iff.mp hi).1
        have h2 := B.tbl.sz
        rw [List.length_map] at h2
        rw [Array.length_toList] at h1
        omega
      obtain ⟨q, hq⟩ : ∃ q, L[i]? = some q := ⟨_, List.getElem?_eq_getElem li⟩
      have mq : q ∈ L := List.mem_of_getElem? hq
      have go : wpAny (model P w) A (searchRest a (.ref x) (thash P w k) true f xs T (nth T.mask p0 (c + d)).j i (nth T.mask p0 (c + (d + 1)))) Q E s := by
        unfold searchRest
        rw [B.row hq]
        dsimp only
        refine wpAny_bind (wpAny_holding (wpAny_eqBool_tuple hu (B.tps q mq) hx ?_))
        refine wpAny_bind (wpAny_setState_of ho hd fitz ?_)
        dsimp only
        by_cases ek : q.2 = k
        · exact wp_if_pos (by simp [ek]) (wpAny_pure (yes (List.mem_map.mpr ⟨q, mq, ek⟩)))
        · refine wp_if_neg (by simp [ek]) ?_
          try exact wpAny_bind (wpAny_pure ?_)
          have sm : T.sameMemory T.moves T.mask = some true := by unfold SetTable.sameMemory; rw [if_pos (beq_self_eq_true _)]
          have sl : T.slot (nth T.mask p0 (c + d)).j = .live i := slot_live B.tbl.ris hi
          rw [sm]
          dsimp only
          simp only [if_true, sl, B.row hq]
          refine wpAny_bind (wpAny_isSame_ref_self (wpAny_bind (wpAny_pure ?_)))
          simp only [if_true]
          refine wp_if_neg (by simp [ek]) ?_
          refine ih (c + (d + 1)) _ rfl (by omega) (by omega) fun i' q' hq' ek' => ?_
          obtain ⟨e, ce, eN, he⟩ := ahead i' q' hq' ek'
          refine ⟨e, ?_, eN, he⟩
          apply Classical.byContradiction
          intro lt2
          rcases Nat.lt_or_ge e (c + d) with z | z
          · refine nohit (e - c) i' (by omega) ?_ ((hsh i' q' hq').trans (congrArg (thash P w) ek'))
            rw [atz, show c + (e - c) = e by omega]
            exact he
          · have ee : e = c + d := by omega
            rw [ee] at he
            have z2 := (slot_live B.tbl.ris he).symm.trans sl
            injection z2 with z2
            rw [z2, hq] at hq'
            cases hq'
            exact ek ek'
      by_cases ld2 : T.led = true
      · refine wp_if_neg (by simp [ld2]) ?_
        try exact wpAny_bind (wpAny_pure ?_)
        exact go
      · refine wp_if_pos (by simp [ld2]) (wpAny_bind (seen_tup hx (fun y hy => ?_) ?_))
        · obtain ⟨r, hr, rfl⟩ := List.mem_map.mp hy
          have hr2 : r ∈ xs.toList := by
            have z : r ∈ xs ∧ r.1 = thash P w k := by simpa using hr
            simpa using z.1
          rw [B.rws] at hr2
          obtain ⟨q2, hq2, rfl⟩ := List.mem_map.mp hr2
          exact ⟨q2.2, q2.1, rfl, B.tps q2 hq2⟩
        · refine wp_if_neg (by decide) ?_
          try exact wpAny_bind (wpAny_pure ?_)
          exact go
    · have pr2 : T.probe (fun i => (xs[i]?.map (·.1)).getD 0) (thash P w k) (st.getD (T.probeStart (thash P w k))) = some (.empty (nth T.mask p0 N).j none) := by
        rw [atz, cN] at pr
        rw [es]
        exact pr
      rw [pr2]
      dsimp only
      refine wpAny_pure (no fun mk => ?_)
      obtain ⟨q, mq, ek⟩ := List.mem_map.mp mk
      obtain ⟨i, li, rfl⟩ := List.getElem_of_mem mq
      have hq := List.getElem?_eq_getElem li
      obtain ⟨e, ce, eN, he⟩ := ahead i _ hq ek
      refine nohit (e - c) i (by omega) ?_ ((hsh i _ hq).trans (congrArg (thash P w) ek))
      rw [atz, show c + (e - c) = e by omega]
      exact he
theorem bg_search (B : BgS P w s.heap a L xs n T) {x : Addr} {k : List Int} (hx : IsT P w s.heap k x) (hu : A.units < cLine) {Q : SetFound → Shared → Prop} (yes : k ∈ L.map (·.2) → Q (.there none) s)
    (no : ∀ N, k ∉ L.map (·.2) → way T.mask (thash P w k) N ∉ T.place.toList → (∀ c, c < N → way T.mask (thash P w k) c ∈ T.place.toList) → Q (.free (way T.mask (thash P w k) N) false) s) :
    wpAny (model P w) A (setSearch a (.ref x) (thash P w k) true) Q E s := by
  have h1 := B.fit
  have h2 := B.mask
  obtain ⟨N, lN, off, on⟩ := B.tbl.first (by rw [List.length_map]; omega) (thash P w k)
  have l2 : N < 100000 := Nat.lt_of_lt_of_le lN (by unfold SetTable.turns; omega)
  unfold setSearch
  refine bg_look B hx hu rfl lN off on yes (fun z => no N z off on) 100000 0 none rfl (Nat.zero_le _) (by omega) fun i q hq ek => ?_
  have e1 : (L.map fun p => thash P w p.2)[i]? = some (thash P w k) := by
    rw [List.getElem?_map, hq, ← ek]
    rfl
  have li : i < T.place.toList.length := by
    have z := (List.getElem?_eq_some_iff.mp hq).1
    have y := B.tbl.sz
    rw [List.length_map] at y
    rw [Array.length_toList]
    omega
  have e2 := List.getElem?_eq_getElem li
  obtain ⟨d, ld, ed⟩ := B.tbl.before off e1 e2
  exact ⟨d, Nat.zero_le _, ld, by rw [e2]; exact congrArg some ed.symm⟩
/-- the table anew -/
theorem bg_relay {o : Obj} (ho : s.heap.get? a = some o) (hex : o.ExactSet) (hd : o.data = .set xs n T) (rw' : xs.toList = rowsOf P w L) (sz : T.place.size = xs.size) (dm : T.dummies = #[]) (fl : xs.size ≤ T.mask)
    (uni : (L.map (·.2)).Nodup) (tps : ∀ p ∈ L, IsT P w s.heap p.2 p.1) (pl : T.plain = true) (ld : w.params.followText "set-order" = true ∨ T.led = true) {want M : Nat} (hw : SetTable.sizeAbove want - 1 = M) (hM : MaskOk M) (h128 : SetTable.sizeAbove want ≤ 128) (room : L.length * 5 < M * 3) {Q : Unit → Shared → Prop}
    (go : ∀ hp' L' xs' n' T', Heap.SameBut a s.heap hp' → BgS P w hp' a L' xs' n' T' → L'.Perm L → Q () { s with heap := hp' }) : wpAny (model P w) A (setRelay a want) Q E s := by
  have len := rows_len rw'
  have few : L.length ≤ 76 := by rcases hM with e | e | e <;> omega
  have fitz : T.fits xs.size = true := by
    have h4 : T.fill = T.place.size := by unfold SetTable.fill; rw [dm]; rfl
    unfold SetTable.fits
    rw [h4, Bool.and_eq_true, beq_iff_eq, decide_eq_true_eq]
    omega
  obtain ⟨T', od, er, pm, tk, em, el, ep, _⟩ := relaid_ok T (hs := xs.map (·.1)) hw hM (by rw [Array.size_map]; omega)
  rw [Array.size_map, len] at pm
  obtain ⟨L', r1, r2, r3⟩ := order_rows L xs od rw' pm
  rw [← r3] at tk
  have sz2 : (od.filterMap (xs[·]?)).size = xs.size := by
    rw [rows_len r1, r2.length_eq, len]
  rw [setRelay_eq]
  refine wpAny_bind (wpAny_setState_of ho hd fitz ?_)
  dsimp only
  refine wp_if_neg (by rw [sizeLine_eq]; omega) ?_
  try exact wpAny_bind (wpAny_pure ?_)
  rw [er]
  dsimp only
  refine wpAny_bind (wp_if_neg (by rw [sz2]; simp) ?_)
  try exact wpAny_bind (wpAny_pure ?_)
  refine wpAny_pure ?_
  dsimp only
  have sb : Heap.SameBut a s.heap (s.heap.update a (Obj.putSet (od.filterMap (xs[·]?)) T')) := Heap.SameBut.update ..
  refine wpAny_storeSet_of ho hd (go _ L' _ (n + 1) T' sb ⟨⟨_, store_at ho hd, ⟨hex.1, hex.2.1, hex.2.2⟩, rfl⟩, r1, tk, (r2.map (·.2)).nodup_iff.mpr uni, fun p hp => isT_same (tps p (r2.mem_iff.mp hp)) ho hd sb, by rw [ep]; exact pl, by rw [el]; exact ld, by rw [r2.length_eq, em]; exact room⟩ r2) (by rw [sz2, len, sizeLine_eq]; omega)
/-- one more -/
theorem bg_add (B : BgS P w s.heap a L xs n T) {x : Addr} {k : List Int} (hx : IsT P w s.heap k x) (hu : A.units < cLine) (lim : k ∉ L.map (·.2) → L.length + 1 ≤ 76) {Q : Bool → Shared → Prop}
    (go : ∀ b hp' L' xs' n' T', Heap.SameBut a s.heap hp' → BgS P w hp' a L' xs' n' T' → (k ∈ L.map (·.2) → L' = L) → (k ∉ L.map (·.2) → L'.Perm ((x, k) :: L)) → Q b { s with heap := hp' }) :
    wpAny (model P w) A (setAddHashed a (.ref x) (thash P w k)) Q E s := by
  obtain ⟨o, ho, hex, hd⟩ := B.obj
  have len := rows_len B.rws
  have fit := B.fit
  unfold setAddHashed
  refine wpAny_holding ?_
  rw [show (100000 : Nat) = 99999 + 1 from rfl, setAddHashedIn_succ]
  refine wpAny_bind (wpAny_setState_of ho hd B.full ?_)
  dsimp only
  refine wp_if_neg (by simp [byScan, Value.scannable]) ?_
  try exact wpAny_bind (wpAny_pure ?_)
  refine wpAny_bind (bg_search B hx hu (fun mk => ?_) fun N mk off on => ?_)
  · dsimp only
    exact wpAny_pure (go false s.heap L xs n T (Heap.SameBut.refl a s.heap) B (fun _ => rfl) fun z => absurd mk z)
  dsimp only
  refine wpAny_bind (wpAny_setState_of ho hd B.full ?_)
  dsimp only
  obtain ⟨u1, u2, u3, u4, u5, u6, u7, u8, u9⟩ := B.tbl.put off on
  have pl1 : (T.put (way T.mask (thash P w k) N)).1.plain = true := by rw [u6]; exact B.pln
  have lim := lim mk
  generalize hpt : T.put (way T.mask (thash P w k) N) = pt at u1 u3 u4 u5 u6 u7 u8 u9 pl1 ⊢
  obtain ⟨T1, at1⟩ := pt
  dsimp only at u1 u3 u4 u5 u6 u7 u8 u9 pl1 ⊢
  subst u1
  first
    | (refine wpAny_bind (wp_if_pos pl1 (hashBy_tup hx ?_)))
    | refine wp_if_pos pl1 (wpAny_bind (hashBy_tup hx ?_))
  simp only [if_true]
  have ins : (SetTable.insertAt xs (SetTable.below T.place (way T.mask (thash P w k) N)) (thash P w k, Value.ref x)).toList = rowsOf P w (L.take (SetTable.below T.place (way T.mask (thash P w k) N)) ++ (x, k) :: L.drop (SetTable.below T.place (way T.mask (thash P w k) N))) := by
    rw [SetTable.toList_insertAt, rows_put, B.rws]
  generalize SetTable.below T.place (way T.mask (thash P w k) N) = q at u2 u3 ins ⊢
  have pm := put_perm L q (x, k)
  have len1 : (L.take q ++ (x, k) :: L.drop q).length = L.length + 1 := pm.length_eq
  have maps : (L.take q ++ (x, k) :: L.drop q).map (fun p => thash P w p.2) = (L.map fun p => thash P w p.2).take q ++ thash P w k :: (L.map fun p => thash P w p.2).drop q := by
    rw [List.map_append, List.map_cons, List.map_take, List.map_drop]
  rw [← maps] at u3
  have uni1 : ((L.take q ++ (x, k) :: L.drop q).map (·.2)).Nodup := (pm.map (·.2)).nodup_iff.mpr (by rw [List.map_cons]; exact List.nodup_cons.mpr ⟨mk, B.uni⟩)
  have sz1 := rows_len ins
  rw [len1] at sz1
  generalize SetTable.insertAt xs q (thash P w k, Value.ref x) = xs1 at ins sz1 ⊢
  generalize L.take q ++ (x, k) :: L.drop q = L1 at pm len1 u3 uni1 ins
  refine wpAny_bind (wpAny_storeSet_of ho hd ?_ (by rw [sz1, sizeLine_eq]; omega))
  have sb : Heap.SameBut a s.heap (s.heap.update a (Obj.putSet xs1 T1)) := Heap.SameBut.update ..
  have ho1 := store_at (es' := xs1) (t' := T1) ho hd
  generalize s.heap.update a (Obj.putSet xs1 T1) = hp1 at sb ho1 ⊢
  have tps1 : ∀ p ∈ L1, IsT P w hp1 p.2 p.1 := fun p hp => (List.mem_cons.mp (pm.mem_iff.mp hp)).elim (fun e => by rw [e]; exact isT_same hx ho hd sb) fun hp => isT_same (B.tps p hp) ho hd sb
  have ord1 : w.params.followText "set-order" = true ∨ T1.led = true := by rw [u5]; exact B.ord
  rw [List.length_map] at u9
  by_cases tf : T1.tooFull = true
  · have hf : (L.length + 1) * 5 ≥ T1.mask * 3 := by
      have z := tf
      unfold SetTable.tooFull at z
      rwa [decide_eq_true_eq, u9] at z
    have two : (T.mask = 7 ∧ L.length = 4) ∨ (T.mask = 31 ∧ L.length = 18) := by
      rcases B.tbl.mok with e | e | e
      · exact .inl ⟨e, by rw [u4, e] at hf; rw [e] at fit; omega⟩
      · exact .inr ⟨e, by rw [u4, e] at hf; rw [e] at fit; omega⟩
      · rw [u4, e] at hf
        omega
    have pz : T1.place.size = xs1.size := by
      have z := u3.sz
      rw [List.length_map, len1] at z
      omega
    rw [len]
    have lay : ∀ M, SetTable.sizeAbove (SetTable.grown (L.length + 1)) - 1 = M → MaskOk M → SetTable.sizeAbove (SetTable.grown (L.length + 1)) ≤ 128 → (L.length + 1) * 5 < M * 3 →
        wpAny (model P w) A (setRelay a (SetTable.grown (L.length + 1))) (fun _ s' => wpAny (model P w) A (pure true) Q E s') E { s with heap := hp1 } := fun M e1 e2 e3 e4 => by
      refine bg_relay (s := { s with heap := hp1 }) ho1 ⟨hex.1, hex.2.1, hex.2.2⟩ rfl ins pz u3.dm (by rw [sz1, u4]; rcases two with ⟨e, e'⟩ | ⟨e, e'⟩ <;> omega) uni1 tps1 pl1 ord1 e1 e2 e3 (by rw [len1]; exact e4) fun hp2 L2 xs2 n2 T2 sb2 B2 pm2 => ?_
      exact wpAny_pure (go true hp2 L2 xs2 n2 T2 (sb.trans sb2) B2 (fun z => absurd z mk) fun _ => pm2.trans pm)
    have fin : wpAny (model P w) A (setRelay a (SetTable.grown (L.length + 1))) (fun _ s' => wpAny (model P w) A (pure true) Q E s') E { s with heap := hp1 } := by
      rcases two with ⟨_, e⟩ | ⟨_, e⟩
      · exact lay 31 (by rw [e, size_20]) (.inr (.inl rfl)) (by rw [e, size_20]; decide) (by omega)
      · exact lay 127 (by rw [e, size_76]) (.inr (.inr rfl)) (by rw [e, size_76]; decide) (by omega)
    first
      | exact wpAny_bind (wp_if_pos (by simp [tf]) fin)
      | exact wp_if_pos (by simp [tf]) (wpAny_bind fin)
  · have room1 : L1.length * 5 < T1.mask * 3 := by
      have z := tf
      unfold SetTable.tooFull at z
      rw [decide_eq_true_eq, u9] at z
      omega
    have fin : wpAny (model P w) A (pure true) Q E { s with heap := hp1 } := wpAny_pure (go true hp1 L1 xs1 (n + 1) T1 sb ⟨⟨_, ho1, ⟨hex.1, hex.2.1, hex.2.2⟩, rfl⟩, ins, u3, uni1, tps1, pl1, ord1, room1⟩ (fun z => absurd z mk) fun _ => pm)
    first
      | exact wp_if_neg (by simp [tf]) fin
      | exact wpAny_bind (wp_if_neg (by simp [tf]) (wpAny_pure fin))
end
end My

set_option maxHeartbeats 4000000
/-! sorted(s), s a set of tuples of ints of any lengths, none of them empty. -/
namespace L2
open PySem PySem.Spec PyProof.Rows
section
variable {P : Program} {w : World} {A : Around} {E : Value → Shared → Prop} {s : Shared}
/-- the tuples' numbers, by their addresses -/
noncomputable def keyL (L : List (Addr × List Int)) (v : Value) : List Int := match v with
  | .ref a => ((L.find? fun p => p.1 == a).map (·.2)).getD []
  | _ => []
theorem sorted_setM {a : Addr} {L : List (Addr × List Int)} {es : Array (Int × Value)} {ep : Nat} {t : SetTable} {Q : Value → Shared → Prop} (R : SetTR P w s.heap a L es ep t) (hh : A.handled = none) (hu : A.units + 64 < cLine)
    (hB : ∀ p ∈ L, p.2 ≠ [])
    (hQ : ∀ s' p (out : Array Value) (c : Nat) (L' : List (Addr × List Int)), (∀ b o, s.heap.get? b = some o → s'.heap.get? b = some o) → s'.gens = s.gens → s'.os = s.os → s.heap.objs.size ≤ p →
      s'.heap.get? p = some (seqObj "list" out c) → out.toList = L'.map (fun q => Value.ref q.1) → L'.Perm L → L'.Pairwise (fun q r => HT.lexLt r.2 q.2 = false) → Q (.ref p) s') :
    wpAny (model P w) A (call (.builtin "sorted") [.ref a]) Q E s := by
  obtain ⟨o, ho, hex, hd⟩ := R.ob
  have hsz := R.size
  have hfew := R.few
  refine Calls.call_function_entry kind_sorted plain_sorted entry_sorted (args_sorted1 _) ?_
  unfold Builtin.«sorted»
  refine wpAny_bind (m := checkCount "sorted" 1 1 _) (wpAny_pure ?_)
  refine wpAny_bind (collect_set (A := A.in1) hh ⟨o, ho, hex.1, hd⟩ R.fits (by unfold scanBound; omega) R.tab.ris R.led fun s1 vs k1 hz g1 o1 pm => ?_)
  have hes : es.toList.map (·.2) = L.map fun q => Value.ref q.1 := by
    rw [R.rows]
    unfold rowsOf
    rw [List.map_map] <;> rfl
  rw [hes] at pm
  have one : ∀ q ∈ L, ∀ r ∈ L, q.1 = r.1 → q = r := fun q hq r hr e => by
    have a1 := R.tup q hq
    have a2 := R.tup r hr
    rw [e] at a1
    have e2 : q.2 = r.2 := a1.inj a2
    exact Prod.ext e e2
  have ky : ∀ q ∈ L, keyL L (.ref q.1) = q.2 := fun q hq => by
    show ((L.find? fun p => p.1 == q.1).map (·.2)).getD [] = q.2
    cases h : L.find? fun p => p.1 == q.1 with
    | none => exact absurd (List.find?_eq_none.mp h q hq) (by simp)
    | some r =>
      have e := one r (List.mem_of_find?_eq_some h) q hq (beq_iff_eq.mp (List.find?_some (p := fun p : Addr × List Int => p.1 == q.1) h))
      rw [e]
      rfl
  have ord : ∀ vs : List Value, (∀ v ∈ vs, ∃ q ∈ L, v = Value.ref q.1) → ∃ L1 : List (Addr × List Int), vs = L1.map (fun q => Value.ref q.1) ∧ ∀ q ∈ L1, q ∈ L := by
    intro vs
    induction vs with
    | nil => intro _; exact ⟨[], rfl, fun q hq => (by cases hq)⟩
    | cons v vs ih =>
      intro hv
      obtain ⟨q, hq, e⟩ := hv v List.mem_cons_self
      obtain ⟨L1, e1, hs⟩ := ih fun u hu => hv u (List.mem_cons_of_mem _ hu)
      refine ⟨q :: L1, by rw [List.map_cons, e, e1], fun r hr => ?_⟩
      rcases List.mem_cons.mp hr with z | z
      · rw [z]; exact hq
      · exact hs r z
  have perm_of : ∀ L1 : List (Addr × List Int), (∀ q ∈ L1, q ∈ L) → (L1.map (fun q => Value.ref q.1)).Perm (L.map fun q => Value.ref q.1) → L1.Perm L := by
    intro L1 hs pm1
    have nL : L.Nodup := nodup_of_map R.nd
    have nref : (L.map fun q => Value.ref q.1).Nodup := by
      refine List.pairwise_map.mpr (List.Pairwise.imp_of_mem (fun {q r} hq hr hne e => ?_) nL)
      injection e with e
      exact hne (one q hq r hr e)
    have n1 : L1.Nodup := nodup_of_map (pm1.nodup_iff.mpr nref)
    refine (List.perm_ext_iff_of_nodup n1 nL).mpr fun q => ⟨hs q, fun hq => ?_⟩
    have hm : Value.ref q.1 ∈ L1.map (fun q => Value.ref q.1) := pm1.mem_iff.mpr (List.mem_map.mpr ⟨q, hq, rfl⟩)
    obtain ⟨r, hr, e⟩ := List.mem_map.mp hm
    injection e with e
    rw [← one r (hs r hr) q hq e]
    exact hr
  have hvl : vs.length < 64 := by rw [pm.length_eq, List.length_map]; exact hfew
  have hvz : vs.length ≤ sizeLine := by rw [sizeLine_eq]; omega
  refine wpAny_bind (wpAny_newList ?_ hvz)
  have hoL : (s1.heap.push (seqObj "list" vs.toArray 0)).get? s1.heap.objs.size = some (seqObj "list" vs.toArray 0) := Heap.get?_push_size _ rfl
  have tk : ∀ q ∈ L, TS.TupInts (s1.heap.push (seqObj "list" vs.toArray 0)) (.ref q.1) q.2 := fun q hq => tupInts_of (P := P) (w := w) (isT_keep (R.tup q hq) fun b u e => Heap.get?_push_of_some _ (k1 b u e))
  have vq : ∀ v ∈ vs, ∃ q ∈ L, v = Value.ref q.1 := fun v hv => by
    obtain ⟨q, hq, e⟩ := List.mem_map.mp (pm.mem_iff.mp hv)
    exact ⟨q, hq, e.symm⟩
  refine wpAny_bind (wpAny_holding (wpAny_call_entry slot_list_sort ⟨_, hoL, rfl⟩ entry_list_sort (SrtO.list_sort_ord (s := { s1 with heap := s1.heap.push (seqObj "list" vs.toArray 0) }) (NtL.swo_lexL (keyL L)) hoL hvz (fun h2 => My.tups_sortable (s := { s1 with heap := s1.heap.push (seqObj "list" vs.toArray 0) }) (k := keyL L) ?_ h2 (fun v hv => ?_) (.inl fun k hk => ?_) fun v hv e => ?_) fun out so sb => ⟨_, rfl, ?_⟩) (args_list_sort _)))
  · first
    | (show A.units + _ + _ < cLine; omega)
    | (show A.units + _ < cLine; omega)
    | (show A.units + _ + _ + _ < cLine; omega)
  · obtain ⟨q, hq, rfl⟩ := vq v hv
    rw [ky q hq]
    exact tk q hq
  · obtain ⟨v, hv, rfl⟩ := List.mem_map.mp hk
    obtain ⟨q, hq, rfl⟩ := vq v hv
    rw [ky q hq]
    exact hB q hq
  · obtain ⟨q, hq, rfl⟩ := vq v hv
    injection e with e
    obtain ⟨o2, _, _, ho2, _⟩ := R.tup q hq
    have lt := Heap.lt_size (k1 _ _ ho2)
    rw [e] at lt
    exact absurd lt (Nat.lt_irrefl _)
  obtain ⟨c, hc⟩ := sortedHeap_at (vs := vs) (out := out.toArray) hoL
  have a1 := sb.perm
  obtain ⟨L', e', hs'⟩ := ord out fun v hv => vq v (a1.mem_iff.mp hv)
  have pL : L'.Perm L := perm_of L' hs' (by rw [← e']; exact a1.trans pm)
  have pw : L'.Pairwise (fun q r => HT.lexLt r.2 q.2 = false) := by
    rw [e'] at so
    refine List.Pairwise.imp_of_mem (fun {q r} hq hr hle => ?_) (List.pairwise_map.mp so)
    have hle : HT.lexLt (keyL L (.ref r.1)) (keyL L (.ref q.1)) = false := hle
    rw [ky q (hs' q hq), ky r (hs' r hr)] at hle
    exact hle
  refine wpAny_pure ⟨_, rfl, hQ _ s1.heap.objs.size out.toArray c L' (fun b u e => ?_) g1 o1 hz hc (by simpa using e') pL pw⟩
  have q := k1 b u e
  have hlt := Heap.lt_size q
  show (sortedHeap (s1.heap.push (seqObj "list" vs.toArray 0)) s1.heap.objs.size vs out.toArray).get? b = some u
  rw [sortedHeap_old (Nat.ne_of_lt hlt) (by rw [size_push']; exact Nat.lt_succ_of_lt hlt)]
  exact Heap.get?_push_of_some _ q
end
section
variable {X : Cx}
def rSortedM (K : PySem.W.Frag) (P : Program) (w : World) : List V → Hp → VK → Prop := fun vs H Q => ∃ (a : Addr) (L : List (Addr × List Int)), vs = [V.ref a] ∧ H a = some (SetTO P w a L) ∧ (∀ p ∈ L, SqT K H p.1 (p.2.map V.int)) ∧ (∀ p ∈ L, p.2 ≠ []) ∧
  ∀ (L' : List (Addr × List Int)) (p : Addr), L'.Perm L → (L'.map (·.2)).Nodup → L'.length < 64 → L'.Pairwise (fun q r => HT.lexLt r.2 q.2 = false) → H p = none → Q (.ref p) (upd H p (.lst (L'.map fun q => V.ref q.1)))
theorem cr_sortedM (hc : X.calm = true) (hu : X.A.units + 64 < cLine) : CallR X (.builtin "sorted") (rSortedM X.K X.prog X.w) := by
  intro pins s σ H xs us Q I r h
  obtain ⟨a, L, rfl, ha, hk, hB, q⟩ := h
  have R0 : SetT0 X.prog X.w s.heap a L := (I.hok a _ ha).1
  obtain ⟨es, ep, t, R⟩ := R0.full fun p hp => I.isT (hk p hp)
  rw [Vals.ref1 r]
  refine sorted_setM R (I.ok.hd hc) hu hB fun s' p out c L' k g o hp hg hout pm pw => ?_
  have hfew : L'.length < 64 := by rw [pm.length_eq]; exact R.few
  have hlen : (L'.map fun q => V.ref q.1).length ≤ sizeLine := by rw [List.length_map, sizeLine_eq]; omega
  have hn : H p = none := I.hok.fresh hp
  have hv : Vals (L'.map fun q => V.ref q.1) out.toList := by rw [hout]; exact vals_of_refs L'
  have J : Inv X pins σ (upd H p (.lst (L'.map fun q => V.ref q.1))) { s with heap := s'.heap, gens := s'.gens, drawn := s'.drawn, toks := s'.toks } :=
    I.call (ch := []) (Un.laid k hp hn) (I.hok.laid k hp ⟨hlen, out.toList, c, hv, hg⟩) (by rw [g]; exact I.bare) (fun _ z => nomatch z)
  have e : s' = { s with heap := s'.heap, gens := s'.gens, drawn := s'.drawn, toks := s'.toks } := by
    cases s'
    cases s
    cases o
    rfl
  rw [e]
  exact ⟨.ref p, _, J, rfl, q L' p pm ((pm.map (·.2)).nodup_iff.mpr R.nd) hfew pw hn⟩
end
end L2

set_option maxHeartbeats 6400000
/-! set(xs) and sorted(set) for tuples of ints, at most 76 unlike ones. -/
namespace My
open PySem PySem.Spec PyProof.Rows L2
/-- the set at a, but for the tuples -/
structure Bg0 (P : Program) (w : World) (h : Heap) (a : Addr) (L : List (Addr × List Int)) : Prop where
  ex : ∃ (xs : Array (Int × Value)) (n : Nat) (T : SetTable), (∃ o, h.get? a = some o ∧ o.ExactSet ∧ o.data = .set xs n T) ∧ xs.toList = rowsOf P w L ∧ TabOk T (L.map fun p => thash P w p.2) ∧ (L.map (·.2)).Nodup ∧ T.plain = true ∧
    (w.params.followText "set-order" = true ∨ T.led = true) ∧ L.length * 5 < T.mask * 3
def BgO (P : Program) (w : World) (a : Addr) (L : List (Addr × List Int)) : HO := .ext fun h => Bg0 P w h a L
section
variable {P : Program} {w : World} {h h' : Heap} {a : Addr} {L : List (Addr × List Int)} {xs : Array (Int × Value)} {n : Nat} {T : SetTable}
theorem BgS.b0 (R : BgS P w h a L xs n T) : Bg0 P w h a L := ⟨xs, n, T, R.obj, R.rws, R.tbl, R.uni, R.pln, R.ord, R.fit⟩
theorem Bg0.full (R : Bg0 P w h a L) (ht : ∀ p ∈ L, IsT P w h p.2 p.1) : ∃ xs n T, BgS P w h a L xs n T := by
  obtain ⟨xs, n, T, h1, h2, h3, h4, h5, h6, h7⟩ := R.ex
  exact ⟨xs, n, T, h1, h2, h3, h4, ht, h5, h6, h7⟩
theorem bgO_new {H : Hp} (R : Bg0 P w h a L) : ObjOk P w H h a (BgO P w a L) := by
  have ⟨xs, n, T, ⟨o, ho, r⟩, q⟩ := R.ex
  refine ⟨R, ⟨o, ho⟩, fun h1 h2 p k => ?_⟩
  have ⟨xs', n', T', ⟨o', ho', r'⟩, q'⟩ := Bg0.ex p
  exact ⟨xs', n', T', ⟨o', k o' ho', r'⟩, q'⟩
theorem BgS.keep (R : BgS P w h a L xs n T) (ha : ∀ o, h.get? a = some o → h'.get? a = some o) (ht : ∀ p ∈ L, IsT P w h' p.2 p.1) : BgS P w h' a L xs n T := by
  obtain ⟨o, ho, r⟩ := R.obj
  exact { R with obj := ⟨o, ha o ho, r⟩, tps := ht }
/-- a new one -/
theorem bgs_fresh (ho : h.get? a = some { cls := .type "set", dict := none, data := .set #[] 0 (.fresh 0 0 (!w.params.followText "set-order")) }) : BgS P w h a [] #[] 0 (.fresh 0 0 (!w.params.followText "set-order")) := by
  obtain ⟨o, e, x, d⟩ := (setTR_fresh (P := P) ho).ob
  have z := setTR_fresh (P := P) ho
  exact ⟨⟨o, e, x, d⟩, z.rows, z.tab, z.nd, z.tup, z.plain, z.led, z.room⟩
end
section
variable {P : Program} {w : World} {A : Around} {E : Value → Shared → Prop} {s : Shared}
theorem bg_loop {I : Addr} {fp wr : List Addr} {G : Array GenState → Array GenState → Prop} {n : Nat} {Pv : Nat → Value → Prop} {St : Nat → Shared → Prop} {R : Result → Shared → Prop}
    (W : WalksS P w A.in1 I fp wr G n Pv St) (S : Addr) (offS : S ∉ fp) (ks : List (Addr × List Int)) (hn : n = ks.length) (hfew : ∀ M : List (Addr × List Int), (∀ p ∈ M, p ∈ ks) → (M.map (·.2)).Nodup → M.length ≤ 76) (hval : ∀ i v, Pv i v → ∃ p, ks[i]? = some p ∧ v = .ref p.1)
    (h0 : Heap) (hk : ∀ p ∈ ks, IsT P w h0 p.2 p.1) (hS0 : h0.get? S = none) (hw0 : ∀ b ∈ wr, h0.get? b = none) (hu : A.in1.units < cLine) :
    ∀ (k i : Nat) (s : Shared), n - i = k → i ≤ n → St i s → (∀ b o, h0.get? b = some o → s.heap.get? b = some o) → (∃ L es ep t, BgS P w s.heap S L es ep t ∧ Got ks i L) →
      (∀ s' L es ep t, Moved (S :: wr) G s s' → BgS P w s'.heap S L es ep t → Got ks n L → (∀ b o, h0.get? b = some o → s'.heap.get? b = some o) → R (.ok (.ret .none)) s') →
      codeAny (model P w) A (.builtin "set.update.loop" ⟨[.ref S, .ref I], []⟩) R s := by
  have offw : S ∉ wr := fun h => offS (W.sub _ h)
  have into : ∀ b ∈ wr, b ∈ S :: wr := fun b hb => List.mem_cons_of_mem _ hb
  have stays : ∀ {s s' : Shared}, Moved wr G s s' → (∀ b o, h0.get? b = some o → s.heap.get? b = some o) → ∀ b o, h0.get? b = some o → s'.heap.get? b = some o := fun hm kp b o e =>
    hm.heap b o (fun hb => by rw [hw0 b hb] at e; cases e) (kp b o e)
  intro k
  induction k with
  | zero =>
    intro i s hk' hi st0 kp ⟨L, es, ep, t, hS, g⟩ hR
    have hin : i = n := by omega
    subst hin
    refine codeAny_builtin PyProof.Rows.F.entry_set_update_loop ?_
    rw [Around.under_plainId PyProof.Rows.F.plain_set_update_loop _]
    show wpAny _ A.in1 (pyNext (.ref I) >>= _) _ _ s
    refine wpAny_bind (W.done s _ _ st0 fun s' hm => ?_)
    show wpAny _ A.in1 (ret Value.none) _ _ s'
    have kp' := stays hm kp
    have sub : ∀ p ∈ L, p ∈ ks := fun p hp => List.mem_of_mem_take (g.sub p hp)
    exact wpAny_pure (hR s' L es ep t (hm.mono into) (hS.keep (fun o e => hm.heap S o offw e) fun p hp => isT_keep (hk p (sub p hp)) kp') g kp')
  | succ k ih =>
    intro i s hk' hi st0 kp ⟨L, es, ep, t, hS, g⟩ hR
    have hlt : i < n := by omega
    refine codeAny_builtin PyProof.Rows.F.entry_set_update_loop ?_
    rw [Around.under_plainId PyProof.Rows.F.plain_set_update_loop _]
    show wpAny _ A.in1 (pyNext (.ref I) >>= _) _ _ s
    refine wpAny_bind (W.item i s _ _ hlt st0 fun v s' hP st' hm => ?_)
    obtain ⟨p, hp, rfl⟩ := hval i v hP
    have kp' := stays hm kp
    have sub : ∀ p ∈ L, p ∈ ks := fun p hp => List.mem_of_mem_take (g.sub p hp)
    have hS' : BgS P w s'.heap S L es ep t := hS.keep (fun o e => hm.heap S o offw e) fun q hq => isT_keep (hk q (sub q hq)) kp'
    have hx : IsT P w s'.heap p.2 p.1 := isT_keep (hk p (List.mem_of_getElem? hp)) kp'
    show wpAny _ A.in1 (holding [Value.ref p.1] (setAdd S (.ref p.1)) >>= _) _ _ s'
    refine wpAny_bind (wpAny_holding ?_)
    unfold setAdd
    refine wpAny_holding ?_
    refine wpAny_bind (wpAny_pyHash_tuple hu hx ?_)
    refine bg_add (s := { s' with toks := s'.toks + (p.2.length + 1) }) hS' hx hu (fun mk => hfew (p :: L) (fun r hr => (List.mem_cons.mp hr).elim (fun e => by rw [e]; exact List.mem_of_getElem? hp) (sub r)) (by rw [List.map_cons]; exact List.nodup_cons.mpr ⟨mk, hS.uni⟩)) fun b h' L' es' ep' t' hsb hS2 c1 c2 => ?_
    have g' : Got ks (i + 1) L' := by
      rcases Classical.em (p.2 ∈ L.map (·.2)) with c | c
      · rw [c1 c]; exact g.same hp c
      · exact g.more hp (c2 c)
    have kp2 : ∀ b o, h0.get? b = some o → h'.get? b = some o := fun b o e => (hsb.2 b (fun z => by rw [z, hS0] at e; cases e)).trans (kp' b o e)
    refine wpAny_pure ⟨plainId_quiet PyProof.Rows.F.plain_set_update_loop _, ih (i + 1) _ (by omega) hlt (W.frame _ s' _ _ st' (Nat.le_add_right _ _) fun b hb o e => ?_) kp2 ⟨L', es', ep', t', hS2, g'⟩ fun s'' L2 es2 ep2 t2 hm'' hS'' g'' kp'' => ?_⟩
    · rw [hsb.2 b (fun h : b = S => offS (by rw [← h]; exact hb))]; exact e
    · refine hR s'' L2 es2 ep2 t2 (Moved.trans W.gtrans ((hm.mono into).then_heap (Nat.le_add_right _ _) fun b o hb e => ?_) hm'') hS'' g'' kp''
      rw [hsb.2 b (fun h : b = S => hb (by rw [h]; exact List.mem_cons_self))]; exact e

theorem bg_call {l : Addr} {items : Array Value} (ks : List (Addr × List Int)) {Q : Value → Shared → Prop} (hh : A.handled = none) (hl : s.heap.IsList l items) (hit : items.toList = ks.map fun p => Value.ref p.1)
    (hk : ∀ p ∈ ks, IsT P w s.heap p.2 p.1) (hfew : ∀ M : List (Addr × List Int), (∀ p ∈ M, p ∈ ks) → (M.map (·.2)).Nodup → M.length ≤ 76) (hu : A.units + 3 < cLine)
    (h : ∀ (h' : Heap) (tk : Nat) L es ep t, BgS P w h' s.heap.objs.size L es ep t → Got ks ks.length L → (∀ b o, s.heap.get? b = some o → h'.get? b = some o) → Q (.ref s.heap.objs.size) { s with heap := h', toks := tk }) :
    wpAny (model P w) A (call (.type "set") [.ref l]) Q E s := by
  have lenI : items.size = ks.length := by
    have q := congrArg List.length hit
    rw [Array.length_toList, List.length_map] at q
    exact q
  obtain ⟨c, tl, mr⟩ := F.called_set.mro
  have md := F.called_set.made
  have into := F.called_set.sub
  refine wpAny_call (codeAny_of_tree ?_)
  show wpAny _ _ (callAny (.type "set") _) _ _ _
  refine wpAny_pure ⟨Code.quiet_builtin _ (by decide +kernel), codeAny_builtin F.entry_type_call ?_⟩
  rw [Around.under_plain (weight_type_call_type "set" [.ref l] []) rfl]
  have h1 := F.called_set.notType
  have h2 := F.called_set.canCreate
  have ct := F.typeCall_set_1 (.ref l)
  repeat (any_goals (first | assumption | wp_step))

  refine codeAny_mono (code_set_led1 (.ref l) (E := E) (Q₁ := fun obj s₁ => obj = .ref s.heap.objs.size ∧ s₁ = { s with heap := s.heap.push { cls := .type "set", dict := none, data := .set #[] 0 (.fresh 0 0 (!w.params.followText "set-order")) } }) ⟨rfl, rfl⟩) fun r s₁ hr => ?_
  cases r with
  | error e => exact hr
  | ok fl =>
    cases fl with
    | ret obj =>
      obtain ⟨rfl, rfl⟩ := hr
      have hS : (s.heap.push { cls := .type "set", dict := none, data := .set #[] 0 (.fresh 0 0 (!w.params.followText "set-order")) }).get? s.heap.objs.size = some { cls := .type "set", dict := none, data := .set #[] 0 (.fresh 0 0 (!w.params.followText "set-order")) } := Heap.get?_push_size _ rfl
      have hT : Shared.TypeIs { s with heap := s.heap.push { cls := .type "set", dict := none, data := .set #[] 0 (.fresh 0 0 (!w.params.followText "set-order")) } } (.ref s.heap.objs.size) "set" := ⟨_, hS, rfl⟩
      have hli := F.called_set.init.lookup
      have hbi := F.called_set.init.bind (.ref s.heap.objs.size)
      repeat (any_goals (first | assumption | wp_step))

      refine codeAny_mono (codeAny_call_builtin (R := wants (fun r s₂ => r = .none ∧ ∃ h' tk L es ep t, s₂ = { s with heap := h', toks := tk } ∧ BgS P w h' s.heap.objs.size L es ep t ∧ Got ks ks.length L ∧
          (∀ b o, s.heap.get? b = some o → h'.get? b = some o)) E) F.called_set.init.plain F.entry_set_init (check_set_init_1 hT ?_)) fun r₂ s₂ hr₂ => ?_
      · obtain ⟨ol, hol, hcl, nl, hdl⟩ := hl
        obtain ⟨ocls, odict, odata, oslots⟩ := ol
        simp only at hcl hdl
        subst hcl; subst hdl
        have hol' : (s.heap.push { cls := .type "set", dict := none, data := .set #[] 0 (.fresh 0 0 (!w.params.followText "set-order")) }).get? l = some { cls := .type "list", dict := odict, data := .seq items nl, slots := oslots } := Heap.get?_push_of_some _ hol
        have y1 := F.sub_list_set
        have y2 := F.sub_list_frozenset
        have hne : (Value.type "list" == Value.type "dict") = false := by decide
        have hl1 : (s.heap.push { cls := .type "set", dict := none, data := .set #[] 0 (.fresh 0 0 (!w.params.followText "set-order")) }).IsList l items := ⟨_, hol', rfl, nl, rfl⟩
        unfold Builtin.«set.__init__» noKeywords Builtin.Frozenset.updateFrom
        generalize hPI : pyIter = PI
        wp_walk
        subst hPI

        refine wpAny_pyIter_list hl1 ?_
        refine wpAny_bind (wpAny_runValue ?_)
        have lS : l < s.heap.objs.size := Heap.lt_size hol
        have hh3 : A.in1.in1.in1.handled = none := by simp [hh]
        have hz1 : (s.heap.push { cls := .type "set", dict := none, data := .set #[] 0 (.fresh 0 0 (!w.params.followText "set-order")) }).objs.size = s.heap.objs.size + 1 := Heap.size_push ..
        have nI : l ≠ (s.heap.push { cls := .type "set", dict := none, data := .set #[] 0 (.fresh 0 0 (!w.params.followText "set-order")) }).objs.size := by
          rw [Heap.size_push]; exact Nat.ne_of_lt (Nat.lt_succ_of_lt lS)
        have offS : s.heap.objs.size ∉ [(s.heap.push { cls := .type "set", dict := none, data := .set #[] 0 (.fresh 0 0 (!w.params.followText "set-order")) }).objs.size, l] := by
          rw [Heap.size_push]; simp only [List.mem_cons, List.mem_singleton, List.not_mem_nil, or_false, not_or]
          exact ⟨Nat.ne_of_lt (Nat.lt_succ_self _), Nat.ne_of_gt lS⟩
        have hval : ∀ (i : Nat) (v : Value), items[i]? = some v → ∃ p, ks[i]? = some p ∧ v = .ref p.1 := fun i v hv => by
          have q : items.toList[i]? = some v := by rw [Array.getElem?_toList]; exact hv
          rw [hit, List.getElem?_map] at q
          cases hq : ks[i]? with
          | none => rw [hq] at q; cases q
          | some p =>
            rw [hq] at q
            exact ⟨p, rfl, (Option.some.inj q).symm⟩
        have fresh : ∀ b, s.heap.objs.size ≤ b → s.heap.get? b = none := fun b hb => by
          cases q : s.heap.get? b with
          | none => rfl
          | some o => exact absurd (Nat.lt_of_lt_of_le (Heap.lt_size q) hb) (Nat.lt_irrefl _)
        refine bg_loop ((Walks.list hh3 _ l nI items).toS) s.heap.objs.size
          offS ks lenI hfew hval s.heap hk (fresh _ (Nat.le_refl _)) (fun b hb => fresh b (by
            rw [List.mem_singleton.mp hb, Heap.size_push]
            exact Nat.le_succ _)) hu (items.size - 0) 0 _ (by omega) (Nat.zero_le _)
          ⟨⟨_, Heap.get?_push_size _ rfl, rfl, rfl⟩, (hl1.push _)⟩ (fun b o e => Heap.get?_push_of_some _ (Heap.get?_push_of_some _ e)) ?hS0 ?hR
        case hS0 =>
          have hget : ((s.heap.push { cls := .type "set", dict := none, data := .set #[] 0 (.fresh 0 0 (!w.params.followText "set-order")) }).push { cls := .type "list_iterator", data := .fields #[.ref l, .int 0 0] }).get? s.heap.objs.size
              = some { cls := .type "set", dict := none, data := .set #[] 0 (.fresh 0 0 (!w.params.followText "set-order")) } := Heap.get?_push_of_some _ hS
          exact ⟨[], #[], 0, _, bgs_fresh hget, Got.zero ks⟩
        case hR =>
          intro s' L es ep t hm hS' g' kp
          obtain ⟨h', g2, d', tk', os'⟩ := s'
          have eg : g2 = s.gens := hm.gens
          have ed : d' = s.drawn := hm.drawn
          have eo : os' = s.os := hm.os
          subst eg; subst ed; subst eo
          show wpAny _ _ _ _ _ _
          refine wpAny_pure ?_
          show wpAny _ _ (ret Value.none) _ _ _
          rw [lenI] at g'
          exact wpAny_pure ⟨rfl, h', tk', L, es, ep, t, rfl, hS', g', kp⟩

      · cases r₂ with
        | error e => exact hr₂
        | ok fl₂ =>
          cases fl₂ with
          | ret r =>
            obtain ⟨rfl, h', tk, L, es, ep, t, rfl, hS', g', hk'⟩ := hr₂
            repeat (any_goals (first | assumption | wp_step))
            exact h _ _ _ _ _ _ hS' g' hk'
          | _ => exact hr₂.elim
    | _ => exact hr.elim

end
section
variable {X : Cx}
def rSetB (K : PySem.W.Frag) (P : Program) (w : World) : List V → Hp → VK → Prop := fun xs H Q => ∃ (l : Addr) (ks : List (Addr × List Int)), xs = [V.ref l] ∧ SqL K H l (ks.map fun p => V.ref p.1) ∧ (∀ p ∈ ks, SqT K H p.1 (p.2.map V.int)) ∧ (∀ M : List (Addr × List Int), (∀ p ∈ M, p ∈ ks) → (M.map (·.2)).Nodup → M.length ≤ 76) ∧
  ∀ a L, H a = none → (∀ p ∈ L, p ∈ ks) → (∀ p ∈ ks, p.2 ∈ L.map (·.2)) → Q (.ref a) (upd H a (BgO P w a L))
theorem cr_setB (hc : X.calm = true) (hu : X.A.units + 64 < cLine) : CallR X (.type "set") (rSetB X.K X.prog X.w) := by
  intro pins s σ H xs us Q I r h
  obtain ⟨l, ks, rfl, hl, hk, hf, q⟩ := h
  rw [Vals.ref1 r]
  obtain ⟨its, rv, pl, hz⟩ := I.list hl
  have hn : H s.heap.objs.size = none := I.hok.fresh (Nat.le_refl _)
  refine bg_call (P := X.prog) (w := X.w) ks (I.ok.hd hc) pl.isList (by simpa using refs_of_vals rv) (fun p hp => L2.Inv.isT I (hk p hp)) hf (by omega) fun h' tk L es ep t R g k => ?_
  refine ⟨.ref s.heap.objs.size, upd H s.heap.objs.size (BgO X.prog X.w s.heap.objs.size L), I.laid (t' := tk) k (Nat.le_refl _) (bgO_new R.b0), rfl, q _ L hn (fun p hp => ?_) fun p hp => ?_⟩
  · exact List.mem_of_mem_take (g.sub p hp)
  · exact g.all p (by rw [List.take_length]; exact hp)
end
section
variable {P : Program} {w : World} {A : Around} {E : Value → Shared → Prop} {s : Shared}
theorem bg_sorted {a : Addr} {L : List (Addr × List Int)} {es : Array (Int × Value)} {ep : Nat} {t : SetTable} {Q : Value → Shared → Prop} (R : BgS P w s.heap a L es ep t) (hh : A.handled = none) (hu : A.units + 64 < cLine)
    (hB : ∀ p ∈ L, p.2 ≠ [])
    (hQ : ∀ s' p (out : Array Value) (c : Nat) (L' : List (Addr × List Int)), (∀ b o, s.heap.get? b = some o → s'.heap.get? b = some o) → s'.gens = s.gens → s'.os = s.os → s.heap.objs.size ≤ p →
      s'.heap.get? p = some (seqObj "list" out c) → out.toList = L'.map (fun q => Value.ref q.1) → L'.Perm L → L'.Pairwise (fun q r => HT.lexLt r.2 q.2 = false) → Q (.ref p) s') :
    wpAny (model P w) A (call (.builtin "sorted") [.ref a]) Q E s := by
  obtain ⟨o, ho, hex, hd⟩ := R.obj
  have hsz := rows_len R.rws
  have hfew := R.few
  refine Calls.call_function_entry kind_sorted plain_sorted entry_sorted (args_sorted1 _) ?_
  unfold Builtin.«sorted»
  refine wpAny_bind (m := checkCount "sorted" 1 1 _) (wpAny_pure ?_)
  refine wpAny_bind (collect_set (A := A.in1) hh ⟨o, ho, hex.1, hd⟩ R.full (by unfold scanBound; omega) R.tbl.ris R.ord fun s1 vs k1 hz g1 o1 pm => ?_)
  have hes : es.toList.map (·.2) = L.map fun q => Value.ref q.1 := by
    rw [R.rws]
    unfold rowsOf
    rw [List.map_map] <;> rfl
  rw [hes] at pm
  have one : ∀ q ∈ L, ∀ r ∈ L, q.1 = r.1 → q = r := fun q hq r hr e => by
    have a1 := R.tps q hq
    have a2 := R.tps r hr
    rw [e] at a1
    have e2 : q.2 = r.2 := a1.inj a2
    exact Prod.ext e e2
  have ky : ∀ q ∈ L, keyL L (.ref q.1) = q.2 := fun q hq => by
    show ((L.find? fun p => p.1 == q.1).map (·.2)).getD [] = q.2
    cases h : L.find? fun p => p.1 == q.1 with
    | none => exact absurd (List.find?_eq_none.mp h q hq) (by simp)
    | some r =>
      have e := one r (List.mem_of_find?_eq_some h) q hq (beq_iff_eq.mp (List.find?_some (p := fun p : Addr × List Int => p.1 == q.1) h))
      rw [e]
      rfl
  have ord : ∀ vs : List Value, (∀ v ∈ vs, ∃ q ∈ L, v = Value.ref q.1) → ∃ L1 : List (Addr × List Int), vs = L1.map (fun q => Value.ref q.1) ∧ ∀ q ∈ L1, q ∈ L := by
    intro vs
    induction vs with
    | nil => intro _; exact ⟨[], rfl, fun q hq => (by cases hq)⟩
    | cons v vs ih =>
      intro hv
      obtain ⟨q, hq, e⟩ := hv v List.mem_cons_self
      obtain ⟨L1, e1, hs⟩ := ih fun u hu => hv u (List.mem_cons_of_mem _ hu)
      refine ⟨q :: L1, by rw [List.map_cons, e, e1], fun r hr => ?_⟩
      rcases List.mem_cons.mp hr with z | z
      · rw [z]; exact hq
      · exact hs r z
  have perm_of : ∀ L1 : List (Addr × List Int), (∀ q ∈ L1, q ∈ L) → (L1.map (fun q => Value.ref q.1)).Perm (L.map fun q => Value.ref q.1) → L1.Perm L := by
    intro L1 hs pm1
    have nL : L.Nodup := nodup_of_map R.uni
    have nref : (L.map fun q => Value.ref q.1).Nodup := by
      refine List.pairwise_map.mpr (List.Pairwise.imp_of_mem (fun {q r} hq hr hne e => ?_) nL)
      injection e with e
      exact hne (one q hq r hr e)
    have n1 : L1.Nodup := nodup_of_map (pm1.nodup_iff.mpr nref)
    refine (List.perm_ext_iff_of_nodup n1 nL).mpr fun q => ⟨hs q, fun hq => ?_⟩
    have hm : Value.ref q.1 ∈ L1.map (fun q => Value.ref q.1) := pm1.mem_iff.mpr (List.mem_map.mpr ⟨q, hq, rfl⟩)
    obtain ⟨r, hr, e⟩ := List.mem_map.mp hm
    injection e with e
    rw [← one r (hs r hr) q hq e]
    exact hr
  have hvl : vs.length ≤ 76 := by rw [pm.length_eq, List.length_map]; exact hfew
  have hvz : vs.length ≤ sizeLine := by rw [sizeLine_eq]; omega
  refine wpAny_bind (wpAny_newList ?_ hvz)
  have hoL : (s1.heap.push (seqObj "list" vs.toArray 0)).get? s1.heap.objs.size = some (seqObj "list" vs.toArray 0) := Heap.get?_push_size _ rfl
  have tk : ∀ q ∈ L, TS.TupInts (s1.heap.push (seqObj "list" vs.toArray 0)) (.ref q.1) q.2 := fun q hq => tupInts_of (P := P) (w := w) (isT_keep (R.tps q hq) fun b u e => Heap.get?_push_of_some _ (k1 b u e))
  have vq : ∀ v ∈ vs, ∃ q ∈ L, v = Value.ref q.1 := fun v hv => by
    obtain ⟨q, hq, e⟩ := List.mem_map.mp (pm.mem_iff.mp hv)
    exact ⟨q, hq, e.symm⟩
  refine wpAny_bind (wpAny_holding (wpAny_call_entry slot_list_sort ⟨_, hoL, rfl⟩ entry_list_sort (SrtO.list_sort_ord (s := { s1 with heap := s1.heap.push (seqObj "list" vs.toArray 0) }) (NtL.swo_lexL (keyL L)) hoL hvz (fun h2 => My.tups_sortable (s := { s1 with heap := s1.heap.push (seqObj "list" vs.toArray 0) }) (k := keyL L) ?_ h2 (fun v hv => ?_) (.inl fun k hk => ?_) fun v hv e => ?_) fun out so sb => ⟨_, rfl, ?_⟩) (args_list_sort _)))
  · first
    | (show A.units + _ + _ < cLine; omega)
    | (show A.units + _ < cLine; omega)
    | (show A.units + _ + _ + _ < cLine; omega)
  · obtain ⟨q, hq, rfl⟩ := vq v hv
    rw [ky q hq]
    exact tk q hq
  · obtain ⟨v, hv, rfl⟩ := List.mem_map.mp hk
    obtain ⟨q, hq, rfl⟩ := vq v hv
    rw [ky q hq]
    exact hB q hq
  · obtain ⟨q, hq, rfl⟩ := vq v hv
    injection e with e
    obtain ⟨o2, _, _, ho2, _⟩ := R.tps q hq
    have lt := Heap.lt_size (k1 _ _ ho2)
    rw [e] at lt
    exact absurd lt (Nat.lt_irrefl _)
  obtain ⟨c, hc⟩ := sortedHeap_at (vs := vs) (out := out.toArray) hoL
  have a1 := sb.perm
  obtain ⟨L', e', hs'⟩ := ord out fun v hv => vq v (a1.mem_iff.mp hv)
  have pL : L'.Perm L := perm_of L' hs' (by rw [← e']; exact a1.trans pm)
  have pw : L'.Pairwise (fun q r => HT.lexLt r.2 q.2 = false) := by
    rw [e'] at so
    refine List.Pairwise.imp_of_mem (fun {q r} hq hr hle => ?_) (List.pairwise_map.mp so)
    have hle : HT.lexLt (keyL L (.ref r.1)) (keyL L (.ref q.1)) = false := hle
    rw [ky q (hs' q hq), ky r (hs' r hr)] at hle
    exact hle
  refine wpAny_pure ⟨_, rfl, hQ _ s1.heap.objs.size out.toArray c L' (fun b u e => ?_) g1 o1 hz hc (by simpa using e') pL pw⟩
  have q := k1 b u e
  have hlt := Heap.lt_size q
  show (sortedHeap (s1.heap.push (seqObj "list" vs.toArray 0)) s1.heap.objs.size vs out.toArray).get? b = some u
  rw [sortedHeap_old (Nat.ne_of_lt hlt) (by rw [size_push']; exact Nat.lt_succ_of_lt hlt)]
  exact Heap.get?_push_of_some _ q
end
section
variable {X : Cx}
def rSortedB (K : PySem.W.Frag) (P : Program) (w : World) : List V → Hp → VK → Prop := fun vs H Q => ∃ (a : Addr) (L : List (Addr × List Int)), vs = [V.ref a] ∧ H a = some (BgO P w a L) ∧ (∀ p ∈ L, SqT K H p.1 (p.2.map V.int)) ∧ (∀ p ∈ L, p.2 ≠ []) ∧
  ∀ (L' : List (Addr × List Int)) (p : Addr), L'.Perm L → (L'.map (·.2)).Nodup → L'.length ≤ 76 → L'.Pairwise (fun q r => HT.lexLt r.2 q.2 = false) → H p = none → Q (.ref p) (upd H p (.lst (L'.map fun q => V.ref q.1)))
theorem cr_sortedB (hc : X.calm = true) (hu : X.A.units + 64 < cLine) : CallR X (.builtin "sorted") (rSortedB X.K X.prog X.w) := by
  intro pins s σ H xs us Q I r h
  obtain ⟨a, L, rfl, ha, hk, hB, q⟩ := h
  have R0 : Bg0 X.prog X.w s.heap a L := (I.hok a _ ha).1
  obtain ⟨es, ep, t, R⟩ := R0.full fun p hp => L2.Inv.isT I (hk p hp)
  rw [Vals.ref1 r]
  refine bg_sorted R (I.ok.hd hc) hu hB fun s' p out c L' k g o hp hg hout pm pw => ?_
  have hfew : L'.length ≤ 76 := by rw [pm.length_eq]; exact R.few
  have hlen : (L'.map fun q => V.ref q.1).length ≤ sizeLine := by rw [List.length_map, sizeLine_eq]; omega
  have hn : H p = none := I.hok.fresh hp
  have hv : Vals (L'.map fun q => V.ref q.1) out.toList := by rw [hout]; exact vals_of_refs L'
  have J : Inv X pins σ (upd H p (.lst (L'.map fun q => V.ref q.1))) { s with heap := s'.heap, gens := s'.gens, drawn := s'.drawn, toks := s'.toks } :=
    I.call (ch := []) (Un.laid k hp hn) (I.hok.laid k hp ⟨hlen, out.toList, c, hv, hg⟩) (by rw [g]; exact I.bare) (fun _ z => nomatch z)
  have e : s' = { s with heap := s'.heap, gens := s'.gens, drawn := s'.drawn, toks := s'.toks } := by
    cases s'
    cases s
    cases o
    rfl
  rw [e]
  exact ⟨.ref p, _, J, rfl, q L' p pm ((pm.map (·.2)).nodup_iff.mpr R.uni) hfew pw hn⟩
end
end My

set_option maxHeartbeats 16000000
/-! Right: kernels by an own look. -/
namespace My
open PySem PySem.Spec PyProof.Rows L2
abbrev sRight : Stmt := top 52
abbrev nRight : List Str := ["pot", "graph", "arcs", "way", "drawn", "edge", "due", "lots", "some", "turn", "lot", "told"]
theorem scRight : FnScope nRight ["pot"] (defScope sRight) := ⟨rfl, rfl, rfl, by decide +kernel, rfl, by decide +kernel, by decide +kernel⟩
def spRight : Sp := fun vs H Q _ => ∃ p : Addr, vs = [.ref p] ∧ Wl H p ∧ ∀ H', But p H H' → Q (.bl true) H'
theorem ifs_join {b : Bool} {ta tb : L2.TS} {D : Ends} {σ : L2.St} {H : Hp} (R : L2.St → Hp → Prop) (fin : ∀ σ' H', R σ' H' → D.nx σ' H') (a : b = true → ∀ D' : Ends, (∀ σ' H', R σ' H' → D'.nx σ' H') → ta D' σ H) (c : b = false → ∀ D' : Ends, (∀ σ' H', R σ' H' → D'.nx σ' H') → tb D' σ H) : if b = true then ta D σ H else tb D σ H := by
  cases b with
  | true => rw [if_pos rfl]; exact a rfl D fin
  | false => rw [if_neg (by decide)]; exact c rfl D fin
theorem ite_joinG {b : Bool} {ta tb : TE} {σ : L2.St} {H : Hp} {Q : VK} (R : V → Hp → Prop) (fin : ∀ v H', R v H' → Q v H') (a : b = true → ∀ Q' : VK, (∀ v H', R v H' → Q' v H') → ta σ H Q') (c : b = false → ∀ Q' : VK, (∀ v H', R v H' → Q' v H') → tb σ H Q') : if b = true then ta σ H Q else tb σ H Q := by
  cases b with
  | true => rw [if_pos rfl]; exact a rfl Q fin
  | false => rw [if_neg (by decide)]; exact c rfl Q fin
theorem tIf_any {t : TT} {ta tb : TE} {σ : L2.St} {H : Hp} {Q : VK} {Pp : Hp → Prop} (go : ∀ (b : Bool) H', Pp H' → if b = true then ta σ H' Q else tb σ H' Q) (ht : ∀ Q' : Bool → Hp → Prop, (∀ b H', Pp H' → Q' b H') → t σ H Q') : tIf t ta tb σ H Q := ht _ go
/-- arcs and some of them turned about, each once -/
theorem more_arcs {n : Nat} {es as bs cs : List E2} (g : Good n es) (ok : ArcsOk es as) (sub : ∀ q ∈ bs, q ∈ as ∨ sw q ∈ as) (up : cs.Pairwise ahead) (m : ∀ q, q ∈ cs ↔ q ∈ as ++ bs) : ArcsOk es cs := by
  have nd : cs.Nodup := up.imp fun z e => by
    subst e
    unfold ahead at z
    omega
  have sub2 : ∀ q ∈ cs, q ∈ es ∨ sw q ∈ es := fun q hq => by
    rcases List.mem_append.mp ((m q).mp hq) with h | h
    · exact ok.sub q h
    · rcases sub q h with h | h
      · exact ok.sub q h
      · exact (ok.sub _ h).symm
  refine ⟨nd, sub2, fun e he => (ok.cov e he).imp (fun h => (m _).mpr (List.mem_append_left _ h)) (fun h => (m _).mpr (List.mem_append_left _ h)), ?_⟩
  have z := sub_few nd (m := es ++ es.map sw) fun q hq => List.mem_append.mpr ((sub2 q hq).imp id fun h => List.mem_map.mpr ⟨sw q, h, rfl⟩)
  rw [List.length_append, List.length_map] at z
  omega
theorem lex_ahead {p q : E2} (le : HT.lexLt [(q.1 : Int), (q.2 : Int)] [(p.1 : Int), (p.2 : Int)] = false) (ne : p ≠ q) : ahead p q := by
  rw [HT.lexLt_cons, HT.lexLt_cons] at le
  obtain ⟨a, b⟩ := p
  obtain ⟨c, d⟩ := q
  dsimp only at le
  show a < c ∨ (a = c ∧ b < d)
  have ne' : ¬ (a = c ∧ b = d) := fun ⟨h1, h2⟩ => ne (by rw [h1, h2])
  split at le
  · rename_i e
    split at le
    · rename_i e2
      omega
    · have := of_decide_eq_false le
      omega
  · have := of_decide_eq_false le
    omega
/-- lots that are told -/
def LoN (n : Nat) (H : Hp) (v : V) : Prop := ∃ (u : Addr) (l : List Nat), v = .ref u ∧ H u = some (.tup (numsN l)) ∧ LotOk n l
theorem LoN.same {n : Nat} {H H' : Hp} (s : Same H H') {v : V} (h : LoN n H v) : LoN n H' v := by
  obtain ⟨u, l, e, h, r⟩ := h
  exact ⟨u, l, e, s _ _ h, r⟩
theorem LoN.but {n : Nat} {p : Addr} {H H' : Hp} (b : But p H H') (w : Wl H p) {v : V} (h : LoN n H v) : LoN n H' v := by
  obtain ⟨u, l, e, h, r⟩ := h
  exact ⟨u, l, e, b _ _ (wl_tup w h) h, r⟩
theorem LotsT.loN {n : Nat} {H : Hp} : ∀ {xs : List V} {L : List (List Nat)}, LotsT H xs L → (∀ l ∈ L, LotOk n l) → ∀ x ∈ xs, LoN n H x
  | _, _, .nil, _, x, hx => nomatch hx
  | _, _, .cons a r, ok, x, hx => by
    rcases List.mem_cons.mp hx with rfl | hx
    · obtain ⟨t, e, h⟩ := a
      exact ⟨t, _, e, h, ok _ (List.mem_cons_self ..)⟩
    · exact r.loN (fun l hl => ok l (List.mem_cons_of_mem _ hl)) x hx
theorem LotsT.butW {p : Addr} {H H' : Hp} (b : But p H H') (w : Wl H p) {xs : List V} {L : List (List Nat)} (h : LotsT H xs L) : LotsT H' xs L := by
  induction h with
  | nil => exact .nil
  | cons a _ ih =>
    obtain ⟨t, e, ht⟩ := a
    exact .cons ⟨t, e, b _ _ (wl_tup w ht) ht⟩ ih
theorem lots_neW {p F : Addr} {H : Hp} {ls : List V} {L : List (List Nat)} (w : Wl H p) (h : H F = some (.lst ls)) (hl : LotsT H ls L) : F ≠ p := fun e => by
  obtain ⟨a, b, c, hw⟩ := w
  rw [e, hw] at h
  cases h
  obtain ⟨l, hL, t, e2, _⟩ := hl.get (i := 0) (x := .int a) rfl
  cases e2
section
variable {P : Program} {w : World} {K : PySem.W.Frag} {mg : Str → Option Value} {base : Heap} {f fG fW fA fD fY fK fN fL fP fI : Addr} {fd dG dW dA dD dY dK dN dL dP dI : FuncData}
theorem ok_right (F : L2.Fun K "_law_right" "_law_right" sRight f fd)
    (GG : FnOk P w K mg base CX0 3 fG dG ["pot", "most"] spGraph) (bG : L2.Binds K dG ["pot", "most"] []) (kG : PySem.W.keepIn K (.ref fG) = true) (mG : mg "_law_graph" = some (.ref fG))
    (GW : FnOk P w K mg base CX0 2 fW dW ["pot", "some"] (spPickW K)) (bW : L2.Binds K dW ["pot", "some"] []) (kW : PySem.W.keepIn K (.ref fW) = true) (mW : mg "_law_pick" = some (.ref fW))
    (GP : FnOk P w K mg base CX0 2 fW dW ["pot", "some"] (spPickL K))
    (GA : FnOk P w K mg base CX0 2 fA dA ["pot", "graph"] spArcs) (bA : L2.Binds K dA ["pot", "graph"] []) (kA : PySem.W.keepIn K (.ref fA) = true) (mA : mg "_law_arcs" = some (.ref fA))
    (GD : FnOk P w K mg base CX0 1 fD dD ["pot", "few"] spDraw) (bD : L2.Binds K dD ["pot", "few"] []) (kD : PySem.W.keepIn K (.ref fD) = true) (mD : mg "_law_draw" = some (.ref fD))
    (GY : FnOk P w K mg base CX0 3 fY dY ["pot", "graph"] spArcs) (bY : L2.Binds K dY ["pot", "graph"] []) (kY : PySem.W.keepIn K (.ref fY) = true) (mY : mg "_law_acyclic" = some (.ref fY))
    (GK : FnOk P w K mg base CX0 2 fK dK ["graph", "arcs"] (spLKers K)) (bK : L2.Binds K dK ["graph", "arcs"] []) (kK : PySem.W.keepIn K (.ref fK) = true) (mK : mg "_law_kernels" = some (.ref fK))
    (GN : FnOk P w K mg base CX0 8 fN dN ["graph", "orientation"] (spKers K)) (bN : L2.Binds K dN ["graph", "orientation"] []) (bNk : ∀ (s : Shared) (u v : Value), BindsTo s dN ⟨[], [(("orientation" : Str), u), (("graph" : Str), v)]⟩ ([("graph" : Str), ("orientation" : Str)].zip [v, u])) (kN : PySem.W.keepIn K (.ref fN) = true) (mN : mg "kernels" = some (.ref fN))
    (GL : FnOk P w K mg base CX0 1 fL dL ["many"] (spLots K)) (bL : L2.Binds K dL ["many"] []) (kL : PySem.W.keepIn K (.ref fL) = true) (mL : mg "_law_lots" = some (.ref fL))
    (GI : FnOk P w K mg base CX0 10 fI dI ["graph", "orientation", "lot"] (spIsKer K)) (bI : L2.Binds K dI ["graph", "orientation", "lot"] []) (bIk : ∀ (s : Shared) (t u v : Value), BindsTo s dI ⟨[], [(("lot" : Str), t), (("orientation" : Str), u), (("graph" : Str), v)]⟩ ([("graph" : Str), ("orientation" : Str), ("lot" : Str)].zip [v, u, t])) (kI : PySem.W.keepIn K (.ref fI) = true) (mI : mg "is_kernel" = some (.ref fI))
    (mre : mg "repr" = none) (mr : mg "range" = none) (mli : mg "list" = none) (mso : mg "sorted" = none) (mst : mg "set" = none) (mt : mg "tuple" = none) (ml : mg "len" = none) : FnG P w K mg base CX0 12 f fd ["pot"] spRight := by
  refine okG F scRight (fun vs H Q E h => ?_) (fun cdv A outer s0 H vs Q E gd hr h => ?_)
  · obtain ⟨p, rfl, _⟩ := h
    rfl
  obtain ⟨p, rfl, hW, q⟩ := h
  have gd' : (A.deeper (envOfC "_law_right" (defScope sRight) s0.heap.objs.size f cdv)).guards = some [] := gd
  have h1 := hr.mono (show 1 ≤ 11 by decide)
  have h2 := hr.mono (show 2 ≤ 11 by decide)
  have h3 := hr.mono (show 3 ≤ 11 by decide)
  have h8 := hr.mono (show 8 ≤ 11 by decide)
  have h10 := hr.mono (show 10 ≤ 11 by decide)
  refine ⟨_, pss_cons (ps_set (i := 1) scRight.nd rfl (.inl rfl) (pe_call GG h3 (by rfl) mG kG bG .nil pass0 (pa_cons (pv 0) (pa_cons (pe_call GW h2 (by rfl) mW kW bW .nil pass0 (pa_cons (pv 0) (pa_cons (pe_tup (pa_cons pe_int (pa_cons pe_int (pa_cons pe_int (pa_cons pe_int (pa_cons pe_int (pa_cons pe_int pa_nil))))))) pa_nil))) pa_nil))))
    (pss_cons (ps_par (by rfl) scRight.nd (i := 2) (j := 3) rfl rfl (by decide) rfl rfl (pa_cons (pe_call GA h2 (by rfl) mA kA bA .nil pass0 (pa_cons (pv 0) (pa_cons (pv 1) pa_nil))) (pa_cons (pe_call GD h1 (by rfl) mD kD bD .nil pass0 (pa_cons (pv 0) (pa_cons pe_int pa_nil))) pa_nil)) (by rfl))
    (pss_cons (ps_if (pt_cmpR op_eq (pv 3) pe_int (nomark _)) (pss_one (ps_set (i := 2) scRight.nd rfl (.inl rfl) (pe_call GY h3 (by rfl) mY kY bY .nil pass0 (pa_cons (pv 0) (pa_cons (pv 1) pa_nil))))) pss_nil)
    (pss_cons (ps_if (pt_cmpR op_gt (pv 3) pe_int (nomark _)) (pss_cons (ps_set (i := 4) scRight.nd rfl (.inl rfl) (pe_lst pa_nil))
      (pss_cons (ps_for PassesOwn.never rfl (pi_tup (pv 2)) (pg_name (i := 5) scRight.nd rfl (.inl rfl))
        (pss_one (ps_set (i := 4) scRight.nd rfl (.inl rfl) (pe_op op_cat (pv 4) (pe_ifExp (PW.pt (pw_or (pt_cmpR op_eq (pv 3) pe_int (nomark _)) (pw_or1 (pt_cmpR op_gt (pe_call GD h1 (by rfl) mD kD bD .nil pass0 (pa_cons (pv 0) (pa_cons pe_int pa_nil))) pe_int (nomark _))))) (pe_lst (pa_cons (pv 5) pa_nil)) (pe_lst pa_nil))))))
      (pss_one (ps_set (i := 2) scRight.nd rfl (.inl rfl) (pe_callTy call_tuple_of (by rfl) mt (by decide +kernel) (pa_cons (pe_callB (cr_sortedB rfl hr.units) (by rfl) mso (by decide +kernel) (pa_cons (pe_callTy (cr_setB rfl hr.units) (by rfl) mst (by decide +kernel) (pa_cons (pe_op op_cat (pe_callTy call_list_of (by rfl) mli (by decide +kernel) (pa_cons (pv 2) pa_nil))
        (pe_lc (own := [("edge", 5)]) (g := gName 5) (tt := tYes) rfl scRight.nd (pi_list (pv 4)) (blkOk_by (N := nRight) (sc := defScope sRight) (by decide +kernel)) (fun _ _ _ _ _ => pg_name (i := 5) scRight.nd rfl (Or.inl rfl)) (fun _ _ _ _ _ => pts_nil) (fun _ _ _ _ _ => pe_revK (K := K) (pv 5)))) pa_nil)) pa_nil)) pa_nil)))))) pss_nil)
    (pss_cons (ps_set (i := 6) scRight.nd rfl (.inl rfl) (pe_call GK h2 (by rfl) mK kK bK .nil pass0 (pa_cons (pv 1) (pa_cons (pv 2) pa_nil))))
    (pss_cons (ps_if (pt_cmpR op_ne (pe_callB (call_repr gd' hr.units) (by rfl) mre (by decide +kernel) (pa_cons (pe_lst (pa_cons (pe_call GN h8 (by rfl) mN kN bN .nil pass0 (pa_cons (pv 1) (pa_cons (pv 2) pa_nil))) (pa_cons (pe_kw2 (E := fun _ => E0) GN h8 (by rfl) mN kN bNk (fun _ => passAt0) (pk_cons (pv 2) (pk_cons (pv 1) pk_nil))) pa_nil))) pa_nil)) (pe_callB (call_repr gd' hr.units) (by rfl) mre (by decide +kernel) (pa_cons (pe_lst (pa_cons (pv 6) (pa_cons (pv 6) pa_nil))) pa_nil)) (nomark _)) (pss_one (ps_ret pe_bl)) pss_nil)
    (pss_cons (ps_set (i := 7) scRight.nd rfl (.inl rfl) (pe_call GL h1 (by rfl) mL kL bL .nil pass0 (pa_cons (pe_ix (r := rIxT K) ix_tup (pv 1) pe_int (fun _ _ => rfl)) pa_nil)))
    (pss_cons (ps_set (i := 8) scRight.nd rfl (.inl rfl) (pe_ifExp (pt_cmpR op_le (pe_callB call_len_seq (by rfl) ml PySem.boot_len (pa_cons (pv 7) pa_nil)) pe_int (nomark _)) (pv 7) (pe_callTy call_list_of (by rfl) mli (by decide +kernel) (pa_cons (pv 6) pa_nil))))
    (pss_cons (ps_for PassesOwn.never rfl (pi_range1 rfl mr (pa_cons pe_int pa_nil)) (pg_name (i := 9) scRight.nd rfl (.inl rfl))
      (pss_one (ps_set (i := 8) scRight.nd rfl (.inl rfl) (pe_op op_cat (pv 8) (pe_lst (pa_cons (pe_call GP h2 (by rfl) mW kW bW .nil pass0 (pa_cons (pv 0) (pa_cons (pv 7) pa_nil))) pa_nil))))))
    (pss_cons (ps_for PassesOwn.never rfl (pi_list (pv 8)) (pg_name (i := 10) scRight.nd rfl (.inl rfl))
      (pss_cons (ps_set (i := 11) scRight.nd rfl (.inl rfl) (pe_lst (pa_cons (pe_call GI h10 (by rfl) mI kI bI .nil pass0 (pa_cons (pv 1) (pa_cons (pv 2) (pa_cons (pv 10) pa_nil)))) (pa_cons (pe_kw3 (E := fun _ => E0) GI h10 (by rfl) mI kI bIk (fun _ => passAt0) (pk_cons (pv 10) (pk_cons (pv 2) (pk_cons (pv 1) pk_nil)))) pa_nil))))
      (pss_one (ps_if (pt_cmpR op_ne (pe_callB (call_repr gd' hr.units) (by rfl) mre (by decide +kernel) (pa_cons (pv 11) pa_nil)) (pe_callB (call_repr gd' hr.units) (by rfl) mre (by decide +kernel) (pa_cons (pe_lst (pa_cons (pe_cmpR (r := rInLt K) (op_inLt hr.units) (pv 10) (pv 6) (by rfl)) (pa_cons (pe_cmpR (r := rInLt K) (op_inLt hr.units) (pv 10) (pv 6) (by rfl)) pa_nil))) pa_nil)) (nomark _)) (pss_one (ps_ret pe_bl)) pss_nil))))
    (pss_one (ps_ret pe_bl))))))))))), ?_⟩
  have line : ∀ k, k ≤ 1000 → k ≤ sizeLine := fun k hk => small hk
  have big : 200000 ≤ sizeLine := by rw [sizeLine_eq]; decide
  -- graph
  refine ⟨_, rfl, _, rfl, line 6 (by decide), fun tq ntq => ?_⟩
  have stq := same_new ntq (.tup [V.int 7, V.int 7, V.int 7, V.int 7, V.int 8, V.int 9])
  have w0 := hW.same stq
  refine ⟨p, tq, _, rfl, w0, w0.off (SqT.of upd_same), by simp, by simp, fun j mv H1 hj b1 w1 => ?_⟩
  obtain ⟨most, rfl, m7, m9⟩ : ∃ m : Nat, mv = .int (m : Int) ∧ 7 ≤ m ∧ m ≤ 9 := by
    have m := List.mem_of_getElem? hj
    simp only [List.mem_cons, List.mem_nil_iff, or_false] at m
    rcases m with rfl | rfl | rfl | rfl | rfl | rfl
    · exact ⟨7, rfl, by decide, by decide⟩
    · exact ⟨7, rfl, by decide, by decide⟩
    · exact ⟨7, rfl, by decide, by decide⟩
    · exact ⟨7, rfl, by decide, by decide⟩
    · exact ⟨8, rfl, by decide, by decide⟩
    · exact ⟨9, rfl, by decide, by decide⟩
  refine ⟨p, most, rfl, w1, m7, m9, fun x n es H2 b2 w2 _ hx g => ?_⟩
  have b02 := (But.of stq).trans (b1.trans b2)
  -- arcs, way
  refine ⟨_, rfl, _, rfl, p, x, n, es, rfl, w2, hx, g, fun A0 xs0 as0 H3 b3 w3 hA0 hp0 up0 ok0 => ?_⟩
  refine ⟨_, rfl, p, 4, rfl, w3, by decide, by decide, fun way H4 _ _ b4 w4 => ⟨_, _, rfl, ?_⟩⟩
  have n9 := g.n9
  have few := g.few
  have hx4 := hx.but (b3.trans b4) w2
  have b04 := b02.trans (b3.trans b4)
  have hA04 := b4 _ _ (wl_tup w3 hA0) hA0
  have hp04 := hp0.but b4 w3
  clear hA0 hp0 hx b1 b2 b3 b4 stq w0 hj b02
  -- way == 0
  refine ⟨_, rfl, rfl, _, rfl, ?_⟩
  refine ifs_join (σ := [some (.ref p), some x, some (.ref A0), some (.int way), none, none, none, none, none, none, none, none]) (fun σ' H' => ∃ (A : Addr) (xs : List V) (as : List E2), σ' = [some (.ref p), some x, some (.ref A), some (.int way), none, none, none, none, none, none, none, none] ∧ But p H4 H' ∧ Wl H' p ∧ H' A = some (.tup xs) ∧ PairsT H' xs as ∧ as.Pairwise ahead ∧ ArcsOk es as) ?_ (fun c D' k => ?_) (fun c D' k => k _ _ ⟨A0, xs0, as0, rfl, But.refl p H4, w4, hA04, hp04, up0, ok0⟩)
  rotate_left 1
  · exact ⟨_, rfl, _, rfl, p, x, n, es, rfl, w4, hx4, g, fun A xs as H5 b5 w5 hA hp up ok => k _ _ ⟨A, xs, as, rfl, b5, w5, hA, hp, up, ok⟩⟩
  rintro σ' H5 ⟨A1, xs1, as1, rfl, b5, w5, hA1, hp1, up1, ok1⟩
  have hx5 := hx4.but b5 w4
  have b05 := b04.trans b5
  clear hx4 b04 b5 hA04 hp04 up0 ok0
  -- way > 1
  refine ⟨_, rfl, _, _, rfl, rfl, _, rfl, ?_⟩
  refine ifs_join (σ := [some (.ref p), some x, some (.ref A1), some (.int way), none, none, none, none, none, none, none, none]) (fun σ' H' => ∃ (A : Addr) (xs : List V) (as : List E2) (s4 s5 : Option V), σ' = [some (.ref p), some x, some (.ref A), some (.int way), s4, s5, none, none, none, none, none, none] ∧ But p H5 H' ∧ Wl H' p ∧ H' A = some (.tup xs) ∧ PairsT H' xs as ∧ as.Pairwise ahead ∧ ArcsOk es as) ?_ (fun c D' k => ?_) (fun c D' k => k _ _ ⟨A1, xs1, as1, none, none, rfl, But.refl p H5, w5, hA1, hp1, up1, ok1⟩)
  rotate_left 1
  · refine ⟨line 0 (by decide), fun R0 nR0 => ?_⟩
    have sR := same_new nR0 (.lst [])
    have hR0 := upd_same (H := H5) (a := R0) (o := .lst [])
    have R0p := w5.ne nR0
    generalize upd H5 R0 (.lst []) = K0 at sR hR0 ⊢
    have wk0 := w5.same sR
    have hA1' := sR _ _ hA1
    have hp1' := hp1.same sR
    have len1 := PairsT.len hp1
    have okf := ok1.few
    refine ⟨_, rfl, A1, rfl, ⟨_, SqT.of hA1'⟩, for_it (walk_tup (xs := xs1)) (fun i σ H' => ∃ (R : Addr) (zs : List V) (ds : List E2) (s5 : Option V), σ = [some (.ref p), some x, some (.ref A1), some (.int way), some (.ref R), s5, none, none, none, none, none, none] ∧ But p K0 H' ∧ Wl H' p ∧ R ≠ p ∧ H' R = some (.lst zs) ∧ PairsT H' zs ds ∧ (∀ q ∈ ds, q ∈ as1) ∧ ds.length ≤ i)
      ⟨R0, [], [], none, rfl, But.refl p K0, wk0, R0p, hR0, .nil, (fun q h => nomatch h), Nat.le_refl _⟩ (fun i σ H' _ ⟨_, _, _, _, _, b, _⟩ => SqT.of (b _ _ (wl_tup wk0 hA1') hA1')) ?_ ?_⟩
    · rintro i v σ K1' K1 li ⟨R, zs, ds, s5, rfl, b1, w1, Rp, hR, hz, sub, ld⟩ ⟨rfl, hi⟩
      obtain ⟨e, he, pe⟩ := PairsT.getO (hp1'.but b1 wk0) hi
      have lz := PairsT.len hz
      have em := List.mem_of_getElem? he
      have li2 : i < as1.length := by rw [← len1]; exact li
      refine ⟨_, rfl, tIf_any (Pp := fun H' => But p K1 H' ∧ Wl H' p) (fun b K2 ⟨b2, w2⟩ => ?_) (fun Q' k => ?_)⟩
      rotate_left 1
      · refine ⟨_, rfl, rfl, _, rfl, ?_⟩
        refine iteB (fun c => ?_) (fun c => ?_)
        · exact k _ _ ⟨But.refl p K1, w1⟩
        · exact ⟨_, rfl, p, 4, rfl, w1, by decide, by decide, fun d K2 _ _ b2 w2 => ⟨_, _, rfl, rfl, _, rfl, k _ _ ⟨b2, w2⟩⟩⟩
      have hR2 := b2 _ _ Rp hR
      have hz2 := hz.but b2 w1
      obtain ⟨u, rfl, hu⟩ := pe
      have hu2 := b2 _ _ (wl_tup w1 hu) hu
      refine iteB (fun c => ?_) (fun c => ?_)
      · refine ⟨_, rfl, line 1 (by decide), fun Y nY => ?_⟩
        have sY := same_new nY (.lst [.ref u])
        have hY := upd_same (H := K2) (a := Y) (o := .lst [.ref u])
        generalize upd K2 Y (.lst [.ref u]) = K3 at sY hY ⊢
        have w3 := w2.same sY
        refine ⟨R, Y, _, _, rfl, rfl, sY _ _ hR2, hY, line _ (by rw [List.length_singleton]; omega), fun Z nZ => ?_⟩
        have sZ := same_new nZ (.lst (zs ++ [.ref u]))
        refine ⟨Z, zs ++ [.ref u], ds ++ [e], _, rfl, b1.trans (b2.trans (But.of (sY.trans sZ))), w3.same sZ, w3.ne nZ, upd_same, (hz2.same (sY.trans sZ)).append (.cons ⟨u, rfl, (sY.trans sZ) _ _ hu2⟩ .nil), fun q hq => ?_, by rw [List.length_append, List.length_singleton]; omega⟩
        rcases List.mem_append.mp hq with h | h
        · exact sub q h
        · rw [List.mem_singleton.mp h]
          exact em
      · refine ⟨line 0 (by decide), fun Y nY => ?_⟩
        have sY := same_new nY (.lst [])
        have hY := upd_same (H := K2) (a := Y) (o := .lst [])
        generalize upd K2 Y (.lst []) = K3 at sY hY ⊢
        have w3 := w2.same sY
        refine ⟨R, Y, _, _, rfl, rfl, sY _ _ hR2, hY, line _ (by rw [List.length_nil]; omega), fun Z nZ => ?_⟩
        have sZ := same_new nZ (.lst (zs ++ []))
        refine ⟨Z, zs ++ [], ds, _, rfl, b1.trans (b2.trans (But.of (sY.trans sZ))), w3.same sZ, w3.ne nZ, upd_same, by rw [List.append_nil] at sZ ⊢; exact hz2.same (sY.trans sZ), sub, by omega⟩
    · rintro σ K1 ⟨R, zs, ds, s5, rfl, b1, w1, Rp, hR, hz, sub, ld⟩
      have hAk := b1 _ _ (wl_tup wk0 hA1') hA1'
      have hpk := hp1'.but b1 wk0
      have lz := PairsT.len hz
      -- list(arcs)
      refine ⟨_, rfl, A1, _, rfl, .inr (SqT.of hAk), fun LA nLA => ?_⟩
      have sLA := same_new nLA (.lst xs1)
      have hLA := upd_same (H := K1) (a := LA) (o := .lst xs1)
      generalize upd K1 LA (.lst xs1) = K2 at sLA hLA ⊢
      have hR2 := sLA _ _ hR
      have hz2 := hz.same sLA
      -- the arcs turned about
      refine ⟨_, rfl, R, rfl, ⟨_, SqL.of hR2⟩, fun D nD => lo_it (walk_list (xs := zs)) (fun i H' => Same K2 H' ∧ ∃ ys, H' D = some (.lst ys) ∧ PairsT H' ys ((ds.take i).map sw)) ⟨same_new nD _, [], upd_same, .nil⟩ (fun i H' _ ⟨s, _⟩ => SqL.of (s _ _ hR2)) ?_ ?_⟩
      · rintro i v _ K3 li ⟨s3, ys, hD, pys⟩ ⟨rfl, hi⟩
        obtain ⟨e, he, u, rfl, hu⟩ := PairsT.getO (hz2.same s3) hi
        have ly := PairsT.len pys
        rw [List.length_map, List.length_take] at ly
        refine ⟨rfl, _, rfl, u, _, rfl, SqT.of hu, fun q nq => ?_⟩
        have sq := same_new nq (.tup [V.int (e.1 : Int), V.int (e.2 : Int)].reverse)
        refine ⟨ys, sq _ _ hD, small1000 (by omega), same_put (s3.trans sq) nD, ys ++ [.ref q], upd_same, ?_⟩
        rw [take_succ he, List.map_append]
        refine ((pys.same sq).put (sq _ _ hD)).append (.cons ⟨q, rfl, ?_⟩ .nil)
        rw [upd_ne (fun z => by rw [← z] at hD; rw [hD] at nq; cases nq)]
        exact upd_same
      · rintro K3 ⟨s3, ys, hD, pys⟩
        rw [lz, List.take_length] at pys
        have hLA3 := s3 _ _ hLA
        have hp3 := (hpk.same sLA).same s3
        have ly := PairsT.len pys
        rw [List.length_map] at ly
        refine ⟨LA, D, _, _, rfl, rfl, hLA3, hD, line _ (by omega), fun Z nZ => ?_⟩
        have sZ := same_new nZ (.lst (xs1 ++ ys))
        have hZ := upd_same (H := K3) (a := Z) (o := .lst (xs1 ++ ys))
        generalize upd K3 Z (.lst (xs1 ++ ys)) = K4 at sZ hZ ⊢
        have pb := (hp3.same sZ).append (pys.same sZ)
        have w4 := ((w1.same sLA).same s3).same sZ
        have lt1 := arcs_ltO g ok1
        have small' : ∀ r ∈ as1 ++ ds.map sw, r.1 < n ∧ r.2 < n := fun r hr => by
          rcases List.mem_append.mp hr with h | h
          · exact lt1 r h
          · obtain ⟨q, hq, rfl⟩ := List.mem_map.mp h
            exact ⟨(lt1 q (sub q hq)).2, (lt1 q (sub q hq)).1⟩
        have sub' : ∀ q ∈ ds.map sw, q ∈ as1 ∨ sw q ∈ as1 := fun q hq => by
          obtain ⟨r, hr, rfl⟩ := List.mem_map.mp hq
          exact .inr (sub r hr)
        have sub3 : ∀ r ∈ as1 ++ ds.map sw, r ∈ es ++ es.map sw := fun r hr => by
          have z : r ∈ es ∨ sw r ∈ es := by
            rcases List.mem_append.mp hr with h | h
            · exact ok1.sub r h
            · rcases sub' r h with h | h
              · exact ok1.sub r h
              · exact (ok1.sub _ h).symm
          exact List.mem_append.mpr (z.imp id fun h => List.mem_map.mpr ⟨sw r, h, rfl⟩)
        obtain ⟨ks, e1, e2, e3⟩ := pairs_ksT pb
        have form : ∀ p ∈ ks, ∃ r ∈ as1 ++ ds.map sw, p.2 = [(r.1 : Int), (r.2 : Int)] := fun p hp => by
          have z : p.2 ∈ ks.map (·.2) := List.mem_map.mpr ⟨p, hp, rfl⟩
          rw [e2] at z
          obtain ⟨r, h1, h2⟩ := List.mem_map.mp z
          exact ⟨r, h1, h2.symm⟩
        refine ⟨Z, ks, rfl, by rw [← e1]; exact SqL.of hZ, fun p hp => SqT.of (e3 p hp), fun M hM nd => ?_, fun a LL na subL sup => ?_⟩
        · have z := sub_few nd (m := (es ++ es.map sw).map fun q => [(q.1 : Int), (q.2 : Int)]) fun y hy => by
            obtain ⟨p, hp, rfl⟩ := List.mem_map.mp hy
            obtain ⟨r, hr, e⟩ := form p (hM p hp)
            rw [e]
            exact List.mem_map.mpr ⟨r, sub3 r hr, rfl⟩
          rw [List.length_map, List.length_map, List.length_append, List.length_map] at z
          omega
        refine ⟨a, LL, rfl, upd_same, fun p hp => SqT.of ((same_new na _) _ _ (e3 p (subL p hp))), fun p hp e => ?_, fun L' b perm nd few' pw nb => ?_⟩
        · obtain ⟨r, hr, e'⟩ := form p (subL p hp)
          rw [e] at e'
          cases e'
        generalize BgO _ _ a LL = BO at nb ⊢
        have m' : ∀ p ∈ L', p ∈ ks := fun p hp => subL p (perm.mem_iff.mp hp)
        have back : ∀ p ∈ L', p.2 = [((toEO p.2).1 : Int), ((toEO p.2).2 : Int)] ∧ toEO p.2 ∈ as1 ++ ds.map sw := fun p hp => by
          obtain ⟨r, hr, e⟩ := form p (m' p hp)
          rw [e, toEO_of]
          exact ⟨rfl, hr⟩
        have s45 := (same_new na BO).trans (same_new nb (.lst (L'.map fun q => V.ref q.1)))
        have hb := upd_same (H := upd K4 a BO) (a := b) (o := .lst (L'.map fun q => V.ref q.1))
        have pw2 := ks_pairsT (fun p hp => s45 _ _ (e3 p (m' p hp))) fun p hp => (back p hp).1
        generalize upd (upd K4 a BO) b (.lst (L'.map fun q => V.ref q.1)) = K5 at s45 hb pw2 ⊢
        have upw : (L'.map fun p => toEO p.2).Pairwise ahead := by
          rw [List.pairwise_map]
          refine (pw.and (List.pairwise_map.mp nd)).imp_of_mem ?_
          intro p r hp hr ⟨le, neq⟩
          have c1 := (back p hp).1
          have c2 := (back r hr).1
          rw [c1, c2] at le
          exact lex_ahead le fun z => neq (by rw [c1, c2, z])
        have mw : ∀ q, q ∈ (L'.map fun p => toEO p.2) ↔ q ∈ as1 ++ ds.map sw := fun r => by
          constructor
          · intro hr
            obtain ⟨p, hp, rfl⟩ := List.mem_map.mp hr
            exact (back p hp).2
          · intro hr
            have z : [(r.1 : Int), (r.2 : Int)] ∈ ks.map (·.2) := by
              rw [e2]
              exact List.mem_map.mpr ⟨r, hr, rfl⟩
            obtain ⟨p, hp, ep⟩ := List.mem_map.mp z
            obtain ⟨p2, hp2, ep2⟩ := List.mem_map.mp (sup p hp)
            refine List.mem_map.mpr ⟨p2, perm.mem_iff.mpr hp2, ?_⟩
            rw [ep2, ep, toEO_of]
        refine ⟨b, _, rfl, .inl ⟨SqL.of hb, fun T nT => ?_⟩⟩
        have sT := same_new nT (.tup (L'.map fun q => V.ref q.1))
        have sAll := sLA.trans (s3.trans (sZ.trans (s45.trans sT)))
        exact k _ _ ⟨T, _, _, _, _, rfl, (But.of sR).trans (b1.trans (But.of sAll)), w1.same sAll, upd_same, pw2.same sT, upw, more_arcs g ok1 sub' upw mw⟩
  rintro σ' H6 ⟨A, xs, as, s4', s5', rfl, b6, w6, hA, hp, up, ok⟩
  have hx6 := hx5.but b6 w5
  have b06 := b05.trans b6
  clear hx5 b05 b6 hA1 hp1 up1 ok1
  -- due
  refine ⟨_, rfl, _, rfl, x, A, n, es, as, xs, rfl, hx6.at, g, SqT.of hA, hp.at, fun td zs L H7 s7 htd hzs l512 kd => ?_⟩
  have hx7 := hx6.same s7
  have hA7 := s7 _ _ hA
  have hp7 := hp.same s7
  have w7 := w6.same s7
  have oa : ∀ {H' : Hp}, Same H7 H' → OrAt K H' (.ref A) es as := fun s => ⟨⟨A, xs, rfl, SqT.of (s _ _ hA7), (hp7.same s).at⟩, up, ok⟩
  have okL : ∀ l ∈ L, LotOk n l := fun l hl => ((kd.2 l).mp hl).1
  obtain ⟨⟨f1, f2, f3⟩, nd⟩ := Ltwo_lots n9 okL l512
  -- kernels
  refine ⟨_, rfl, _, rfl, x, .ref A, n, es, as, rfl, hx7.at, g, oa (Same.refl _), fun t1 zs1 L1 H8 s8 ht1 hz1 _ k1 => ?_⟩
  obtain rfl := k1.uniq kd
  refine ⟨_, rfl, _, rfl, _, _, rfl, x, .ref A, n, es, as, rfl, (hx7.same s8).at, g, oa s8, fun t2 zs2 L2 H9 s9 ht2 hz2 _ k2 => ?_⟩
  obtain rfl := k2.uniq kd
  refine ⟨line 2 (by decide), fun J nJ => ?_⟩
  have sJ := same_new nJ (.lst [.ref t1, .ref t2])
  have hJ := upd_same (H := H9) (a := J) (o := .lst [.ref t1, .ref t2])
  have d1 : Dd K (upd H9 J (.lst [.ref t1, .ref t2])) (.ref J) (.list [.tuple (lotsD L2), .tuple (lotsD L2)]) := .dat (.lst (SqL.of hJ) (.cons (.tup (SqT.of ((s9.trans sJ) _ _ ht1)) (lots_dp (hz1.same (s9.trans sJ)))) (.cons (.tup (SqT.of (sJ _ _ ht2)) (lots_dp (hz2.same sJ))) .nil))) nd
  generalize upd H9 J (.lst [.ref t1, .ref t2]) = H10 at sJ d1 ⊢
  refine ⟨.ref J, _, rfl, d1, f1, f2, f3, ?_⟩
  have s710 := s8.trans (s9.trans sJ)
  refine ⟨_, rfl, _, rfl, line 2 (by decide), fun J2 nJ2 => ?_⟩
  have sJ2 := same_new nJ2 (.lst [.ref td, .ref td])
  have hJ2 := upd_same (H := H10) (a := J2) (o := .lst [.ref td, .ref td])
  have s711 := s710.trans sJ2
  have d2 : Dd K (upd H10 J2 (.lst [.ref td, .ref td])) (.ref J2) (.list [.tuple (lotsD L2), .tuple (lotsD L2)]) := .dat (.lst (SqL.of hJ2) (.cons (.tup (SqT.of (s711 _ _ htd)) (lots_dp (hzs.same s711))) (.cons (.tup (SqT.of (s711 _ _ htd)) (lots_dp (hzs.same s711))) .nil))) nd
  generalize upd H10 J2 (.lst [.ref td, .ref td]) = H11 at sJ2 d2 s711 ⊢
  refine ⟨.ref J2, _, rfl, d2, f1, f2, f3, rfl, _, rfl, ?_⟩
  rw [decide_eq_true rfl]
  refine iteF ?_
  clear d1 d2 hJ hJ2 f1 f2 f3 nd ht1 hz1 ht2 hz2 s8 s9 sJ sJ2 s710 nJ nJ2
  have hx11 := hx7.same s711
  have hA11 := s711 _ _ hA7
  have hp11 := hp7.same s711
  have htd11 := s711 _ _ htd
  have hzs11 := hzs.same s711
  have w11 := w7.same s711
  have b011 := b06.trans ((But.of s7).trans (But.of s711))
  clear oa hx7 hA7 hp7 htd hzs w7 s7 s711 hx6 hA hp b06
  -- lots
  obtain ⟨tg, eg, xg, rfl, htg, heg, hxg⟩ := id hx11
  have a0 : atI [V.int (n : Int), V.ref eg] 0 = some (.int (n : Int)) := atI_nat (j := 0) rfl
  refine ⟨_, rfl, tg, _, 0, _, rfl, rfl, SqT.of htg, a0, n, rfl, n9, fun F0 ls M H12 s12 hF0 hls al len => ?_⟩
  have l5 : M.length ≤ 512 := by rw [len]; exact Nat.le_trans (Nat.pow_le_pow_right (by decide) n9) (by decide)
  have l1 : 0 < M.length := by rw [len]; exact Nat.pos_of_ne_zero (by simp)
  have ll := hls.len
  have okM : ∀ l ∈ M, LotOk n l := fun l hl => (al.2 l).mp hl
  have w12 := w11.same s12
  have F0p := lots_neW w12 hF0 hls
  have htd12 := s12 _ _ htd11
  have hzs12 := hzs11.same s12
  have lz12 := hzs12.len
  -- some
  refine ⟨_, rfl, F0, _, rfl, .inl (SqL.of hF0), _, _, rfl, rfl, _, rfl, ?_⟩
  refine ite_joinG (R := fun v H' => ∃ (F : Addr) (ws : List V), v = .ref F ∧ Same H12 H' ∧ H' F = some (.lst ws) ∧ (∀ z ∈ ws, LoN n H' z) ∧ ws.length ≤ 512) (fun v H13 hv => ?_) (fun c Q' k => ⟨_, rfl, k _ _ ⟨F0, ls, rfl, Same.refl _, hF0, hls.loN okM, by omega⟩⟩) (fun c Q' k => ?_)
  rotate_left 1
  · refine ⟨_, rfl, td, _, rfl, .inr (SqT.of htd12), fun l nl => ?_⟩
    exact k _ _ ⟨l, zs, rfl, same_new nl _, upd_same, fun z hz => (hzs12.loN okL z hz).same (same_new nl _), by omega⟩
  obtain ⟨F1, ws1, rfl, s13, hF1, ok1, lw1⟩ := hv
  have w13 := w12.same s13
  have sA := s12.trans s13
  have b013 := b011.trans (But.of sA)
  have hx13 := hx11.same sA
  have hA13 := sA _ _ hA11
  have hp13 := hp11.same sA
  have htd13 := sA _ _ htd11
  have hzs13 := hzs11.same sA
  have hF013 := s13 _ _ hF0
  have hls13 := hls.same s13
  have F1p : F1 ≠ p := fun e => by
    obtain ⟨a, b, c, hw⟩ := w13
    rw [e, hw] at hF1
    cases hF1
    obtain ⟨u, l, e2, _⟩ := ok1 (.int a) (by simp)
    cases e2
  clear htg heg hxg hF0 hls hzs12 htd12 w12 s12 s13 sA hx11 hA11 hp11 htd11 hzs11 w11 b011
  -- more of them
  refine ⟨12, rfl, by decide, by decide, for_range (lo := 0) (n := 12) (fun i σ H' => ∃ (F : Addr) (ws : List V) (s9 : Option V), σ = [some (.ref p), some (.ref tg), some (.ref A), some (.int way), s4', s5', some (.ref td), some (.ref F0), some (.ref F), s9, none, none] ∧ But p H13 H' ∧ Wl H' p ∧ F ≠ p ∧ H' F = some (.lst ws) ∧ (∀ z ∈ ws, LoN n H' z) ∧ ws.length ≤ 512 + i)
    ⟨F1, ws1, none, rfl, But.refl p H13, w13, F1p, hF1, ok1, lw1⟩ ?_ ?_⟩
  · rintro i σ H14 li ⟨F, ws, s9, rfl, b14, w14, Fp, hF, okw, lw⟩
    refine ⟨_, rfl, _, rfl, _, rfl, p, F0, ls, rfl, w14, b14 _ _ F0p hF013, F0p, by omega, by omega, fun j v H15 hj b15 w15 => ?_⟩
    have okv : LoN n H15 v := (hls13.loN okM v (List.mem_of_getElem? hj)).but (b14.trans b15) w13
    refine ⟨line 1 (by decide), fun Y nY => ?_⟩
    have sY := same_new nY (.lst [v])
    have hY := upd_same (H := H15) (a := Y) (o := .lst [v])
    generalize upd H15 Y (.lst [v]) = H16 at sY hY ⊢
    have w16 := w15.same sY
    refine ⟨F, Y, _, _, rfl, rfl, sY _ _ (b15 _ _ Fp hF), hY, line _ (by rw [List.length_singleton]; omega), fun Z nZ => ?_⟩
    have sZ := same_new nZ (.lst (ws ++ [v]))
    refine ⟨Z, ws ++ [v], _, rfl, b14.trans (b15.trans (But.of (sY.trans sZ))), w16.same sZ, w16.ne nZ, upd_same, fun z hz => ?_, by rw [List.length_append, List.length_singleton]; omega⟩
    rcases List.mem_append.mp hz with h | h
    · exact ((okw z h).but b15 w14).same (sY.trans sZ)
    · rw [List.mem_singleton.mp h]
      exact okv.same (sY.trans sZ)
  rintro σ H14 ⟨F, ws, s9, rfl, b14, w14, Fp, hF, okw, lw⟩
  have hx14 := hx13.but b14 w13
  have hA14 := b14 _ _ (wl_tup w13 hA13) hA13
  have hp14 := hp13.but b14 w13
  have htd14 := b14 _ _ (wl_tup w13 htd13) htd13
  have hzs14 := hzs13.butW b14 w13
  have b014 := b013.trans b14
  clear hx13 hA13 hp13 htd13 hzs13 b013 b14 w13 hF013 hls13 hF1 ok1
  -- each of them
  refine ⟨_, rfl, F, rfl, ⟨_, SqL.of hF⟩, for_it (walk_list (xs := ws)) (fun i σ H' => ∃ (s10 s11 : Option V), σ = [some (.ref p), some (.ref tg), some (.ref A), some (.int way), s4', s5', some (.ref td), some (.ref F0), some (.ref F), s9, s10, s11] ∧ Same H14 H') ⟨none, none, rfl, Same.refl _⟩ (fun i σ H' _ ⟨_, _, _, s⟩ => SqL.of (s _ _ hF)) ?_ ?_⟩
  rotate_left 1
  · rintro σ H15 ⟨_, _, rfl, s15⟩
    exact q _ (b014.trans (But.of s15))
  rintro i v σ H15' H15 li ⟨_, _, rfl, s15⟩ ⟨rfl, hi⟩
  obtain ⟨u, l, rfl, hu, lo⟩ := (okw v (List.mem_of_getElem? hi)).same s15
  have oa : ∀ {H' : Hp}, Same H15 H' → OrAt K H' (.ref A) es as := fun s => ⟨⟨A, xs, rfl, SqT.of ((s15.trans s) _ _ hA14), (hp14.same (s15.trans s)).at⟩, up, ok⟩
  refine ⟨_, rfl, _, rfl, _, rfl, .ref tg, .ref A, .ref u, n, es, as, l, rfl, (hx14.same s15).at, g, oa (Same.refl _), ⟨u, rfl, SqT.of hu⟩, lo, fun H16 s16 => ?_⟩
  refine ⟨_, rfl, _, rfl, _, rfl, _, _, _, rfl, .ref tg, .ref A, .ref u, n, es, as, l, rfl, (hx14.same (s15.trans s16)).at, g, oa s16, ⟨u, rfl, SqT.of (s16 _ _ hu)⟩, lo, fun H17 s17 => ?_⟩
  have ek : isKerB n es as l = decide (l ∈ L2) := by
    rw [Bool.eq_iff_iff, isKerB_iff lo, decide_eq_true_eq]
    exact (kd.2 l).symm
  rw [ek]
  refine ⟨line 2 (by decide), fun J nJ => ?_⟩
  have sJ := same_new nJ (.lst [.bl (decide (l ∈ L2)), .bl (decide (l ∈ L2))])
  have hJ := upd_same (H := H17) (a := J) (o := .lst [.bl (decide (l ∈ L2)), .bl (decide (l ∈ L2))])
  have d1 := Ltwo_dd (K := K) hJ
  generalize upd H17 J (.lst [.bl (decide (l ∈ L2)), .bl (decide (l ∈ L2))]) = H18 at sJ d1 ⊢
  obtain ⟨⟨f1, f2, f3⟩, _⟩ := Ltwo_fine (decide (l ∈ L2)) (decide (l ∈ L2))
  have s1518 := s16.trans (s17.trans sJ)
  have hu18 := s1518 _ _ hu
  have htd18 := (s15.trans s1518) _ _ htd14
  have hz18 := lots_dp (K := K) (hzs14.same (s15.trans s1518))
  refine ⟨_, rfl, .ref J, _, rfl, d1, f1, f2, f3, ?_⟩
  refine ⟨_, rfl, _, rfl, u, td, zs, l, L2, rfl, rfl, SqT.of hu18, SqT.of htd18, hz18, ?_⟩
  refine ⟨_, rfl, _, rfl, u, td, zs, l, L2, rfl, rfl, SqT.of hu18, SqT.of htd18, hz18, ?_⟩
  refine ⟨line 2 (by decide), fun J2 nJ2 => ?_⟩
  have sJ2 := same_new nJ2 (.lst [.bl (decide (l ∈ L2)), .bl (decide (l ∈ L2))])
  have d2 := Ltwo_dd (K := K) (upd_same (H := H18) (a := J2) (o := .lst [.bl (decide (l ∈ L2)), .bl (decide (l ∈ L2))]))
  refine ⟨.ref J2, _, rfl, d2, f1, f2, f3, rfl, _, rfl, ?_⟩
  rw [decide_eq_true rfl]
  exact iteF ⟨_, _, rfl, s15.trans (s1518.trans sJ2)⟩
end
end My

set_option maxHeartbeats 4000000
/-! law, of the second family: a few turns, each right. -/
namespace My
open PySem PySem.Spec PyProof.Rows L2
abbrev sLaw : Stmt := top 53
theorem scLaw : FnScope ["script", "turn"] ["script"] (defScope sLaw) := ⟨rfl, rfl, rfl, by decide +kernel, rfl, by decide +kernel, by decide +kernel⟩
def spLaw (K : PySem.W.Frag) : Sp := fun vs H Q _ => ∃ (a : Addr) (ns : List Int), vs = [.ref a] ∧ SqL K H a (ns.map V.int) ∧ ns.length ≤ 63 ∧ ∀ H', Q (.bl true) H'
section
variable {P : Program} {w : World} {K : PySem.W.Frag} {mg : Str → Option Value} {base : Heap} {f fW fR : Addr} {fd dW dR : FuncData} {n : Nat}
theorem ok_law (F : L2.Fun K "law" "law" sLaw f fd) (GW : FnOk P w K mg base CX0 1 fW dW ["script", "turn"] (spPot K)) (bW : L2.Binds K dW ["script", "turn"] []) (kW : PySem.W.keepIn K (.ref fW) = true) (mW : mg "_law_pot" = some (.ref fW))
    (GR : FnG P w K mg base CX0 (n + 1) fR dR ["pot"] spRight) (bR : L2.Binds K dR ["pot"] []) (kR : PySem.W.keepIn K (.ref fR) = true) (mR : mg "_law_right" = some (.ref fR))
    (mr : mg "range" = none) (ml : mg "len" = none) (ma : mg "all" = none) (mx : mg "max" = none) (mn : mg "min" = none) : FnG P w K mg base CX0 (n + 2) f fd ["script"] (spLaw K) := by
  refine okG F scLaw (fun vs H Q E h => ?_) (fun cdv A outer s H vs Q E gd hr h => ?_)
  · obtain ⟨a, ns, rfl, _⟩ := h
    rfl
  obtain ⟨a, ns, rfl, hS, h63, q⟩ := h
  have gd' : (A.deeper (envOfC "law" (defScope sLaw) s.heap.objs.size f cdv)).guards = some [] := gd
  refine ⟨_, pss_one (ps_ret (pe_callB (cr_all rfl) (by rfl) ma (by decide +kernel) (pa_cons (pe_lc (own := [("turn", 1)]) (g := gName 1) (tt := tYes) rfl scLaw.nd
      (pi_range1 rfl mr (pa_cons (pe_callB (call_max2 rfl) (by rfl) mx (by decide +kernel) (pa_cons pe_int (pa_cons (pe_callB (call_min2 rfl) (by rfl) mn (by decide +kernel) (pa_cons (pe_callB call_len_seq (by rfl) ml PySem.boot_len (pa_cons (pv 0) pa_nil)) (pa_cons pe_int pa_nil))) pa_nil))) pa_nil))
      (blkOk_by (N := ["script", "turn"]) (sc := defScope sLaw) (by decide +kernel)) (fun _ _ _ _ _ => pg_name (i := 1) scLaw.nd rfl (Or.inl rfl)) (fun _ _ _ _ _ => pts_nil)
      (fun _ _ _ _ _ => pe_callG GR gd' hr (by rfl) mR kR bR pass0 (pa_cons (pe_call GW (hr.mono (Nat.le_add_left 1 n)) (by rfl) mW kW bW .nil pass0 (pa_cons (pv 0) (pa_cons (pv 1) pa_nil))) pa_nil))) pa_nil))), ?_⟩
  have hl : (ns.map V.int).length = ns.length := List.length_map _
  refine ⟨_, rfl, a, _, rfl, .inl hS, _, _, rfl, _, _, rfl, ?_⟩
  rw [hl]
  obtain ⟨j, hj, j0, j3⟩ : ∃ j : Int, (if (if (4 : Int) < ((ns.length : Nat) : Int) then (4 : Int) else ((ns.length : Nat) : Int)) > 2 then (if (4 : Int) < ((ns.length : Nat) : Int) then (4 : Int) else ((ns.length : Nat) : Int)) else 2) = j ∧ 0 ≤ j ∧ j ≤ 4 := by
    refine ⟨_, rfl, ?_, ?_⟩
    · split <;> (try split) <;> omega
    · split <;> (try split) <;> omega
  rw [hj]
  refine ⟨j, rfl, by omega, by omega, fun D nD => lc_range (lo := 0) (n := j.toNat) (fun k H' => Same H H' ∧ H' D = some (.lst ((List.replicate k true).map V.bl))) ⟨same_new nD _, upd_same⟩ ?_ ?_⟩
  · rintro k H1 lk ⟨s1, hD⟩
    rw [Int.zero_add]
    refine ⟨rfl, ?_⟩
    refine ⟨_, rfl, _, rfl, a, ns, k, rfl, L2.Same.seq s1 hS, h63, by omega, fun H2 p s2 np wl => ⟨p, rfl, wl, fun H3 bt => ?_⟩⟩
    have s3 : Same H1 H3 := fun b o e => bt b o (ne_of_none e np) (s2 b o e)
    refine ⟨_, s3 _ _ hD, ?_, same_put (s1.trans s3) nD, ?_⟩
    · rw [List.length_map, List.length_replicate]
      exact small1000 (by omega)
    · rw [upd_same, List.replicate_succ', List.map_append]
      rfl
  · rintro H1 ⟨s1, hD⟩
    refine ⟨D, List.replicate j.toNat true, rfl, SqL.of hD, ?_⟩
    have e : (List.replicate j.toNat true).all id = true := by simp
    rw [e]
    exact q H1
end
end My

set_option maxHeartbeats 16000000
namespace My
open PySem PySem.Spec PyProof.Rows L2
theorem all_mk {l : PySem.W.OpenLaw} {w : World} {K : PySem.W.Frag} {h : Heap} {mg : Str → Option Value} {fa f_is_whole f_is_whole_from f_is_tuple_of_two f_is_ascending f_is_graph f_is_vertex_pair f_check_graph f_is_lot f_check_lot f_ordered f_complement f_neighbour_masks f_mask_of f_lot_of f_is_clique f_is_stable f_clique_masks f_stable_masks f_is_orientation f_check_orientation f__ends_by_start f_is_kernel f_kernels f_without_arc_to f__without_end_in f__law_pot f__law_draw f__law_pick f__law_mixed f__law_ring f__law_table f__law_of_table f__law_flipped f__law_within f__law_more f__law_graph f__law_lots f__law_all f__law_arcs f__law_cliques_against f__law_acyclic f__law_kernels f__law_right f_law : Addr} {tkV : Tok} (X : K.In h) (GN : h.Ns mainGlobals mg) (hfa : mg "law" = some (.ref fa))
    {fo_is_whole fk_is_whole fe_is_whole fm_is_whole fc_is_whole ft_is_whole : Value} {fD_is_whole fN_is_whole : Option Addr} {fS_is_whole : Array (Option Value)}
    (fa_is_whole : PySem.W.nsIn K mainGlobals "is_whole" = some (some (.ref f_is_whole)))
    (fl_is_whole : K.lookup f_is_whole = some ⟨fo_is_whole, fD_is_whole, .func (PySem.W.fnOf "is_whole" "is_whole" (defArgs (top 7)) (defBody (top 7)) (defScope (top 7)) .none fk_is_whole fe_is_whole fm_is_whole fN_is_whole fc_is_whole ft_is_whole), fS_is_whole⟩)
    (fcc_is_whole : PySem.W.codeIn K fc_is_whole "is_whole" = true)
    (fq_is_whole : PySem.W.keepIn K (.ref f_is_whole) = true)
    {fo_is_whole_from fk_is_whole_from fe_is_whole_from fm_is_whole_from fc_is_whole_from ft_is_whole_from : Value} {fD_is_whole_from fN_is_whole_from : Option Addr} {fS_is_whole_from : Array (Option Value)}
    (fa_is_whole_from : PySem.W.nsIn K mainGlobals "is_whole_from" = some (some (.ref f_is_whole_from)))
    (fl_is_whole_from : K.lookup f_is_whole_from = some ⟨fo_is_whole_from, fD_is_whole_from, .func (PySem.W.fnOf "is_whole_from" "is_whole_from" (defArgs (top 8)) (defBody (top 8)) (defScope (top 8)) .none fk_is_whole_from fe_is_whole_from fm_is_whole_from fN_is_whole_from fc_is_whole_from ft_is_whole_from), fS_is_whole_from⟩)
    (fcc_is_whole_from : PySem.W.codeIn K fc_is_whole_from "is_whole_from" = true)
    (fq_is_whole_from : PySem.W.keepIn K (.ref f_is_whole_from) = true)
    {fo_is_tuple_of_two fk_is_tuple_of_two fe_is_tuple_of_two fm_is_tuple_of_two fc_is_tuple_of_two ft_is_tuple_of_two : Value} {fD_is_tuple_of_two fN_is_tuple_of_two : Option Addr} {fS_is_tuple_of_two : Array (Option Value)}
    (fa_is_tuple_of_two : PySem.W.nsIn K mainGlobals "is_tuple_of_two" = some (some (.ref f_is_tuple_of_two)))
    (fl_is_tuple_of_two : K.lookup f_is_tuple_of_two = some ⟨fo_is_tuple_of_two, fD_is_tuple_of_two, .func (PySem.W.fnOf "is_tuple_of_two" "is_tuple_of_two" (defArgs (top 9)) (defBody (top 9)) (defScope (top 9)) .none fk_is_tuple_of_two fe_is_tuple_of_two fm_is_tuple_of_two fN_is_tuple_of_two fc_is_tuple_of_two ft_is_tuple_of_two), fS_is_tuple_of_two⟩)
    (fcc_is_tuple_of_two : PySem.W.codeIn K fc_is_tuple_of_two "is_tuple_of_two" = true)
    (fq_is_tuple_of_two : PySem.W.keepIn K (.ref f_is_tuple_of_two) = true)
    {fo_is_ascending fk_is_ascending fe_is_ascending fm_is_ascending fc_is_ascending ft_is_ascending : Value} {fD_is_ascending fN_is_ascending : Option Addr} {fS_is_ascending : Array (Option Value)}
    (fa_is_ascending : PySem.W.nsIn K mainGlobals "is_ascending" = some (some (.ref f_is_ascending)))
    (fl_is_ascending : K.lookup f_is_ascending = some ⟨fo_is_ascending, fD_is_ascending, .func (PySem.W.fnOf "is_ascending" "is_ascending" (defArgs (top 10)) (defBody (top 10)) (defScope (top 10)) .none fk_is_ascending fe_is_ascending fm_is_ascending fN_is_ascending fc_is_ascending ft_is_ascending), fS_is_ascending⟩)
    (fcc_is_ascending : PySem.W.codeIn K fc_is_ascending "is_ascending" = true)
    (fq_is_ascending : PySem.W.keepIn K (.ref f_is_ascending) = true)
    {fo_is_graph fk_is_graph fe_is_graph fm_is_graph fc_is_graph ft_is_graph : Value} {fD_is_graph fN_is_graph : Option Addr} {fS_is_graph : Array (Option Value)}
    (fa_is_graph : PySem.W.nsIn K mainGlobals "is_graph" = some (some (.ref f_is_graph)))
    (fl_is_graph : K.lookup f_is_graph = some ⟨fo_is_graph, fD_is_graph, .func (PySem.W.fnOf "is_graph" "is_graph" (defArgs (top 11)) (defBody (top 11)) (defScope (top 11)) .none fk_is_graph fe_is_graph fm_is_graph fN_is_graph fc_is_graph ft_is_graph), fS_is_graph⟩)
    (fcc_is_graph : PySem.W.codeIn K fc_is_graph "is_graph" = true)
    (fq_is_graph : PySem.W.keepIn K (.ref f_is_graph) = true)
    {fo_is_vertex_pair fk_is_vertex_pair fe_is_vertex_pair fm_is_vertex_pair fc_is_vertex_pair ft_is_vertex_pair : Value} {fD_is_vertex_pair fN_is_vertex_pair : Option Addr} {fS_is_vertex_pair : Array (Option Value)}
    (fa_is_vertex_pair : PySem.W.nsIn K mainGlobals "is_vertex_pair" = some (some (.ref f_is_vertex_pair)))
    (fl_is_vertex_pair : K.lookup f_is_vertex_pair = some ⟨fo_is_vertex_pair, fD_is_vertex_pair, .func (PySem.W.fnOf "is_vertex_pair" "is_vertex_pair" (defArgs (top 12)) (defBody (top 12)) (defScope (top 12)) .none fk_is_vertex_pair fe_is_vertex_pair fm_is_vertex_pair fN_is_vertex_pair fc_is_vertex_pair ft_is_vertex_pair), fS_is_vertex_pair⟩)
    (fcc_is_vertex_pair : PySem.W.codeIn K fc_is_vertex_pair "is_vertex_pair" = true)
    (fq_is_vertex_pair : PySem.W.keepIn K (.ref f_is_vertex_pair) = true)
    {fo_check_graph fk_check_graph fe_check_graph fm_check_graph fc_check_graph ft_check_graph : Value} {fD_check_graph fN_check_graph : Option Addr} {fS_check_graph : Array (Option Value)}
    (fa_check_graph : PySem.W.nsIn K mainGlobals "check_graph" = some (some (.ref f_check_graph)))
    (fl_check_graph : K.lookup f_check_graph = some ⟨fo_check_graph, fD_check_graph, .func (PySem.W.fnOf "check_graph" "check_graph" (defArgs (top 13)) (defBody (top 13)) (defScope (top 13)) .none fk_check_graph fe_check_graph fm_check_graph fN_check_graph fc_check_graph ft_check_graph), fS_check_graph⟩)
    (fcc_check_graph : PySem.W.codeIn K fc_check_graph "check_graph" = true)
    (fq_check_graph : PySem.W.keepIn K (.ref f_check_graph) = true)
    {fo_is_lot fk_is_lot fe_is_lot fm_is_lot fc_is_lot ft_is_lot : Value} {fD_is_lot fN_is_lot : Option Addr} {fS_is_lot : Array (Option Value)}
    (fa_is_lot : PySem.W.nsIn K mainGlobals "is_lot" = some (some (.ref f_is_lot)))
    (fl_is_lot : K.lookup f_is_lot = some ⟨fo_is_lot, fD_is_lot, .func (PySem.W.fnOf "is_lot" "is_lot" (defArgs (top 14)) (defBody (top 14)) (defScope (top 14)) .none fk_is_lot fe_is_lot fm_is_lot fN_is_lot fc_is_lot ft_is_lot), fS_is_lot⟩)
    (fcc_is_lot : PySem.W.codeIn K fc_is_lot "is_lot" = true)
    (fq_is_lot : PySem.W.keepIn K (.ref f_is_lot) = true)
    {fo_check_lot fk_check_lot fe_check_lot fm_check_lot fc_check_lot ft_check_lot : Value} {fD_check_lot fN_check_lot : Option Addr} {fS_check_lot : Array (Option Value)}
    (fa_check_lot : PySem.W.nsIn K mainGlobals "check_lot" = some (some (.ref f_check_lot)))
    (fl_check_lot : K.lookup f_check_lot = some ⟨fo_check_lot, fD_check_lot, .func (PySem.W.fnOf "check_lot" "check_lot" (defArgs (top 15)) (defBody (top 15)) (defScope (top 15)) .none fk_check_lot fe_check_lot fm_check_lot fN_check_lot fc_check_lot ft_check_lot), fS_check_lot⟩)
    (fcc_check_lot : PySem.W.codeIn K fc_check_lot "check_lot" = true)
    (fq_check_lot : PySem.W.keepIn K (.ref f_check_lot) = true)
    {fo_ordered fk_ordered fe_ordered fm_ordered fc_ordered ft_ordered : Value} {fD_ordered fN_ordered : Option Addr} {fS_ordered : Array (Option Value)}
    (fa_ordered : PySem.W.nsIn K mainGlobals "ordered" = some (some (.ref f_ordered)))
    (fl_ordered : K.lookup f_ordered = some ⟨fo_ordered, fD_ordered, .func (PySem.W.fnOf "ordered" "ordered" (defArgs (top 16)) (defBody (top 16)) (defScope (top 16)) .none fk_ordered fe_ordered fm_ordered fN_ordered fc_ordered ft_ordered), fS_ordered⟩)
    (fcc_ordered : PySem.W.codeIn K fc_ordered "ordered" = true)
    (fq_ordered : PySem.W.keepIn K (.ref f_ordered) = true)
    {fo_complement fk_complement fe_complement fm_complement fc_complement ft_complement : Value} {fD_complement fN_complement : Option Addr} {fS_complement : Array (Option Value)}
    (fa_complement : PySem.W.nsIn K mainGlobals "complement" = some (some (.ref f_complement)))
    (fl_complement : K.lookup f_complement = some ⟨fo_complement, fD_complement, .func (PySem.W.fnOf "complement" "complement" (defArgs (top 17)) (defBody (top 17)) (defScope (top 17)) .none fk_complement fe_complement fm_complement fN_complement fc_complement ft_complement), fS_complement⟩)
    (fcc_complement : PySem.W.codeIn K fc_complement "complement" = true)
    (fq_complement : PySem.W.keepIn K (.ref f_complement) = true)
    {fo_neighbour_masks fk_neighbour_masks fe_neighbour_masks fm_neighbour_masks fc_neighbour_masks ft_neighbour_masks : Value} {fD_neighbour_masks fN_neighbour_masks : Option Addr} {fS_neighbour_masks : Array (Option Value)}
    (fa_neighbour_masks : PySem.W.nsIn K mainGlobals "neighbour_masks" = some (some (.ref f_neighbour_masks)))
    (fl_neighbour_masks : K.lookup f_neighbour_masks = some ⟨fo_neighbour_masks, fD_neighbour_masks, .func (PySem.W.fnOf "neighbour_masks" "neighbour_masks" (defArgs (top 18)) (defBody (top 18)) (defScope (top 18)) .none fk_neighbour_masks fe_neighbour_masks fm_neighbour_masks fN_neighbour_masks fc_neighbour_masks ft_neighbour_masks), fS_neighbour_masks⟩)
    (fcc_neighbour_masks : PySem.W.codeIn K fc_neighbour_masks "neighbour_masks" = true)
    (fq_neighbour_masks : PySem.W.keepIn K (.ref f_neighbour_masks) = true)
    {fo_mask_of fk_mask_of fe_mask_of fm_mask_of fc_mask_of ft_mask_of : Value} {fD_mask_of fN_mask_of : Option Addr} {fS_mask_of : Array (Option Value)}
    (fa_mask_of : PySem.W.nsIn K mainGlobals "mask_of" = some (some (.ref f_mask_of)))
    (fl_mask_of : K.lookup f_mask_of = some ⟨fo_mask_of, fD_mask_of, .func (PySem.W.fnOf "mask_of" "mask_of" (defArgs (top 19)) (defBody (top 19)) (defScope (top 19)) .none fk_mask_of fe_mask_of fm_mask_of fN_mask_of fc_mask_of ft_mask_of), fS_mask_of⟩)
    (fcc_mask_of : PySem.W.codeIn K fc_mask_of "mask_of" = true)
    (fq_mask_of : PySem.W.keepIn K (.ref f_mask_of) = true)
    {fo_lot_of fk_lot_of fe_lot_of fm_lot_of fc_lot_of ft_lot_of : Value} {fD_lot_of fN_lot_of : Option Addr} {fS_lot_of : Array (Option Value)}
    (fa_lot_of : PySem.W.nsIn K mainGlobals "lot_of" = some (some (.ref f_lot_of)))
    (fl_lot_of : K.lookup f_lot_of = some ⟨fo_lot_of, fD_lot_of, .func (PySem.W.fnOf "lot_of" "lot_of" (defArgs (top 20)) (defBody (top 20)) (defScope (top 20)) .none fk_lot_of fe_lot_of fm_lot_of fN_lot_of fc_lot_of ft_lot_of), fS_lot_of⟩)
    (fcc_lot_of : PySem.W.codeIn K fc_lot_of "lot_of" = true)
    (fq_lot_of : PySem.W.keepIn K (.ref f_lot_of) = true)
    {fo_is_clique fk_is_clique fe_is_clique fm_is_clique fc_is_clique ft_is_clique : Value} {fD_is_clique fN_is_clique : Option Addr} {fS_is_clique : Array (Option Value)}
    (fa_is_clique : PySem.W.nsIn K mainGlobals "is_clique" = some (some (.ref f_is_clique)))
    (fl_is_clique : K.lookup f_is_clique = some ⟨fo_is_clique, fD_is_clique, .func (PySem.W.fnOf "is_clique" "is_clique" (defArgs (top 22)) (defBody (top 22)) (defScope (top 22)) .none fk_is_clique fe_is_clique fm_is_clique fN_is_clique fc_is_clique ft_is_clique), fS_is_clique⟩)
    (fcc_is_clique : PySem.W.codeIn K fc_is_clique "is_clique" = true)
    (fq_is_clique : PySem.W.keepIn K (.ref f_is_clique) = true)
    {fo_is_stable fk_is_stable fe_is_stable fm_is_stable fc_is_stable ft_is_stable : Value} {fD_is_stable fN_is_stable : Option Addr} {fS_is_stable : Array (Option Value)}
    (fa_is_stable : PySem.W.nsIn K mainGlobals "is_stable" = some (some (.ref f_is_stable)))
    (fl_is_stable : K.lookup f_is_stable = some ⟨fo_is_stable, fD_is_stable, .func (PySem.W.fnOf "is_stable" "is_stable" (defArgs (top 23)) (defBody (top 23)) (defScope (top 23)) .none fk_is_stable fe_is_stable fm_is_stable fN_is_stable fc_is_stable ft_is_stable), fS_is_stable⟩)
    (fcc_is_stable : PySem.W.codeIn K fc_is_stable "is_stable" = true)
    (fq_is_stable : PySem.W.keepIn K (.ref f_is_stable) = true)
    {fo_clique_masks fk_clique_masks fe_clique_masks fm_clique_masks fc_clique_masks ft_clique_masks : Value} {fD_clique_masks fN_clique_masks : Option Addr} {fS_clique_masks : Array (Option Value)}
    (fa_clique_masks : PySem.W.nsIn K mainGlobals "clique_masks" = some (some (.ref f_clique_masks)))
    (fl_clique_masks : K.lookup f_clique_masks = some ⟨fo_clique_masks, fD_clique_masks, .func (PySem.W.fnOf "clique_masks" "clique_masks" (defArgs (top 24)) (defBody (top 24)) (defScope (top 24)) .none fk_clique_masks fe_clique_masks fm_clique_masks fN_clique_masks fc_clique_masks ft_clique_masks), fS_clique_masks⟩)
    (fcc_clique_masks : PySem.W.codeIn K fc_clique_masks "clique_masks" = true)
    (fq_clique_masks : PySem.W.keepIn K (.ref f_clique_masks) = true)
    {fo_stable_masks fk_stable_masks fe_stable_masks fm_stable_masks fc_stable_masks ft_stable_masks : Value} {fD_stable_masks fN_stable_masks : Option Addr} {fS_stable_masks : Array (Option Value)}
    (fa_stable_masks : PySem.W.nsIn K mainGlobals "stable_masks" = some (some (.ref f_stable_masks)))
    (fl_stable_masks : K.lookup f_stable_masks = some ⟨fo_stable_masks, fD_stable_masks, .func (PySem.W.fnOf "stable_masks" "stable_masks" (defArgs (top 25)) (defBody (top 25)) (defScope (top 25)) .none fk_stable_masks fe_stable_masks fm_stable_masks fN_stable_masks fc_stable_masks ft_stable_masks), fS_stable_masks⟩)
    (fcc_stable_masks : PySem.W.codeIn K fc_stable_masks "stable_masks" = true)
    (fq_stable_masks : PySem.W.keepIn K (.ref f_stable_masks) = true)
    {fo_is_orientation fk_is_orientation fe_is_orientation fm_is_orientation fc_is_orientation ft_is_orientation : Value} {fD_is_orientation fN_is_orientation : Option Addr} {fS_is_orientation : Array (Option Value)}
    (fa_is_orientation : PySem.W.nsIn K mainGlobals "is_orientation" = some (some (.ref f_is_orientation)))
    (fl_is_orientation : K.lookup f_is_orientation = some ⟨fo_is_orientation, fD_is_orientation, .func (PySem.W.fnOf "is_orientation" "is_orientation" (defArgs (top 27)) (defBody (top 27)) (defScope (top 27)) .none fk_is_orientation fe_is_orientation fm_is_orientation fN_is_orientation fc_is_orientation ft_is_orientation), fS_is_orientation⟩)
    (fcc_is_orientation : PySem.W.codeIn K fc_is_orientation "is_orientation" = true)
    (fq_is_orientation : PySem.W.keepIn K (.ref f_is_orientation) = true)
    {fo_check_orientation fk_check_orientation fe_check_orientation fm_check_orientation fc_check_orientation ft_check_orientation : Value} {fD_check_orientation fN_check_orientation : Option Addr} {fS_check_orientation : Array (Option Value)}
    (fa_check_orientation : PySem.W.nsIn K mainGlobals "check_orientation" = some (some (.ref f_check_orientation)))
    (fl_check_orientation : K.lookup f_check_orientation = some ⟨fo_check_orientation, fD_check_orientation, .func (PySem.W.fnOf "check_orientation" "check_orientation" (defArgs (top 28)) (defBody (top 28)) (defScope (top 28)) .none fk_check_orientation fe_check_orientation fm_check_orientation fN_check_orientation fc_check_orientation ft_check_orientation), fS_check_orientation⟩)
    (fcc_check_orientation : PySem.W.codeIn K fc_check_orientation "check_orientation" = true)
    (fq_check_orientation : PySem.W.keepIn K (.ref f_check_orientation) = true)
    {fo__ends_by_start fk__ends_by_start fe__ends_by_start fm__ends_by_start fc__ends_by_start ft__ends_by_start : Value} {fD__ends_by_start fN__ends_by_start : Option Addr} {fS__ends_by_start : Array (Option Value)}
    (fa__ends_by_start : PySem.W.nsIn K mainGlobals "_ends_by_start" = some (some (.ref f__ends_by_start)))
    (fl__ends_by_start : K.lookup f__ends_by_start = some ⟨fo__ends_by_start, fD__ends_by_start, .func (PySem.W.fnOf "_ends_by_start" "_ends_by_start" (defArgs (top 29)) (defBody (top 29)) (defScope (top 29)) .none fk__ends_by_start fe__ends_by_start fm__ends_by_start fN__ends_by_start fc__ends_by_start ft__ends_by_start), fS__ends_by_start⟩)
    (fcc__ends_by_start : PySem.W.codeIn K fc__ends_by_start "_ends_by_start" = true)
    (fq__ends_by_start : PySem.W.keepIn K (.ref f__ends_by_start) = true)
    {fo_is_kernel fk_is_kernel fe_is_kernel fm_is_kernel fc_is_kernel ft_is_kernel : Value} {fD_is_kernel fN_is_kernel : Option Addr} {fS_is_kernel : Array (Option Value)}
    (fa_is_kernel : PySem.W.nsIn K mainGlobals "is_kernel" = some (some (.ref f_is_kernel)))
    (fl_is_kernel : K.lookup f_is_kernel = some ⟨fo_is_kernel, fD_is_kernel, .func (PySem.W.fnOf "is_kernel" "is_kernel" (defArgs (top 30)) (defBody (top 30)) (defScope (top 30)) .none fk_is_kernel fe_is_kernel fm_is_kernel fN_is_kernel fc_is_kernel ft_is_kernel), fS_is_kernel⟩)
    (fcc_is_kernel : PySem.W.codeIn K fc_is_kernel "is_kernel" = true)
    (fq_is_kernel : PySem.W.keepIn K (.ref f_is_kernel) = true)
    {fo_kernels fk_kernels fe_kernels fm_kernels fc_kernels ft_kernels : Value} {fD_kernels fN_kernels : Option Addr} {fS_kernels : Array (Option Value)}
    (fa_kernels : PySem.W.nsIn K mainGlobals "kernels" = some (some (.ref f_kernels)))
    (fl_kernels : K.lookup f_kernels = some ⟨fo_kernels, fD_kernels, .func (PySem.W.fnOf "kernels" "kernels" (defArgs (top 31)) (defBody (top 31)) (defScope (top 31)) .none fk_kernels fe_kernels fm_kernels fN_kernels fc_kernels ft_kernels), fS_kernels⟩)
    (fcc_kernels : PySem.W.codeIn K fc_kernels "kernels" = true)
    (fq_kernels : PySem.W.keepIn K (.ref f_kernels) = true)
    {fo_without_arc_to fk_without_arc_to fe_without_arc_to fm_without_arc_to fc_without_arc_to ft_without_arc_to : Value} {fD_without_arc_to fN_without_arc_to : Option Addr} {fS_without_arc_to : Array (Option Value)}
    (fa_without_arc_to : PySem.W.nsIn K mainGlobals "without_arc_to" = some (some (.ref f_without_arc_to)))
    (fl_without_arc_to : K.lookup f_without_arc_to = some ⟨fo_without_arc_to, fD_without_arc_to, .func (PySem.W.fnOf "without_arc_to" "without_arc_to" (defArgs (top 32)) (defBody (top 32)) (defScope (top 32)) .none fk_without_arc_to fe_without_arc_to fm_without_arc_to fN_without_arc_to fc_without_arc_to ft_without_arc_to), fS_without_arc_to⟩)
    (fcc_without_arc_to : PySem.W.codeIn K fc_without_arc_to "without_arc_to" = true)
    (fq_without_arc_to : PySem.W.keepIn K (.ref f_without_arc_to) = true)
    {fo__without_end_in fk__without_end_in fe__without_end_in fm__without_end_in fc__without_end_in ft__without_end_in : Value} {fD__without_end_in fN__without_end_in : Option Addr} {fS__without_end_in : Array (Option Value)}
    (fa__without_end_in : PySem.W.nsIn K mainGlobals "_without_end_in" = some (some (.ref f__without_end_in)))
    (fl__without_end_in : K.lookup f__without_end_in = some ⟨fo__without_end_in, fD__without_end_in, .func (PySem.W.fnOf "_without_end_in" "_without_end_in" (defArgs (top 33)) (defBody (top 33)) (defScope (top 33)) .none fk__without_end_in fe__without_end_in fm__without_end_in fN__without_end_in fc__without_end_in ft__without_end_in), fS__without_end_in⟩)
    (fcc__without_end_in : PySem.W.codeIn K fc__without_end_in "_without_end_in" = true)
    (fq__without_end_in : PySem.W.keepIn K (.ref f__without_end_in) = true)
    {fo__law_pot fk__law_pot fe__law_pot fm__law_pot fc__law_pot ft__law_pot : Value} {fD__law_pot fN__law_pot : Option Addr} {fS__law_pot : Array (Option Value)}
    (fa__law_pot : PySem.W.nsIn K mainGlobals "_law_pot" = some (some (.ref f__law_pot)))
    (fl__law_pot : K.lookup f__law_pot = some ⟨fo__law_pot, fD__law_pot, .func (PySem.W.fnOf "_law_pot" "_law_pot" (defArgs (top 35)) (defBody (top 35)) (defScope (top 35)) .none fk__law_pot fe__law_pot fm__law_pot fN__law_pot fc__law_pot ft__law_pot), fS__law_pot⟩)
    (fcc__law_pot : PySem.W.codeIn K fc__law_pot "_law_pot" = true)
    (fq__law_pot : PySem.W.keepIn K (.ref f__law_pot) = true)
    {fo__law_draw fk__law_draw fe__law_draw fm__law_draw fc__law_draw ft__law_draw : Value} {fD__law_draw fN__law_draw : Option Addr} {fS__law_draw : Array (Option Value)}
    (fa__law_draw : PySem.W.nsIn K mainGlobals "_law_draw" = some (some (.ref f__law_draw)))
    (fl__law_draw : K.lookup f__law_draw = some ⟨fo__law_draw, fD__law_draw, .func (PySem.W.fnOf "_law_draw" "_law_draw" (defArgs (top 36)) (defBody (top 36)) (defScope (top 36)) .none fk__law_draw fe__law_draw fm__law_draw fN__law_draw fc__law_draw ft__law_draw), fS__law_draw⟩)
    (fcc__law_draw : PySem.W.codeIn K fc__law_draw "_law_draw" = true)
    (fq__law_draw : PySem.W.keepIn K (.ref f__law_draw) = true)
    {fo__law_pick fk__law_pick fe__law_pick fm__law_pick fc__law_pick ft__law_pick : Value} {fD__law_pick fN__law_pick : Option Addr} {fS__law_pick : Array (Option Value)}
    (fa__law_pick : PySem.W.nsIn K mainGlobals "_law_pick" = some (some (.ref f__law_pick)))
    (fl__law_pick : K.lookup f__law_pick = some ⟨fo__law_pick, fD__law_pick, .func (PySem.W.fnOf "_law_pick" "_law_pick" (defArgs (top 37)) (defBody (top 37)) (defScope (top 37)) .none fk__law_pick fe__law_pick fm__law_pick fN__law_pick fc__law_pick ft__law_pick), fS__law_pick⟩)
    (fcc__law_pick : PySem.W.codeIn K fc__law_pick "_law_pick" = true)
    (fq__law_pick : PySem.W.keepIn K (.ref f__law_pick) = true)
    {fo__law_mixed fk__law_mixed fe__law_mixed fm__law_mixed fc__law_mixed ft__law_mixed : Value} {fD__law_mixed fN__law_mixed : Option Addr} {fS__law_mixed : Array (Option Value)}
    (fa__law_mixed : PySem.W.nsIn K mainGlobals "_law_mixed" = some (some (.ref f__law_mixed)))
    (fl__law_mixed : K.lookup f__law_mixed = some ⟨fo__law_mixed, fD__law_mixed, .func (PySem.W.fnOf "_law_mixed" "_law_mixed" (defArgs (top 38)) (defBody (top 38)) (defScope (top 38)) .none fk__law_mixed fe__law_mixed fm__law_mixed fN__law_mixed fc__law_mixed ft__law_mixed), fS__law_mixed⟩)
    (fcc__law_mixed : PySem.W.codeIn K fc__law_mixed "_law_mixed" = true)
    (fq__law_mixed : PySem.W.keepIn K (.ref f__law_mixed) = true)
    {fo__law_ring fk__law_ring fe__law_ring fm__law_ring fc__law_ring ft__law_ring : Value} {fD__law_ring fN__law_ring : Option Addr} {fS__law_ring : Array (Option Value)}
    (fa__law_ring : PySem.W.nsIn K mainGlobals "_law_ring" = some (some (.ref f__law_ring)))
    (fl__law_ring : K.lookup f__law_ring = some ⟨fo__law_ring, fD__law_ring, .func (PySem.W.fnOf "_law_ring" "_law_ring" (defArgs (top 39)) (defBody (top 39)) (defScope (top 39)) .none fk__law_ring fe__law_ring fm__law_ring fN__law_ring fc__law_ring ft__law_ring), fS__law_ring⟩)
    (fcc__law_ring : PySem.W.codeIn K fc__law_ring "_law_ring" = true)
    (fq__law_ring : PySem.W.keepIn K (.ref f__law_ring) = true)
    {fo__law_table fk__law_table fe__law_table fm__law_table fc__law_table ft__law_table : Value} {fD__law_table fN__law_table : Option Addr} {fS__law_table : Array (Option Value)}
    (fa__law_table : PySem.W.nsIn K mainGlobals "_law_table" = some (some (.ref f__law_table)))
    (fl__law_table : K.lookup f__law_table = some ⟨fo__law_table, fD__law_table, .func (PySem.W.fnOf "_law_table" "_law_table" (defArgs (top 40)) (defBody (top 40)) (defScope (top 40)) .none fk__law_table fe__law_table fm__law_table fN__law_table fc__law_table ft__law_table), fS__law_table⟩)
    (fcc__law_table : PySem.W.codeIn K fc__law_table "_law_table" = true)
    (fq__law_table : PySem.W.keepIn K (.ref f__law_table) = true)
    {fo__law_of_table fk__law_of_table fe__law_of_table fm__law_of_table fc__law_of_table ft__law_of_table : Value} {fD__law_of_table fN__law_of_table : Option Addr} {fS__law_of_table : Array (Option Value)}
    (fa__law_of_table : PySem.W.nsIn K mainGlobals "_law_of_table" = some (some (.ref f__law_of_table)))
    (fl__law_of_table : K.lookup f__law_of_table = some ⟨fo__law_of_table, fD__law_of_table, .func (PySem.W.fnOf "_law_of_table" "_law_of_table" (defArgs (top 41)) (defBody (top 41)) (defScope (top 41)) .none fk__law_of_table fe__law_of_table fm__law_of_table fN__law_of_table fc__law_of_table ft__law_of_table), fS__law_of_table⟩)
    (fcc__law_of_table : PySem.W.codeIn K fc__law_of_table "_law_of_table" = true)
    (fq__law_of_table : PySem.W.keepIn K (.ref f__law_of_table) = true)
    {fo__law_flipped fk__law_flipped fe__law_flipped fm__law_flipped fc__law_flipped ft__law_flipped : Value} {fD__law_flipped fN__law_flipped : Option Addr} {fS__law_flipped : Array (Option Value)}
    (fa__law_flipped : PySem.W.nsIn K mainGlobals "_law_flipped" = some (some (.ref f__law_flipped)))
    (fl__law_flipped : K.lookup f__law_flipped = some ⟨fo__law_flipped, fD__law_flipped, .func (PySem.W.fnOf "_law_flipped" "_law_flipped" (defArgs (top 42)) (defBody (top 42)) (defScope (top 42)) .none fk__law_flipped fe__law_flipped fm__law_flipped fN__law_flipped fc__law_flipped ft__law_flipped), fS__law_flipped⟩)
    (fcc__law_flipped : PySem.W.codeIn K fc__law_flipped "_law_flipped" = true)
    (fq__law_flipped : PySem.W.keepIn K (.ref f__law_flipped) = true)
    {fo__law_within fk__law_within fe__law_within fm__law_within fc__law_within ft__law_within : Value} {fD__law_within fN__law_within : Option Addr} {fS__law_within : Array (Option Value)}
    (fa__law_within : PySem.W.nsIn K mainGlobals "_law_within" = some (some (.ref f__law_within)))
    (fl__law_within : K.lookup f__law_within = some ⟨fo__law_within, fD__law_within, .func (PySem.W.fnOf "_law_within" "_law_within" (defArgs (top 43)) (defBody (top 43)) (defScope (top 43)) .none fk__law_within fe__law_within fm__law_within fN__law_within fc__law_within ft__law_within), fS__law_within⟩)
    (fcc__law_within : PySem.W.codeIn K fc__law_within "_law_within" = true)
    (fq__law_within : PySem.W.keepIn K (.ref f__law_within) = true)
    {fo__law_more fk__law_more fe__law_more fm__law_more fc__law_more ft__law_more : Value} {fD__law_more fN__law_more : Option Addr} {fS__law_more : Array (Option Value)}
    (fa__law_more : PySem.W.nsIn K mainGlobals "_law_more" = some (some (.ref f__law_more)))
    (fl__law_more : K.lookup f__law_more = some ⟨fo__law_more, fD__law_more, .func (PySem.W.fnOf "_law_more" "_law_more" (defArgs (top 44)) (defBody (top 44)) (defScope (top 44)) .none fk__law_more fe__law_more fm__law_more fN__law_more fc__law_more ft__law_more), fS__law_more⟩)
    (fcc__law_more : PySem.W.codeIn K fc__law_more "_law_more" = true)
    (fq__law_more : PySem.W.keepIn K (.ref f__law_more) = true)
    {fo__law_graph fk__law_graph fe__law_graph fm__law_graph fc__law_graph ft__law_graph : Value} {fD__law_graph fN__law_graph : Option Addr} {fS__law_graph : Array (Option Value)}
    (fa__law_graph : PySem.W.nsIn K mainGlobals "_law_graph" = some (some (.ref f__law_graph)))
    (fl__law_graph : K.lookup f__law_graph = some ⟨fo__law_graph, fD__law_graph, .func (PySem.W.fnOf "_law_graph" "_law_graph" (defArgs (top 45)) (defBody (top 45)) (defScope (top 45)) .none fk__law_graph fe__law_graph fm__law_graph fN__law_graph fc__law_graph ft__law_graph), fS__law_graph⟩)
    (fcc__law_graph : PySem.W.codeIn K fc__law_graph "_law_graph" = true)
    (fq__law_graph : PySem.W.keepIn K (.ref f__law_graph) = true)
    {fo__law_lots fk__law_lots fe__law_lots fm__law_lots fc__law_lots ft__law_lots : Value} {fD__law_lots fN__law_lots : Option Addr} {fS__law_lots : Array (Option Value)}
    (fa__law_lots : PySem.W.nsIn K mainGlobals "_law_lots" = some (some (.ref f__law_lots)))
    (fl__law_lots : K.lookup f__law_lots = some ⟨fo__law_lots, fD__law_lots, .func (PySem.W.fnOf "_law_lots" "_law_lots" (defArgs (top 46)) (defBody (top 46)) (defScope (top 46)) .none fk__law_lots fe__law_lots fm__law_lots fN__law_lots fc__law_lots ft__law_lots), fS__law_lots⟩)
    (fcc__law_lots : PySem.W.codeIn K fc__law_lots "_law_lots" = true)
    (fq__law_lots : PySem.W.keepIn K (.ref f__law_lots) = true)
    {fo__law_all fk__law_all fe__law_all fm__law_all fc__law_all ft__law_all : Value} {fD__law_all fN__law_all : Option Addr} {fS__law_all : Array (Option Value)}
    (fa__law_all : PySem.W.nsIn K mainGlobals "_law_all" = some (some (.ref f__law_all)))
    (fl__law_all : K.lookup f__law_all = some ⟨fo__law_all, fD__law_all, .func (PySem.W.fnOf "_law_all" "_law_all" (defArgs (top 47)) (defBody (top 47)) (defScope (top 47)) .none fk__law_all fe__law_all fm__law_all fN__law_all fc__law_all ft__law_all), fS__law_all⟩)
    (fcc__law_all : PySem.W.codeIn K fc__law_all "_law_all" = true)
    (fq__law_all : PySem.W.keepIn K (.ref f__law_all) = true)
    {fo__law_arcs fk__law_arcs fe__law_arcs fm__law_arcs fc__law_arcs ft__law_arcs : Value} {fD__law_arcs fN__law_arcs : Option Addr} {fS__law_arcs : Array (Option Value)}
    (fa__law_arcs : PySem.W.nsIn K mainGlobals "_law_arcs" = some (some (.ref f__law_arcs)))
    (fl__law_arcs : K.lookup f__law_arcs = some ⟨fo__law_arcs, fD__law_arcs, .func (PySem.W.fnOf "_law_arcs" "_law_arcs" (defArgs (top 48)) (defBody (top 48)) (defScope (top 48)) .none fk__law_arcs fe__law_arcs fm__law_arcs fN__law_arcs fc__law_arcs ft__law_arcs), fS__law_arcs⟩)
    (fcc__law_arcs : PySem.W.codeIn K fc__law_arcs "_law_arcs" = true)
    (fq__law_arcs : PySem.W.keepIn K (.ref f__law_arcs) = true)
    {fo__law_cliques_against fk__law_cliques_against fe__law_cliques_against fm__law_cliques_against fc__law_cliques_against ft__law_cliques_against : Value} {fD__law_cliques_against fN__law_cliques_against : Option Addr} {fS__law_cliques_against : Array (Option Value)}
    (fa__law_cliques_against : PySem.W.nsIn K mainGlobals "_law_cliques_against" = some (some (.ref f__law_cliques_against)))
    (fl__law_cliques_against : K.lookup f__law_cliques_against = some ⟨fo__law_cliques_against, fD__law_cliques_against, .func (PySem.W.fnOf "_law_cliques_against" "_law_cliques_against" (defArgs (top 49)) (defBody (top 49)) (defScope (top 49)) .none fk__law_cliques_against fe__law_cliques_against fm__law_cliques_against fN__law_cliques_against fc__law_cliques_against ft__law_cliques_against), fS__law_cliques_against⟩)
    (fcc__law_cliques_against : PySem.W.codeIn K fc__law_cliques_against "_law_cliques_against" = true)
    (fq__law_cliques_against : PySem.W.keepIn K (.ref f__law_cliques_against) = true)
    {fo__law_acyclic fk__law_acyclic fe__law_acyclic fm__law_acyclic fc__law_acyclic ft__law_acyclic : Value} {fD__law_acyclic fN__law_acyclic : Option Addr} {fS__law_acyclic : Array (Option Value)}
    (fa__law_acyclic : PySem.W.nsIn K mainGlobals "_law_acyclic" = some (some (.ref f__law_acyclic)))
    (fl__law_acyclic : K.lookup f__law_acyclic = some ⟨fo__law_acyclic, fD__law_acyclic, .func (PySem.W.fnOf "_law_acyclic" "_law_acyclic" (defArgs (top 50)) (defBody (top 50)) (defScope (top 50)) .none fk__law_acyclic fe__law_acyclic fm__law_acyclic fN__law_acyclic fc__law_acyclic ft__law_acyclic), fS__law_acyclic⟩)
    (fcc__law_acyclic : PySem.W.codeIn K fc__law_acyclic "_law_acyclic" = true)
    (fq__law_acyclic : PySem.W.keepIn K (.ref f__law_acyclic) = true)
    {fo__law_kernels fk__law_kernels fe__law_kernels fm__law_kernels fc__law_kernels ft__law_kernels : Value} {fD__law_kernels fN__law_kernels : Option Addr} {fS__law_kernels : Array (Option Value)}
    (fa__law_kernels : PySem.W.nsIn K mainGlobals "_law_kernels" = some (some (.ref f__law_kernels)))
    (fl__law_kernels : K.lookup f__law_kernels = some ⟨fo__law_kernels, fD__law_kernels, .func (PySem.W.fnOf "_law_kernels" "_law_kernels" (defArgs (top 51)) (defBody (top 51)) (defScope (top 51)) .none fk__law_kernels fe__law_kernels fm__law_kernels fN__law_kernels fc__law_kernels ft__law_kernels), fS__law_kernels⟩)
    (fcc__law_kernels : PySem.W.codeIn K fc__law_kernels "_law_kernels" = true)
    (fq__law_kernels : PySem.W.keepIn K (.ref f__law_kernels) = true)
    {fo__law_right fk__law_right fe__law_right fm__law_right fc__law_right ft__law_right : Value} {fD__law_right fN__law_right : Option Addr} {fS__law_right : Array (Option Value)}
    (fa__law_right : PySem.W.nsIn K mainGlobals "_law_right" = some (some (.ref f__law_right)))
    (fl__law_right : K.lookup f__law_right = some ⟨fo__law_right, fD__law_right, .func (PySem.W.fnOf "_law_right" "_law_right" (defArgs (top 52)) (defBody (top 52)) (defScope (top 52)) .none fk__law_right fe__law_right fm__law_right fN__law_right fc__law_right ft__law_right), fS__law_right⟩)
    (fcc__law_right : PySem.W.codeIn K fc__law_right "_law_right" = true)
    (fq__law_right : PySem.W.keepIn K (.ref f__law_right) = true)
    {fo_law fk_law fe_law fm_law fc_law ft_law : Value} {fD_law fN_law : Option Addr} {fS_law : Array (Option Value)}
    (fa_law : PySem.W.nsIn K mainGlobals "law" = some (some (.ref f_law)))
    (fl_law : K.lookup f_law = some ⟨fo_law, fD_law, .func (PySem.W.fnOf "law" "law" (defArgs (top 53)) (defBody (top 53)) (defScope (top 53)) .none fk_law fe_law fm_law fN_law fc_law ft_law), fS_law⟩)
    (fcc_law : PySem.W.codeIn K fc_law "law" = true)
    (fq_law : PySem.W.keepIn K (.ref f_law) = true)
    (gV : PySem.W.nsIn K mainGlobals "MOST_VERTICES" = some (some (.int 9 tkV)))
    (z_len : PySem.W.nsIn K mainGlobals "len" = some none)
    (z_int : PySem.W.nsIn K mainGlobals "int" = some none)
    (z_abs : PySem.W.nsIn K mainGlobals "abs" = some none)
    (z_divmod : PySem.W.nsIn K mainGlobals "divmod" = some none)
    (z_repr : PySem.W.nsIn K mainGlobals "repr" = some none)
    (z_isinstance : PySem.W.nsIn K mainGlobals "isinstance" = some none)
    (z_bool : PySem.W.nsIn K mainGlobals "bool" = some none)
    (z_str : PySem.W.nsIn K mainGlobals "str" = some none)
    (z_range : PySem.W.nsIn K mainGlobals "range" = some none)
    (z_all : PySem.W.nsIn K mainGlobals "all" = some none)
    (z_any : PySem.W.nsIn K mainGlobals "any" = some none)
    (z_max : PySem.W.nsIn K mainGlobals "max" = some none)
    (z_min : PySem.W.nsIn K mainGlobals "min" = some none)
    (z_list : PySem.W.nsIn K mainGlobals "list" = some none)
    (z_tuple : PySem.W.nsIn K mainGlobals "tuple" = some none)
    (z_sorted : PySem.W.nsIn K mainGlobals "sorted" = some none)
    (z_type : PySem.W.nsIn K mainGlobals "type" = some none)
    (z_set : PySem.W.nsIn K mainGlobals "set" = some none)
    (z_zip : PySem.W.nsIn K mainGlobals "zip" = some none)
    (z_sum : PySem.W.nsIn K mainGlobals "sum" = some none)
    (z_enumerate : PySem.W.nsIn K mainGlobals "enumerate" = some none)
    : ∃ fd : FuncData, (∀ (s : Shared) (v : Value), BindsTo s fd ⟨[v], []⟩ [("script", v)]) ∧ ∀ base : Heap, K.In base → base.Ns mainGlobals mg → FnG l.prog w K mg base CX0 13 fa fd ["script"] (spLaw K) := by
  have e := hfa.symm.trans (PySem.W.mg_of X GN fa_law)
  cases e
  have F_is_whole := fun_mk (st := top 7) fl_is_whole fcc_is_whole fq_is_whole
  have B_is_whole := F_is_whole.binds (ps := ["value", "low", "high"]) fun _ _ _ _ _ _ us hl => match us, hl with | [_, _, _], _ => rfl
  have F_is_whole_from := fun_mk (st := top 8) fl_is_whole_from fcc_is_whole_from fq_is_whole_from
  have B_is_whole_from := F_is_whole_from.binds (ps := ["value", "low"]) fun _ _ _ _ _ _ us hl => match us, hl with | [_, _], _ => rfl
  have F_is_tuple_of_two := fun_mk (st := top 9) fl_is_tuple_of_two fcc_is_tuple_of_two fq_is_tuple_of_two
  have B_is_tuple_of_two := F_is_tuple_of_two.binds (ps := ["value"]) fun _ _ _ _ _ _ us hl => match us, hl with | [_], _ => rfl
  have F_is_ascending := fun_mk (st := top 10) fl_is_ascending fcc_is_ascending fq_is_ascending
  have B_is_ascending := F_is_ascending.binds (ps := ["row"]) fun _ _ _ _ _ _ us hl => match us, hl with | [_], _ => rfl
  have F_is_graph := fun_mk (st := top 11) fl_is_graph fcc_is_graph fq_is_graph
  have B_is_graph := F_is_graph.binds (ps := ["value"]) fun _ _ _ _ _ _ us hl => match us, hl with | [_], _ => rfl
  have F_is_vertex_pair := fun_mk (st := top 12) fl_is_vertex_pair fcc_is_vertex_pair fq_is_vertex_pair
  have B_is_vertex_pair := F_is_vertex_pair.binds (ps := ["value", "many"]) fun _ _ _ _ _ _ us hl => match us, hl with | [_, _], _ => rfl
  have F_check_graph := fun_mk (st := top 13) fl_check_graph fcc_check_graph fq_check_graph
  have B_check_graph := F_check_graph.binds (ps := ["graph"]) fun _ _ _ _ _ _ us hl => match us, hl with | [_], _ => rfl
  have F_is_lot := fun_mk (st := top 14) fl_is_lot fcc_is_lot fq_is_lot
  have B_is_lot := F_is_lot.binds (ps := ["graph", "value"]) fun _ _ _ _ _ _ us hl => match us, hl with | [_, _], _ => rfl
  have F_check_lot := fun_mk (st := top 15) fl_check_lot fcc_check_lot fq_check_lot
  have B_check_lot := F_check_lot.binds (ps := ["graph", "lot"]) fun _ _ _ _ _ _ us hl => match us, hl with | [_, _], _ => rfl
  have F_ordered := fun_mk (st := top 16) fl_ordered fcc_ordered fq_ordered
  have B_ordered := F_ordered.binds (ps := ["one", "other"]) fun _ _ _ _ _ _ us hl => match us, hl with | [_, _], _ => rfl
  have F_complement := fun_mk (st := top 17) fl_complement fcc_complement fq_complement
  have B_complement := F_complement.binds (ps := ["graph"]) fun _ _ _ _ _ _ us hl => match us, hl with | [_], _ => rfl
  have F_neighbour_masks := fun_mk (st := top 18) fl_neighbour_masks fcc_neighbour_masks fq_neighbour_masks
  have B_neighbour_masks := F_neighbour_masks.binds (ps := ["graph"]) fun _ _ _ _ _ _ us hl => match us, hl with | [_], _ => rfl
  have F_mask_of := fun_mk (st := top 19) fl_mask_of fcc_mask_of fq_mask_of
  have B_mask_of := F_mask_of.binds (ps := ["lot"]) fun _ _ _ _ _ _ us hl => match us, hl with | [_], _ => rfl
  have F_lot_of := fun_mk (st := top 20) fl_lot_of fcc_lot_of fq_lot_of
  have B_lot_of := F_lot_of.binds (ps := ["mask"]) fun _ _ _ _ _ _ us hl => match us, hl with | [_], _ => rfl
  have F_is_clique := fun_mk (st := top 22) fl_is_clique fcc_is_clique fq_is_clique
  have B_is_clique := F_is_clique.binds (ps := ["graph", "lot"]) fun _ _ _ _ _ _ us hl => match us, hl with | [_, _], _ => rfl
  have F_is_stable := fun_mk (st := top 23) fl_is_stable fcc_is_stable fq_is_stable
  have B_is_stable := F_is_stable.binds (ps := ["graph", "lot"]) fun _ _ _ _ _ _ us hl => match us, hl with | [_, _], _ => rfl
  have F_clique_masks := fun_mk (st := top 24) fl_clique_masks fcc_clique_masks fq_clique_masks
  have B_clique_masks := F_clique_masks.binds (ps := ["neighbours"]) fun _ _ _ _ _ _ us hl => match us, hl with | [_], _ => rfl
  have F_stable_masks := fun_mk (st := top 25) fl_stable_masks fcc_stable_masks fq_stable_masks
  have B_stable_masks := F_stable_masks.binds (ps := ["graph"]) fun _ _ _ _ _ _ us hl => match us, hl with | [_], _ => rfl
  have F_is_orientation := fun_mk (st := top 27) fl_is_orientation fcc_is_orientation fq_is_orientation
  have B_is_orientation := F_is_orientation.binds (ps := ["graph", "value"]) fun _ _ _ _ _ _ us hl => match us, hl with | [_, _], _ => rfl
  have F_check_orientation := fun_mk (st := top 28) fl_check_orientation fcc_check_orientation fq_check_orientation
  have B_check_orientation := F_check_orientation.binds (ps := ["graph", "orientation"]) fun _ _ _ _ _ _ us hl => match us, hl with | [_, _], _ => rfl
  have F__ends_by_start := fun_mk (st := top 29) fl__ends_by_start fcc__ends_by_start fq__ends_by_start
  have B__ends_by_start := F__ends_by_start.binds (ps := ["graph", "arcs"]) fun _ _ _ _ _ _ us hl => match us, hl with | [_, _], _ => rfl
  have F_is_kernel := fun_mk (st := top 30) fl_is_kernel fcc_is_kernel fq_is_kernel
  have B_is_kernel := F_is_kernel.binds (ps := ["graph", "orientation", "lot"]) fun _ _ _ _ _ _ us hl => match us, hl with | [_, _, _], _ => rfl
  have F_kernels := fun_mk (st := top 31) fl_kernels fcc_kernels fq_kernels
  have B_kernels := F_kernels.binds (ps := ["graph", "orientation"]) fun _ _ _ _ _ _ us hl => match us, hl with | [_, _], _ => rfl
  have F_without_arc_to := fun_mk (st := top 32) fl_without_arc_to fcc_without_arc_to fq_without_arc_to
  have B_without_arc_to := F_without_arc_to.binds (ps := ["graph", "orientation", "lot"]) fun _ _ _ _ _ _ us hl => match us, hl with | [_, _, _], _ => rfl
  have F__without_end_in := fun_mk (st := top 33) fl__without_end_in fcc__without_end_in fq__without_end_in
  have B__without_end_in := F__without_end_in.binds (ps := ["ends", "mask"]) fun _ _ _ _ _ _ us hl => match us, hl with | [_, _], _ => rfl
  have F__law_pot := fun_mk (st := top 35) fl__law_pot fcc__law_pot fq__law_pot
  have B__law_pot := F__law_pot.binds (ps := ["script", "turn"]) fun _ _ _ _ _ _ us hl => match us, hl with | [_, _], _ => rfl
  have F__law_draw := fun_mk (st := top 36) fl__law_draw fcc__law_draw fq__law_draw
  have B__law_draw := F__law_draw.binds (ps := ["pot", "few"]) fun _ _ _ _ _ _ us hl => match us, hl with | [_, _], _ => rfl
  have F__law_pick := fun_mk (st := top 37) fl__law_pick fcc__law_pick fq__law_pick
  have B__law_pick := F__law_pick.binds (ps := ["pot", "some"]) fun _ _ _ _ _ _ us hl => match us, hl with | [_, _], _ => rfl
  have F__law_mixed := fun_mk (st := top 38) fl__law_mixed fcc__law_mixed fq__law_mixed
  have B__law_mixed := F__law_mixed.binds (ps := ["pot", "some"]) fun _ _ _ _ _ _ us hl => match us, hl with | [_, _], _ => rfl
  have F__law_ring := fun_mk (st := top 39) fl__law_ring fcc__law_ring fq__law_ring
  have B__law_ring := F__law_ring.binds (ps := ["many"]) fun _ _ _ _ _ _ us hl => match us, hl with | [_], _ => rfl
  have F__law_table := fun_mk (st := top 40) fl__law_table fcc__law_table fq__law_table
  have B__law_table := F__law_table.binds (ps := ["graph"]) fun _ _ _ _ _ _ us hl => match us, hl with | [_], _ => rfl
  have F__law_of_table := fun_mk (st := top 41) fl__law_of_table fcc__law_of_table fq__law_of_table
  have B__law_of_table := F__law_of_table.binds (ps := ["rows"]) fun _ _ _ _ _ _ us hl => match us, hl with | [_], _ => rfl
  have F__law_flipped := fun_mk (st := top 42) fl__law_flipped fcc__law_flipped fq__law_flipped
  have B__law_flipped := F__law_flipped.binds (ps := ["graph"]) fun _ _ _ _ _ _ us hl => match us, hl with | [_], _ => rfl
  have F__law_within := fun_mk (st := top 43) fl__law_within fcc__law_within fq__law_within
  have B__law_within := F__law_within.binds (ps := ["graph", "some"]) fun _ _ _ _ _ _ us hl => match us, hl with | [_, _], _ => rfl
  have F__law_more := fun_mk (st := top 44) fl__law_more fcc__law_more fq__law_more
  have B__law_more := F__law_more.binds (ps := ["pot", "graph", "many"]) fun _ _ _ _ _ _ us hl => match us, hl with | [_, _, _], _ => rfl
  have F__law_graph := fun_mk (st := top 45) fl__law_graph fcc__law_graph fq__law_graph
  have B__law_graph := F__law_graph.binds (ps := ["pot", "most"]) fun _ _ _ _ _ _ us hl => match us, hl with | [_, _], _ => rfl
  have F__law_lots := fun_mk (st := top 46) fl__law_lots fcc__law_lots fq__law_lots
  have B__law_lots := F__law_lots.binds (ps := ["many"]) fun _ _ _ _ _ _ us hl => match us, hl with | [_], _ => rfl
  have F__law_all := fun_mk (st := top 47) fl__law_all fcc__law_all fq__law_all
  have B__law_all := F__law_all.binds (ps := ["rows", "lot", "due"]) fun _ _ _ _ _ _ us hl => match us, hl with | [_, _, _], _ => rfl
  have F__law_arcs := fun_mk (st := top 48) fl__law_arcs fcc__law_arcs fq__law_arcs
  have B__law_arcs := F__law_arcs.binds (ps := ["pot", "graph"]) fun _ _ _ _ _ _ us hl => match us, hl with | [_, _], _ => rfl
  have F__law_cliques_against := fun_mk (st := top 49) fl__law_cliques_against fcc__law_cliques_against fq__law_cliques_against
  have B__law_cliques_against := F__law_cliques_against.binds (ps := ["rows", "arcs"]) fun _ _ _ _ _ _ us hl => match us, hl with | [_, _], _ => rfl
  have F__law_acyclic := fun_mk (st := top 50) fl__law_acyclic fcc__law_acyclic fq__law_acyclic
  have B__law_acyclic := F__law_acyclic.binds (ps := ["pot", "graph"]) fun _ _ _ _ _ _ us hl => match us, hl with | [_, _], _ => rfl
  have F__law_kernels := fun_mk (st := top 51) fl__law_kernels fcc__law_kernels fq__law_kernels
  have B__law_kernels := F__law_kernels.binds (ps := ["graph", "arcs"]) fun _ _ _ _ _ _ us hl => match us, hl with | [_, _], _ => rfl
  have F__law_right := fun_mk (st := top 52) fl__law_right fcc__law_right fq__law_right
  have B__law_right := F__law_right.binds (ps := ["pot"]) fun _ _ _ _ _ _ us hl => match us, hl with | [_], _ => rfl
  have F_law := fun_mk (st := top 53) fl_law fcc_law fq_law
  have B_law := F_law.binds (ps := ["script"]) fun _ _ _ _ _ _ us hl => match us, hl with | [_], _ => rfl
  have m_len := PySem.W.mg_none_of X GN z_len
  have m_int := PySem.W.mg_none_of X GN z_int
  have m_abs := PySem.W.mg_none_of X GN z_abs
  have m_divmod := PySem.W.mg_none_of X GN z_divmod
  have m_repr := PySem.W.mg_none_of X GN z_repr
  have m_isinstance := PySem.W.mg_none_of X GN z_isinstance
  have m_bool := PySem.W.mg_none_of X GN z_bool
  have m_str := PySem.W.mg_none_of X GN z_str
  have m_range := PySem.W.mg_none_of X GN z_range
  have m_all := PySem.W.mg_none_of X GN z_all
  have m_any := PySem.W.mg_none_of X GN z_any
  have m_max := PySem.W.mg_none_of X GN z_max
  have m_min := PySem.W.mg_none_of X GN z_min
  have m_list := PySem.W.mg_none_of X GN z_list
  have m_tuple := PySem.W.mg_none_of X GN z_tuple
  have m_sorted := PySem.W.mg_none_of X GN z_sorted
  have m_type := PySem.W.mg_none_of X GN z_type
  have m_set := PySem.W.mg_none_of X GN z_set
  have m_zip := PySem.W.mg_none_of X GN z_zip
  have m_sum := PySem.W.mg_none_of X GN z_sum
  have m_enumerate := PySem.W.mg_none_of X GN z_enumerate
  have mV := PySem.W.mg_of X GN gV
  refine ⟨PySem.W.fnOf "law" "law" (defArgs (top 53)) (defBody (top 53)) (defScope (top 53)) .none fk_law fe_law fm_law fN_law fc_law ft_law, fun s v => .of_eq rfl, fun base _ _ => ?_⟩
  have O__law_pot := ok_pot (P := l.prog) (w := w) (K := K) (mg := mg) (base := base) F__law_pot m_len m_int m_abs
  have O__law_draw := ok_draw (P := l.prog) (w := w) (K := K) (mg := mg) (base := base) F__law_draw m_divmod m_int
  have O__law_pick := ok_pickL (P := l.prog) (w := w) (K := K) (mg := mg) (base := base) F__law_pick O__law_draw B__law_draw fq__law_draw (PySem.W.mg_of X GN fa__law_draw) m_len
  have O_pickW := ok_pickW (P := l.prog) (w := w) (K := K) (mg := mg) (base := base) F__law_pick O__law_draw B__law_draw fq__law_draw (PySem.W.mg_of X GN fa__law_draw) m_len
  have O__law_mixed := ok_mixed (P := l.prog) (w := w) (K := K) (mg := mg) (base := base) F__law_mixed O__law_draw B__law_draw fq__law_draw (PySem.W.mg_of X GN fa__law_draw) m_len m_range m_list
  have O_is_whole_from := ok_whole_from (P := l.prog) (w := w) (K := K) (mg := mg) (base := base) F_is_whole_from m_type m_int
  have O_is_whole := ok_is_whole (P := l.prog) (w := w) (K := K) (mg := mg) (base := base) F_is_whole O_is_whole_from B_is_whole_from fq_is_whole_from (PySem.W.mg_of X GN fa_is_whole_from)
  have O_is_tuple_of_two := ok_is_two (P := l.prog) (w := w) (K := K) (mg := mg) (base := base) F_is_tuple_of_two m_type m_tuple m_len
  have O_is_ascending := ok_asc (P := l.prog) (w := w) (K := K) (mg := mg) (base := base) F_is_ascending m_all m_zip
  have O_is_vertex_pair := ok_vp (P := l.prog) (w := w) (K := K) (mg := mg) (base := base) F_is_vertex_pair O_is_tuple_of_two B_is_tuple_of_two fq_is_tuple_of_two (PySem.W.mg_of X GN fa_is_tuple_of_two) O_is_whole B_is_whole fq_is_whole (PySem.W.mg_of X GN fa_is_whole) m_all
  have O_is_graph := ok_is_graph (P := l.prog) (w := w) (K := K) (mg := mg) (base := base) F_is_graph O_is_tuple_of_two B_is_tuple_of_two fq_is_tuple_of_two (PySem.W.mg_of X GN fa_is_tuple_of_two) O_is_whole B_is_whole fq_is_whole (PySem.W.mg_of X GN fa_is_whole) O_is_vertex_pair B_is_vertex_pair fq_is_vertex_pair (PySem.W.mg_of X GN fa_is_vertex_pair) O_is_ascending B_is_ascending fq_is_ascending (PySem.W.mg_of X GN fa_is_ascending) tkV mV m_type m_tuple m_all
  have O_check_graph := ok_check_graph (P := l.prog) (w := w) (K := K) (mg := mg) (base := base) F_check_graph O_is_graph B_is_graph fq_is_graph (PySem.W.mg_of X GN fa_is_graph)
  have O_is_lot := ok_is_lot (P := l.prog) (w := w) (K := K) (mg := mg) (base := base) F_is_lot O_check_graph B_check_graph fq_check_graph (PySem.W.mg_of X GN fa_check_graph) O_is_whole B_is_whole fq_is_whole (PySem.W.mg_of X GN fa_is_whole) O_is_ascending B_is_ascending fq_is_ascending (PySem.W.mg_of X GN fa_is_ascending) m_type m_tuple m_all
  have O_check_lot := ok_check_lot (P := l.prog) (w := w) (K := K) (mg := mg) (base := base) F_check_lot O_is_lot B_is_lot fq_is_lot (PySem.W.mg_of X GN fa_is_lot)
  have O__law_ring := ok_ring (P := l.prog) (w := w) (K := K) (mg := mg) (base := base) F__law_ring m_range m_tuple m_sorted
  have O__law_table := ok_table (P := l.prog) (w := w) (K := K) (mg := mg) (base := base) F__law_table m_range
  have O__law_of_table := ok_oft (P := l.prog) (w := w) (K := K) (mg := mg) (base := base) F__law_of_table m_range m_len m_tuple
  have O__law_flipped := ok_flip (P := l.prog) (w := w) (K := K) (mg := mg) (base := base) F__law_flipped O__law_table B__law_table fq__law_table (PySem.W.mg_of X GN fa__law_table) O__law_of_table B__law_of_table fq__law_of_table (PySem.W.mg_of X GN fa__law_of_table)
  have O__law_within := ok_within (P := l.prog) (w := w) (K := K) (mg := mg) (base := base) F__law_within O__law_table B__law_table fq__law_table (PySem.W.mg_of X GN fa__law_table) O__law_of_table B__law_of_table fq__law_of_table (PySem.W.mg_of X GN fa__law_of_table)
  have O__law_more := ok_more (P := l.prog) (w := w) (K := K) (mg := mg) (base := base) F__law_more O__law_draw B__law_draw fq__law_draw (PySem.W.mg_of X GN fa__law_draw) O__law_table B__law_table fq__law_table (PySem.W.mg_of X GN fa__law_table) O__law_of_table B__law_of_table fq__law_of_table (PySem.W.mg_of X GN fa__law_of_table) m_range m_len
  have O__law_graph := ok_graph (P := l.prog) (w := w) (K := K) (mg := mg) (base := base) F__law_graph O__law_draw B__law_draw fq__law_draw (PySem.W.mg_of X GN fa__law_draw) O__law_more B__law_more fq__law_more (PySem.W.mg_of X GN fa__law_more) O__law_ring B__law_ring fq__law_ring (PySem.W.mg_of X GN fa__law_ring) O__law_mixed B__law_mixed fq__law_mixed (PySem.W.mg_of X GN fa__law_mixed) O__law_flipped B__law_flipped fq__law_flipped (PySem.W.mg_of X GN fa__law_flipped) O__law_within B__law_within fq__law_within (PySem.W.mg_of X GN fa__law_within) m_range m_list
  have O_ordered := ok_ord (P := l.prog) (w := w) (K := K) (mg := mg) (base := base) F_ordered m_min m_max
  have O_is_orientation := ok_por (P := l.prog) (w := w) (K := K) (mg := mg) (base := base) F_is_orientation O_check_graph B_check_graph fq_check_graph (PySem.W.mg_of X GN fa_check_graph) O_is_vertex_pair B_is_vertex_pair fq_is_vertex_pair (PySem.W.mg_of X GN fa_is_vertex_pair) O_is_ascending B_is_ascending fq_is_ascending (PySem.W.mg_of X GN fa_is_ascending) O_ordered B_ordered fq_ordered (PySem.W.mg_of X GN fa_ordered) m_type m_tuple m_all m_sorted m_set m_list
  have O__law_arcs := ok_arcs (P := l.prog) (w := w) (K := K) (mg := mg) (base := base) F__law_arcs O__law_draw B__law_draw fq__law_draw (PySem.W.mg_of X GN fa__law_draw) m_tuple m_sorted
  have O_complement := ok_complement (P := l.prog) (w := w) (K := K) (mg := mg) (base := base) F_complement O_check_graph B_check_graph fq_check_graph (PySem.W.mg_of X GN fa_check_graph) m_range m_tuple
  have O_neighbour_masks := ok_masks (P := l.prog) (w := w) (K := K) (mg := mg) (base := base) F_neighbour_masks 
  have O_mask_of := ok_mask_of (P := l.prog) (w := w) (K := K) (mg := mg) (base := base) F_mask_of m_sum
  have O_lot_of := ok_lot_of (P := l.prog) (w := w) (K := K) (mg := mg) (base := base) F_lot_of m_range m_tuple
  have O_is_clique := ok_is_clique (P := l.prog) (w := w) (K := K) (mg := mg) (base := base) F_is_clique O_check_lot B_check_lot fq_check_lot (PySem.W.mg_of X GN fa_check_lot) O_neighbour_masks B_neighbour_masks fq_neighbour_masks (PySem.W.mg_of X GN fa_neighbour_masks) O_mask_of B_mask_of fq_mask_of (PySem.W.mg_of X GN fa_mask_of) m_all
  have O_is_stable := ok_is_stable (P := l.prog) (w := w) (K := K) (mg := mg) (base := base) F_is_stable O_is_clique B_is_clique fq_is_clique (PySem.W.mg_of X GN fa_is_clique) O_complement B_complement fq_complement (PySem.W.mg_of X GN fa_complement)
  have O_clique_masks := ok_clique_masks (P := l.prog) (w := w) (K := K) (mg := mg) (base := base) F_clique_masks m_enumerate
  have O_stable_masks := ok_stbm (P := l.prog) (w := w) (K := K) (mg := mg) (base := base) F_stable_masks O_complement B_complement fq_complement (PySem.W.mg_of X GN fa_complement) O_neighbour_masks B_neighbour_masks fq_neighbour_masks (PySem.W.mg_of X GN fa_neighbour_masks) O_clique_masks B_clique_masks fq_clique_masks (PySem.W.mg_of X GN fa_clique_masks)
  have O__law_lots := ok_lots (P := l.prog) (w := w) (K := K) (mg := mg) (base := base) F__law_lots m_range m_sorted
  have O_check_orientation := ok_chkor (P := l.prog) (w := w) (K := K) (mg := mg) (base := base) F_check_orientation O_is_orientation B_is_orientation fq_is_orientation (PySem.W.mg_of X GN fa_is_orientation)
  have O__ends_by_start := ok_bystartT (P := l.prog) (w := w) (K := K) (mg := mg) (base := base) F__ends_by_start 
  have O__without_end_in := ok_woe (P := l.prog) (w := w) (K := K) (mg := mg) (base := base) F__without_end_in m_enumerate m_tuple
  have O_kernels := ok_kernels (P := l.prog) (w := w) (K := K) (mg := mg) (base := base) F_kernels O_check_orientation B_check_orientation fq_check_orientation (PySem.W.mg_of X GN fa_check_orientation) O__ends_by_start B__ends_by_start fq__ends_by_start (PySem.W.mg_of X GN fa__ends_by_start) O_stable_masks B_stable_masks fq_stable_masks (PySem.W.mg_of X GN fa_stable_masks) O_lot_of B_lot_of fq_lot_of (PySem.W.mg_of X GN fa_lot_of) O__without_end_in B__without_end_in fq__without_end_in (PySem.W.mg_of X GN fa__without_end_in) m_tuple m_sorted
  have O_without_arc_to := ok_wat (P := l.prog) (w := w) (K := K) (mg := mg) (base := base) F_without_arc_to O_check_orientation B_check_orientation fq_check_orientation (PySem.W.mg_of X GN fa_check_orientation) O_check_lot B_check_lot fq_check_lot (PySem.W.mg_of X GN fa_check_lot) O__ends_by_start B__ends_by_start fq__ends_by_start (PySem.W.mg_of X GN fa__ends_by_start) O_mask_of B_mask_of fq_mask_of (PySem.W.mg_of X GN fa_mask_of) O__without_end_in B__without_end_in fq__without_end_in (PySem.W.mg_of X GN fa__without_end_in)
  have O_is_kernel := ok_isker (P := l.prog) (w := w) (K := K) (mg := mg) (base := base) F_is_kernel O_without_arc_to B_without_arc_to fq_without_arc_to (PySem.W.mg_of X GN fa_without_arc_to) O_is_stable B_is_stable fq_is_stable (PySem.W.mg_of X GN fa_is_stable)
  have O__law_all := ok_lall (P := l.prog) (w := w) (K := K) (mg := mg) (base := base) F__law_all m_range m_len
  have O__law_cliques_against := ok_lag (P := l.prog) (w := w) (K := K) (mg := mg) (base := base) F__law_cliques_against O__law_lots B__law_lots fq__law_lots (PySem.W.mg_of X GN fa__law_lots) O__law_all B__law_all fq__law_all (PySem.W.mg_of X GN fa__law_all) m_len m_all
  have O__law_acyclic := ok_lac (P := l.prog) (w := w) (K := K) (mg := mg) (base := base) F__law_acyclic O__law_draw B__law_draw fq__law_draw (PySem.W.mg_of X GN fa__law_draw) O__law_table B__law_table fq__law_table (PySem.W.mg_of X GN fa__law_table) O__law_mixed B__law_mixed fq__law_mixed (PySem.W.mg_of X GN fa__law_mixed) O__law_cliques_against B__law_cliques_against fq__law_cliques_against (PySem.W.mg_of X GN fa__law_cliques_against) m_range m_list m_min m_len m_sorted m_set m_tuple
  have O__law_kernels := ok_lkers (P := l.prog) (w := w) (K := K) (mg := mg) (base := base) F__law_kernels O__law_table B__law_table fq__law_table (PySem.W.mg_of X GN fa__law_table) O__law_lots B__law_lots fq__law_lots (PySem.W.mg_of X GN fa__law_lots) O__law_all B__law_all fq__law_all (PySem.W.mg_of X GN fa__law_all) m_range m_any m_tuple
  have O__law_right := ok_right (P := l.prog) (w := w) (K := K) (mg := mg) (base := base) F__law_right O__law_graph B__law_graph fq__law_graph (PySem.W.mg_of X GN fa__law_graph) O_pickW B__law_pick fq__law_pick (PySem.W.mg_of X GN fa__law_pick) O__law_pick O__law_arcs B__law_arcs fq__law_arcs (PySem.W.mg_of X GN fa__law_arcs) O__law_draw B__law_draw fq__law_draw (PySem.W.mg_of X GN fa__law_draw) O__law_acyclic B__law_acyclic fq__law_acyclic (PySem.W.mg_of X GN fa__law_acyclic) O__law_kernels B__law_kernels fq__law_kernels (PySem.W.mg_of X GN fa__law_kernels) O_kernels B_kernels (fun s u0 u1 => .of_eq rfl) fq_kernels (PySem.W.mg_of X GN fa_kernels) O__law_lots B__law_lots fq__law_lots (PySem.W.mg_of X GN fa__law_lots) O_is_kernel B_is_kernel (fun s u0 u1 u2 => .of_eq rfl) fq_is_kernel (PySem.W.mg_of X GN fa_is_kernel) m_repr m_range m_list m_sorted m_set m_tuple m_len
  exact ok_law (n := 11) F_law O__law_pot B__law_pot fq__law_pot (PySem.W.mg_of X GN fa__law_pot) O__law_right B__law_right fq__law_right (PySem.W.mg_of X GN fa__law_right) m_range m_len m_all m_max m_min
end My

open PySem PySem.W PyProof.Rows
set_option maxRecDepth 100000 in
set_option maxHeartbeats 0 in
theorem PySem.Challenge.cw_perfectgraphs_k42_whole_kernels_by_own_l_holds : PySem.Challenge.rw_perfectgraphs_k42_whole_kernels_by_own_l.Holds := by
  w_on; o_law; k_head; (case hw => w_witness2)
  k_fill
  refine My.walkG (l := PySem.Challenge.rw_perfectgraphs_k42_whole_kernels_by_own_l) (m := 63) (n := 13) (x := "script") (sp := fun K => My.spLaw K) rfl (by decide) rfl ⟨rfl, by decide, by decide⟩ (fun w h Y => PySem.W.kIn_of Y) ?F (fun K H a ns hl _ hS => ⟨a, ns, rfl, hS, hl, fun _ => rfl⟩)
  case F =>
    intro w mg fa h KX G hmg
    refine' My.all_mk KX G hmg ?fa_is_whole ?fl_is_whole ?fcc_is_whole ?fq_is_whole ?fa_is_whole_from ?fl_is_whole_from ?fcc_is_whole_from ?fq_is_whole_from ?fa_is_tuple_of_two ?fl_is_tuple_of_two ?fcc_is_tuple_of_two ?fq_is_tuple_of_two ?fa_is_ascending ?fl_is_ascending ?fcc_is_ascending ?fq_is_ascending ?fa_is_graph ?fl_is_graph ?fcc_is_graph ?fq_is_graph ?fa_is_vertex_pair ?fl_is_vertex_pair ?fcc_is_vertex_pair ?fq_is_vertex_pair ?fa_check_graph ?fl_check_graph ?fcc_check_graph ?fq_check_graph ?fa_is_lot ?fl_is_lot ?fcc_is_lot ?fq_is_lot ?fa_check_lot ?fl_check_lot ?fcc_check_lot ?fq_check_lot ?fa_ordered ?fl_ordered ?fcc_ordered ?fq_ordered ?fa_complement ?fl_complement ?fcc_complement ?fq_complement ?fa_neighbour_masks ?fl_neighbour_masks ?fcc_neighbour_masks ?fq_neighbour_masks ?fa_mask_of ?fl_mask_of ?fcc_mask_of ?fq_mask_of ?fa_lot_of ?fl_lot_of ?fcc_lot_of ?fq_lot_of ?fa_is_clique ?fl_is_clique ?fcc_is_clique ?fq_is_clique ?fa_is_stable ?fl_is_stable ?fcc_is_stable ?fq_is_stable ?fa_clique_masks ?fl_clique_masks ?fcc_clique_masks ?fq_clique_masks ?fa_stable_masks ?fl_stable_masks ?fcc_stable_masks ?fq_stable_masks ?fa_is_orientation ?fl_is_orientation ?fcc_is_orientation ?fq_is_orientation ?fa_check_orientation ?fl_check_orientation ?fcc_check_orientation ?fq_check_orientation ?fa__ends_by_start ?fl__ends_by_start ?fcc__ends_by_start ?fq__ends_by_start ?fa_is_kernel ?fl_is_kernel ?fcc_is_kernel ?fq_is_kernel ?fa_kernels ?fl_kernels ?fcc_kernels ?fq_kernels ?fa_without_arc_to ?fl_without_arc_to ?fcc_without_arc_to ?fq_without_arc_to ?fa__without_end_in ?fl__without_end_in ?fcc__without_end_in ?fq__without_end_in ?fa__law_pot ?fl__law_pot ?fcc__law_pot ?fq__law_pot ?fa__law_draw ?fl__law_draw ?fcc__law_draw ?fq__law_draw ?fa__law_pick ?fl__law_pick ?fcc__law_pick ?fq__law_pick ?fa__law_mixed ?fl__law_mixed ?fcc__law_mixed ?fq__law_mixed ?fa__law_ring ?fl__law_ring ?fcc__law_ring ?fq__law_ring ?fa__law_table ?fl__law_table ?fcc__law_table ?fq__law_table ?fa__law_of_table ?fl__law_of_table ?fcc__law_of_table ?fq__law_of_table ?fa__law_flipped ?fl__law_flipped ?fcc__law_flipped ?fq__law_flipped ?fa__law_within ?fl__law_within ?fcc__law_within ?fq__law_within ?fa__law_more ?fl__law_more ?fcc__law_more ?fq__law_more ?fa__law_graph ?fl__law_graph ?fcc__law_graph ?fq__law_graph ?fa__law_lots ?fl__law_lots ?fcc__law_lots ?fq__law_lots ?fa__law_all ?fl__law_all ?fcc__law_all ?fq__law_all ?fa__law_arcs ?fl__law_arcs ?fcc__law_arcs ?fq__law_arcs ?fa__law_cliques_against ?fl__law_cliques_against ?fcc__law_cliques_against ?fq__law_cliques_against ?fa__law_acyclic ?fl__law_acyclic ?fcc__law_acyclic ?fq__law_acyclic ?fa__law_kernels ?fl__law_kernels ?fcc__law_kernels ?fq__law_kernels ?fa__law_right ?fl__law_right ?fcc__law_right ?fq__law_right ?fa_law ?fl_law ?fcc_law ?fq_law ?gV ?z_len ?z_int ?z_abs ?z_divmod ?z_repr ?z_isinstance ?z_bool ?z_str ?z_range ?z_all ?z_any ?z_max ?z_min ?z_list ?z_tuple ?z_sorted ?z_type ?z_set ?z_zip ?z_sum ?z_enumerate
    (case fa_is_whole => k_is)
    (case fl_is_whole => k_is)
    (case fcc_is_whole => k_is)
    (case fq_is_whole => k_is)
    (case fa_is_whole_from => k_is)
    (case fl_is_whole_from => k_is)
    (case fcc_is_whole_from => k_is)
    (case fq_is_whole_from => k_is)
    (case fa_is_tuple_of_two => k_is)
    (case fl_is_tuple_of_two => k_is)
    (case fcc_is_tuple_of_two => k_is)
    (case fq_is_tuple_of_two => k_is)
    (case fa_is_ascending => k_is)
    (case fl_is_ascending => k_is)
    (case fcc_is_ascending => k_is)
    (case fq_is_ascending => k_is)
    (case fa_is_graph => k_is)
    (case fl_is_graph => k_is)
    (case fcc_is_graph => k_is)
    (case fq_is_graph => k_is)
    (case fa_is_vertex_pair => k_is)
    (case fl_is_vertex_pair => k_is)
    (case fcc_is_vertex_pair => k_is)
    (case fq_is_vertex_pair => k_is)
    (case fa_check_graph => k_is)
    (case fl_check_graph => k_is)
    (case fcc_check_graph => k_is)
    (case fq_check_graph => k_is)
    (case fa_is_lot => k_is)
    (case fl_is_lot => k_is)
    (case fcc_is_lot => k_is)
    (case fq_is_lot => k_is)
    (case fa_check_lot => k_is)
    (case fl_check_lot => k_is)
    (case fcc_check_lot => k_is)
    (case fq_check_lot => k_is)
    (case fa_ordered => k_is)
    (case fl_ordered => k_is)
    (case fcc_ordered => k_is)
    (case fq_ordered => k_is)
    (case fa_complement => k_is)
    (case fl_complement => k_is)
    (case fcc_complement => k_is)
    (case fq_complement => k_is)
    (case fa_neighbour_masks => k_is)
    (case fl_neighbour_masks => k_is)
    (case fcc_neighbour_masks => k_is)
    (case fq_neighbour_masks => k_is)
    (case fa_mask_of => k_is)
    (case fl_mask_of => k_is)
    (case fcc_mask_of => k_is)
    (case fq_mask_of => k_is)
    (case fa_lot_of => k_is)
    (case fl_lot_of => k_is)
    (case fcc_lot_of => k_is)
    (case fq_lot_of => k_is)
    (case fa_is_clique => k_is)
    (case fl_is_clique => k_is)
    (case fcc_is_clique => k_is)
    (case fq_is_clique => k_is)
    (case fa_is_stable => k_is)
    (case fl_is_stable => k_is)
    (case fcc_is_stable => k_is)
    (case fq_is_stable => k_is)
    (case fa_clique_masks => k_is)
    (case fl_clique_masks => k_is)
    (case fcc_clique_masks => k_is)
    (case fq_clique_masks => k_is)
    (case fa_stable_masks => k_is)
    (case fl_stable_masks => k_is)
    (case fcc_stable_masks => k_is)
    (case fq_stable_masks => k_is)
    (case fa_is_orientation => k_is)
    (case fl_is_orientation => k_is)
    (case fcc_is_orientation => k_is)
    (case fq_is_orientation => k_is)
    (case fa_check_orientation => k_is)
    (case fl_check_orientation => k_is)
    (case fcc_check_orientation => k_is)
    (case fq_check_orientation => k_is)
    (case fa__ends_by_start => k_is)
    (case fl__ends_by_start => k_is)
    (case fcc__ends_by_start => k_is)
    (case fq__ends_by_start => k_is)
    (case fa_is_kernel => k_is)
    (case fl_is_kernel => k_is)
    (case fcc_is_kernel => k_is)
    (case fq_is_kernel => k_is)
    (case fa_kernels => k_is)
    (case fl_kernels => k_is)
    (case fcc_kernels => k_is)
    (case fq_kernels => k_is)
    (case fa_without_arc_to => k_is)
    (case fl_without_arc_to => k_is)
    (case fcc_without_arc_to => k_is)
    (case fq_without_arc_to => k_is)
    (case fa__without_end_in => k_is)
    (case fl__without_end_in => k_is)
    (case fcc__without_end_in => k_is)
    (case fq__without_end_in => k_is)
    (case fa__law_pot => k_is)
    (case fl__law_pot => k_is)
    (case fcc__law_pot => k_is)
    (case fq__law_pot => k_is)
    (case fa__law_draw => k_is)
    (case fl__law_draw => k_is)
    (case fcc__law_draw => k_is)
    (case fq__law_draw => k_is)
    (case fa__law_pick => k_is)
    (case fl__law_pick => k_is)
    (case fcc__law_pick => k_is)
    (case fq__law_pick => k_is)
    (case fa__law_mixed => k_is)
    (case fl__law_mixed => k_is)
    (case fcc__law_mixed => k_is)
    (case fq__law_mixed => k_is)
    (case fa__law_ring => k_is)
    (case fl__law_ring => k_is)
    (case fcc__law_ring => k_is)
    (case fq__law_ring => k_is)
    (case fa__law_table => k_is)
    (case fl__law_table => k_is)
    (case fcc__law_table => k_is)
    (case fq__law_table => k_is)
    (case fa__law_of_table => k_is)
    (case fl__law_of_table => k_is)
    (case fcc__law_of_table => k_is)
    (case fq__law_of_table => k_is)
    (case fa__law_flipped => k_is)
    (case fl__law_flipped => k_is)
    (case fcc__law_flipped => k_is)
    (case fq__law_flipped => k_is)
    (case fa__law_within => k_is)
    (case fl__law_within => k_is)
    (case fcc__law_within => k_is)
    (case fq__law_within => k_is)
    (case fa__law_more => k_is)
    (case fl__law_more => k_is)
    (case fcc__law_more => k_is)
    (case fq__law_more => k_is)
    (case fa__law_graph => k_is)
    (case fl__law_graph => k_is)
    (case fcc__law_graph => k_is)
    (case fq__law_graph => k_is)
    (case fa__law_lots => k_is)
    (case fl__law_lots => k_is)
    (case fcc__law_lots => k_is)
    (case fq__law_lots => k_is)
    (case fa__law_all => k_is)
    (case fl__law_all => k_is)
    (case fcc__law_all => k_is)
    (case fq__law_all => k_is)
    (case fa__law_arcs => k_is)
    (case fl__law_arcs => k_is)
    (case fcc__law_arcs => k_is)
    (case fq__law_arcs => k_is)
    (case fa__law_cliques_against => k_is)
    (case fl__law_cliques_against => k_is)
    (case fcc__law_cliques_against => k_is)
    (case fq__law_cliques_against => k_is)
    (case fa__law_acyclic => k_is)
    (case fl__law_acyclic => k_is)
    (case fcc__law_acyclic => k_is)
    (case fq__law_acyclic => k_is)
    (case fa__law_kernels => k_is)
    (case fl__law_kernels => k_is)
    (case fcc__law_kernels => k_is)
    (case fq__law_kernels => k_is)
    (case fa__law_right => k_is)
    (case fl__law_right => k_is)
    (case fcc__law_right => k_is)
    (case fq__law_right => k_is)
    (case fa_law => k_is)
    (case fl_law => k_is)
    (case fcc_law => k_is)
    (case fq_law => k_is)
    (case gV => k_is)
    (case z_len => k_is)
    (case z_int => k_is)
    (case z_abs => k_is)
    (case z_divmod => k_is)
    (case z_repr => k_is)
    (case z_isinstance => k_is)
    (case z_bool => k_is)
    (case z_str => k_is)
    (case z_range => k_is)
    (case z_all => k_is)
    (case z_any => k_is)
    (case z_max => k_is)
    (case z_min => k_is)
    (case z_list => k_is)
    (case z_tuple => k_is)
    (case z_sorted => k_is)
    (case z_type => k_is)
    (case z_set => k_is)
    (case z_zip => k_is)
    (case z_sum => k_is)
    (case z_enumerate => k_is)
#print axioms PySem.Challenge.cw_perfectgraphs_k42_whole_kernels_by_own_l_holds

