import PyProof.Rows.All
import Wide.All
import OpenK.AllK
import Wide.FinOn
import HandS.ForMost
import HandS.ForExc
import HandS.ExcInit
import HandS.ExcValue
import HandS.IsInst
import KE.KExcIs
import HandS.ExcField
import HandS.TupSets
import HandS.Deep
import HandS.Conv
import HandS.Style
import KE.DatumOrd
import HandS.Walk
import HandS.Iter
import HandS.Text
import HandS.StrMore
import HandS.SortRule
import PyProof.StrLawsRepr
import HandS.TupAny
import HandS.Dict
import HandS.Zip
import PyProof.Rows.BitMore
import HandS.Sort
import PyProof.ListRange
import PyProof.ListStr
import PyProof.CollectIter
import PyProof.Walks
import PyProof.WalksMore
import PyProof.TupleIter
import HandS.More
import HandS.Strs
import HandS.TryOnly
import KE.GoesEnum
import HandS.ExcOwn
import PySem.Challenge.RW_perfectgraphs_k61_whole_logs_and_the_gra
set_option Elab.async false
set_option linter.all false
set_option maxRecDepth 100000
set_option maxHeartbeats 2000000
/-! Defs that are asked where nothing is being displayed: repr of data, whatever it holds. -/
namespace My
open PySem PySem.Spec PyProof.Rows L2

/-- like FnOk, for calls outside of any display -/
structure FnG (P : Program) (w : World) (K : PySem.W.Frag) (mg : Str → Option Value) (base : Heap) (C : CXT) (n : Nat) (f : Addr) (fd : FuncData) (ps : List Str) (sp : Sp) : Prop where
  arity : ∀ xs H Q E, sp xs H Q E → xs.length = ps.length
  goes : ∀ (A : Around) (out : List Env) (s : Shared) (H : Hp) (args : Args) (us : List Value) (xs : List V) (Q : VK) (E : XK), A.guards = some [] → Room n A → Env0 P w K mg base A out s H →
    BindsTo s fd args (ps.zip us) → Vals xs us → sp xs H Q E → codeAny (model P w) A (.call (.ref f) args) (CR C out P w H s Q E) s
section
variable {P : Program} {w : World} {K : PySem.W.Frag} {mg : Str → Option Value} {base : Heap} {C : CXT} {n : Nat} {f : Addr} {fd : FuncData} {ps : List Str} {sp : Sp}
theorem FnG.of (F : FnOk P w K mg base C n f fd ps sp) : FnG P w K mg base C n f fd ps sp :=
  { arity := F.len, goes := fun A out s H args us xs Q E _ r e b v h => F.run A out s H args us xs Q E r e b v h }
end

section
variable {X : Cx} {C : CXT} {n : Nat} {f : Addr} {fd : FuncData} {ps : List Str} {sp : Sp} {E : XK} {nm : Str} {p pos : Pos} {a : Expr} {as : List Expr} {t : TA}
theorem FnG.call_at {pins : List (Addr × Obj)} {σ : L2.St} {H : Hp} {s : Shared} {Q : VK} {us : List Value} {xs : List V} (F : FnG X.prog X.w X.K X.mg X.base C n f fd ps sp) (gd : X.A.guards = some []) (r : Room n X.A) (b : Binds X.K fd ps []) (x : Passes C X E)
    (I : Inv X pins σ H s) (v : Vals xs us) (h : sp xs H Q E) : wpAny (model X.prog X.w) X.A (call (.ref f) us) (EP X pins σ Q) X.xe s := by
  have len : (us ++ []).length = ps.length := by
    rw [List.append_nil, ← v.length]
    exact F.arity _ _ _ _ h
  have bd := b s us I.kIn len
  rw [List.append_nil] at bd
  refine wpAny_call (codeAny_mono (F.goes X.A X.stack s H ⟨us, []⟩ us xs Q E gd r I.env0 bd v h) ?_)
  rintro (er | fl) s' hq
  · exact x pins σ H s er s' I hq
  · cases fl <;> first | exact hq.elim | exact I.after hq
/-- f(a, ..), f such a def -/
theorem pe_callG (F : FnG X.prog X.w X.K X.mg X.base C n f fd ps sp) (gd : X.A.guards = some []) (r : Room n X.A) (g : Gl X nm) (m : X.mg nm = some (.ref f)) (kp : PySem.W.keepIn X.K (.ref f) = true) (b : Binds X.K fd ps []) (x : Passes C X E)
    (ha : PA X (a :: as) t) (nd : (nm == ("__debug__" : Str)) = false := by decide) (st : starEach (a :: as) X.env = (false, eval a X.env) :: starEach as X.env := by rfl) (pl : (backTo pos (starEach as X.env)).any (·.1) = false := by rfl) :
    PE X (.Call (.Name nm p) (a :: as) [] pos) (tCall sp [] E t) := by
  constructor
  intro pins s σ H Q I h
  refine wpAny_Call_Name_kw (ld_glob I g m ?_ nd)
  refine PySem.W.callWith_K (h₀ := X.base) I.ok.mod.kin kp (thn (ha.run pos pins s σ H _ I h) ?_) st pl
  rintro us s1 ⟨xs, H1, I1, v, q⟩
  rw [List.append_nil] at q
  exact ⟨I1.kIn, F.call_at gd r b x I1 v q⟩
end

section
variable {P : Program} {w : World} {K : PySem.W.Frag} {mg : Str → Option Value} {base : Heap} {C : CXT} {n : Nat} {f : Addr} {ps N : List Str} {sp : Sp}
/-- such a def by its body -/
theorem fnG_of {name qual : Str} {pm : Arguments} {body : List Stmt} {sc : Scope} {dV kV doc md cdv ct oc : Value} {an od : Option Addr} {sl : Array (Option Value)}
    (lk : K.lookup f = some ⟨oc, od, .func (PySem.W.fnOf name qual pm body sc dV kV doc md an cdv ct), sl⟩) (cd : PySem.W.codeIn K cdv qual = true) (S : FnScope N ps sc) (ar : ∀ xs H Q E, sp xs H Q E → xs.length = ps.length)
    (hb : ∀ (A : Around) (out : List Env) (s : Shared) (H : Hp) (xs : List V) (Q : VK) (E : XK), A.guards = some [] → Room n (A.deeper (envOfC qual sc s.heap.objs.size f cdv)) → sp xs H Q E →
      ∃ t, PSs (cxOf C P w K mg base N qual sc f cdv A out s H E) body t ∧ t { nx := fun _ H' => Q .non H', rt := Q } (start N xs) H) :
    FnG P w K mg base C (n + 1) f (PySem.W.fnOf name qual pm body sc dV kV doc md an cdv ct) ps sp := by
  refine { arity := ar, goes := ?_ }
  intro A out s H args us xs Q E gd r e bd v h
  have all : K.In s.heap := e.mod.kin.keeps fun b o z => (e.bs b o z).1
  have nolim : s.heap.NoLimit := e.mod.nolimit.keeps fun b o z => (e.bs b o z).1
  have kinds : ∀ y ∈ ps.zip us, sc.names.lookup y.1 = some .local ∨ (sc.names.lookup y.1 = some .cell ∧ ((cellsFrom (s.heap.objs.size + 1) sc.names []).lookup y.1).isSome = true) := by
    rintro ⟨y, u⟩ hy
    exact (S.par y (List.of_mem_zip hy).1).imp id fun z => ⟨z, PySem.W.cellsFrom_some _ _ _ (.inl z)⟩
  refine codeAny_call_function r.depth (all _ _ lk) rfl S.co S.gen rfl (PySem.W.codeRec_of all cd) (bd _ _ _ _ (wpAny_newFunctionEnv_cells S.kind kinds ?_))
  intro env he s1 x
  cases he
  obtain ⟨t, ht, hq⟩ := hb A out s H xs Q E gd (r.deeper _) h
  refine ⟨nolim.keeps x.toInCall.keep, codeAny_func (wpAny_mono (ht.run [] s1 (start N xs) H _ (inv_start S r.hd e (ar _ _ _ _ h) v x) hq) ?_ fun _ _ z => z)⟩
  rintro fl s' hs
  cases fl with
  | ret u =>
    obtain ⟨y, σ', H', J, ry, q⟩ := hs
    exact ⟨y, H', J.os, J.bare, J.base, J.hok, ry, q⟩
  | next =>
    obtain ⟨σ', H', J, q⟩ := hs
    exact ⟨.non, H', J.os, J.bare, J.base, J.hok, rfl, q⟩
  | brk => exact hs.choose_spec.choose_spec.2.elim
  | cont => exact hs.choose_spec.choose_spec.2.elim
theorem okG {name qual : Str} {st : Stmt} {fd : FuncData} (F : L2.Fun K name qual st f fd) (S : FnScope N ps (defScope st)) (ar : ∀ xs H Q E, sp xs H Q E → xs.length = ps.length)
    (hb : ∀ (cdv : Value) (A : Around) (out : List Env) (s : Shared) (H : Hp) (xs : List V) (Q : VK) (E : XK), A.guards = some [] → Room n (A.deeper (envOfC qual (defScope st) s.heap.objs.size f cdv)) → sp xs H Q E →
      ∃ t, PSs (cxOf CX0 P w K mg base N qual (defScope st) f cdv A out s H E).nox (defBody st) t ∧ t { nx := fun _ H' => Q .non H', rt := Q } (start N xs) H) : FnG P w K mg base CX0 (n + 1) f fd ps sp := by
  obtain ⟨_, _, _, _, _, _, cdv, _, _, rfl, lk, cd⟩ := F.ex
  refine fnG_of lk cd S ar ?_
  intro A out s H xs Q E gd r h
  obtain ⟨t, ht, q⟩ := hb cdv A out s H xs Q E gd r h
  exact ⟨t, ht.nox, q⟩
end

/-! ### the end of a law's row -/
/-- the call of the law itself, over one abstract heap -/
theorem law_at {P : Program} {w : World} {K : PySem.W.Frag} {mg mb : Str → Option Value} {n : Nat} {fa a : Addr} {fd : FuncData} {x : Str} {sp : Sp} {s : Shared} {vs : List Value} {H : Hp}
    (KX : K.In s.heap) (hns : s.heap.Ns mainGlobals mg) (hb : s.heap.Ns builtinsNs mb) (hbb : ∀ x : Str, x ≠ "__name__" → mb x = bootBuiltins x) (lim : s.heap.NoLimit) (ng : s.gens = #[])
    (ha : s.heap.get? a = some { cls := .type "list", data := .seq vs.toArray }) (hr : Room n callerA)
    (F : ∀ base : Heap, K.In base → base.Ns mainGlobals mg → FnG P w K mg base CX0 n fa fd [x] sp) (bd : BindsTo s fd ⟨[.ref a], []⟩ [(x, .ref a)])
    (hsp : sp [.ref a] H (fun v _ => v = .bl true) E0) (hO : Only H) (hok : HOk P w H s.heap) (one : ∀ b, H b ≠ none → b = a) (apart : H a ≠ none → K.lookup a = none) :
    codeAny (model P w) callerA (.call (.ref fa) ⟨[.ref a], []⟩) (fun r s' => r = .ok (.ret (.bool true)) ∧ OldK s.heap s'.heap ∧ s'.os = s.os ∧ AllBare s'.gens) s := by
  have no : ∀ {b : Addr} {o : Obj}, s.heap.get? b = some o → (∀ its m, o.data ≠ .seq its m) → H b = none := by
    intro b o e d
    refine Classical.byContradiction fun z => ?_
    cases one b z
    rw [ha] at e
    cases e
    exact d _ _ rfl
  have keep : ∀ {b : Addr} {m : Str → Option Value}, s.heap.Ns b m → (hidT s.heap H).Ns b m := by
    rintro b m ⟨o, es, ep, e, d, r⟩
    exact ⟨o, es, ep, hidT_get e (no e fun its m z => by rw [d] at z; cases z), d, r⟩
  have inb : K.In (hidT s.heap H) := by
    intro b o e
    refine hidT_get (KX b o e) (Classical.byContradiction fun z => ?_)
    have eb := one b z
    rw [eb] at z e
    rw [apart z] at e
    cases e
  obtain ⟨mc, l1, l2⟩ := lim
  have M : Mod K mg (hidT s.heap H) := ⟨inb, keep hns, ⟨mb, keep hb, hbb⟩, ⟨mc, keep l1, l2⟩⟩
  have e0 : Env0 P w K mg (hidT s.heap H) callerA [] s H :=
    { frames := rfl, mod := M, bs := fun b o e => of_hidT e, bsz := Nat.le_of_eq (hidT_size _ _), funs := trivial, frf := fun b z => absurd (show b ∈ ([] : List Addr) from z) List.not_mem_nil, hok := hok, bare := .of_eq ng }
  refine codeAny_mono ((F _ inb (keep hns)).goes callerA [] s H ⟨[.ref a], []⟩ [.ref a] [.ref a] _ _ rfl hr e0 bd (.cons rfl .nil) hsp) ?_
  rintro (er | fl) s' h
  · exact False.elim h
  · cases fl with
    | ret u =>
      obtain ⟨v, H', os, bare, un, hok', rv, q⟩ := h
      cases (show v = .bl true from q)
      cases (show u = Value.bool true from rv)
      refine ⟨rfl, OldK.of_keep ?_, os, bare⟩
      intro b o e
      rcases hO b with z | ⟨ob, xs, z⟩
      · exact un.keep b o e z (fun y => absurd (show b ∈ ([] : List Addr) from y) List.not_mem_nil) List.not_mem_nil
      · have i1 := (hok b _ z).1
        rw [e] at i1
        rw [i1]
        exact (hok' b _ (un.frzs b ob _ z)).1
    | next => exact False.elim h
    | brk => exact False.elim h
    | cont => exact False.elim h
theorem walkG {l : PySem.W.OpenLaw} {m n : Nat} {q : Program} {loose : List Str} {XP : (Str → Option Value) → Heap → Prop} {YP : World → Heap → Prop} {d : DefRec} {K : Params → PySem.W.Frag} {sp : PySem.W.Frag → Sp} {x : Str}
    (hm : l.most = some m) (hm2 : m ≤ sizeLine) (hdf : d.params.defaults = []) (hr : Room n callerA) (hY : ∀ (w : World) (h : Heap), YP w h → (K w.params).In h)
    (F : ∀ (w : World) (mg : Str → Option Value) (fa : Addr) (h : Heap), (K w.params).In h → h.Ns mainGlobals mg → mg d.name = some (.ref fa) →
      ∃ fd : FuncData, (∀ (s : Shared) (u : Value), BindsTo s fd ⟨[u], []⟩ [(x, u)]) ∧
        ∀ base : Heap, (K w.params).In base → base.Ns mainGlobals mg → FnG l.prog w (K w.params) mg base CX0 n fa fd [x] (sp (K w.params)))
    (hsp : ∀ (K : PySem.W.Frag) (H : Hp) (a : Addr) (ns : List Int), ns.length ≤ m → Only H → SqL K H a (ns.map V.int) → sp K [.ref a] H (fun v _ => v = .bl true) E0) :
    PySem.W.WalkO q loose XP YP l.row.toRowW d [] (fun f vs => PySem.call f vs) := by
  refine Att.attach_call hm hdf ?_
  intro w s₀ s mg mb fa o pm cd doc a vs ns G Y ho hd hcd hmg hobj hints hlen hg
  have KX := hY w _ Y
  obtain ⟨fd, hb, hF⟩ := F w mg fa _ KX G.T.g hmg
  have rv := vals_ints hints
  have hl : (ns.map V.int).length ≤ sizeLine := by
    rw [List.length_map]
    exact Nat.le_trans hlen hm2
  cases hk : (K w.params).lookup a with
  | some ob =>
    have e := KX a ob hk
    rw [hobj] at e
    cases e
    refine law_at KX G.T.g G.T.b G.T.builtins G.T.nolimit hg hobj hr hF (hb s _) (H := fun _ => none) (hsp _ _ a ns hlen (fun _ => .inl rfl) (.inr ?_)) (fun _ => .inl rfl) (fun b u z => nomatch (show (none : Option HO) = some u from z)) (fun b z => absurd rfl z) fun z => absurd rfl z
    exact ⟨_, vs.toArray, _, hk, rfl, rfl, rfl, by rw [List.size_toArray, ← rv.length]; exact hl, by simpa using rv⟩
  | none =>
    let T : HO := .frz { cls := .type "list", data := .seq vs.toArray } (.lst (ns.map V.int))
    let H0 : Hp := fun _ => none
    have at_a : upd H0 a T a = some T := upd_same
    have off : ∀ b, b ≠ a → upd H0 a T b = none := fun b z => upd_ne z
    refine law_at KX G.T.g G.T.b G.T.builtins G.T.nolimit hg hobj hr hF (hb s _) (H := upd H0 a T) (hsp _ _ a ns hlen ?_ (.inl (.inr ⟨_, at_a⟩))) ?_ ?_ ?_ fun _ => hk
    · intro b
      by_cases z : b = a
      · cases z
        exact .inr ⟨_, _, at_a⟩
      · exact .inl (off b z)
    · intro b
      by_cases z : b = a
      · cases z
        exact .inr ⟨_, _, at_a⟩
      · exact .inl (off b z)
    · intro b u e
      by_cases z : b = a
      · cases z
        cases at_a.symm.trans e
        exact ⟨hobj, hl, vs, _, rv, hobj⟩
      · rw [off b z] at e
        cases e
    · intro b z
      exact Classical.byContradiction fun y => z (off b y)
end My

set_option maxHeartbeats 2000000
/-! repr of data: flat things, lists, tuples at any depth, and dicts of flat things. -/
namespace My
open PySem PySem.Spec PyProof.Rows L2

def flatD : V → Option PyData
  | .non => some .none
  | .bl b => some (.bool b)
  | .int i => some (.int i)
  | .str x => some (.str x)
  | _ => none
def keyD : Key → PyData
  | .inl i => .int i
  | .inr x => .str x
/-- the value v is the datum d -/
inductive Dd (K : PySem.W.Frag) (H : Hp) : V → PyData → Prop
  | dat {v : V} {d : PyData} : Dp K H v d → d.hasDict = false → Dd K H v d
  | dct {a : Addr} {kvs : List (Key × V)} {ds : List PyData} : H a = some (.dK kvs) → kvs.map (fun p => flatD p.2) = ds.map some → Dd K H (.ref a) (.dict ((kvs.map fun p => keyD p.1).zip ds))
theorem flat_reads {h : Heap} {v : V} {u : Value} {d : PyData} (e : flatD v = some d) (r : RelV v u) : Reads h u d [] := by
  cases v with
  | non => cases e; cases (show u = Value.none from r); exact .none
  | bl b => cases e; cases (show u = Value.bool b from r); exact .bool b
  | int i => cases e; obtain ⟨t, rfl⟩ := (show ∃ t, u = Value.int i t from r); exact .int i t
  | str x => cases e; obtain ⟨t, rfl⟩ := (show ∃ t, u = Value.str x t from r); exact .str x t
  | byt b => cases e
  | flt b => cases e
  | ref a => cases e
  | ty n => cases e
theorem key_reads {h : Heap} {k : Key} {u : Value} (e : keyIs k u = true) : Reads h u (keyD k) [] := by
  rcases keyIs_shape e with ⟨i, t, rfl, rfl⟩ | ⟨x, t, rfl, rfl⟩
  · exact .int i t
  · exact .str x t
theorem pairs_reads {P : Program} {w : World} {h : Heap} : ∀ {kvs : List (Key × V)} {vs : List (Key × Value)} {es : List DictEntry} {ds : List PyData}, KV kvs vs → Pairs (mixKind P w) es vs → kvs.map (fun p => flatD p.2) = ds.map some →
    ReadsAll h (es.map (·.key)) (((kvs.map fun p => keyD p.1).zip ds).map (·.1)) [] ∧ ReadsAll h (es.map (·.val)) (((kvs.map fun p => keyD p.1).zip ds).map (·.2)) []
  | [], _, _, [], .nil, .nil, _ => ⟨.nil, .nil⟩
  | [], _, _, _ :: _, _, _, e => by cases e
  | _ :: _, _, _, [], _, _, e => by cases e
  | p :: kvs, _, _, d :: ds, .cons r rs, .cons k v ps, e => by
    obtain ⟨e1, e2⟩ := List.cons.inj e
    obtain ⟨i1, i2⟩ := pairs_reads (h := h) rs ps e2
    rw [← r.1] at k
    rw [← v] at r
    exact ⟨ReadsAll.cons (as := []) (bs := []) (key_reads k) i1, ReadsAll.cons (as := []) (bs := []) (flat_reads e1 r.2) i2⟩
section
variable {X : Cx} {pins : List (Addr × Obj)} {σ : L2.St} {H : Hp} {s : Shared}
theorem Dd.reads (I : Inv X pins σ H s) {v : V} {u : Value} {d : PyData} (h : Dd X.K H v d) (r : RelV v u) : ∃ as, Reads s.heap u d as ∧ (d.hasDict = true → sysModules ∉ as) := by
  cases h with
  | dat hd n =>
    obtain ⟨as, q⟩ := Dp.reads I d v u hd r
    exact ⟨as, q, fun z => by rw [n] at z; cases z⟩
  | @dct a kvs ds ha e =>
    cases (show u = Value.ref a from r)
    obtain ⟨_, ns, vs, kv, o, es, ep, ho, ex, hd, _, ps, _⟩ := (show ObjOk X.prog X.w H s.heap a (.dK kvs) from I.hok a _ ha)
    obtain ⟨q1, q2⟩ := pairs_reads (h := s.heap) kv ps e
    refine ⟨_, Reads.dict (as := []) (bs := []) ho ex.1 hd q1 q2, fun _ z => ?_⟩
    have z' : sysModules = a := by simpa using z
    rw [z'] at ns
    simp at ns
/-- repr(v), v a datum -/
def rRepr (K : PySem.W.Frag) : List V → Hp → VK → Prop := fun xs H Q => ∃ v d, xs = [v] ∧ Dd K H v d ∧ d.showable = true ∧ d.depth ≤ 60 ∧ d.shown.length ≤ sizeLine ∧ Q (.str d.shown) H
theorem call_repr (gd : X.A.guards = some []) (hu : X.A.units + 64 < cLine) : CallR X (.builtin "repr") (rRepr X.K) := by
  rintro pins s σ H xs us Q I r ⟨v, d, rfl, hd, sh, dp, sz, q⟩
  obtain ⟨u, rfl, ru⟩ := vals1 r
  obtain ⟨as, rd, ns⟩ := hd.reads I ru
  cases rd with
  | none =>
    refine PySem.P.repr_of_none ⟨.str "None", H, I.tok _, ⟨_, rfl⟩, ?_⟩
    simpa only [PyData.shown] using q
  | bool b =>
    refine PySem.P.repr_of_bool ⟨.str (if b then "True" else "False"), H, I.tok _, ⟨_, rfl⟩, ?_⟩
    simpa only [PyData.shown] using q
  | int i t =>
    refine PySem.P.repr_of_int (by simpa [PyData.showable] using sh) ⟨.str (toString i), H, I.tok _, ⟨_, rfl⟩, ?_⟩
    simpa only [PyData.shown] using q
  | str x t =>
    refine PySem.P.repr_of_str ⟨.str (reprText x), H, I.tok _, ⟨_, rfl⟩, ?_⟩ (by simpa only [PyData.shown] using sz)
    simpa only [PyData.shown] using q
  | list h1 h2 h3 h4 => exact repr_of_reads' (.list h1 h2 h3 h4) sh ns gd (by omega) (fun _ _ e => e) (fun h1 u tk hk => ⟨.str _, H, I.kept hk, ⟨u, rfl⟩, q⟩) sz
  | tuple h1 h2 h3 h4 => exact repr_of_reads' (.tuple h1 h2 h3 h4) sh ns gd (by omega) (fun _ _ e => e) (fun h1 u tk hk => ⟨.str _, H, I.kept hk, ⟨u, rfl⟩, q⟩) sz
  | dict h1 h2 h3 h4 h5 => exact repr_of_reads' (.dict h1 h2 h3 h4 h5) sh ns gd (by omega) (fun _ _ e => e) (fun h1 u tk hk => ⟨.str _, H, I.kept hk, ⟨u, rfl⟩, q⟩) sz
end
theorem Same.tup {K : PySem.W.Frag} {H H' : Hp} {a : Addr} {xs : List V} (e : Same H H') (h : SqT K H a xs) : SqT K H' a xs := by
  rcases h with (h | ⟨o, h⟩) | h
  · exact .inl (.inl (e _ _ h))
  · exact .inl (.inr ⟨o, e _ _ h⟩)
  · exact .inr h
mutual
theorem Dp.same {K : PySem.W.Frag} {H H' : Hp} (e : Same H H') : ∀ (d : PyData) (v : V), Dp K H v d → Dp K H' v d
  | .none, _, h => by cases h; exact .non
  | .bool _, _, h => by cases h; exact .bl _
  | .int _, _, h => by cases h; exact .int _
  | .str _, _, h => by cases h; exact .str _
  | .list ds, _, h => by
    cases h with
    | lst s a => exact .lst (L2.Same.seq e s) (DpAll.same e ds _ a)
  | .tuple ds, _, h => by
    cases h with
    | tup s a => exact .tup (Same.tup e s) (DpAll.same e ds _ a)
  | .dict _, _, h => by cases h
theorem DpAll.same {K : PySem.W.Frag} {H H' : Hp} (e : Same H H') : ∀ (ds : List PyData) (vs : List V), DpAll K H vs ds → DpAll K H' vs ds
  | [], _, h => by cases h; exact .nil
  | d :: ds, _, h => by
    cases h with
    | cons a b => exact .cons (Dp.same e d _ a) (DpAll.same e ds _ b)
end
theorem Dd.same {K : PySem.W.Frag} {H H' : Hp} (e : Same H H') {v : V} {d : PyData} (h : Dd K H v d) : Dd K H' v d := by
  cases h with
  | dat a n => exact .dat (Dp.same e _ _ a) n
  | dct a n => exact .dct (e _ _ a) n
end My

set_option maxHeartbeats 4000000
/-! Exceptions of own classes over ValueError as values: made by position and by name, their fields, isinstance. -/
namespace MyX
open PySem PySem.W PySem.Calls PyProof.Rows PySem.HandSPX
open Builtin Builtin.ObjectAttr
section
variable {M : Model} {prog : Program} {w : World} {A : Around} {E : Value → Shared → Prop} {R : Result → Shared → Prop} {h : Heap} {g : Array GenState} {d : Drawn} {t : Nat} {os : OsState}
variable {nm q : Str} {C N : Addr} {bs bm bmB : List Value} {hdct : Bool} {sn : List Str} {sub : List Value} {ab : Bool} {col : Option Bool} {dd : Option Addr} {k0 k1 k2 k3 k5 : Option Value} {B newId initId : String} {key : Str} {val : Value}
theorem check_type_kw {Q : Unit → Shared → Prop} (hC : h.get? C = some (excClassObj nm q C N bs bm hdct sn sub ab col dd k0 k1 k2 k3 k5 newId)) (z : Q () ⟨h, g, d, t, os⟩) :
    wpAny M A (checkBuiltinCall "type.__call__" ⟨[.ref C], [(key, val)]⟩) Q E ⟨h, g, d, t, os⟩ := by
  have e3 := tc_sub
  have ty : (⟨h, g, d, t, os⟩ : Shared).TypeIs (.ref C) "type" := ⟨_, hC, rfl⟩
  simp only [checkBuiltinCall, tc_kind, tc_split]
  repeat (any_goals (first
    | assumption
    | with_reducible refine wpAny_loadPart_at hC ?_
    | with_reducible refine wpAny_onRaise ?_
    | with_reducible refine wpAny_map ?_
    | wp_step))
theorem check_new_kw (F : ExcBaseFacts B newId initId bmB) (hT : ∀ X : String, bm.contains (.type X) = bmB.contains (.type X)) {Q : Unit → Shared → Prop}
    (hC : h.get? C = some (excClassObj nm q C N bs bm hdct sn sub ab col dd k0 k1 k2 k3 k5 newId)) (z : Q () ⟨h, g, d, t, os⟩) : wpAny M A (checkBuiltinCall newId ⟨[.ref C], [(key, val)]⟩) Q E ⟨h, g, d, t, os⟩ := by
  have hc : (Value.ref C :: bm).contains (.type B) = true := by rw [List.contains_cons, hT, F.hasB, Bool.or_true]
  have ns := F.noStar
  simp only [checkBuiltinCall, F.newKind, F.newSplit, F.newRow]
  repeat (first
    | refine wpAny_loadPart_at hC ?_
    | (refine wpAny_isSubtype_exc hC ?_; rw [hc])
    | refine wpAny_staticBase_exc hC ?_
    | refine wpAny_madeBy_exc hC ?_
    | simp only [bne_self_eq_false, Bool.false_eq_true, if_false]
    | wp_step)
  exact z
theorem new_kw (F : ExcBaseFacts B newId initId bmB) (hT : ∀ X : String, bm.contains (.type X) = bmB.contains (.type X))
    (hC : h.get? C = some (excClassObj nm q C N bs bm hdct sn sub ab col dd k0 k1 k2 k3 k5 newId))
    (z : R (.ok (.ret (.ref (h.objs.size + 1)))) ⟨(h.push (kdv_tup [])).push (excO C h.objs.size), g, d, t, os⟩) :
    codeAny (model prog w) A (.builtin newId ⟨[.ref C], [(key, val)]⟩) R ⟨h, g, d, t, os⟩ := by
  have he := F.ends
  have c1 : (Value.ref C :: bm).contains (.type B) = true := by rw [List.contains_cons, hT, F.hasB, Bool.or_true]
  have c2 : (Value.ref C :: bm).contains (.type "AttributeError") = false := by
    rw [List.contains_cons, hT, F.noAttr]
    rfl
  have c3 : (Value.ref C :: bm).contains (.type "NameError") = false := by
    rw [List.contains_cons, hT, F.noName]
    rfl
  refine codeAny_builtinAt F.entry ?_
  unfold Builtin.«BaseException.__new__»
  refine PySem.wpAt_bind ?_
  show PySem.wpAt _ _ _ (stack >>= _) _ _ _
  refine PySem.wpAt_bind (PySem.wpAt_stack fun p below => PySem.wpAt_of_wpAny ?_)
  wp_walk
  refine PySem.wpAt_of_wpAny ?_
  rw [F.owner]
  repeat (first
    | with_reducible refine wpAny_madeHere_exc F.canon hC ?_
    | with_reducible refine wpAny_loadPart_at hC ?_
    | (with_reducible refine wpAny_isSubtype_exc hC ?_; first | rw [c1] | rw [c2] | rw [c3])
    | wp_step)
  show R _ _
  rw [Heap.size_push]
  exact z
theorem type_call_kw (F : ExcBaseFacts B newId initId bmB) (hT : ∀ X : String, bm.contains (.type X) = bmB.contains (.type X)) {fI : Addr} {Q : Fin → Shared → Prop}
    (hC : h.get? C = some (excClassObj nm q C N bs bm hdct sn sub ab col dd k0 k1 k2 k3 k5 newId))
    (hi : Looks (model prog w) h (typeLookup (.ref C) "__init__") (some (.ref fI))) (hb : ∀ self, Looks (model prog w) h (bindSpecial (.ref fI) self) (.ref fI, [self]))
    (z : codeAny (model prog w) A (.call (.ref fI) ⟨[.ref (h.objs.size + 1)], [(key, val)]⟩)
      (fun r s' => match r with | .ok (.ret v) => v = .none ∧ Q (.done (.ret (.ref (h.objs.size + 1)))) s' | .ok _ => False | .error e => E e s')
      ⟨(h.push (kdv_tup [])).push (excO C h.objs.size), g, d, t, os⟩) :
    wpAny (model prog w) A (Builtin.«type.__call__» ⟨[.ref C], [(key, val)]⟩) Q E ⟨h, g, d, t, os⟩ := by
  repeat (first
    | with_reducible refine wpAny_loadPart_at hC ?_
    | with_reducible refine wpAny_madeBy_exc hC ?_
    | wp_step)
  refine codeAny_call_builtin_code (Code.quiet_builtin _ F.quiet) (check_new_kw F hT hC ?_)
  refine new_kw F hT hC ?_
  show wpAny _ _ _ _ _ _
  have k : ∀ b o, h.get? b = some o → ((h.push (kdv_tup [])).push (excO C h.objs.size)).get? b = some o := fun b o e => Heap.get?_push_of_some _ (Heap.get?_push_of_some _ e)
  have hC2 := k _ _ hC
  have at1 : ((h.push (kdv_tup [])).push (excO C h.objs.size)).get? (h.objs.size + 1) = some (excO C h.objs.size) := by heap_get
  have cc : (Value.ref C :: bm).contains (.ref C) = true := by simp
  have i1 := hi.keeps k
  have b1 := (hb (.ref (h.objs.size + 1))).keeps k
  unfold isInstance
  repeat (first
    | with_reducible refine wpAny_loadPart_at at1 ?_
    | (with_reducible refine wpAny_isSubtype_exc hC2 ?_; rw [cc])
    | wp_step)
  show wpAny _ _ (typeLookup (.ref C) _) _ _ _
  refine i1.at ?_
  refine wpAny_holding (wpAny_bind (b1.at ?_))
  refine wpAny_bind (wpAny_call (codeAny_mono z ?_))
  rintro (e | (v | _ | _ | _)) s' y <;> first | exact y | exact y.elim | skip
  all_goals first
    | (obtain ⟨rfl, y⟩ := y; first | exact wpAny_pure (wpAny_pure y) | (wp_walk; exact y))
    | exact y
theorem call_kw (F : ExcBaseFacts B newId initId bmB) (hT : ∀ X : String, bm.contains (.type X) = bmB.contains (.type X)) {fI : Addr}
    (hC : h.get? C = some (excClassObj nm q C N bs bm hdct sn sub ab col dd k0 k1 k2 k3 k5 newId))
    (hi : Looks (model prog w) h (typeLookup (.ref C) "__init__") (some (.ref fI))) (hb : ∀ self, Looks (model prog w) h (bindSpecial (.ref fI) self) (.ref fI, [self]))
    (z : codeAny (model prog w) (A.under (.builtin "type.__call__" ⟨[.ref C], [(key, val)]⟩)) (.call (.ref fI) ⟨[.ref (h.objs.size + 1)], [(key, val)]⟩) (InitBack (h.objs.size + 1) R)
      ⟨(h.push (kdv_tup [])).push (excO C h.objs.size), g, d, t, os⟩) :
    codeAny (model prog w) A (.call (.ref C) ⟨[], [(key, val)]⟩) R ⟨h, g, d, t, os⟩ := by
  have e1 := tc_lookup
  have e2 := tc_bind (.ref C)
  have ty : (⟨h, g, d, t, os⟩ : Shared).TypeIs (.ref C) "type" := ⟨_, hC, rfl⟩
  refine codeAny_of_tree ?_
  show wpAny _ _ (callAny (.ref C) _) _ _ _
  repeat (any_goals (first
    | assumption
    | with_reducible refine wpAny_loadPart_at hC ?_
    | wp_step))
  refine ⟨rfl, ?_⟩
  refine codeAny_call_builtin_at (Code.quiet_builtin _ (by decide +kernel)) entry_typeCall (check_type_kw hC (type_call_kw F hT hC hi hb ?_))
  refine codeAny_mono z ?_
  rintro (e | (v | _ | _ | _)) s' y <;> exact y
end
end MyX

set_option maxHeartbeats 4000000
/-! The layer's rules for exceptions as values. -/
namespace My
open PySem PySem.Spec PyProof.Rows L2

/-- an exception's own __init__: one field -/
def spInit (C : Addr) (fld : Str) : Sp := fun xs H Q _ => ∃ (a : Addr) (v : V), xs = [.ref a, v] ∧ H a = some (exo a C none) ∧
  ∀ d, H d = none → d ≠ a → Q .non (upd (upd H d (exd d [(fld, v)])) a (exo a C (some d)))
/-- what the class at C, its __init__ at fI must be -/
structure XCls (K : PySem.W.Frag) (C fI : Addr) (fld : Str) : Prop where
  ox : OexC K C
  iC : PySem.W.findIn K (.ref C) "__init__" = some (some (.ref fI))
  tI : PySem.W.typeIn K (.ref fI) = some (.type "function")
  xf : XfC K C
  no : PySem.W.findIn K (.ref C) fld = some none
/-- a new exception of the class at C, its dict with the one field -/
def NewX (C : Addr) (fld : Str) (v : V) (H : Hp) (Q : VK) : Prop := ∀ a d, H a = none → H d = none → d ≠ a → Q (.ref a) (upd (upd (upd H a (exo a C none)) d (exd d [(fld, v)])) a (exo a C (some d)))
def tMkX (C : Addr) (fld : Str) (ta : TA) : TE := fun σ H Q => ta σ H fun vs H1 => ∃ v, vs = [v] ∧ NewX C fld v H1 Q
section
variable {X : Cx} {nm : Str} {C fI : Addr} {k : Nat} {fd : FuncData} {fld : Str} {e : Expr} {te : TE} {ta : TA} {p pos kpos : Pos} {pins : List (Addr × Obj)} {σ : L2.St} {H : Hp}
theorem mkx_start {hp : Heap} {g : Array GenState} {dr : Drawn} {tk : Nat} {os : OsState} {us : List Value} {v : V} {Q : VK} (I : Inv X pins σ H ⟨hp, g, dr, tk, os⟩) (q : NewX C fld v H Q) :
    Inv X pins σ (upd H (hp.objs.size + 1) (exo (hp.objs.size + 1) C none)) ⟨(hp.push (PySem.W.kdv_tup us)).push (PySem.HandSPX.excO C hp.objs.size), g, dr, tk, os⟩ ∧
    spInit C fld [.ref (hp.objs.size + 1), v] (upd H (hp.objs.size + 1) (exo (hp.objs.size + 1) C none)) (fun r H2 => r = .non ∧ Q (.ref (hp.objs.size + 1)) H2) E0 := by
  have big : hp.objs.size ≤ hp.objs.size + 1 := Nat.le_succ _
  have none1 : H (hp.objs.size + 1) = none := I.hok.fresh big
  have here : ((hp.push (PySem.W.kdv_tup us)).push (PySem.HandSPX.excO C hp.objs.size)).get? (hp.objs.size + 1) = some (PySem.HandSPX.excO C hp.objs.size) := by heap_get
  refine ⟨I.laid (fun b o e => Heap.get?_push_of_some _ (Heap.get?_push_of_some _ e)) big (exo_ok here), _, v, rfl, upd_same, ?_⟩
  intro d hd hne
  rw [upd_ne hne] at hd
  exact ⟨rfl, q _ d none1 hd hne⟩
/-- behind __init__ -/
theorem mkx_end {s : Shared} {n : Addr} {Q : VK} (I : Inv X pins σ H s) {r : Result} {s' : Shared} (h : CR CX0 X.stack X.prog X.w H s (fun r H2 => r = .non ∧ Q (.ref n) H2) E0 r s') :
    PySem.W.InitBack n (fun r s' => match r with | .ok (.ret v) => EP X pins σ Q v s' | .ok _ => False | .error e => X.xe e s') r s' := by
  rcases r with er | fl
  · exact False.elim h
  · cases fl with
    | ret u =>
      obtain ⟨v, H', J, rv, ev, q⟩ := I.after h
      subst ev
      exact ⟨rv, .ref n, H', J, rfl, q⟩
    | next => exact False.elim h
    | brk => exact False.elim h
    | cont => exact False.elim h
theorem pe_mkX (T : XCls X.K C fI fld) (G : FnOk X.prog X.w X.K X.mg X.base CX0 k fI fd ["self", fld] (spInit C fld)) (hr : Room (k + 1) X.A) (hb : Binds X.K fd ["self", fld] []) (hg : Gl X nm) (hm : X.mg nm = some (.ref C)) (ha : PA X [e] ta)
    (hdb : (nm == ("__debug__" : Str)) = false := by decide) (hs : starEach [e] X.env = (false, eval e X.env) :: starEach [] X.env := by rfl) (hpl : (backTo pos (starEach [] X.env)).any (·.1) = false := by rfl) :
    PE X (.Call (.Name nm p) [e] [] pos) (tMkX C fld ta) := by
  refine ⟨?_⟩
  intro pins s σ H Q I h
  obtain ⟨cn, q, N, bs, bm, sn, sub, ab, col, dd, k0, k1, k2, k3, k5, hC, hbm⟩ := T.ox.cls
  refine wpAny_Call_Name_kw (ld_glob I hg hm ?_ hdb)
  refine PySem.W.callWith_K (h₀ := X.base) I.ok.mod.kin T.ox.kC (thn (ha.run pos pins s σ H _ I h) ?_) hs hpl
  rintro us s1 ⟨vs, H1, I1, r, v, rfl, q1⟩
  refine ⟨I1.kIn, ?_⟩
  obtain ⟨u, rfl, ru⟩ := vals1 r
  obtain ⟨hp, g, dr, tk, os⟩ := s1
  obtain ⟨I2, h2⟩ := mkx_start (us := [u]) I1 q1
  show wpAny _ _ (call (.ref C) [u]) _ _ _
  have bd := hb _ [.ref (hp.objs.size + 1), u] I2.kIn rfl
  refine wpAny_call (PySem.HandSPX.call_own PySem.F.excBase_ValueError (fun Y => PySem.HandSPX.refsVE_contains Y bm hbm) (I1.kIn _ _ hC) (PySem.W.looks_findIn I1.kIn T.iC) (fun self => PySem.W.bind_fn I1.kIn self T.tI) (by show 1 ≤ sizeLine; decide) ?_)
  refine codeAny_mono (G.run _ X.stack _ _ ⟨[.ref (hp.objs.size + 1), u], []⟩ [.ref (hp.objs.size + 1), u] [.ref (hp.objs.size + 1), v] _ E0 (hr.make C [u] []) (I2.env0.make C [u] []) bd (.cons rfl (.cons ru .nil)) h2) ?_
  intro r s' hq
  exact mkx_end I2 hq
/-- the same by the field's name -/
theorem pe_mkXK {tk : TA} (T : XCls X.K C fI fld) (G : FnOk X.prog X.w X.K X.mg X.base CX0 k fI fd ["self", fld] (spInit C fld)) (hr : Room (k + 1) X.A) (hb : ∀ (s : Shared) (a u : Value), BindsTo s fd ⟨[a], [(fld, u)]⟩ ([("self" : Str), fld].zip [a, u])) (hg : Gl X nm) (hm : X.mg nm = some (.ref C))
    {kws : List Keyword} (hk : PK X kws tk) (hall : (backToKw pos (keywordEach kws X.env)).all (·.1.isSome) = true := by rfl) (hks : (backToKw pos (keywordEach kws X.env)).filterMap (·.1) = [fld] := by rfl)
    (hdb : (nm == ("__debug__" : Str)) = false := by decide) (hpl : ((backTo pos (starEach [] X.env)).any (·.1) || (backToKw pos (keywordEach kws X.env)).any (·.1.isNone)) = false := by rfl) :
    PE X (.Call (.Name nm p) [] kws pos) (tMkX C fld tk) := by
  refine ⟨?_⟩
  intro pins s σ H Q I h
  obtain ⟨cn, q, N, bs, bm, sn, sub, ab, col, dd, k0, k1, k2, k3, k5, hC, hbm⟩ := T.ox.cls
  refine wpAny_Call_Name_kw (ld_glob I hg hm ?_ hdb)
  refine PySem.W.callWith_KW0 (h₀ := X.base) I.ok.mod.kin T.ox.kC hall (thn (hk.run pos pins s σ H _ I h) ?_) hpl
  rintro us s1 ⟨vs, H1, I1, r, v, rfl, q1⟩
  refine ⟨I1.kIn, ?_⟩
  obtain ⟨u, rfl, ru⟩ := vals1 r
  rw [hks]
  obtain ⟨hp, g, dr, tk, os⟩ := s1
  obtain ⟨I2, h2⟩ := mkx_start (us := []) I1 q1
  show wpAny _ _ (call (.ref C) [] [(fld, u)]) _ _ _
  refine wpAny_call (MyX.call_kw PySem.F.excBase_ValueError (fun Y => PySem.HandSPX.refsVE_contains Y bm hbm) (I1.kIn _ _ hC) (PySem.W.looks_findIn I1.kIn T.iC) (fun self => PySem.W.bind_fn I1.kIn self T.tI) ?_)
  refine codeAny_mono (G.run _ X.stack _ _ ⟨[.ref (hp.objs.size + 1)], [(fld, u)]⟩ [.ref (hp.objs.size + 1), u] [.ref (hp.objs.size + 1), v] _ E0 (hr.make C [] [(fld, u)]) (I2.env0.make C [] [(fld, u)]) (hb _ _ _) (.cons rfl (.cons ru .nil)) h2) ?_
  intro r s' hq
  exact mkx_end I2 hq
/-- C(), an own exception class without an __init__ -/
theorem pe_mkX0 {bmB : List Value} {B newId initId : String} (F : ExcBaseFacts B newId initId bmB) (q : PySem.W.excIn X.K C bmB newId = true) (gC : X.mg nm = some (.ref C)) (kC : PySem.W.keepIn X.K (.ref C) = true) (hg : Gl X nm) (hdb : (nm == ("__debug__" : Str)) = false := by decide) :
    PE X (.Call (.Name nm p) [] [] pos) (fun _ H Q => ∀ a, H a = none → Q (.ref a) (upd H a (ExO (.ref C) a))) := by
  refine ⟨?_⟩
  intro pins s σ H Q I h
  refine wpAny_Call_Name_kw (ld_glob I hg gC ?_ hdb)
  refine PySem.W.callWith_K0 I.kIn kC ?_
  show wpAny _ _ (call (.ref C) []) _ _ _
  obtain ⟨bm, N, nm, qn, bs, hdct, sn, sub, ab, col, dd, k0, k1, k2, k3, k5, mN, hC, hN, hni, T⟩ := exc_obj I.kIn q
  refine wpAny_call_exc_subT F T hC hN hni ?_ (by show 0 ≤ sizeLine; decide)
  intro h' a hm
  have hn : H a = none := I.hok.gone hm.new
  obtain ⟨t, ht, _, _⟩ := hm.there
  exact ⟨.ref a, _, I.laidN hm.keeps hm.new hn (exO_ok ht ⟨rfl, rfl⟩ rfl rfl rfl (show 4 < 6 by decide)), rfl, h a hn⟩

/-- e.f, e such an exception -/
def tXget (K : PySem.W.Frag) (f : Str) (te : TE) : TE := fun σ H Q => te σ H fun x H1 => ∃ (a C d : Addr) (fs : List (Str × V)) (v : V), x = .ref a ∧ H1 a = some (exo a C (some d)) ∧ H1 d = some (exd d fs) ∧ XfC K C ∧
  PySem.W.findIn K (.ref C) f = some none ∧ fs.lookup f = some v ∧ Q v H1
theorem pe_xget {f : Str} (he : PE X e te) (hb : attributeBase e f X.env (eval e X.env) = eval e X.env := by rfl) : PE X (.Attribute e f pos) (tXget X.K f te) := by
  refine ⟨?_⟩
  intro pins s σ H Q I h
  refine attr_of hb (thn (he.run pins s σ H _ I h) ?_)
  rintro u s1 ⟨x, H1, I1, rx, a, C, d, fs, v, rfl, ha, hd, T, no, l, q⟩
  obtain rfl : u = Value.ref a := rx
  obtain ⟨t1, oa⟩ := exo_at I1.hok ha
  obtain ⟨mA, ns, rel⟩ := exd_at I1.hok hd
  obtain ⟨od, hod, hl⟩ := lookIn_ns ns
  obtain ⟨u, hu, ru⟩ := RelO.some_of (v := v) (o := mA f) (by rw [← l]; exact rel f)
  have J : PySem.W.InstAt s1.heap a { cls := .ref C, dict := some d, data := .fields #[.ref t1, .none, .none, .none, .bool false, .none] } C (some od) := ⟨oa, rfl, rfl, hod⟩
  exact HandSPX.exc_get I1.kIn J T.ga T.gg T.exC (PySem.W.findObj_own T.hdC no rfl (by rw [hl, hu])) (handed_of ru) ⟨v, H1, I1.tok _, ru, q⟩

/-- at a: an exception of the class at C -/
def IsX (H : Hp) (a C : Addr) : Prop := (∃ d fs, H a = some (exo a C (some d)) ∧ H d = some (exd d fs)) ∨ H a = some (ExO (.ref C) a)
/-- what isinstance asks of such a class -/
structure XIs (K : PySem.W.Frag) (C : Addr) : Prop where
  cl : (PySem.W.clsIn K C).isSome = true
  xf : XfC K C
  ha : PySem.W.findIn K (.ref C) "__class__" = some (some (.builtin "object.__class__"))
  hn : PySem.W.specialIn K (.builtin "object.__class__") "__get__" = some (some (.builtin "getset_descriptor.__get__"))
  ht : PySem.W.takesIn K (.builtin "object.__class__") = some true
  hm : PySem.W.mroIn K C (.type "object") = some true
def rIsX (K : PySem.W.Frag) : List V → Hp → VK → Prop := fun xs H Q => ∃ (a C : Addr) (c : V) (u : Value) (b : Bool), xs = [.ref a, c] ∧ ClsV c u ∧ IsX H a C ∧ XIs K C ∧ PySem.W.kitOne K (.ref C) u = some b ∧ Q (.bl b) H
theorem call_isX : CallR X (.builtin "isinstance") (rIsX X.K) := by
  rintro pins s σ H xs us Q I r ⟨a, C, c, u, b, rfl, cv, hx, T, kit, q⟩
  obtain ⟨u1, u2, rfl, r1, r2⟩ := vals2 r
  obtain rfl : u2 = u := cv.eq r2
  obtain rfl : u1 = Value.ref a := r1
  have go : ∀ (ox : Obj) (od : Option Obj), PySem.W.InstAt s.heap a ox C od → wpAny (model X.prog X.w) X.A (call (.builtin "isinstance") [.ref a, u2]) (EP X pins σ Q) X.xe s := fun ox od J =>
    PySem.W.kia_one (PySem.W.kitx_exc T.cl T.xf.ga T.xf.gg T.xf.exC T.ha T.hn T.ht T.hm) I.kIn J kit (fun z => nomatch z) fun tk => ⟨.bl b, H, I.tok tk, rfl, q⟩
  rcases hx with ⟨d, fs, ha, hd⟩ | ha
  · obtain ⟨t1, oa⟩ := exo_at I.hok ha
    obtain ⟨mA, ⟨od, es, ep, hod, _⟩, _⟩ := exd_at I.hok hd
    exact go _ (some od) ⟨oa, rfl, rfl, hod⟩
  · have z : ObjOk X.prog X.w H s.heap a (ExO (.ref C) a) := I.hok a _ ha
    obtain ⟨⟨oe, vs, ho, ⟨z1, z2⟩, hd, _⟩, _⟩ := z
    refine go oe none ⟨ho, z1, ?_, ?_⟩
    · unfold PySem.W.notCls
      rw [hd]
    · rw [z2]
      trivial
end
end My

set_option maxHeartbeats 2000000
/-! Graphs as pairs of numbers: what a GRAPH is, in plain Lean. -/
namespace My
open PySem PySem.Spec PyProof.Rows L2
abbrev E2 := Nat × Nat
theorem same_put {H H1 : Hp} {D : Addr} {o : HO} (s : Same H H1) (n : H D = none) : Same H (upd H1 D o) := fun b u e => by
  rw [upd_ne (ne_of_none e n)]
  exact s b u e
/-- a stands ahead of b, as tuples -/
def ahead (a b : E2) : Prop := a.1 < b.1 ∨ (a.1 = b.1 ∧ a.2 < b.2)
instance (a b : E2) : Decidable (ahead a b) := inferInstanceAs (Decidable (_ ∨ _))
structure Good (n : Nat) (es : List E2) : Prop where
  n9 : n ≤ 9
  lt : ∀ p ∈ es, p.1 < p.2 ∧ p.2 < n
  up : es.Pairwise ahead
/-- the pairs with u ahead, below n; all pairs below n, ascending -/
def rowP (n u : Nat) : List E2 := (List.range (n - (u + 1))).map fun j => (u, u + 1 + j)
def allP (n : Nat) : List E2 := (List.range n).flatMap (rowP n)
theorem mem_rowP {n u : Nat} {p : E2} : p ∈ rowP n u ↔ p.1 = u ∧ u < p.2 ∧ p.2 < n := by
  unfold rowP
  rw [List.mem_map]
  constructor
  · rintro ⟨j, hj, rfl⟩
    have := List.mem_range.mp hj
    refine ⟨rfl, ?_, ?_⟩ <;> show _ < _ <;> omega
  · rintro ⟨h1, h2, h3⟩
    refine ⟨p.2 - (u + 1), List.mem_range.mpr (by omega), ?_⟩
    obtain ⟨a, b⟩ := p
    simp only at h1 h2 h3 ⊢
    rw [h1, show u + 1 + (b - (u + 1)) = b by omega]
theorem mem_allP {n : Nat} {p : E2} : p ∈ allP n ↔ p.1 < p.2 ∧ p.2 < n := by
  unfold allP
  rw [List.mem_flatMap]
  constructor
  · rintro ⟨u, hu, h⟩
    obtain ⟨h1, h2, h3⟩ := mem_rowP.mp h
    omega
  · rintro ⟨h1, h2⟩
    exact ⟨p.1, List.mem_range.mpr (by omega), mem_rowP.mpr ⟨rfl, h1, h2⟩⟩
theorem allP_up : ∀ n, n ≤ 9 → (allP n).Pairwise ahead := by decide +kernel
theorem allP_few : ∀ n, n ≤ 9 → (allP n).length ≤ 36 := by decide +kernel
theorem ahead_ne {a b : E2} (h : ahead a b) : a ≠ b := by
  rintro rfl
  rcases h with h | h <;> omega
theorem sub_few {α : Type} [DecidableEq α] : ∀ {l m : List α}, l.Nodup → (∀ x ∈ l, x ∈ m) → l.length ≤ m.length
  | [], _, _, _ => Nat.zero_le _
  | a :: l, m, nd, sub => by
    obtain ⟨na, nl⟩ := List.nodup_cons.mp nd
    have ma : a ∈ m := sub a (List.mem_cons_self ..)
    have ih := sub_few (l := l) (m := m.erase a) nl fun x hx => by
      have hne : x ≠ a := fun e => na (e ▸ hx)
      exact (List.mem_erase_of_ne hne).mpr (sub x (List.mem_cons_of_mem _ hx))
    have le := List.length_erase_of_mem ma
    have pos : 0 < m.length := List.length_pos_of_mem ma
    rw [List.length_cons]
    omega
theorem Good.nodup {n : Nat} {es : List E2} (g : Good n es) : es.Nodup := g.up.imp fun h => ahead_ne h
theorem Good.few {n : Nat} {es : List E2} (g : Good n es) : es.length ≤ 36 := Nat.le_trans (sub_few g.nodup fun p hp => mem_allP.mpr (g.lt p hp)) (allP_few n g.n9)
theorem Good.filter {n : Nat} (h : n ≤ 9) (f : E2 → Bool) : Good n ((allP n).filter f) := ⟨h, fun p hp => mem_allP.mp (List.mem_filter.mp hp).1, (allP_up n h).filter _⟩
theorem Good.nil {n : Nat} (h : n ≤ 9) : Good n [] := ⟨h, fun _ z => (nomatch z), .nil⟩
theorem Good.more {n m : Nat} {es : List E2} (g : Good n es) (h : n ≤ m) (h9 : m ≤ 9) : Good m es := ⟨h9, fun p hp => ⟨(g.lt p hp).1, by have := (g.lt p hp).2; omega⟩, g.up⟩

/-! ### on the heap -/
/-- the pair p as a tuple -/
def PairAt (K : PySem.W.Frag) (H : Hp) (x : V) (p : E2) : Prop := ∃ t, x = .ref t ∧ SqT K H t [.int (p.1 : Int), .int (p.2 : Int)]
abbrev PairsAt (K : PySem.W.Frag) (H : Hp) : List V → List E2 → Prop := Paired (PairAt K H)
theorem PairAt.same {K : PySem.W.Frag} {H H' : Hp} (e : Same H H') {x : V} {p : E2} (h : PairAt K H x p) : PairAt K H' x p := by
  obtain ⟨t, rfl, h⟩ := h
  exact ⟨t, rfl, Same.tup e h⟩
theorem PairsAt.same {K : PySem.W.Frag} {H H' : Hp} (e : Same H H') : ∀ {xs : List V} {ps : List E2}, PairsAt K H xs ps → PairsAt K H' xs ps
  | _, _, .nil => .nil
  | _, _, .cons a b => .cons (a.same e) (PairsAt.same e b)
theorem PairsAt.append {K : PySem.W.Frag} {H : Hp} : ∀ {xs ys : List V} {ps qs : List E2}, PairsAt K H xs ps → PairsAt K H ys qs → PairsAt K H (xs ++ ys) (ps ++ qs)
  | _, _, _, _, .nil, h => h
  | _, _, _, _, .cons a b, h => .cons a (PairsAt.append b h)
/-- a graph -/
def GraphAt (K : PySem.W.Frag) (H : Hp) (x : V) (n : Nat) (es : List E2) : Prop := ∃ (t e : Addr) (xs : List V), x = .ref t ∧ SqT K H t [.int (n : Int), .ref e] ∧ SqT K H e xs ∧ PairsAt K H xs es
theorem GraphAt.same {K : PySem.W.Frag} {H H' : Hp} (s : Same H H') {x : V} {n : Nat} {es : List E2} (h : GraphAt K H x n es) : GraphAt K H' x n es := by
  obtain ⟨t, e, xs, rfl, h1, h2, h3⟩ := h
  exact ⟨t, e, xs, rfl, Same.tup s h1, Same.tup s h2, h3.same s⟩
def pairD (p : E2) : PyData := .tuple [.int (p.1 : Int), .int (p.2 : Int)]
def graphD (n : Nat) (es : List E2) : PyData := .tuple [.int (n : Int), .tuple (es.map pairD)]
theorem PairAt.dp {K : PySem.W.Frag} {H : Hp} {x : V} {p : E2} (h : PairAt K H x p) : Dp K H x (pairD p) := by
  obtain ⟨t, rfl, h⟩ := h
  exact .tup h (.cons (.int _) (.cons (.int _) .nil))
theorem PairsAt.dp {K : PySem.W.Frag} {H : Hp} : ∀ {xs : List V} {ps : List E2}, PairsAt K H xs ps → DpAll K H xs (ps.map pairD)
  | _, _, .nil => .nil
  | _, _, .cons a b => .cons a.dp (PairsAt.dp b)
theorem GraphAt.dp {K : PySem.W.Frag} {H : Hp} {x : V} {n : Nat} {es : List E2} (h : GraphAt K H x n es) : Dp K H x (graphD n es) := by
  obtain ⟨t, e, xs, rfl, h1, h2, h3⟩ := h
  exact .tup h1 (.cons (.int _) (.cons (.tup h2 h3.dp) .nil))
theorem PairsAt.get {K : PySem.W.Frag} {H : Hp} {xs : List V} {ps : List E2} {i : Nat} {x : V} (h : PairsAt K H xs ps) (e : xs[i]? = some x) : ∃ p, ps[i]? = some p ∧ PairAt K H x p := by
  have go : ∀ {xs : List V} {ps : List E2} {i : Nat} {x : V}, PairsAt K H xs ps → xs[i]? = some x → ∃ p, ps[i]? = some p ∧ PairAt K H x p := by
    intro xs
    induction xs with
    | nil => intro ps i x _ e; simp at e
    | cons a l ih =>
      intro ps i x h e
      cases h with
      | cons r t =>
        cases i with
        | zero => simp at e; subst e; exact ⟨_, rfl, r⟩
        | succ i => obtain ⟨p, h1, h2⟩ := ih t (by simpa using e); exact ⟨p, by simpa using h1, h2⟩
  exact go h e
end My

set_option maxHeartbeats 2000000
/-! Rules that pairs want: the lesser and the greater number of one; a list of pairs made a set, sorted, made a tuple. -/
namespace My
open PySem PySem.Spec PyProof.Rows L2
section
variable {X : Cx}
def rOfPair (f : Int → Int → Int) (K : PySem.W.Frag) : List V → Hp → VK → Prop := fun xs H Q => ∃ (t : Addr) (u v : Int), xs = [.ref t] ∧ SqT K H t [.int u, .int v] ∧ Q (.int (f u v)) H
theorem pair_reads {pins : List (Addr × Obj)} {σ : L2.St} {H : Hp} {s : Shared} {t : Addr} {u v : Int} (I : Inv X pins σ H s) (h : SqT X.K H t [.int u, .int v]) : ∃ vs : Array Value, s.heap.IsTuple t vs ∧ ∃ as, ReadsAll s.heap vs.toList [.int u, .int v] as := by
  obtain ⟨its, r, p, _⟩ := I.tuple h
  obtain ⟨as, q⟩ := Dp.readsAll I [.int u, .int v] [.int u, .int v] its (.cons (.int _) (.cons (.int _) .nil)) r
  obtain ⟨o, ho, hc, n, hd⟩ := p
  exact ⟨its.toArray, ⟨o, ho, hc, n, hd⟩, as, by simpa using q⟩
theorem call_minPair (hc : X.calm = true) (hu : X.A.units + 64 < cLine) : CallR X (.builtin "min") (rOfPair min X.K) := by
  rintro pins s σ H xs us Q I r ⟨t, u, v, rfl, h, q⟩
  rw [Vals.ref1 r]
  obtain ⟨vs, ht, as, rs⟩ := pair_reads I h
  refine PySem.W.min_tuple_data (I.ok.hd hc) ht rs (PySem.W.alikeAll_datum [u, v]) (by simp only [PyData.depthAll, PyData.depth]; omega) ?_
  intro i x h' tk bs hi rd hk
  have e := PySem.W.minD_ints u [v]
  have e' : PySem.W.minD (.int u) [.int v] = .int (min u v) := e
  rw [e'] at rd
  cases rd
  exact ⟨.int _, H, I.kept hk, ⟨_, rfl⟩, q⟩
theorem call_maxPair (hc : X.calm = true) (hu : X.A.units + 64 < cLine) : CallR X (.builtin "max") (rOfPair max X.K) := by
  rintro pins s σ H xs us Q I r ⟨t, u, v, rfl, h, q⟩
  rw [Vals.ref1 r]
  obtain ⟨vs, ht, as, rs⟩ := pair_reads I h
  refine PySem.W.max_tuple_data (I.ok.hd hc) ht rs (PySem.W.alikeAll_datum [u, v]) (by simp only [PyData.depthAll, PyData.depth]; omega) ?_
  intro i x h' tk bs hi rd hk
  have e := PySem.W.maxD_ints u [v]
  have e' : PySem.W.maxD (.int u) [.int v] = .int (max u v) := e
  rw [e'] at rd
  cases rd
  exact ⟨.int _, H, I.kept hk, ⟨_, rfl⟩, q⟩
end
/-! ### a pair among the pairs of a tuple -/
theorem pairD_lay (p : E2) : (pairD p).canLay0 = true := by simp [pairD, PyData.canLay0, PyData.canLayAll0]
theorem pairD_depth (p : E2) : (pairD p).depth = 1 := by simp [pairD, PyData.depth, PyData.depthAll]
theorem pairsD_lay : ∀ ps : List E2, PyData.canLayAll0 (ps.map pairD) = true
  | [] => by rw [List.map_nil]; simp [PyData.canLayAll0]
  | p :: ps => by simp [PyData.canLayAll0, pairD_lay p, pairsD_lay ps]
theorem pairsD_depth : ∀ ps : List E2, PyData.depthAll (ps.map pairD) ≤ 1
  | [] => by rw [List.map_nil]; simp [PyData.depthAll]
  | p :: ps => by
    have a := pairsD_depth ps
    have b := pairD_depth p
    rw [List.map_cons]
    simp only [PyData.depthAll]
    omega
theorem pairD_eqv (p q : E2) : PyData.eqv (pairD p) (pairD q) = decide (p = q) := by
  obtain ⟨a, b⟩ := p
  obtain ⟨c, d⟩ := q
  simp only [pairD, PyData.eqv, PyData.eqvAll, Bool.and_true]
  by_cases h1 : a = c
  · subst h1
    by_cases h2 : b = d
    · subst h2
      simp
    · have z : ((b : Int) == (d : Int)) = false := beq_eq_false_iff_ne.mpr fun e => h2 (by omega)
      simp [z, h2]
  · have z : ((a : Int) == (c : Int)) = false := beq_eq_false_iff_ne.mpr fun e => h1 (by omega)
    simp [z, h1]
theorem any_pairs (p : E2) : ∀ es : List E2, ((es.map pairD).any fun z => PyData.eqv z (pairD p)) = decide (p ∈ es)
  | [] => rfl
  | q :: es => by
    rw [List.map_cons, List.any_cons, any_pairs p es, pairD_eqv]
    by_cases h : q = p
    · subst h
      simp
    · have h' : p ≠ q := fun e => h e.symm
      simp [h, h']
section
variable {X : Cx}
def rInP (k : Bool → Bool) (K : PySem.W.Frag) : R2 := fun x y H Q => ∃ (p : E2) (t : Addr) (xs : List V) (es : List E2), PairAt K H x p ∧ y = .ref t ∧ SqT K H t xs ∧ PairsAt K H xs es ∧ Q (.bl (k (decide (p ∈ es)))) H
theorem op_inP (hu : X.A.units + 64 < cLine) : OpR X (compareOp .In) (rInP id X.K) := by
  rintro pins s σ H x y v u Q I rx ry ⟨p, t, xs, es, hp, rfl, ht, hes, q⟩
  obtain ⟨as, r1⟩ := Dp.reads I _ x v hp.dp rx
  obtain ⟨bs, r2⟩ := Dp.reads I (.tuple (es.map pairD)) (.ref t) u (.tup ht hes.dp) ry
  refine SeqAt.in_tuple_reads r2 r1 (pairsD_lay es) (pairD_lay p) ?_ ?_
  · have := pairD_depth p
    have := Nat.min_le_right (PyData.depthAll (es.map pairD)) (pairD p).depth
    omega
  · rw [any_pairs]
    exact ⟨.bl _, H, I, rfl, q⟩
theorem op_notInP (hu : X.A.units + 64 < cLine) : OpR X (compareOp .NotIn) (rInP not X.K) := by
  rintro pins s σ H x y v u Q I rx ry ⟨p, t, xs, es, hp, rfl, ht, hes, q⟩
  obtain ⟨as, r1⟩ := Dp.reads I _ x v hp.dp rx
  obtain ⟨bs, r2⟩ := Dp.reads I (.tuple (es.map pairD)) (.ref t) u (.tup ht hes.dp) ry
  refine SeqAt.notIn_tuple_reads r2 r1 (pairsD_lay es) (pairD_lay p) ?_ ?_
  · have := pairD_depth p
    have := Nat.min_le_right (PyData.depthAll (es.map pairD)) (pairD p).depth
    omega
  · rw [any_pairs]
    exact ⟨.bl _, H, I, rfl, q⟩
end
end My

set_option maxHeartbeats 2000000
/-! graph6 in plain Lean. -/
namespace My
open PySem PySem.Spec PyProof.Rows L2
/-- a walk from any heap on: S says a turn, by what follows it -/
theorem lo_it {J : It} {n : Nat} {G : Hp → Prop} {Y : Nat → Hp → V → Hp → Prop} (w : Walk J n G Y) {S : V → Hp → (Hp → Prop) → Prop} {Qd : Hp → Prop} {H0 : Hp} (Pv : Nat → Hp → Prop) (h0 : Pv 0 H0) (hG : ∀ i H, i ≤ n → Pv i H → G H)
    (hs : ∀ i x H H', i < n → Pv i H → Y i H x H' → S x H' (Pv (i + 1))) (hd : ∀ H, Pv n H → Qd H) :
    ∃ W : Nat → Nat → Hp → Prop, (∃ m, W 0 m H0) ∧ ∀ i m H, W i m H → (J.stop i H ∧ Qd H) ∨ (J.go i H ∧ ∃ Nx : Hp → Prop, (∀ H', Nx H' → ∃ m', m' < m ∧ W (i + 1) m' H') ∧ ∀ x H', J.yld i H x H' → S x H' Nx) := by
  refine ⟨fun i m H => i + m = n ∧ Pv i H, ⟨n, Nat.zero_add n, h0⟩, fun i m H hw => ?_⟩
  obtain ⟨e, pv⟩ := hw
  have g := hG i H (by omega) pv
  rcases Nat.eq_zero_or_pos m with z | z
  · have en : i = n := by omega
    subst en
    exact .inl ⟨w.stops H g, hd H pv⟩
  · refine .inr ⟨w.goes i H (by omega) g, Pv (i + 1), fun H' pv' => ⟨m - 1, by omega, by omega, pv'⟩, fun x H' y => ?_⟩
    exact hs i x H H' (by omega) pv (w.yields i H x H' (by omega) g y)
/-- the pairs by their greater number, then by the lesser -/
def pairsG (n : Nat) : List E2 := (List.range n).flatMap fun v => (List.range v).map fun u => (u, v)
def bit1 (es : List E2) (p : E2) : Nat := if p ∈ es then 1 else 0
def bitsOf (n : Nat) (es : List E2) : List Nat := (pairsG n).map (bit1 es)
def pad (b : List Nat) : List Nat := b ++ List.replicate ((b.length + 5) / 6 * 6 - b.length) 0
def numOf (b : List Nat) : Nat := b.foldl (fun a x => 2 * a + x) 0
def chunk (b : List Nat) (i : Nat) : List Nat := (b.drop (6 * i)).take 6
def groups (b : List Nat) : Nat := (b.length + 5) / 6
/-- the text of signs told by numbers -/
def tx (ks : List Nat) : Str := ⟨(ks.map (63 + ·)).toArray⟩
/-- the 64 signs -/
def SG : Str := tx (List.range 64)
def codeL (n : Nat) (es : List E2) : List Nat := n :: (List.range (groups (bitsOf n es))).map fun i => numOf (chunk (pad (bitsOf n es)) i)
theorem tx_len (ks : List Nat) : (tx ks).length = ks.length := by
  show ((ks.map (63 + ·)).toArray).size = _
  rw [List.size_toArray, List.length_map]
theorem tx_append (ks ls : List Nat) : tx ks ++ tx ls = tx (ks ++ ls) := by
  show Str.append _ _ = _
  unfold Str.append tx
  rw [List.map_append]
  simp
theorem join_tx : ∀ ks : List Nat, Str.join "" (ks.map fun k => tx [k]) = tx ks
  | [] => rfl
  | [k] => rfl
  | k :: l :: ks => by
    show tx [k] ++ (("" : String) : Str) ++ Str.join "" ((l :: ks).map fun k => tx [k]) = _
    rw [join_tx (l :: ks)]
    have e : tx [k] ++ (("" : String) : Str) = tx [k] := by
      show Str.append _ _ = _
      unfold Str.append
      have z : ((("" : String) : Str)).cps = #[] := by decide +kernel
      rw [z, Array.append_empty]
    rw [e, tx_append]
    rfl
theorem pairsG_succ (n : Nat) : pairsG (n + 1) = pairsG n ++ (List.range n).map fun u => (u, n) := by
  unfold pairsG
  rw [List.range_succ, List.flatMap_append, List.flatMap_cons, List.flatMap_nil, List.append_nil]
theorem pairsG_few : ∀ n, n ≤ 9 → (pairsG n).length ≤ 36 := by decide +kernel
theorem mem_pairsG {n : Nat} {p : E2} : p ∈ pairsG n ↔ p.1 < p.2 ∧ p.2 < n := by
  unfold pairsG
  rw [List.mem_flatMap]
  constructor
  · rintro ⟨v, hv, h⟩
    obtain ⟨u, hu, rfl⟩ := List.mem_map.mp h
    exact ⟨List.mem_range.mp hu, List.mem_range.mp hv⟩
  · rintro ⟨h1, h2⟩
    exact ⟨p.2, List.mem_range.mpr h2, List.mem_map.mpr ⟨p.1, List.mem_range.mpr h1, rfl⟩⟩
theorem bits_len (n : Nat) (es : List E2) : (bitsOf n es).length = (pairsG n).length := List.length_map _
theorem bits_few {n : Nat} (h : n ≤ 9) (es : List E2) : (bitsOf n es).length ≤ 36 := by rw [bits_len]; exact pairsG_few n h
theorem bits_le (n : Nat) (es : List E2) : ∀ b ∈ bitsOf n es, b ≤ 1 := by
  intro b hb
  obtain ⟨p, _, rfl⟩ := List.mem_map.mp hb
  unfold bit1
  split <;> omega
theorem pad_len (b : List Nat) : (pad b).length = 6 * groups b := by
  unfold pad groups
  rw [List.length_append, List.length_replicate]
  omega
theorem pad_le {b : List Nat} (h : ∀ x ∈ b, x ≤ 1) : ∀ x ∈ pad b, x ≤ 1 := by
  intro x hx
  rcases List.mem_append.mp hx with hx | hx
  · exact h x hx
  · rw [(List.mem_replicate.mp hx).2]
    exact Nat.zero_le _
theorem foldl_lt : ∀ (b : List Nat) (a k : Nat), (∀ x ∈ b, x ≤ 1) → a < 2 ^ k → b.foldl (fun a x => 2 * a + x) a < 2 ^ (k + b.length)
  | [], a, k, _, h => h
  | x :: b, a, k, hb, h => by
    have hx := hb x (List.mem_cons_self ..)
    have z := foldl_lt b (2 * a + x) (k + 1) (fun y hy => hb y (List.mem_cons_of_mem _ hy)) (by rw [Nat.pow_succ]; omega)
    rw [List.foldl_cons, List.length_cons, show k + (b.length + 1) = k + 1 + b.length by omega]
    exact z
theorem numOf_lt {b : List Nat} (h : ∀ x ∈ b, x ≤ 1) : numOf b < 2 ^ b.length := by
  have z := foldl_lt b 0 0 h (by decide)
  rw [Nat.zero_add] at z
  exact z
theorem numOf_snoc (b : List Nat) (x : Nat) : numOf (b ++ [x]) = 2 * numOf b + x := by
  unfold numOf
  rw [List.foldl_append]
  rfl
theorem chunk_sub (b : List Nat) (i : Nat) : ∀ x ∈ chunk b i, x ∈ b := fun x hx => List.mem_of_mem_drop (List.mem_of_mem_take hx)
theorem chunk_len {b : List Nat} {i : Nat} (h : 6 * i + 6 ≤ b.length) : (chunk b i).length = 6 := by
  unfold chunk
  rw [List.length_take, List.length_drop]
  omega
theorem chunk_lt {b : List Nat} {i : Nat} (hb : ∀ x ∈ b, x ≤ 1) : numOf (chunk b i) < 64 := by
  have z := numOf_lt (b := chunk b i) fun x hx => hb x (chunk_sub b i x hx)
  have l : (chunk b i).length ≤ 6 := by
    unfold chunk
    rw [List.length_take]
    omega
  exact Nat.lt_of_lt_of_le z (Nat.pow_le_pow_right (by decide) l)
theorem SG_at : ∀ k : Nat, k < 64 → atI SG.cps.toList (k : Int) = some (63 + k) := by
  intro k hk
  refine atI_nat ?_
  show ((List.range 64).map (63 + ·))[k]? = _
  rw [List.getElem?_map, List.getElem?_range hk]
  rfl
theorem six : ∀ k : Nat, k ≤ 42 → RgC 0 (k : Int) 6 ((k + 5) / 6) := by
  have h : ∀ k : Nat, k ≤ 42 → Builtin.Range.small 0 (k : Int) 6 = true ∧ Builtin.Range.rangeSize 0 (k : Int) 6 = (((k + 5) / 6 : Nat) : Int) := by decide +kernel
  exact fun k hk => ⟨by decide, by decide, (h k hk).1, (h k hk).2⟩
end My

set_option maxHeartbeats 2000000
/-! Reading graph6, in plain Lean: by the signs' codes. -/
namespace My
open PySem PySem.Spec PyProof.Rows L2
/-- the sign c can stand at place a behind the first one, with L pairs to tell -/
def goodS (L a c : Nat) : Bool := decide (63 ≤ c ∧ c < 127) && decide (6 * a < L) && decide ((c - 63) % 2 ^ (6 - (L - 6 * a)) = 0)
/-- where it is wrong, by how many signs are right -/
def scan (L : Nat) : Nat → List Nat → Option Nat
  | a, [] => if 6 * a < L then some (a + 1) else none
  | a, c :: cs => if goodS L a c = true then scan L (a + 1) cs else some (a + 1)
def bits6 (c : Nat) : List Nat := [5, 4, 3, 2, 1, 0].map fun p => (c - 63) / 2 ^ p % 2
def bitsC (cs : List Nat) : List Nat := cs.flatMap bits6
def tellP (ps : List E2) (bs : List Nat) : List E2 := ((ps.zip bs).filter fun q => q.2 != 0).map (·.1)
inductive RdG where
  | bad (k : Nat)
  | told (n : Nat) (ps : List E2)
def readG : List Nat → RdG
  | [] => .bad 0
  | c :: cs => if 63 ≤ c ∧ c ≤ 72 then match scan (pairsG (c - 63)).length 0 cs with
    | some k => .bad k
    | none => .told (c - 63) (tellP (pairsG (c - 63)) (bitsC cs))
    else .bad 0
theorem bitsC_len (cs : List Nat) : (bitsC cs).length = 6 * cs.length := by
  unfold bitsC
  induction cs with
  | nil => rfl
  | cons c cs ih => rw [List.flatMap_cons, List.length_append, ih, List.length_cons]; show 6 + _ = _; omega
theorem eq_of_up : ∀ {es fs : List E2}, es.Pairwise ahead → fs.Pairwise ahead → (∀ q, q ∈ es ↔ q ∈ fs) → es = fs
  | [], [], _, _, _ => rfl
  | [], f :: fs, _, _, h => absurd ((h f).mpr (List.mem_cons_self ..)) (fun z => nomatch z)
  | e :: es, [], _, _, h => absurd ((h e).mp (List.mem_cons_self ..)) (fun z => nomatch z)
  | e :: es, f :: fs, he, hf, h => by
    obtain ⟨e1, e2⟩ := List.pairwise_cons.mp he
    obtain ⟨f1, f2⟩ := List.pairwise_cons.mp hf
    have ef : e = f := by
      rcases List.mem_cons.mp ((h e).mp (List.mem_cons_self ..)) with z | z
      · exact z
      · rcases List.mem_cons.mp ((h f).mpr (List.mem_cons_self ..)) with y | y
        · exact y.symm
        · have a1 := f1 e z
          have a2 := e1 f y
          unfold ahead at a1 a2
          omega
    subst ef
    refine congrArg (e :: ·) (eq_of_up e2 f2 fun q => ⟨fun z => ?_, fun z => ?_⟩)
    · rcases List.mem_cons.mp ((h q).mp (List.mem_cons_of_mem _ z)) with y | y
      · exact absurd (e1 q z) (fun w => ahead_ne w y.symm)
      · exact y
    · rcases List.mem_cons.mp ((h q).mpr (List.mem_cons_of_mem _ z)) with y | y
      · exact absurd (f1 q z) (fun w => ahead_ne w y.symm)
      · exact y
theorem tellP_snoc {ps : List E2} {bs : List Nat} {p : E2} {b : Nat} (h : ps.length = bs.length) : tellP (ps ++ [p]) (bs ++ [b]) = tellP ps bs ++ (if b != 0 then [p] else []) := by
  unfold tellP
  rw [List.zip_append h, List.filter_append, List.map_append]
  congr 1
  show (([(p, b)] : List (E2 × Nat)).filter _).map _ = _
  cases e : (b != 0)
  · rw [List.filter_cons_of_neg (by simpa using e)]
    rfl
  · rw [List.filter_cons_of_pos (by simpa using e)]
    rfl
theorem tellP_sub (ps : List E2) (bs : List Nat) : ∀ q ∈ tellP ps bs, q ∈ ps := by
  intro q hq
  obtain ⟨r, hr, rfl⟩ := List.mem_map.mp hq
  exact (List.of_mem_zip (List.mem_filter.mp hr).1).1
/-! ### there and back -/
theorem bits6_of : ∀ a b c d e f : Nat, a ≤ 1 → b ≤ 1 → c ≤ 1 → d ≤ 1 → e ≤ 1 → f ≤ 1 → bits6 (63 + numOf [a, b, c, d, e, f]) = [a, b, c, d, e, f] := by
  have h : ∀ a b c d e f : Fin 2, bits6 (63 + numOf [a.val, b.val, c.val, d.val, e.val, f.val]) = [a.val, b.val, c.val, d.val, e.val, f.val] := by decide +kernel
  exact fun a b c d e f h1 h2 h3 h4 h5 h6 => h ⟨a, by omega⟩ ⟨b, by omega⟩ ⟨c, by omega⟩ ⟨d, by omega⟩ ⟨e, by omega⟩ ⟨f, by omega⟩
theorem bits6_chunk {b : List Nat} (l : b.length = 6) (h : ∀ x ∈ b, x ≤ 1) : bits6 (63 + numOf b) = b := by
  match b, l, h with
  | [a, b, c, d, e, f], _, h => exact bits6_of a b c d e f (h a (by simp)) (h b (by simp)) (h c (by simp)) (h d (by simp)) (h e (by simp)) (h f (by simp))
theorem chunks_all {b : List Nat} : ∀ m, b.length = 6 * m → (List.range m).flatMap (chunk b) = b
  | 0, h => by
    rw [List.range_zero, List.flatMap_nil]
    exact (List.eq_nil_of_length_eq_zero (by omega)).symm
  | m + 1, h => by
    have ih := chunks_all (b := b.drop 6) m (by rw [List.length_drop]; omega)
    rw [List.range_succ_eq_map, List.flatMap_cons, List.flatMap_map]
    have e : (List.range m).flatMap (fun i => chunk b (Nat.succ i)) = (List.range m).flatMap (chunk (b.drop 6)) := by
      congr 1
      funext i
      unfold chunk
      rw [List.drop_drop]
      congr 2
      omega
    rw [e, ih]
    unfold chunk
    rw [Nat.mul_zero, List.drop_zero, List.take_append_drop]
theorem bitsC_code {b : List Nat} {m : Nat} (l : b.length = 6 * m) (h : ∀ x ∈ b, x ≤ 1) : bitsC ((List.range m).map fun i => 63 + numOf (chunk b i)) = b := by
  unfold bitsC
  rw [List.flatMap_map]
  have e : ∀ i ∈ List.range m, bits6 (63 + numOf (chunk b i)) = chunk b i := fun i hi => by
    have im := List.mem_range.mp hi
    exact bits6_chunk (chunk_len (by omega)) fun x hx => h x (chunk_sub b i x hx)
  have e2 : (List.range m).flatMap (fun i => bits6 (63 + numOf (chunk b i))) = (List.range m).flatMap (chunk b) := by
    rw [List.flatMap_def, List.flatMap_def, List.map_congr_left e]
  rw [e2, chunks_all m l]
theorem numOf_zeros (b : List Nat) : ∀ k, numOf (b ++ List.replicate k 0) = numOf b * 2 ^ k
  | 0 => by rw [List.replicate_zero, List.append_nil, Nat.pow_zero, Nat.mul_one]
  | k + 1 => by
    rw [List.replicate_succ', ← List.append_assoc, numOf_snoc, numOf_zeros b k, Nat.pow_succ, Nat.add_zero, Nat.mul_comm 2, Nat.mul_assoc]
theorem goodS_code {bs : List Nat} {i : Nat} (h : ∀ x ∈ bs, x ≤ 1) (hi : i < groups bs) : goodS bs.length i (63 + numOf (chunk (pad bs) i)) = true := by
  have lt := chunk_lt (i := i) (pad_le h)
  unfold groups at hi
  unfold goodS
  rw [Bool.and_eq_true, Bool.and_eq_true]
  refine ⟨⟨decide_eq_true (by omega), decide_eq_true (by omega)⟩, decide_eq_true ?_⟩
  rw [Nat.add_sub_cancel_left]
  by_cases f : 6 * i + 6 ≤ bs.length
  · rw [show 6 - (bs.length - 6 * i) = 0 by omega, Nat.pow_zero, Nat.mod_one]
  · have e : chunk (pad bs) i = bs.drop (6 * i) ++ List.replicate (6 - (bs.length - 6 * i)) 0 := by
      unfold chunk pad
      rw [List.drop_append_of_le_length (by omega)]
      rw [List.take_of_length_le (by rw [List.length_append, List.length_drop, List.length_replicate]; omega)]
      congr 2
      omega
    rw [e, numOf_zeros, Nat.mul_mod_left]
theorem scan_code {L m : Nat} (f : Nat → Nat) (hm : m = (L + 5) / 6) (h : ∀ i, i < m → goodS L i (f i) = true) : ∀ k, k ≤ m → scan L k (((List.range m).drop k).map f) = none := by
  intro k hk
  induction e : m - k generalizing k with
  | zero =>
    have : k = m := by omega
    subst this
    rw [List.drop_eq_nil_of_le (by rw [List.length_range]; exact Nat.le_refl _)]
    show (if 6 * k < L then some (k + 1) else none) = none
    rw [if_neg (by omega)]
  | succ d ih =>
    have lk : k < (List.range m).length := by rw [List.length_range]; omega
    rw [List.drop_eq_getElem_cons lk, List.getElem_range, List.map_cons]
    show (if goodS L k (f k) = true then scan L (k + 1) _ else some (k + 1)) = none
    rw [if_pos (h k (by omega))]
    exact ih (k + 1) (by omega) (by omega)
theorem tellP_bits (es : List E2) : ∀ (ps : List E2) (k : Nat), tellP ps (ps.map (bit1 es) ++ List.replicate k 0) = ps.filter fun p => decide (p ∈ es)
  | [], k => by
    unfold tellP
    rw [List.zip_nil_left]
    rfl
  | p :: ps, k => by
    have ih := tellP_bits es ps k
    unfold tellP at ih ⊢
    rw [List.map_cons, List.cons_append, List.zip_cons_cons]
    unfold bit1 at *
    by_cases h : p ∈ es
    · rw [List.filter_cons_of_pos (by simp [h]), List.map_cons, List.filter_cons_of_pos (by simpa using h), ih]
    · rw [List.filter_cons_of_neg (by simp [h]), List.filter_cons_of_neg (by simpa using h), ih]
/-- the text of a graph, read -/
theorem read_code {n : Nat} {es : List E2} (g : Good n es) : readG ((codeL n es).map (63 + ·)) = .told n ((pairsG n).filter fun p => decide (p ∈ es)) := by
  unfold codeL
  rw [List.map_cons, List.map_map]
  have n9 := g.n9
  have hb := bits_le n es
  show (if 63 ≤ 63 + n ∧ 63 + n ≤ 72 then _ else _) = _
  rw [if_pos (by omega), Nat.add_sub_cancel_left]
  have e1 : ((fun x => 63 + x) ∘ fun i => numOf (chunk (pad (bitsOf n es)) i)) = fun i => 63 + numOf (chunk (pad (bitsOf n es)) i) := rfl
  rw [e1]
  have s := scan_code (L := (pairsG n).length) (m := groups (bitsOf n es)) (fun i => 63 + numOf (chunk (pad (bitsOf n es)) i)) (by unfold groups; rw [bits_len]) (fun i hi => by rw [← bits_len n es]; exact goodS_code hb hi) 0 (Nat.zero_le _)
  rw [List.drop_zero] at s
  rw [s, bitsC_code (pad_len _) (pad_le hb)]
  show RdG.told n (tellP (pairsG n) (pad (bitsOf n es))) = _
  unfold pad
  rw [show bitsOf n es = (pairsG n).map (bit1 es) from rfl, tellP_bits]
end My

set_option maxHeartbeats 2000000
/-! Pairs that stand in the heap by themselves; sorted lists of them. -/
namespace My
open PySem PySem.Spec PyProof.Rows L2
def PairT (H : Hp) (x : V) (p : E2) : Prop := ∃ t, x = .ref t ∧ H t = some (.tup [.int (p.1 : Int), .int (p.2 : Int)])
abbrev PairsT (H : Hp) : List V → List E2 → Prop := Paired (PairT H)
theorem PairT.at {K : PySem.W.Frag} {H : Hp} {x : V} {p : E2} (h : PairT H x p) : PairAt K H x p := by
  obtain ⟨t, e, h⟩ := h
  exact ⟨t, e, SqT.of h⟩
theorem PairsT.at {K : PySem.W.Frag} {H : Hp} : ∀ {xs : List V} {ps : List E2}, PairsT H xs ps → PairsAt K H xs ps
  | _, _, .nil => .nil
  | _, _, .cons a b => .cons a.at (PairsT.at b)
theorem PairsT.same {H H' : Hp} (s : Same H H') : ∀ {xs : List V} {ps : List E2}, PairsT H xs ps → PairsT H' xs ps
  | _, _, .nil => .nil
  | _, _, .cons ⟨t, e, h⟩ b => .cons ⟨t, e, s _ _ h⟩ (PairsT.same s b)
theorem PairsT.put {H : Hp} {D : Addr} {o : HO} {zs : List V} (hD : H D = some (.lst zs)) : ∀ {xs : List V} {ps : List E2}, PairsT H xs ps → PairsT (upd H D o) xs ps
  | _, _, .nil => .nil
  | _, _, .cons ⟨t, e, h⟩ b => .cons ⟨t, e, by rw [upd_ne (fun z => by rw [z, hD] at h; cases h)]; exact h⟩ (PairsT.put hD b)
theorem PairsT.append {H : Hp} : ∀ {xs ys : List V} {ps qs : List E2}, PairsT H xs ps → PairsT H ys qs → PairsT H (xs ++ ys) (ps ++ qs)
  | _, _, _, _, .nil, h => h
  | _, _, _, _, .cons a b, h => .cons a (PairsT.append b h)
theorem PairsT.len {H : Hp} : ∀ {xs : List V} {ps : List E2}, PairsT H xs ps → xs.length = ps.length
  | _, _, .nil => rfl
  | _, _, .cons _ b => congrArg (· + 1) (PairsT.len b)
theorem push_pairT {H : Hp} {D r : Addr} {zs : List V} {ps : List E2} (p : E2) (hD : H D = some (.lst zs)) (nr : H r = none) (h : PairsT H zs ps) :
    PairsT (upd (upd H r (.tup [.int (p.1 : Int), .int (p.2 : Int)])) D (.lst (zs ++ [.ref r]))) (zs ++ [.ref r]) (ps ++ [p]) := by
  have s1 : Same H (upd H r (.tup [.int (p.1 : Int), .int (p.2 : Int)])) := fun b u q => by rw [upd_ne (ne_of_none q nr)]; exact q
  have h2 : PairsT (upd H r (.tup [.int (p.1 : Int), .int (p.2 : Int)])) (zs ++ [.ref r]) (ps ++ [p]) := (h.same s1).append (.cons ⟨r, rfl, upd_same⟩ .nil)
  exact h2.put (s1 _ _ hD)
/-- the numbers of a pair at a value -/
def kOf (H : Hp) (x : V) : Int × Int := match x with
  | .ref t => match H t with
    | some (.tup [.int i, .int j]) => (i, j)
    | _ => (0, 0)
  | _ => (0, 0)
def gOf (H : Hp) (x : V) : E2 := ((kOf H x).1.toNat, (kOf H x).2.toNat)
theorem kOf_at {H : Hp} {x : V} {p : E2} (h : PairT H x p) : kOf H x = ((p.1 : Int), (p.2 : Int)) := by
  obtain ⟨t, rfl, h⟩ := h
  show (match H t with
    | some (.tup [.int i, .int j]) => (i, j)
    | _ => ((0 : Int), (0 : Int))) = _
  rw [h]
theorem gOf_at {H : Hp} {x : V} {p : E2} (h : PairT H x p) : gOf H x = p := by
  unfold gOf
  rw [kOf_at h]
  rfl
theorem map_gOf {H : Hp} : ∀ {xs : List V} {ps : List E2}, PairsT H xs ps → xs.map (gOf H) = ps
  | _, _, .nil => rfl
  | _, _, .cons a b => by rw [List.map_cons, gOf_at a, map_gOf b]
theorem PairsT.mem {H : Hp} : ∀ {xs : List V} {ps : List E2}, PairsT H xs ps → ∀ x ∈ xs, PairT H x (gOf H x)
  | _, _, .nil => fun _ z => nomatch z
  | _, _, .cons a b => fun x hx => by
    rcases List.mem_cons.mp hx with rfl | hx
    · rw [gOf_at a]; exact a
    · exact PairsT.mem b x hx
theorem PairsT.of_mem {H : Hp} : ∀ {ys : List V}, (∀ y ∈ ys, PairT H y (gOf H y)) → PairsT H ys (ys.map (gOf H))
  | [], _ => .nil
  | y :: ys, h => .cons (h y (List.mem_cons_self ..)) (PairsT.of_mem fun z hz => h z (List.mem_cons_of_mem _ hz))
/-- sorted pairs, none twice, ascend -/
theorem sorted_pairs {H : Hp} {xs ys : List V} {ps : List E2} (h : PairsT H xs ps) (nd : ps.Nodup) (so : SrtO.Srtd (ltP (kOf H)) ys) (st : SrtO.Stb (ltP (kOf H)) ys xs) :
    PairsT H ys (ys.map (gOf H)) ∧ (ys.map (gOf H)).Pairwise ahead ∧ ∀ q, q ∈ ys.map (gOf H) ↔ q ∈ ps := by
  have pm : (ys.map (gOf H)).Perm ps := by
    have z := st.perm.map (gOf H)
    rw [map_gOf h] at z
    exact z
  have hy : ∀ y ∈ ys, PairT H y (gOf H y) := fun y hy => h.mem y (st.perm.mem_iff.mp hy)
  refine ⟨PairsT.of_mem hy, ?_, fun q => pm.mem_iff⟩
  have nd2 : (ys.map (gOf H)).Nodup := pm.nodup_iff.mpr nd
  rw [List.pairwise_map]
  refine (so.and (List.pairwise_map.mp nd2)).imp_of_mem ?_
  intro a b ha hb ⟨le, ne⟩
  have ka := kOf_at (hy a ha)
  have kb := kOf_at (hy b hb)
  have le2 : SrtO.lexB (kOf H b) (kOf H a) = false := le
  rw [ka, kb] at le2
  have le3 := mt (SrtO.lexB_iff (p := (((gOf H b).1 : Int), ((gOf H b).2 : Int))) (q := (((gOf H a).1 : Int), ((gOf H a).2 : Int)))).mpr (by rw [le2]; decide)
  dsimp only at le3
  have ne2 : ¬ ((gOf H a).1 = (gOf H b).1 ∧ (gOf H a).2 = (gOf H b).2) := fun ⟨x, y⟩ => ne (Prod.ext x y)
  unfold ahead
  omega
theorem find_sg : ∀ c : Nat, c < 128 → Txt.find SG ⟨#[c]⟩ = if 63 ≤ c ∧ c < 127 then (c : Int) - 63 else -1 := by decide +kernel
theorem and_one : ∀ x : Nat, x < 64 → Builtin.bitAnd (x : Int) 1 = ((x % 2 : Nat) : Int) := by decide +kernel
/-- the number that a sign tells -/
def nm (c : Nat) : Int := if 63 ≤ c ∧ c < 127 then (c : Int) - 63 else -1
def numsZ (cs : List Nat) : List V := cs.map fun c => V.int (nm c)
theorem scan_good {L : Nat} : ∀ (cs : List Nat) (a : Nat), scan L a cs = none → ∀ i c, cs[i]? = some c → goodS L (a + i) c = true
  | [], _, _, i, c, h => by simp at h
  | d :: cs, a, h, i, c, hi => by
    have h' : (if goodS L a d = true then scan L (a + 1) cs else some (a + 1)) = none := h
    by_cases g : goodS L a d = true
    · rw [if_pos g] at h'
      cases i with
      | zero =>
        have e : d = c := by simpa using hi
        rw [← e]
        exact g
      | succ i =>
        have z := scan_good cs (a + 1) h' i c (by simpa using hi)
        rw [show a + (i + 1) = a + 1 + i by omega]
        exact z
    · rw [if_neg g] at h'
      cases h'
theorem scan_enough {L : Nat} : ∀ (cs : List Nat) (a : Nat), scan L a cs = none → L ≤ 6 * (a + cs.length)
  | [], a, h => by
    have h' : (if 6 * a < L then some (a + 1) else none) = none := h
    by_cases l : 6 * a < L
    · rw [if_pos l] at h'
      cases h'
    · rw [List.length_nil]
      omega
  | d :: cs, a, h => by
    have h' : (if goodS L a d = true then scan L (a + 1) cs else some (a + 1)) = none := h
    by_cases g : goodS L a d = true
    · rw [if_pos g] at h'
      have := scan_enough cs (a + 1) h'
      rw [List.length_cons]
      omega
    · rw [if_neg g] at h'
      cases h'
theorem bits6_at (c : Nat) : ∀ j, j < 6 → (bits6 c)[j]? = some ((c - 63) / 2 ^ (5 - j) % 2) := by
  intro j hj
  unfold bits6
  match j, hj with
  | 0, _ => rfl
  | 1, _ => rfl
  | 2, _ => rfl
  | 3, _ => rfl
  | 4, _ => rfl
  | 5, _ => rfl
theorem places_at {x : V} {j : Nat} (h : ([.int 5, .int 4, .int 3, .int 2, .int 1, .int 0] : List V)[j]? = some x) : j < 6 ∧ x = .int ((5 - j : Nat) : Int) := by
  match j, h with
  | 0, h => exact ⟨by decide, (Option.some.inj h).symm⟩
  | 1, h => exact ⟨by decide, (Option.some.inj h).symm⟩
  | 2, h => exact ⟨by decide, (Option.some.inj h).symm⟩
  | 3, h => exact ⟨by decide, (Option.some.inj h).symm⟩
  | 4, h => exact ⟨by decide, (Option.some.inj h).symm⟩
  | 5, h => exact ⟨by decide, (Option.some.inj h).symm⟩
  | j + 6, h => exact absurd h (by simp)
theorem bitsC_succ {cs : List Nat} {i c : Nat} (h : cs[i]? = some c) : bitsC (cs.take (i + 1)) = bitsC (cs.take i) ++ bits6 c := by
  unfold bitsC
  rw [List.take_succ, h, List.flatMap_append]
  show _ ++ ([c].flatMap bits6) = _
  rw [List.flatMap_cons, List.flatMap_nil, List.append_nil]
theorem pairsG_nodup : ∀ n, n ≤ 9 → (pairsG n).Nodup := by decide +kernel
theorem tellP_sublist : ∀ (ps : List E2) (bs : List Nat), (tellP ps bs).Sublist ps
  | [], bs => by unfold tellP; rw [List.zip_nil_left]; exact List.Sublist.refl _
  | p :: ps, [] => by unfold tellP; rw [List.zip_nil_right]; exact List.nil_sublist _
  | p :: ps, b :: bs => by
    have ih := tellP_sublist ps bs
    unfold tellP at ih ⊢
    rw [List.zip_cons_cons, List.filter_cons]
    split
    · rw [List.map_cons]
      exact ih.cons_cons p
    · exact ih.cons p
theorem tellP_nodup {ps : List E2} {bs : List Nat} (h : ps.Nodup) : (tellP ps bs).Nodup := h.sublist (tellP_sublist ps bs)
end My

set_option maxHeartbeats 4000000
/-! What is told is fit to be shown. -/
namespace My
open PySem PySem.Spec PyProof.Rows L2
theorem app_len (a b : Str) : (a ++ b).length = a.length + b.length := by
  show (a.cps ++ b.cps).size = _
  rw [Array.size_append]
  rfl
theorem tup_len (ts : List Str) : (tupleText ts).length ≤ (ts.map (·.length)).sum + 2 * ts.length + 3 := by
  have h := StrLaws.join_length_le ", " ts
  have c : ((", " : String) : Str).length = 2 := by decide +kernel
  have o : (("(" : String) : Str).length = 1 := by decide +kernel
  have e1 : ((",)" : String) : Str).length = 2 := by decide +kernel
  have e2 : ((")" : String) : Str).length = 1 := by decide +kernel
  unfold tupleText
  rw [app_len, app_len, o]
  rw [c] at h
  split
  · rw [e1]; omega
  · rw [e2]; omega
theorem from_len : ∀ (ts : List Str) (k : Nat) (acc : Str), (textFrom k acc ts).length ≤ acc.length + (ts.map (·.length)).sum + 2 * ts.length
  | [], k, acc => by show acc.length ≤ acc.length + 0 + 0; omega
  | t :: ts, k, acc => by
    have h := from_len ts (k + 1) (acc ++ (((if k > 0 then ", " else "" : String)) : Str) ++ t)
    have c : ((", " : String) : Str).length = 2 := by decide +kernel
    have c0 : (("" : String) : Str).length = 0 := by decide +kernel
    have e : (acc ++ (((if k > 0 then ", " else "" : String)) : Str) ++ t : Str).length ≤ acc.length + 2 + t.length := by
      rw [app_len, app_len]
      split
      · rw [c]; omega
      · rw [c0]; omega
    show (textFrom (k + 1) (acc ++ (((if k > 0 then ", " else "" : String)) : Str) ++ t) ts).length ≤ _
    rw [List.map_cons, List.sum_cons, List.length_cons]
    omega
theorem lst_len (ts : List Str) : (listText ts).length ≤ (ts.map (·.length)).sum + 2 * ts.length + 2 := by
  have h := from_len ts 0 "["
  have o : (("[" : String) : Str).length = 1 := by decide +kernel
  have e2 : (("]" : String) : Str).length = 1 := by decide +kernel
  unfold listText
  rw [app_len, e2]
  rw [o] at h
  omega
theorem pair_fine : ∀ a, a ≤ 9 → ∀ b, b ≤ 9 → (pairD (a, b)).shown.length ≤ 6 ∧ (pairD (a, b)).showable = true := by decide +kernel
theorem pairs_fine : ∀ {es : List E2}, (∀ p ∈ es, p.1 ≤ 9 ∧ p.2 ≤ 9) → ((PyData.shownAll (es.map pairD)).map (·.length)).sum ≤ 6 * es.length ∧ (PyData.shownAll (es.map pairD)).length = es.length ∧ PyData.showableAll (es.map pairD) = true
  | [], _ => ⟨Nat.le_refl _, rfl, by rw [List.map_nil]; simp [PyData.showableAll]⟩
  | p :: es, h => by
    obtain ⟨h1, h2, h3⟩ := pairs_fine (es := es) fun q hq => h q (List.mem_cons_of_mem _ hq)
    obtain ⟨a, b⟩ := h p (List.mem_cons_self ..)
    obtain ⟨f1, f2⟩ := pair_fine p.1 a p.2 b
    rw [List.map_cons]
    simp only [PyData.shownAll, PyData.showableAll, List.map_cons, List.sum_cons, List.length_cons]
    refine ⟨?_, by omega, ?_⟩
    · have f1' : (pairD p).shown.length ≤ 6 := f1
      omega
    · have f2' : (pairD p).showable = true := f2
      rw [f2', h3]
      rfl
theorem num_fine : ∀ n : Nat, n ≤ 9 → (PyData.int (n : Int)).shown.length ≤ 1 ∧ (PyData.int (n : Int)).showable = true := by decide +kernel
theorem graph_fine {n : Nat} {es : List E2} (g : Good n es) : (graphD n es).shown.length ≤ 400 ∧ (graphD n es).showable = true ∧ (graphD n es).depth ≤ 3 := by
  have n9 := g.n9
  obtain ⟨h1, h2, h3⟩ := pairs_fine (es := es) fun p hp => by have := g.lt p hp; omega
  obtain ⟨f1, f2⟩ := num_fine n n9
  have few := g.few
  have t1 := tup_len (PyData.shownAll (es.map pairD))
  have t2 := tup_len [(PyData.int (n : Int)).shown, tupleText (PyData.shownAll (es.map pairD))]
  have pd := pairsD_depth es
  unfold graphD
  refine ⟨?_, ?_, ?_⟩
  · have e : (PyData.tuple [.int (n : Int), .tuple (es.map pairD)]).shown = tupleText [(PyData.int (n : Int)).shown, tupleText (PyData.shownAll (es.map pairD))] := by simp [PyData.shown, PyData.shownAll]
    rw [e]
    simp only [List.map_cons, List.map_nil, List.sum_cons, List.sum_nil, List.length_cons, List.length_nil] at t2
    omega
  · simp [PyData.showable, PyData.showableAll, h3]
    simpa [PyData.showable] using f2
  · simp only [PyData.depth, PyData.depthAll]
    omega
def FineD (d : PyData) : Prop := d.showable = true ∧ d.depth ≤ 60 ∧ d.shown.length ≤ sizeLine
instance (d : PyData) : Decidable (FineD d) := inferInstanceAs (Decidable (_ ∧ _ ∧ _))
theorem bad_fine : ∀ k : Nat, k ≤ 950 → FineD (.list [.str "wrong", .int (k : Int)]) := by decide +kernel
theorem told_fine {n : Nat} {es : List E2} (g : Good n es) : FineD (.list [.str "told", graphD n es]) := by
  obtain ⟨h1, h2, h3⟩ := graph_fine g
  have c : (reprText "told").length = 6 := by decide +kernel
  have t := lst_len [reprText "told", (graphD n es).shown]
  refine ⟨?_, ?_, ?_⟩
  · simp [PyData.showable, PyData.showableAll, h2]
  · simp only [PyData.depth, PyData.depthAll]
    omega
  · have e : (PyData.list [.str "told", graphD n es]).shown = listText [reprText "told", (graphD n es).shown] := by simp [PyData.shown, PyData.shownAll]
    rw [e]
    simp only [List.map_cons, List.map_nil, List.sum_cons, List.sum_nil, List.length_cons, List.length_nil] at t
    exact Nat.le_trans t (Nat.le_of_lt (small1000 (by omega)))
theorem three_fine {n : Nat} {es : List E2} (g : Good n es) {z : Str} (hz : ∀ c ∈ z.cps.toList, c < 128) (zl : z.length ≤ 30) : FineD (.list [.str z, .str z, .list [.str "told", graphD n es]]) := by
  obtain ⟨h1, h2, h3⟩ := told_fine g
  obtain ⟨k1, k2, k3⟩ := graph_fine g
  have r := StrLaws.reprText_len z fun c hc => Nat.lt_trans (hz c hc) (by decide)
  have c : (reprText "told").length = 6 := by decide +kernel
  have t0 := lst_len [reprText "told", (graphD n es).shown]
  have t := lst_len [reprText z, reprText z, listText [reprText "told", (graphD n es).shown]]
  refine ⟨?_, ?_, ?_⟩
  · simp [PyData.showable, PyData.showableAll, k2]
  · simp only [PyData.depth, PyData.depthAll]
    omega
  · have e : (PyData.list [.str z, .str z, .list [.str "told", graphD n es]]).shown = listText [reprText z, reprText z, listText [reprText "told", (graphD n es).shown]] := by simp [PyData.shown, PyData.shownAll]
    rw [e]
    simp only [List.map_cons, List.map_nil, List.sum_cons, List.sum_nil, List.length_cons, List.length_nil] at t t0
    exact Nat.le_of_lt (Nat.lt_of_le_of_lt t (by
      refine Nat.lt_of_lt_of_le (show _ < 5000 by omega) ?_
      rw [sizeLine_eq]
      decide))
end My

set_option maxHeartbeats 2000000
/-! Values of any kind, by their shape; what is a graph, a lot. -/
namespace My
open PySem PySem.Spec PyProof.Rows L2
inductive Sh where
  | int (i : Int)
  | bool (b : Bool)
  | str (x : Str)
  | tup (ss : List Sh)
  | oth
mutual
inductive ShAt (K : PySem.W.Frag) (H : Hp) : V → Sh → Prop
  | int (i : Int) : ShAt K H (.int i) (.int i)
  | bool (b : Bool) : ShAt K H (.bl b) (.bool b)
  | tup {t : Addr} {xs : List V} {ss : List Sh} (h : SqT K H t xs) (r : ShsAt K H xs ss) : ShAt K H (.ref t) (.tup ss)
  | non : ShAt K H .non .oth
  | str (x : Str) : ShAt K H (.str x) (.str x)
  | lst {a : Addr} {xs : List V} (h : SqL K H a xs) : ShAt K H (.ref a) .oth
  | dct {a : Addr} {kvs : List (Key × V)} (h : H a = some (.dK kvs)) : ShAt K H (.ref a) .oth
inductive ShsAt (K : PySem.W.Frag) (H : Hp) : List V → List Sh → Prop
  | nil : ShsAt K H [] []
  | cons {x : V} {s : Sh} {xs : List V} {ss : List Sh} (a : ShAt K H x s) (r : ShsAt K H xs ss) : ShsAt K H (x :: xs) (s :: ss)
end
/-- tuples and dicts stay, lists stay lists -/
structure Kp (K : PySem.W.Frag) (H H' : Hp) : Prop where
  tup : ∀ t xs, SqT K H t xs → SqT K H' t xs
  lst : ∀ a xs, SqL K H a xs → ∃ ys, SqL K H' a ys
  dct : ∀ a kvs, H a = some (.dK kvs) → H' a = some (.dK kvs)
theorem Kp.of {K : PySem.W.Frag} {H H' : Hp} (s : Same H H') : Kp K H H' := ⟨fun t xs h => Same.tup s h, fun a xs h => ⟨xs, L2.Same.seq s h⟩, fun a kvs h => s _ _ h⟩
theorem Kp.trans {K : PySem.W.Frag} {H1 H2 H3 : Hp} (a : Kp K H1 H2) (b : Kp K H2 H3) : Kp K H1 H3 := ⟨fun t xs h => b.tup t xs (a.tup t xs h), fun c xs h => by
    obtain ⟨ys, h2⟩ := a.lst c xs h
    exact b.lst c ys h2, fun c kvs h => b.dct c kvs (a.dct c kvs h)⟩
mutual
theorem ShAt.kp {K : PySem.W.Frag} {H H' : Hp} (e : Kp K H H') : ∀ {v : V} {s : Sh}, ShAt K H v s → ShAt K H' v s
  | _, _, .int i => .int i
  | _, _, .bool b => .bool b
  | _, _, .tup h r => .tup (e.tup _ _ h) (ShsAt.kp e r)
  | _, _, .non => .non
  | _, _, .str x => .str x
  | _, _, .lst h => by
    obtain ⟨ys, h2⟩ := e.lst _ _ h
    exact .lst h2
  | _, _, .dct h => .dct (e.dct _ _ h)
theorem ShsAt.kp {K : PySem.W.Frag} {H H' : Hp} (e : Kp K H H') : ∀ {xs : List V} {ss : List Sh}, ShsAt K H xs ss → ShsAt K H' xs ss
  | _, _, .nil => .nil
  | _, _, .cons a r => .cons (a.kp e) (ShsAt.kp e r)
end
theorem ShAt.same {K : PySem.W.Frag} {H H' : Hp} (e : Same H H') {v : V} {s : Sh} (h : ShAt K H v s) : ShAt K H' v s := h.kp (Kp.of e)
theorem ShsAt.same {K : PySem.W.Frag} {H H' : Hp} (e : Same H H') {xs : List V} {ss : List Sh} (h : ShsAt K H xs ss) : ShsAt K H' xs ss := h.kp (Kp.of e)
theorem ShsAt.len {K : PySem.W.Frag} {H : Hp} : ∀ {xs : List V} {ss : List Sh}, ShsAt K H xs ss → xs.length = ss.length
  | _, _, .nil => rfl
  | _, _, .cons _ r => congrArg (· + 1) (ShsAt.len r)
theorem ShsAt.get {K : PySem.W.Frag} {H : Hp} : ∀ {xs : List V} {ss : List Sh}, ShsAt K H xs ss → ∀ {i : Nat} {x : V}, xs[i]? = some x → ∃ s, ss[i]? = some s ∧ ShAt K H x s
  | _, _, .nil, i, x, e => by simp at e
  | _, _, .cons a r, 0, x, e => by simp at e; subst e; exact ⟨_, rfl, a⟩
  | _, _, .cons a r, i + 1, x, e => by
    obtain ⟨s, h1, h2⟩ := ShsAt.get r (i := i) (x := x) (by simpa using e)
    exact ⟨s, by simpa using h1, h2⟩
theorem ShsAt.app {K : PySem.W.Frag} {H : Hp} : ∀ {xs ys : List V} {ss ts : List Sh}, ShsAt K H xs ss → ShsAt K H ys ts → ShsAt K H (xs ++ ys) (ss ++ ts)
  | _, _, _, _, .nil, h => h
  | _, _, _, _, .cons a r, h => .cons a (ShsAt.app r h)
/-- the type's name -/
def tyOk (T : String) : Sh → Prop
  | .int _ => T = "int"
  | .bool _ => T = "bool"
  | .tup _ => T = "tuple"
  | .str _ => T = "str"
  | .oth => T ≠ "int" ∧ T ≠ "bool" ∧ T ≠ "tuple" ∧ T ≠ "str"
theorem ShAt.ty {K : PySem.W.Frag} {H : Hp} {v : V} {s : Sh} (h : ShAt K H v s) : ∃ T, TyB K H v T ∧ tyOk T s := by
  cases h with
  | int i => exact ⟨_, .int i, rfl⟩
  | bool b => exact ⟨_, .bl b, rfl⟩
  | tup h r => exact ⟨_, .tup h, rfl⟩
  | non => exact ⟨_, .non, (by decide : ("NoneType" : String) ≠ "int" ∧ ("NoneType" : String) ≠ "bool" ∧ ("NoneType" : String) ≠ "tuple" ∧ ("NoneType" : String) ≠ "str")⟩
  | str x => exact ⟨_, .str x, rfl⟩
  | lst h => exact ⟨_, .lst h, (by decide : ("list" : String) ≠ "int" ∧ ("list" : String) ≠ "bool" ∧ ("list" : String) ≠ "tuple" ∧ ("list" : String) ≠ "str")⟩
  | dct h => exact ⟨_, .dK h, (by decide : ("dict" : String) ≠ "int" ∧ ("dict" : String) ≠ "bool" ∧ ("dict" : String) ≠ "tuple" ∧ ("dict" : String) ≠ "str")⟩
def wholeF (lo : Int) : Sh → Bool
  | .int i => decide (i ≥ lo)
  | _ => false
def wholeR (lo hi : Int) : Sh → Bool
  | .int i => decide (i ≥ lo) && decide (i ≤ hi)
  | _ => false
def isTwo : Sh → Bool
  | .tup [_, _] => true
  | _ => false
def vpB (n : Int) : Sh → Bool
  | .tup [a, b] => wholeR 0 (n - 1) a && wholeR 0 (n - 1) b
  | _ => false
def lt2 : Sh → Bool
  | .tup [.int a, .int b] => decide (a < b)
  | _ => false
def edgeB (n : Int) (s : Sh) : Bool := vpB n s && lt2 s
/-- one stands ahead of the other, as numbers or as pairs of numbers -/
def ltS : Sh → Sh → Bool
  | .int a, .int b => decide (a < b)
  | .tup [.int a, .int b], .tup [.int c, .int d] => HT.lexLt [a, b] [c, d]
  | _, _ => false
def ascB : List Sh → Bool
  | s :: t :: r => ltS s t && ascB (t :: r)
  | _ => true
def isGr : Sh → Bool
  | .tup [.int n, .tup es] => (decide (n ≥ 0) && decide (n ≤ 9)) && (es.all (edgeB n) && ascB es)
  | _ => false
def isLot (n : Nat) : Sh → Bool
  | .tup ss => ss.all (wholeR 0 ((n : Int) - 1)) && ascB ss
  | _ => false
end My

set_option maxHeartbeats 4000000
/-! What the second family of laws draws from: the pot; values of any kind made from written ones. -/
namespace My
open PySem PySem.Spec PyProof.Rows L2
theorem same_new {H : Hp} {p : Addr} (h : H p = none) (o : HO) : Same H (upd H p o) := fun b u q => by rw [upd_ne (ne_of_none q h)]; exact q
theorem small {n : Nat} (h : n ≤ 1000) : n ≤ sizeLine := Nat.le_of_lt (small1000 h)
theorem iteB {c : Bool} {A B : Prop} (h1 : c = true → A) (h2 : c = false → B) : if c = true then A else B := by
  cases c with
  | true => exact iteT (h1 rfl)
  | false => exact iteF (h2 rfl)
theorem join {i : Nat} {σ : L2.St} {N : L2.St → Hp → Prop} {H : Hp} {G : Prop} {R : V → Prop} (h : (∀ v, R v → gName i v σ H N) → G) (g : ∀ v, R v → gName i v σ H N) : G := h g
theorem joinS {i : Nat} {σ : L2.St} {N : L2.St → Hp → Prop} {G : Prop} {R : V → Hp → Prop} (h : (∀ v H, R v H → gName i v σ H N) → G) (g : ∀ v H, R v H → gName i v σ H N) : G := h g
theorem joinT {N : L2.St → Hp → Prop} {G : Prop} {R : L2.St → Hp → Prop} (h : (∀ σ H, R σ H → N σ H) → G) (g : ∀ σ H, R σ H → N σ H) : G := h g
/-- a pot at p -/
def Wl (H : Hp) (p : Addr) : Prop := ∃ (a : Int) (b : Fin 2147483249) (c : Int), H p = some (.lst [.int a, .int ((b.val : Nat) : Int), .int c])
theorem wl_mk {H : Hp} {p : Addr} {a x c : Int} (h : H p = some (.lst [.int a, .int x, .int c])) (h0 : 0 ≤ x) (h1 : x < 2147483249) : Wl H p := by
  refine ⟨a, ⟨x.toNat, by omega⟩, c, ?_⟩
  rw [h]
  have : ((x.toNat : Nat) : Int) = x := by omega
  show _ = some (HO.lst [.int a, .int ((x.toNat : Nat) : Int), .int c])
  rw [this]
/-- all but p is as it was -/
def But (p : Addr) (H H' : Hp) : Prop := ∀ q o, q ≠ p → H q = some o → H' q = some o
theorem But.refl (p : Addr) (H : Hp) : But p H H := fun _ _ _ e => e
theorem But.trans {p : Addr} {H1 H2 H3 : Hp} (x : But p H1 H2) (y : But p H2 H3) : But p H1 H3 := fun q o n e => y q o n (x q o n e)
theorem But.new {p q : Addr} {H : Hp} {o : HO} (n : H q = none) : But p H (upd H q o) := fun b u _ e => by rw [upd_ne (ne_of_none e n)]; exact e
theorem But.put {p : Addr} {H : Hp} {o : HO} : But p H (upd H p o) := fun b u n e => by rw [upd_ne n]; exact e
theorem But.of {p : Addr} {H H' : Hp} (s : Same H H') : But p H H' := fun b u _ e => s b u e
/-- the heap without p -/
def hide (p : Addr) (H : Hp) : Hp := fun q => if q = p then none else H q
theorem hide_ne {p q : Addr} {H : Hp} (h : q ≠ p) : hide p H q = H q := if_neg h
theorem hide_at {p : Addr} {H : Hp} : hide p H p = none := if_pos rfl
theorem hide_some {p q : Addr} {H : Hp} {o : HO} (h : hide p H q = some o) : q ≠ p ∧ H q = some o := by
  by_cases e : q = p
  · rw [e, hide_at] at h
    cases h
  · rw [hide_ne e] at h
    exact ⟨e, h⟩
theorem hide_sub (p : Addr) (H : Hp) : Same (hide p H) H := fun q o h => (hide_some h).2
theorem But.hide {p : Addr} {H H' : Hp} (h : But p H H') : Same (hide p H) (hide p H') := fun q o e => by
  obtain ⟨n, e⟩ := hide_some e
  rw [hide_ne n]
  exact h q o n e
def Fine (d : PyData) : Prop := d.showable = true ∧ d.depth ≤ 60 ∧ d.shown.length ≤ sizeLine
instance (d : PyData) : Decidable (Fine d) := inferInstanceAs (Decidable (_ ∧ _ ∧ _))
theorem take_succ {α : Type} {l : List α} {i : Nat} {x : α} (h : l[i]? = some x) : l.take (i + 1) = l.take i ++ [x] := by
  rw [List.take_succ, h]
  rfl
/-- every tuple stays -/
def TS (H H' : Hp) : Prop := ∀ q xs, Rd H q (.tup xs) → Rd H' q (.tup xs)
theorem TS.refl (H : Hp) : TS H H := fun _ _ h => h
theorem TS.trans {H1 H2 H3 : Hp} (a : TS H1 H2) (b : TS H2 H3) : TS H1 H3 := fun q xs h => b q xs (a q xs h)
theorem TS.of {H H' : Hp} (s : Same H H') : TS H H' := fun q xs h => by
  rcases h with h | ⟨o, h⟩
  · exact .inl (s _ _ h)
  · exact .inr ⟨o, s _ _ h⟩
theorem TS.put {H : Hp} {D : Addr} {zs : List V} {o : HO} (h : H D = some (.lst zs)) : TS H (upd H D o) := fun q xs r => by
  have ne : q ≠ D := fun z => by
    rw [z] at r
    rcases r with r | ⟨_, r⟩ <;> (rw [h] at r; cases r)
  unfold Rd
  rw [upd_ne ne]
  exact r
theorem TS.but {p : Addr} {H H' : Hp} (b : But p H H') (w : Wl H p) : TS H H' := fun q xs r => by
  obtain ⟨x, y, z, hp⟩ := w
  have ne : q ≠ p := fun e => by
    rw [e] at r
    rcases r with r | ⟨_, r⟩ <;> (rw [hp] at r; cases r)
  rcases r with r | ⟨o, r⟩
  · exact .inl (b _ _ ne r)
  · exact .inr ⟨o, b _ _ ne r⟩
theorem TS.tup {K : PySem.W.Frag} {H H' : Hp} (s : TS H H') {t : Addr} {xs : List V} (h : SqT K H t xs) : SqT K H' t xs := by
  rcases h with h | h
  · exact .inl (s _ _ h)
  · exact .inr h
theorem PairsAt.ts {K : PySem.W.Frag} {H H' : Hp} (e : TS H H') : ∀ {xs : List V} {ps : List E2}, PairsAt K H xs ps → PairsAt K H' xs ps
  | _, _, .nil => .nil
  | _, _, .cons ⟨t, h1, h2⟩ b => .cons ⟨t, h1, e.tup h2⟩ (PairsAt.ts e b)
theorem PairsAt.len {K : PySem.W.Frag} {H : Hp} : ∀ {xs : List V} {ps : List E2}, PairsAt K H xs ps → xs.length = ps.length
  | _, _, .nil => rfl
  | _, _, .cons _ b => congrArg (· + 1) (PairsAt.len b)
theorem GraphAt.ts {K : PySem.W.Frag} {H H' : Hp} (s : TS H H') {x : V} {n : Nat} {es : List E2} (h : GraphAt K H x n es) : GraphAt K H' x n es := by
  obtain ⟨t, e, xs, rfl, h1, h2, h3⟩ := h
  exact ⟨t, e, xs, rfl, s.tup h1, s.tup h2, h3.ts s⟩
theorem Wl.same {H H' : Hp} {p : Addr} (s : Same H H') (w : Wl H p) : Wl H' p := by
  obtain ⟨a, b, c, h⟩ := w
  exact ⟨a, b, c, s _ _ h⟩
theorem Wl.put {H : Hp} {p D : Addr} {o : HO} (w : Wl H p) (ne : D ≠ p) : Wl (upd H D o) p := by
  obtain ⟨a, b, c, h⟩ := w
  exact ⟨a, b, c, by rw [upd_ne (Ne.symm ne)]; exact h⟩
theorem Wl.ne {H : Hp} {p D : Addr} (w : Wl H p) (n : H D = none) : D ≠ p := by
  obtain ⟨a, b, c, h⟩ := w
  rintro rfl
  rw [h] at n
  cases n
theorem Wl.off {K : PySem.W.Frag} {H : Hp} {p t : Addr} {xs : List V} (w : Wl H p) (h : SqT K H t xs) : SqT K (hide p H) t xs := by
  obtain ⟨a, b, c, hp⟩ := w
  rcases h with h | h
  · left
    have ne : t ≠ p := fun e => by
      rw [e] at h
      rcases h with r | ⟨_, r⟩ <;> (rw [hp] at r; cases r)
    unfold Rd
    rw [hide_ne ne]
    exact h
  · exact .inr h
theorem Wl.ts {K : PySem.W.Frag} {H H' : Hp} {p t : Addr} {xs : List V} (w : Wl H p) (b : But p H H') (h : SqT K H t xs) : SqT K H' t xs := (TS.but b w).tup h
theorem Kp.but {K : PySem.W.Frag} {p : Addr} {H H' : Hp} (b : But p H H') (w : Wl H p) (w' : Wl H' p) : Kp K H H' := by
  refine ⟨fun t xs h => (TS.but b w).tup h, fun a xs h => ?_, fun a kvs h => ?_⟩
  · obtain ⟨x, y, z, hp⟩ := w
    obtain ⟨x', y', z', hp'⟩ := w'
    rcases h with (h | ⟨o, h⟩) | h
    · by_cases e : a = p
      · subst e
        exact ⟨_, SqL.of hp'⟩
      · exact ⟨xs, SqL.of (b _ _ e h)⟩
    · by_cases e : a = p
      · subst e
        rw [hp] at h
        cases h
      · exact ⟨xs, .inl (.inr ⟨o, b _ _ e h⟩)⟩
    · exact ⟨xs, .inr h⟩
  · obtain ⟨x, y, z, hp⟩ := w
    have e : a ≠ p := fun e => by
      subst e
      rw [hp] at h
      cases h
    exact b _ _ e h
theorem ShAt.but {K : PySem.W.Frag} {p : Addr} {H H' : Hp} (b : But p H H') (w : Wl H p) (w' : Wl H' p) {v : V} {s : Sh} (h : ShAt K H v s) : ShAt K H' v s := h.kp (Kp.but b w w')
theorem ShsAt.but {K : PySem.W.Frag} {p : Addr} {H H' : Hp} (b : But p H H') (w : Wl H p) (w' : Wl H' p) {v : List V} {s : List Sh} (h : ShsAt K H v s) : ShsAt K H' v s := h.kp (Kp.but b w w')
/-! ### rules -/
/-- t + u, whatever of them is () -/
def rCatW (K : PySem.W.Frag) : R2 := fun x y H Q => ∃ a b xs ys, x = .ref a ∧ y = .ref b ∧ SqT K H a xs ∧ SqT K H b ys ∧ xs.length + ys.length ≤ sizeLine ∧ ∀ p H', Same H H' → SqT K H' p (xs ++ ys) → Q (.ref p) H'
theorem op_catW {X : Cx} : OpR X (binaryOp .Add) (rCatW X.K) := by
  intro pins s σ H x y v u Q I rx ry h
  obtain ⟨a, b, xs, ys, rfl, rfl, ha, hb, hz, q⟩ := h
  refine op_catA pins s σ H _ _ v u Q I rx ry ⟨a, b, xs, ys, rfl, rfl, ha, hb, hz, fun e => ?_, fun _ e => ?_, fun _ _ p np => q p _ (same_new np _) (SqT.of upd_same)⟩
  · subst e
    exact q b H (Same.refl H) hb
  · subst e
    exact q a H (Same.refl H) (by rw [List.append_nil]; exact ha)
/-- t[lo:hi], the whole of it too -/
def rSlW (K : PySem.W.Frag) : V → Option Int → Option Int → Hp → VK → Prop := fun x lo hi H Q => ∃ a xs, x = .ref a ∧ SqT K H a xs ∧ ∀ p H', Same H H' → SqT K H' p (cutV xs lo hi) → Q (.ref p) H'
theorem sl_tupW {X : Cx} : SlR X (rSlW X.K) := by
  intro pins s σ H x v vl vu lo hi sl Q I rx hs pl pu h
  obtain ⟨a, xs, rfl, hx, q⟩ := h
  refine sl_tupA pins s σ H _ v vl vu lo hi sl Q I rx hs pl pu ⟨a, xs, rfl, hx, fun w => q a H (Same.refl H) ?_, fun _ p np => q p _ (same_new np _) (SqT.of upd_same)⟩
  have e : cutV xs lo hi = xs := by
    unfold cutV
    rw [w.1, w.2, List.drop_zero, Nat.sub_zero, List.take_length]
  rw [e]
  exact hx
theorem ShsAt.drop {K : PySem.W.Frag} {H : Hp} : ∀ {xs : List V} {ss : List Sh} (k : Nat), ShsAt K H xs ss → ShsAt K H (xs.drop k) (ss.drop k)
  | _, _, 0, h => h
  | _, _, k + 1, .nil => .nil
  | _, _, k + 1, .cons _ r => ShsAt.drop k r
theorem ShsAt.take {K : PySem.W.Frag} {H : Hp} : ∀ {xs : List V} {ss : List Sh} (k : Nat), ShsAt K H xs ss → ShsAt K H (xs.take k) (ss.take k)
  | _, _, 0, _ => .nil
  | _, _, k + 1, .nil => .nil
  | _, _, k + 1, .cons a r => .cons a (ShsAt.take k r)
theorem ShsAt.cut {K : PySem.W.Frag} {H : Hp} {xs : List V} {ss : List Sh} (h : ShsAt K H xs ss) (lo hi : Option Int) : ∃ ts, ShsAt K H (cutV xs lo hi) ts := ⟨_, (h.drop _).take _⟩
theorem ShsAt.rev {K : PySem.W.Frag} {H : Hp} : ∀ {xs : List V} {ss : List Sh}, ShsAt K H xs ss → ShsAt K H xs.reverse ss.reverse
  | _, _, .nil => .nil
  | _, _, .cons a r => by
    rw [List.reverse_cons, List.reverse_cons]
    exact (ShsAt.rev r).app (.cons a .nil)
theorem ShsAt.mem {K : PySem.W.Frag} {H : Hp} {xs : List V} {ss : List Sh} (h : ShsAt K H xs ss) {x : V} (m : x ∈ xs) : ∃ s, s ∈ ss ∧ ShAt K H x s := by
  obtain ⟨i, hi, e⟩ := List.getElem_of_mem m
  obtain ⟨s, h1, h2⟩ := h.get (i := i) (x := x) (by rw [List.getElem?_eq_getElem hi, e])
  exact ⟨s, List.mem_of_getElem? h1, h2⟩
/-- t[::-1], t a tuple -/
theorem getItem_tuple_rev {prog : Program} {w : World} {A : Around} {E : Value → Shared → Prop} {s : Shared} {t sl : Addr} {items : Array Value} {k : Tok} {Q : Value → Shared → Prop} (ht : IsTup s.heap t items) (hs : s.heap.IsSliceOf sl .none .none (.int (-1) k))
    (h : Q (.ref s.heap.objs.size) { s with heap := s.heap.push { cls := .type "tuple", data := .seq items.toList.reverse.toArray } }) (hsz : items.size ≤ sizeLine) : wpAny (model prog w) A (getItem (.ref t) (.ref sl)) Q E s := by
  have htake : sizeOk (.seq items.toList.reverse.toArray) := by
    show items.toList.reverse.toArray.size ≤ sizeLine
    rw [List.size_toArray, List.length_reverse, Array.length_toList]
    exact hsz
  obtain ⟨os, hos, hcs, hds⟩ := id hs
  have hTs : s.TypeIs (.ref sl) "slice" := ⟨os, hos, hcs⟩
  unfold getItem
  try with_reducible refine wpAny_holding ?_
  first | refine wpAny_bind (wpAny_pure ?_) | skip
  refine wpAny_bind (wpAny_sequenceKey ht.typeIs (by decide) ?_)
  refine wpAny_bind (wpAny_callSpecial?_slot (name := Str.ofString "__getitem__") ht.typeIs PyProof.Rows.slot_tuple_getitem
    (wpAny_call_entry PyProof.Rows.slot_tuple_getitem ht.typeIs entry_tuple_getitem ?_ (args_tuple_getitem _ _)))
  show wpAny _ _ (Builtin.Tuple.tupleItemsOf (.ref t) >>= _) _ _ s
  refine wpAny_bind (tupleItemsOf_ ht ?_)
  refine wpAny_bind (wpAny_typeOf hTs ?_)
  rw [if_pos (by decide)]
  have ap : Builtin.Slice.sliceAdjust none none (-1) (items.size : Int) = ((items.size : Int) - 1, -1) := rfl
  have pl : Builtin.Slice.slicePlaces ((items.size : Int) - 1) (-1) (-1) = items.size := by
    unfold Builtin.Slice.slicePlaces
    rw [if_neg (by decide)]
    by_cases z : items.size = 0
    · rw [z]
      rfl
    · rw [if_pos (by omega)]
      have : ((items.size : Int) - 1 - -1 - 1) / (- -1) + 1 = (items.size : Int) := by
        rw [show - (-1 : Int) = 1 by decide, Int.ediv_one]
        omega
      rw [this, Int.toNat_natCast]
  have pk : ((List.range items.size).filterMap fun (m : Nat) => items[(((items.size : Int) - 1) + (m : Int) * -1).toNat]?).toArray = items.toList.reverse.toArray := by
    congr 1
    refine List.ext_getElem? fun j => ?_
    have e : ∀ n, n ≤ items.size → (List.range n).filterMap (fun (m : Nat) => items[(((items.size : Int) - 1) + (m : Int) * -1).toNat]?) = (items.toList.reverse).take n := fun n => by
      induction n with
      | zero => intro _; rfl
      | succ n ih =>
        intro h
        have hn : n < items.toList.reverse.length := by rw [List.length_reverse, Array.length_toList]; omega
        rw [List.range_succ, List.filterMap_append, ih (by omega), List.take_add_one, List.getElem?_eq_getElem hn]
        congr 1
        have i1 : (((items.size : Int) - 1) + (n : Int) * -1).toNat = items.size - 1 - n := by omega
        have lt : items.size - 1 - n < items.size := by omega
        rw [List.getElem_reverse]
        simp only [List.filterMap_cons, List.filterMap_nil, i1, Array.getElem?_eq_getElem lt, Option.toList_some]
        simp
    rw [e _ (Nat.le_refl _), List.take_of_length_le (by rw [List.length_reverse, Array.length_toList]; exact Nat.le_refl _)]
  refine wpAny_bind ?_
  unfold Builtin.Slice.sliceApplied Builtin.Slice.sliceFields
  refine wpAny_bind (wpAny_bind (wpAny_field hos hds (x := .none) rfl (wpAny_bind (wpAny_field hos hds (x := .none) rfl (wpAny_bind (wpAny_field hos hds (x := .int (-1) k) rfl (wpAny_pure ?_)))))))
  refine wpAny_bind (HT.slicePart_ (.int (-1) k) ?_)
  show wpAny _ _ (if ((-1 : Int) == 0) = true then _ else _) _ _ s
  rw [if_neg (by decide)]
  refine wpAny_bind (HT.slicePart_ .none (wpAny_bind (HT.slicePart_ .none (wpAny_bind (wpAny_pure ?_)))))
  show wpAny _ _ (match Builtin.Slice.sliceAdjust none none (-1) (items.size : Int) with | (lo, hi) => pure (lo, (-1 : Int), Builtin.Slice.slicePlaces lo hi (-1))) _ _ s
  rw [ap]
  show wpAny _ _ (pure ((items.size : Int) - 1, (-1 : Int), Builtin.Slice.slicePlaces ((items.size : Int) - 1) (-1) (-1))) _ _ s
  rw [pl]
  refine wpAny_pure ?_
  have hno : ¬ (((items.size : Int) - 1 == 0 && (-1 : Int) == 1 && items.size == items.size) = true) := by simp
  show wpAny _ _ (if ((items.size : Int) - 1 == 0 && (-1 : Int) == 1 && items.size == items.size) = true then _ else _) _ _ s
  rw [if_neg hno, pk]
  first
    | exact wpAny_bind (m := Builtin.Tuple.tupleExact _) (wpAny_newObj_type (wpAny_pure ⟨_, rfl, wpAny_pure h⟩) htake)
    | exact wpAny_bind (m := Builtin.Tuple.tupleExact _) (wpAny_newObj_type (wpAny_bind (wpAny_pure (wpAny_pure ⟨_, rfl, wpAny_pure h⟩))) htake)
    | exact wpAny_bind (wpAny_bind (m := Builtin.Tuple.tupleExact _) (wpAny_newObj_type (wpAny_pure (wpAny_pure ⟨_, rfl, wpAny_pure h⟩)) htake))
    | exact wpAny_bind (wpAny_bind (m := Builtin.Tuple.tupleExact _) (wpAny_newObj_type (wpAny_pure ⟨_, rfl, wpAny_pure h⟩) htake))
section
variable {X : Cx}
def tRevT (K : PySem.W.Frag) (te : TE) : TE := fun σ H Q => te σ H fun x H1 => ∃ a xs, x = .ref a ∧ SqT K H1 a xs ∧ ∀ p, H1 p = none → Q (.ref p) (upd H1 p (.tup xs.reverse))
theorem pe_revT {e : Expr} {te : TE} {k : Nat} {p1 p2 p3 pos : Pos} (he : PE X e te) : PE X (.Subscript e (.Slice none none (some (.UnaryOp .USub (.Constant (.int 1) k p1) p2)) p3) pos) (tRevT X.K te) := by
  refine ⟨fun pins s σ H Q I h => ?_⟩
  refine Subscript_ (thn (he.run pins s σ H _ I h) fun v s1 ⟨x, H1, I1, r1, q1⟩ => ?_)
  obtain ⟨a, xs, ex, hx, q⟩ := q1
  subst ex
  cases r1
  have hst : PO X (some (.UnaryOp .USub (.Constant (.int 1) k p1) p2)) (tPart (tUn (rU fun i => .int (-i)) (tC (.int 1)))) := po_some (pe_un un_neg pe_int)
  refine wpAny_Slice (thn (po_none.run pins s1 σ H1 (fun o H2 => o = none ∧ H2 = H1) I1 ⟨rfl, rfl⟩) fun vl s2 ⟨l, H2, I2, pl, el, e2⟩ => ?_)
  subst el e2
  refine thn (po_none.run pins s2 σ H2 (fun o H3 => o = none ∧ H3 = H2) I2 ⟨rfl, rfl⟩) fun vu s3 ⟨u, H3, I3, pu, eu, e3⟩ => ?_
  subst eu e3
  refine thn (hst.run pins s3 σ H3 (fun o H4 => o = some (-1) ∧ H4 = H3) I3 ⟨1, rfl, -1, rfl, rfl, rfl⟩) fun vs s4 ⟨o, H4, I4, ps, eo, e4⟩ => ?_
  subst eo e4
  cases pl
  cases pu
  obtain ⟨tk, rfl⟩ : ∃ tk, vs = Value.int (-1) tk := by
    cases ps
    exact ⟨_, rfl⟩
  have I5 : L2.Inv X pins σ H4 { s4 with heap := s4.heap.push { cls := .type "slice", data := .fields #[.none, .none, .int (-1) tk] } } := I4.kept (t' := s4.toks) fun b ob q => Heap.get?_push_of_some _ q
  obtain ⟨its, r, ht, hz⟩ := I5.tuple hx
  have hlen := r.length
  show wpAny (model X.prog X.w) X.A (subscriptTail e (.Slice none none (some (.UnaryOp .USub (.Constant (.int 1) k p1) p2)) p3) (.ref a) (.ref s4.heap.objs.size)) (EP X pins σ Q) X.xe { s4 with heap := s4.heap.push { cls := .type "slice", data := .fields #[.none, .none, .int (-1) tk] } }
  refine tail_any (ops := [.ref a, .ref s4.heap.objs.size]) ht.typeIs (PyProof.Rows.slot_tuple_getitem.lookup) ?_ (by with_unfolding_all rfl)
  refine getItem_tuple_rev ht (Heap.IsSliceOf.new _ .none .none (.int (-1) tk)) ?_ (by rw [List.size_toArray]; omega)
  refine ⟨.ref _, _, I5.laid (t' := s4.toks) (o := .tup xs.reverse) (fun b ob q => Heap.get?_push_of_some _ q) (Nat.le_refl _) ?_, rfl, q _ (I5.hok.fresh (Nat.le_refl _))⟩
  exact ⟨by rw [List.length_reverse]; exact hz, _, r.reverse, IsTup.new _ _⟩
end
theorem but_put {p l : Addr} {H H1 : Hp} {o : HO} (b : But p H H1) (n : H l = none) : But p H (upd H1 l o) := fun q u ne e => by
  rw [upd_ne (ne_of_none e n)]
  exact b q u ne e
theorem cut_to {xs : List V} {k : Nat} (h : k ≤ xs.length) : cutV xs none (some (k : Int)) = xs.take k := by
  unfold cutV
  rw [HT.sIx_none, HT.sIx_nat, List.drop_zero, Nat.sub_zero, Nat.min_eq_left h]
theorem cut_from {xs : List V} {k : Nat} (h : k ≤ xs.length) : cutV xs (some (k : Int)) none = xs.drop k := by
  unfold cutV
  rw [HT.sIx_none, HT.sIx_nat, Nat.min_eq_left h, List.take_of_length_le (by rw [List.length_drop]; exact Nat.le_refl _)]
/-! ### what is asked of a value's kind -/
def isTup : Sh → Bool
  | .tup _ => true
  | _ => false
def isInt : Sh → Bool
  | .int _ => true
  | .bool _ => true
  | _ => false
def isBool : Sh → Bool
  | .bool _ => true
  | _ => false
theorem tyx_tup {K : PySem.W.Frag} {H : Hp} {t : Addr} {xs : List V} (h : SqT K H t xs) : TyX K H (.ref t) (.type "tuple") := by
  rcases h with (h | ⟨o, h⟩) | ⟨o, its, n, h, c, _⟩
  · exact .base (.tup h)
  · exact .fTuple h
  · exact .kTuple h c
theorem tyx_lst {K : PySem.W.Frag} {H : Hp} {t : Addr} {xs : List V} (h : SqL K H t xs) : TyX K H (.ref t) (.type "list") := by
  rcases h with (h | ⟨o, h⟩) | ⟨o, its, n, h, c, _⟩
  · exact .base (.lst h)
  · exact .base (.frz h)
  · exact .kList h c
theorem isi_of {K : PySem.W.Frag} {H : Hp} {v : V} {s : Sh} (h : ShAt K H v s) : ∃ t, TyX K H v t ∧ PySem.W.kitOne K t (.type "tuple") = some (isTup s) ∧ PySem.W.kitOne K t (.type "int") = some (isInt s) ∧ PySem.W.kitOne K t (.type "bool") = some (isBool s) := by
  cases h with
  | int i => exact ⟨_, .base (.int i), rfl, rfl, rfl⟩
  | bool b => exact ⟨_, .base (.bl b), rfl, rfl, rfl⟩
  | tup h r => exact ⟨_, tyx_tup h, rfl, rfl, rfl⟩
  | non => exact ⟨_, .base .non, rfl, rfl, rfl⟩
  | str x => exact ⟨_, .base (.str x), rfl, rfl, rfl⟩
  | lst h => exact ⟨_, tyx_lst h, rfl, rfl, rfl⟩
  | dct h => exact ⟨_, .base (.dK h), rfl, rfl, rfl⟩
/-! ### shapes of pairs -/
def pairS (p : E2) : Sh := .tup [.int (p.1 : Int), .int (p.2 : Int)]
theorem PairsAt.sh {K : PySem.W.Frag} {H : Hp} : ∀ {xs : List V} {ps : List E2}, PairsAt K H xs ps → ShsAt K H xs (ps.map pairS)
  | _, _, .nil => .nil
  | _, _, .cons ⟨t, h1, h2⟩ b => by
    subst h1
    exact .cons (.tup h2 (.cons (.int _) (.cons (.int _) .nil))) (PairsAt.sh b)
theorem sh_pairs {K : PySem.W.Frag} {H : Hp} : ∀ {xs : List V} {ps : List E2}, ShsAt K H xs (ps.map pairS) → PairsAt K H xs ps
  | _, [], h => by cases h; exact .nil
  | _, p :: ps, h => by
    cases h with
    | cons a r =>
      refine .cons ?_ (sh_pairs r)
      cases a with
      | tup ht ra =>
        cases ra with
        | cons r1 ra =>
          cases ra with
          | cons r2 ra =>
            cases ra
            cases r1
            cases r2
            exact ⟨_, rfl, ht⟩
theorem PairsT.but {p : Addr} {H H' : Hp} (b : But p H H') (w : Wl H p) : ∀ {xs : List V} {ps : List E2}, PairsT H xs ps → PairsT H' xs ps
  | _, _, .nil => .nil
  | _, _, .cons ⟨t, e, h⟩ r => .cons ⟨t, e, b _ _ (fun z => by
      obtain ⟨x, y, c, hp⟩ := w
      rw [z, hp] at h
      cases h) h⟩ (PairsT.but b w r)
/-- sorted pairs, some of them maybe alike -/
theorem sorted_pairsD {H : Hp} {xs ys : List V} {ps : List E2} (h : PairsT H xs ps) (so : SrtO.Srtd (ltP (kOf H)) ys) (st : SrtO.Stb (ltP (kOf H)) ys xs) :
    PairsT H ys (ys.map (gOf H)) ∧ ((ys.map (gOf H)).Pairwise fun a b => ¬ ahead b a) ∧ (ys.map (gOf H)).Perm ps := by
  have pm : (ys.map (gOf H)).Perm ps := by
    have z := st.perm.map (gOf H)
    rw [map_gOf h] at z
    exact z
  have hy : ∀ y ∈ ys, PairT H y (gOf H y) := fun y hy => h.mem y (st.perm.mem_iff.mp hy)
  refine ⟨PairsT.of_mem hy, ?_, pm⟩
  rw [List.pairwise_map]
  refine List.Pairwise.imp_of_mem ?_ so
  intro a b ha hb le
  have ka := kOf_at (hy a ha)
  have kb := kOf_at (hy b hb)
  have le2 : SrtO.lexB (kOf H b) (kOf H a) = false := le
  rw [ka, kb] at le2
  have le3 := mt (SrtO.lexB_iff (p := (((gOf H b).1 : Int), ((gOf H b).2 : Int))) (q := (((gOf H a).1 : Int), ((gOf H a).2 : Int)))).mpr (by rw [le2]; decide)
  dsimp only at le3
  unfold ahead
  omega
theorem PairsT.ks {H : Hp} {xs : List V} {ps : List E2} (h : PairsT H xs ps) : ∀ x ∈ xs, ∃ t, x = V.ref t ∧ H t = some (.tup [.int (kOf H x).1, .int (kOf H x).2]) := fun x hx => by
  have z := h.mem x hx
  have k := kOf_at z
  obtain ⟨t, e, ht⟩ := z
  exact ⟨t, e, by rw [k]; exact ht⟩
theorem wl_tup {p t : Addr} {H : Hp} {xs : List V} (w : Wl H p) (h : H t = some (.tup xs)) : t ≠ p := fun z => by
  obtain ⟨x, y, c, hp⟩ := w
  rw [z, hp] at h
  cases h
theorem rows_few : ∀ u, u ≤ 9 → ∀ n, n ≤ 9 → ((List.range u).flatMap (rowP n)).length ≤ 81 := by decide +kernel
/-- lists of numbers -/
def numsN (l : List Nat) : List V := l.map fun k => V.int ((k : Nat) : Int)
theorem numsN_len (l : List Nat) : (numsN l).length = l.length := List.length_map _
theorem numsN_app (l m : List Nat) : numsN (l ++ m) = numsN l ++ numsN m := List.map_append
theorem numsN_get {l : List Nat} {i : Nat} {x : V} (h : (numsN l)[i]? = some x) : ∃ k, l[i]? = some k ∧ x = .int ((k : Nat) : Int) := by
  unfold numsN at h
  rw [List.getElem?_map] at h
  cases e : l[i]? with
  | none => rw [e] at h; cases h
  | some k => rw [e] at h; cases h; exact ⟨k, rfl, rfl⟩
/-! ### values of some kind, not too long -/
inductive Lb : Sh → Prop
  | int (i : Int) : Lb (.int i)
  | bool (b : Bool) : Lb (.bool b)
  | str (x : Str) : Lb (.str x)
  | oth : Lb .oth
  | tup {ss : List Sh} (l : ss.length ≤ 900) (h : ∀ z ∈ ss, Lb z) : Lb (.tup ss)
def Va (K : PySem.W.Frag) (H : Hp) (v : V) : Prop := ∃ s, ShAt K H v s ∧ Lb s
section
variable {K : PySem.W.Frag} {H : Hp}
theorem Va.int (i : Int) : Va K H (.int i) := ⟨_, .int i, .int i⟩
theorem Va.bl (b : Bool) : Va K H (.bl b) := ⟨_, .bool b, .bool b⟩
theorem Va.str (x : Str) : Va K H (.str x) := ⟨_, .str x, .str x⟩
theorem Va.non : Va K H .non := ⟨_, .non, .oth⟩
theorem Va.lst {a : Addr} {xs : List V} (h : SqL K H a xs) : Va K H (.ref a) := ⟨_, .lst h, .oth⟩
theorem Va.dct {a : Addr} {kvs : List (Key × V)} (h : H a = some (.dK kvs)) : Va K H (.ref a) := ⟨_, .dct h, .oth⟩
theorem va_all : ∀ {xs : List V}, (∀ x ∈ xs, Va K H x) → ∃ ss, ShsAt K H xs ss ∧ ∀ z ∈ ss, Lb z
  | [], _ => ⟨[], .nil, fun _ z => nomatch z⟩
  | x :: xs, h => by
    obtain ⟨s, h1, h2⟩ := h x (List.mem_cons_self ..)
    obtain ⟨ss, h3, h4⟩ := va_all (xs := xs) fun y hy => h y (List.mem_cons_of_mem _ hy)
    refine ⟨s :: ss, .cons h1 h3, fun z hz => ?_⟩
    rcases List.mem_cons.mp hz with rfl | hz
    · exact h2
    · exact h4 z hz
theorem Va.tup {t : Addr} {xs : List V} (h : SqT K H t xs) (l : xs.length ≤ 900) (a : ∀ x ∈ xs, Va K H x) : Va K H (.ref t) := by
  obtain ⟨ss, h1, h2⟩ := va_all a
  exact ⟨.tup ss, .tup h h1, .tup (by rw [← h1.len]; exact l) h2⟩
theorem Va.kp {H' : Hp} (e : Kp K H H') {v : V} (h : Va K H v) : Va K H' v := by
  obtain ⟨s, h1, h2⟩ := h
  exact ⟨s, h1.kp e, h2⟩
theorem Va.same {H' : Hp} (e : Same H H') {v : V} (h : Va K H v) : Va K H' v := h.kp (Kp.of e)
theorem Va.but {p : Addr} {H' : Hp} (b : But p H H') (w : Wl H p) (w' : Wl H' p) {v : V} (h : Va K H v) : Va K H' v := h.kp (Kp.but b w w')
theorem va_cut {xs : List V} (lo hi : Option Int) (h : ∀ x ∈ xs, Va K H x) : ∀ x ∈ cutV xs lo hi, Va K H x := fun x hx => h x (List.mem_of_mem_drop (List.mem_of_mem_take hx))
theorem va_app {xs ys : List V} (h : ∀ x ∈ xs, Va K H x) (g : ∀ x ∈ ys, Va K H x) : ∀ x ∈ xs ++ ys, Va K H x := fun x hx => (List.mem_append.mp hx).elim (h x) (g x)
theorem va_nil : ∀ x ∈ ([] : List V), Va K H x := fun _ z => nomatch z
theorem va_cons {x : V} {xs : List V} (a : Va K H x) (h : ∀ x ∈ xs, Va K H x) : ∀ y ∈ x :: xs, Va K H y := fun y hy => by
  rcases List.mem_cons.mp hy with rfl | hy
  · exact a
  · exact h y hy
end
/-! ### values made from written ones -/
def Mk (K : PySem.W.Frag) (t : TE) : Prop := ∀ (σ : L2.St) (H : Hp) (Q : VK), (∀ v H', Same H H' → Va K H' v → Q v H') → t σ H Q
def MkA (K : PySem.W.Frag) (n : Nat) (t : TA) : Prop := ∀ (σ : L2.St) (H : Hp) (Q : List V → Hp → Prop), (∀ vs H', Same H H' → vs.length = n → (∀ v ∈ vs, Va K H' v) → Q vs H') → t σ H Q
section
variable {K : PySem.W.Frag}
theorem mk_int (i : Int) : Mk K (tC (.int i)) := fun σ H Q h => h _ H (Same.refl H) (.int i)
theorem mk_bl (b : Bool) : Mk K (tC (.bl b)) := fun σ H Q h => h _ H (Same.refl H) (.bl b)
theorem mk_str (x : Str) : Mk K (tC (.str x)) := fun σ H Q h => h _ H (Same.refl H) (.str x)
theorem mk_non : Mk K (tC .non) := fun σ H Q h => h _ H (Same.refl H) .non
theorem mk_nil : MkA K 0 tNil := fun σ H Q h => h _ H (Same.refl H) rfl va_nil
theorem mk_cons {t : TE} {ts : TA} {n : Nat} (a : Mk K t) (b : MkA K n ts) : MkA K (n + 1) (tCons t ts) := fun σ H Q h =>
  a σ H _ fun v H1 s1 hv => b σ H1 _ fun vs H2 s2 l hs => h _ H2 (s1.trans s2) (congrArg (· + 1) l) (va_cons (hv.same s2) hs)
theorem mk_tup {ts : TA} {n : Nat} (hn : n ≤ 900) (b : MkA K n ts) : Mk K (tTup ts) := fun σ H Q h =>
  b σ H _ fun vs H1 s1 l hs => ⟨by rw [l]; exact small (by omega), fun p np => h _ _ (s1.trans (same_new np _)) (.tup (SqT.of upd_same) (by omega) fun x hx => (hs x hx).same (same_new np _))⟩
theorem mk_lst {ts : TA} {n : Nat} (hn : n ≤ 1000) (b : MkA K n ts) : Mk K (tLst ts) := fun σ H Q h =>
  b σ H _ fun vs H1 s1 l hs => ⟨by rw [l]; exact small hn, fun p np => h _ _ (s1.trans (same_new np _)) (.lst (SqL.of upd_same))⟩
theorem mk_dct : Mk K tDNewK := fun σ H Q h => fun p np => h _ _ (same_new np _) (.dct upd_same)
theorem mk_pow (i j : Int) (h : CPow i j) : Mk K (tOp (rI CPow fun i j => .int (i ^ j.toNat)) (tC (.int i)) (tC (.int j))) := fun σ H Q q => ⟨_, _, rfl, rfl, h, q _ H (Same.refl H) (.int _)⟩
theorem mk_neg (i : Int) : Mk K (tUn (rU fun i => .int (-i)) (tC (.int i))) := fun σ H Q q => ⟨i, rfl, q _ H (Same.refl H) (.int _)⟩
theorem set_mk {n i : Nat} {ts : TA} {rest : L2.TS} {D : Ends} {σ : L2.St} {H : Hp} (m : MkA K n ts) (hn : n ≤ 1000) (go : ∀ vs F H1, Same H H1 → vs.length = n → (∀ v ∈ vs, Va K H1 v) → H F = none → H1 F = some (.lst vs) → rest D (σ.set i (some (.ref F))) H1) : tSeq (tAsg (tLst ts) (gName i)) rest D σ H :=
  m σ H _ fun vs H1 s1 l h1 => ⟨by rw [l]; exact small hn, fun F nF => go vs F _ (s1.trans (same_new nF _)) l (fun x hx => (h1 x hx).same (same_new nF _)) (s1.free nF) upd_same⟩
end
end My

set_option maxHeartbeats 4000000
/-! The law's draws: the pot, a draw, a pick, a mixing. -/
namespace My
open PySem PySem.Spec PyProof.Rows L2
def top (i : Nat) : Stmt := PySem.Challenge.pw_perfectgraphs_k61_whole_logs_and_the_gra.main.body.getD i (.Pass ⟨0, 0, 0, 0⟩)
abbrev sPot : Stmt := top 27
abbrev sDraw : Stmt := top (27 + 1)
theorem scPot : FnScope ["script", "turn", "stirred", "each", "cell", "digits"] ["script", "turn"] (defScope sPot) := ⟨rfl, rfl, rfl, by decide +kernel, rfl, by decide +kernel, by decide +kernel⟩
theorem scDraw : FnScope ["pot", "few", "digit"] ["pot", "few"] (defScope sDraw) := ⟨rfl, rfl, rfl, by decide +kernel, rfl, by decide +kernel, by decide +kernel⟩
def spPot (K : PySem.W.Frag) : Sp := fun vs H Q _ => ∃ (a : Addr) (ns : List Int) (t : Nat), vs = [.ref a, .int (t : Int)] ∧ SqL K H a (ns.map V.int) ∧ ns.length ≤ 63 ∧ t ≤ 4 ∧
  ∀ (H' : Hp) (p : Addr), Same H H' → H p = none → Wl H' p → Q (.ref p) H'
def spDraw : Sp := fun vs H Q _ => ∃ (p : Addr) (m : Int), vs = [.ref p, .int m] ∧ Wl H p ∧ 0 < m ∧ m < 1000000 ∧
  ∀ (r : Int) (H' : Hp), 0 ≤ r → r < m → But p H H' → Wl H' p → Q (.int r) H'
section
variable {P : Program} {w : World} {K : PySem.W.Frag} {mg : Str → Option Value} {base : Heap} {f fD : Addr} {fd dD : FuncData}
theorem ok_pot (F : L2.Fun K "_law_pot" "_law_pot" sPot f fd) (ml : mg "len" = none) (mi : mg "int" = none) (ma : mg "abs" = none) : FnOk P w K mg base CX0 1 f fd ["script", "turn"] (spPot K) := by
  refine F.ok scPot (fun vs H Q E h => ?_) (fun cdv A outer s H vs Q E hr h => ?_)
  · obtain ⟨a, ns, t, rfl, _⟩ := h
    rfl
  obtain ⟨a, ns, t, rfl, hS, h63, h2, q⟩ := h
  refine ⟨_, pss_cons (ps_set (i := 2) scPot.nd rfl (.inl rfl) (pe_op op_add pe_int (pe_op op_mul pe_int (pv 1))))
    (pss_cons (ps_for PassesOwn.never rfl (pi_list (pe_slice sl_list (pv 0) po_none (po_some pe_int))) (pg_name (i := 3) scPot.nd rfl (.inl rfl))
      (pss_one (ps_set (i := 2) scPot.nd rfl (.inl rfl) (pe_op op_mod (pe_callTy call_int1 (by rfl) mi (by decide +kernel) (pa_cons (pe_op op_add (pe_op op_add (pe_op op_mul (pv 2) pe_int)
        (pe_op op_mul (pe_op op_mod (pe_callTy call_int1 (by rfl) mi (by decide +kernel) (pa_cons (pv 3) pa_nil)) pe_int) pe_int)) pe_int) pa_nil)) pe_int))))
    (pss_cons (ps_set (i := 4) scPot.nd rfl (.inl rfl) (pe_ifExp (pt_cmpR op_lt (pv 1) (pe_callB call_len_seq (by rfl) ml PySem.boot_len (pa_cons (pv 0) pa_nil)) (nomark _))
        (pe_callTy call_int1 (by rfl) mi (by decide +kernel) (pa_cons (pe_ix ix_list (pv 0) (pv 1) (fun _ _ => rfl)) pa_nil)) pe_int))
    (pss_cons (ps_set (i := 5) scPot.nd rfl (.inl rfl) (pe_ifExp (pt_cmpR op_ge (pe_callB call_abs (by rfl) ma (by decide +kernel) (pa_cons (pv 4) pa_nil)) (pe_op op_pow pe_int pe_int) (nomark _))
        (pe_callB call_abs (by rfl) ma (by decide +kernel) (pa_cons (pv 4) pa_nil)) pe_int))
    (pss_one (ps_ret (pe_lst (pa_cons (pv 5) (pa_cons (pe_op op_mod (pe_callTy call_int1 (by rfl) mi (by decide +kernel) (pa_cons (pe_op op_add (pe_op op_add (pe_op op_mul (pv 2) pe_int)
        (pe_op op_mod (pe_callTy call_int1 (by rfl) mi (by decide +kernel) (pa_cons (pv 4) pa_nil)) pe_int)) pe_int) pa_nil)) pe_int) (pa_cons pe_int pa_nil))))))))), ?_⟩
  have hl : (ns.map V.int).length = ns.length := List.length_map _
  refine ⟨_, rfl, _, _, rfl, rfl, .inl ⟨by decide, by decide⟩, _, _, rfl, rfl, ?_⟩
  refine ⟨_, rfl, 10, rfl, a, _, rfl, hS, fun p np => ?_⟩
  refine ⟨p, rfl, ⟨_, SqL.of upd_same⟩, for_list (K := K) (a := p) (xs := cutV (ns.map V.int) none (some 10)) (fun i σ H' => ∃ (m : Int) (e : Option V), σ = [some (.ref a), some (.int (t : Int)), some (.int m), e, none, none] ∧ H' = upd H p (.lst (cutV (ns.map V.int) none (some 10)))) ⟨_, none, rfl, rfl⟩ ?_ ?_ ?_⟩
  · rintro i σ H' _ ⟨m, e, rfl, rfl⟩
    exact SqL.of upd_same
  · rintro i x σ H' hi ⟨m, e, rfl, rfl⟩
    obtain ⟨z, rfl⟩ : ∃ z, x = V.int z := by
      have mem := List.mem_of_getElem? hi
      unfold cutV at mem
      have mem2 := List.mem_of_mem_drop (List.mem_of_mem_take mem)
      obtain ⟨z, _, e⟩ := List.mem_map.mp mem2
      exact ⟨z, e.symm⟩
    refine ⟨_, rfl, _, _, rfl, rfl, .inr ⟨by decide, by decide⟩, _, rfl, .inl ⟨_, rfl, _, _, rfl, rfl, (show (0 : Int) < 1999999943 by decide), _, _, rfl, rfl, .inr ⟨by decide, by decide⟩, _, _, rfl, rfl, _, _, rfl, rfl, .inl ⟨_, rfl, _, _, rfl, rfl, (show (0 : Int) < 2147483249 by decide), ?_⟩⟩⟩
    exact ⟨_, _, rfl, rfl⟩
  rintro σ H' ⟨m, e, rfl, rfl⟩
  have s1 := same_new np (.lst (cutV (ns.map V.int) none (some 10)))
  have hS1 := L2.Same.seq s1 hS
  generalize upd H p (.lst (cutV (ns.map V.int) none (some 10))) = H1 at s1 hS1 ⊢
  refine ⟨_, rfl, _, rfl, a, _, rfl, .inl hS1, _, _, rfl, rfl, _, rfl, ?_⟩
  refine' join (i := 4) (R := fun v => ∃ n : Int, v = V.int n) (fun go => ?_) ?_
  rotate_left 3
  · refine iteB (fun c => ?_) (fun c => ?_)
    · have c1 : ((t : Nat) : Int) < (((ns.map V.int).length : Nat) : Int) := of_decide_eq_true c
      have c2 : t < ns.length := by rw [hl] at c1; omega
      have at1 : atI (ns.map V.int) ((t : Nat) : Int) = some (.int ns[t]) := atI_nat (by rw [List.getElem?_map, List.getElem?_eq_getElem c2] <;> rfl)
      exact ⟨_, rfl, _, rfl, a, _, _, _, rfl, rfl, hS1, at1, .inl ⟨_, rfl, go _ ⟨_, rfl⟩⟩⟩
    · exact go _ ⟨_, rfl⟩
  rintro _ ⟨cell, rfl⟩
  refine ⟨_, rfl, _, rfl, _, _, rfl, rfl, (by show (0 : Int) ≤ 16 ∧ (16 : Int) ≤ 1000000 ∧ (10 : Int).natAbs < 2 ^ 64; decide), _, _, rfl, rfl, _, rfl, ?_⟩
  refine' join (i := 5) (R := fun v => ∃ n : Int, v = V.int n) (fun go => ?_) ?_
  rotate_left 3
  · refine iteB (fun c => ?_) (fun c => ?_)
    · exact ⟨_, rfl, _, rfl, go _ ⟨_, rfl⟩⟩
    · exact go _ ⟨_, rfl⟩
  rintro _ ⟨dg, rfl⟩
  refine ⟨_, rfl, _, rfl, _, _, rfl, rfl, .inr ⟨by decide, by decide⟩, _, rfl, .inl ⟨_, rfl, _, _, rfl, rfl, (show (0 : Int) < 1999999943 by decide), _, _, rfl, rfl, _, _, rfl, rfl, .inl ⟨_, rfl, _, _, rfl, rfl, (show (0 : Int) < 2147483249 by decide), ?_⟩⟩⟩
  refine ⟨(by show 3 ≤ sizeLine; decide), fun r nr => ?_⟩
  exact q _ r (s1.trans (same_new nr _)) (s1.free nr) (wl_mk upd_same (Int.emod_nonneg _ (by decide)) (Int.emod_lt_of_pos _ (by decide)))
theorem ok_draw (F : L2.Fun K "_law_draw" "_law_draw" sDraw f fd) (md : mg "divmod" = none) (mi : mg "int" = none) : FnOk P w K mg base CX0 1 f fd ["pot", "few"] spDraw := by
  refine F.ok scDraw (fun vs H Q E h => ?_) (fun cdv A outer s H vs Q E hr h => ?_)
  · obtain ⟨p, m, rfl, _⟩ := h
    rfl
  obtain ⟨p, m, rfl, ⟨a, b, c, hp⟩, m0, m1, q⟩ := h
  refine ⟨_, pss_cons (ps_if (pt_cmpR op_gt (pe_ix ix_list (pv 0) pe_int (fun _ _ => rfl)) pe_int (nomark _))
      (pss_cons (ps_asg (pe_callB call_divmod (by rfl) md (by decide +kernel) (pa_cons (pe_ix ix_list (pv 0) pe_int (fun _ _ => rfl)) (pa_cons (pv 1) pa_nil))) (pg_tup (by rfl) (pgs_cons (pg_sub (pv 0) pe_int set_list) (pgs_cons (pg_name (i := 2) scDraw.nd rfl (.inl rfl)) pgs_nil))))
        (pss_one (ps_ret (pv 2)))) pss_nil)
    (pss_cons (ps_asg (pe_op op_add (pe_ix ix_list (pv 0) pe_int (fun _ _ => rfl)) pe_int) (pg_sub (pv 0) pe_int set_list))
    (pss_cons (ps_asg (pe_op op_mod (pe_callTy call_int1 (by rfl) mi (by decide +kernel) (pa_cons (pe_op op_add (pe_op op_add (pe_op op_mul (pe_ix ix_list (pv 0) pe_int (fun _ _ => rfl)) (pe_op op_add pe_int
        (pe_op op_mul pe_int (pe_ix ix_list (pv 0) pe_int (fun _ _ => rfl))))) pe_int) (pe_ix ix_list (pv 0) pe_int (fun _ _ => rfl))) pa_nil)) pe_int) (pg_sub (pv 0) pe_int set_list))
    (pss_one (ps_ret (pe_op op_mod (pe_callTy call_int1 (by rfl) mi (by decide +kernel) (pa_cons (pe_op op_fdiv (pe_ix ix_list (pv 0) pe_int (fun _ _ => rfl)) pe_int) pa_nil)) (pv 1)))))), ?_⟩
  refine ⟨_, rfl, p, _, _, _, rfl, rfl, SqL.of hp, rfl, _, _, rfl, rfl, _, rfl, iteB (fun c1 => ?_) (fun _ => ?_)⟩
  · have a0 : a > 0 := of_decide_eq_true c1
    refine ⟨_, rfl, p, _, _, _, rfl, rfl, SqL.of hp, rfl, _, rfl, a, m, rfl, ⟨m0, by omega⟩, fun t nt => ?_⟩
    refine ⟨t, _, rfl, SqT.of upd_same, rfl, _, _, rfl, _, rfl, p, [.int a, .int ((b.val : Nat) : Int), .int c], _, 0, rfl, rfl, ?_, rfl, ?_⟩
    · rw [upd_ne (ne_of_none hp nt)]
      exact hp
    refine ⟨_, _, rfl, ⟨rfl, _, rfl, ?_⟩⟩
    exact q (a % m) _ (Int.emod_nonneg _ (by omega)) (Int.emod_lt_of_pos _ m0) ((But.new nt).trans But.put) ⟨_, b, _, upd_same⟩
  · have b1 : ((b.val : Nat) : Int) < 2147483249 := by have := b.isLt; omega
    refine ⟨_, rfl, p, _, _, _, rfl, rfl, SqL.of hp, rfl, _, _, rfl, rfl, _, rfl, p, [.int a, .int ((b.val : Nat) : Int), .int c], _, 2, rfl, rfl, hp, rfl, ?_⟩
    have h1 : upd H p (.lst [.int a, .int ((b.val : Nat) : Int), .int (c + 1)]) p = some (.lst [.int a, .int ((b.val : Nat) : Int), .int (c + 1)]) := upd_same
    refine ⟨_, rfl, p, _, _, _, rfl, rfl, SqL.of h1, rfl, _, rfl, p, _, _, _, rfl, rfl, SqL.of h1, rfl, _, _, rfl, rfl, .inl ⟨by decide, by decide⟩, _, _, rfl, rfl, _, _, rfl, rfl, .inl ⟨by omega, by omega⟩, _, _, rfl, rfl, _, rfl, p, _, _, _, rfl, rfl, SqL.of h1, rfl, _, _, rfl, rfl,
      .inl ⟨_, rfl, _, _, rfl, rfl, (show (0 : Int) < 2147483249 by decide), _, rfl, p, [.int a, .int ((b.val : Nat) : Int), .int (c + 1)], _, 1, rfl, rfl, h1, rfl, ?_⟩⟩
    refine ⟨_, rfl, p, _, _, _, rfl, rfl, SqL.of upd_same, rfl, _, _, rfl, rfl, ⟨by decide, by decide⟩, .inl ⟨_, rfl, _, rfl, _, _, rfl, rfl, m0, ?_⟩⟩
    exact q _ _ (Int.emod_nonneg _ (by omega)) (Int.emod_lt_of_pos _ m0) (But.put.trans But.put) (wl_mk upd_same (Int.emod_nonneg _ (by decide)) (Int.emod_lt_of_pos _ (by decide)))
end
end My

set_option maxHeartbeats 4000000
namespace My
open PySem PySem.Spec PyProof.Rows L2
abbrev sPick : Stmt := top 29
theorem scPick : FnScope ["pot", "some"] ["pot", "some"] (defScope sPick) := ⟨rfl, rfl, rfl, by decide +kernel, rfl, by decide +kernel, by decide +kernel⟩
/-- from a tuple that stands beside the pot -/
def spPickW (K : PySem.W.Frag) : Sp := fun vs H Q _ => ∃ (p t : Addr) (xs : List V), vs = [.ref p, .ref t] ∧ Wl H p ∧ SqT K (hide p H) t xs ∧ 0 < xs.length ∧ xs.length < 5000 ∧
  ∀ (i : Nat) (v : V) (H' : Hp), xs[i]? = some v → But p H H' → Wl H' p → Q v H'
def spPickL (K : PySem.W.Frag) : Sp := fun vs H Q _ => ∃ (p t : Addr) (xs : List V), vs = [.ref p, .ref t] ∧ Wl H p ∧ H t = some (.lst xs) ∧ t ≠ p ∧ 0 < xs.length ∧ xs.length < 5000 ∧
  ∀ (i : Nat) (v : V) (H' : Hp), xs[i]? = some v → But p H H' → Wl H' p → Q v H'
section
variable {P : Program} {w : World} {K : PySem.W.Frag} {mg : Str → Option Value} {base : Heap} {f fD : Addr} {fd dD : FuncData}
theorem ok_pickW (F : L2.Fun K "_law_pick" "_law_pick" sPick f fd) (GD : FnOk P w K mg base CX0 1 fD dD ["pot", "few"] spDraw) (bD : L2.Binds K dD ["pot", "few"] []) (kD : PySem.W.keepIn K (.ref fD) = true) (mD : mg "_law_draw" = some (.ref fD)) (ml : mg "len" = none) :
    FnOk P w K mg base CX0 2 f fd ["pot", "some"] (spPickW K) := by
  refine F.ok scPick (fun vs H Q E h => ?_) (fun cdv A outer s H vs Q E hr h => ?_)
  · obtain ⟨p, t, xs, rfl, _⟩ := h
    rfl
  obtain ⟨p, t, xs, rfl, hW, hT, l0, l1, q⟩ := h
  refine ⟨_, pss_one (ps_ret (pe_ix ix_tup (pv 1) (pe_call GD hr (by rfl) mD kD bD .nil pass0 (pa_cons (pv 0) (pa_cons (pe_callB call_len_seq (by rfl) ml PySem.boot_len (pa_cons (pv 1) pa_nil)) pa_nil))) (fun _ _ => rfl))), ?_⟩
  have hT0 : SqT K H t xs := Same.tup (hide_sub p H) hT
  refine ⟨_, rfl, _, rfl, _, rfl, t, xs, rfl, .inr hT0, p, _, rfl, hW, by omega, by omega, fun r H' r0 r1 bt hW' => ?_⟩
  obtain ⟨i, rfl⟩ : ∃ i : Nat, r = (i : Int) := ⟨r.toNat, by omega⟩
  have hi : i < xs.length := by omega
  exact ⟨t, xs, _, xs[i], rfl, rfl, Same.tup (hide_sub p H') (Same.tup bt.hide hT), atI_nat (List.getElem?_eq_getElem hi), q i _ H' (List.getElem?_eq_getElem hi) bt hW'⟩
theorem ok_pickL (F : L2.Fun K "_law_pick" "_law_pick" sPick f fd) (GD : FnOk P w K mg base CX0 1 fD dD ["pot", "few"] spDraw) (bD : L2.Binds K dD ["pot", "few"] []) (kD : PySem.W.keepIn K (.ref fD) = true) (mD : mg "_law_draw" = some (.ref fD)) (ml : mg "len" = none) :
    FnOk P w K mg base CX0 2 f fd ["pot", "some"] (spPickL K) := by
  refine F.ok scPick (fun vs H Q E h => ?_) (fun cdv A outer s H vs Q E hr h => ?_)
  · obtain ⟨p, t, xs, rfl, _⟩ := h
    rfl
  obtain ⟨p, t, xs, rfl, hW, hT, tp, l0, l1, q⟩ := h
  refine ⟨_, pss_one (ps_ret (pe_ix (r := rIxL K) ix_list (pv 1) (pe_call GD hr (by rfl) mD kD bD .nil pass0 (pa_cons (pv 0) (pa_cons (pe_callB call_len_seq (by rfl) ml PySem.boot_len (pa_cons (pv 1) pa_nil)) pa_nil))) (fun _ _ => rfl))), ?_⟩
  refine ⟨_, rfl, _, rfl, _, rfl, t, xs, rfl, .inl (SqL.of hT), p, _, rfl, hW, by omega, by omega, fun r H' r0 r1 bt hW' => ?_⟩
  obtain ⟨i, rfl⟩ : ∃ i : Nat, r = (i : Int) := ⟨r.toNat, by omega⟩
  have hi : i < xs.length := by omega
  exact ⟨t, xs, _, xs[i], rfl, rfl, SqL.of (bt _ _ tp hT), atI_nat (List.getElem?_eq_getElem hi), q i _ H' (List.getElem?_eq_getElem hi) bt hW'⟩
end
end My

set_option maxHeartbeats 4000000
namespace My
open PySem PySem.Spec PyProof.Rows L2
abbrev sMixed : Stmt := top 30
theorem scMixed : FnScope ["pot", "some", "left", "found", "turn", "at"] ["pot", "some"] (defScope sMixed) := ⟨rfl, rfl, rfl, by decide +kernel, rfl, by decide +kernel, by decide +kernel⟩
/-- all of them, in a drawn order -/
def spMixed (K : PySem.W.Frag) : Sp := fun vs H Q _ => ∃ (p t : Addr) (xs : List V), vs = [.ref p, .ref t] ∧ Wl H p ∧ (SqL K H t xs ∨ SqT K H t xs) ∧ xs.length ≤ 900 ∧
  ∀ (F : Addr) (ys : List V) (H' : Hp), ys.Perm xs → H' F = some (.lst ys) → F ≠ p → But p H H' → Wl H' p → Q (.ref F) H'
theorem perm_cut {α : Type} {ys : List α} {i : Nat} {x : α} (h : ys[i]? = some x) : ys.Perm (x :: (ys.take i ++ ys.drop (i + 1))) := by
  have hi : i < ys.length := by
    by_cases c : i < ys.length
    · exact c
    · rw [List.getElem?_eq_none (by omega)] at h
      cases h
  have e : ys = ys.take i ++ (x :: ys.drop (i + 1)) := by
    have z := List.getElem?_eq_some_iff.mp h
    obtain ⟨_, z⟩ := z
    rw [← z]
    simp
  have p := @List.perm_middle α x (ys.take i) (ys.drop (i + 1))
  rw [← e] at p
  exact p
section
variable {P : Program} {w : World} {K : PySem.W.Frag} {mg : Str → Option Value} {base : Heap} {f fD : Addr} {fd dD : FuncData}
theorem ok_mixed (F : L2.Fun K "_law_mixed" "_law_mixed" sMixed f fd) (GD : FnOk P w K mg base CX0 1 fD dD ["pot", "few"] spDraw) (bD : L2.Binds K dD ["pot", "few"] []) (kD : PySem.W.keepIn K (.ref fD) = true) (mD : mg "_law_draw" = some (.ref fD)) (ml : mg "len" = none) (mr : mg "range" = none) (mli : mg "list" = none) :
    FnOk P w K mg base CX0 2 f fd ["pot", "some"] (spMixed K) := by
  refine F.ok scMixed (fun vs H Q E h => ?_) (fun cdv A outer s H vs Q E hr h => ?_)
  · obtain ⟨p, t, xs, rfl, _⟩ := h
    rfl
  obtain ⟨p, t, xs, rfl, hW, hT, l1, q⟩ := h
  refine ⟨_, pss_cons (ps_par (by rfl) scMixed.nd (i := 2) (j := 3) rfl rfl (by decide) rfl rfl (pa_cons (pe_callTy call_list_of (by rfl) mli (by decide +kernel) (pa_cons (pv 1) pa_nil)) (pa_cons (pe_lst pa_nil) pa_nil)) (by rfl))
    (pss_cons (ps_for PassesOwn.never rfl (pi_range1 rfl mr (pa_cons (pe_callB call_len_seq (by rfl) ml PySem.boot_len (pa_cons (pv 1) pa_nil)) pa_nil)) (pg_name (i := 4) scMixed.nd rfl (.inl rfl))
      (pss_cons (ps_set (i := 5) scMixed.nd rfl (.inl rfl) (pe_call GD hr (by rfl) mD kD bD .nil pass0 (pa_cons (pv 0) (pa_cons (pe_callB call_len_seq (by rfl) ml PySem.boot_len (pa_cons (pv 2) pa_nil)) pa_nil))))
      (pss_cons (ps_expr (pe_bm PySem.F.plainAttrs_list PySem.F.slot_list_append PySem.F.type_list_append mt_append (pv 3) (pa_cons (pe_ix (r := rIxL K) ix_list (pv 2) (pv 5) (fun _ _ => rfl)) pa_nil)))
      (pss_one (ps_set (i := 2) scMixed.nd rfl (.inl rfl) (pe_op op_cat (pe_slice sl_list (pv 2) po_none (po_some (pv 5))) (pe_slice sl_list (pv 2) (po_some (pe_op op_add (pv 5) pe_int)) po_none)))))))
    (pss_one (ps_ret (pv 3)))), ?_⟩
  refine ⟨_, rfl, t, xs, rfl, hT, fun l nl => ?_⟩
  have sl := same_new nl (.lst xs)
  refine ⟨(by show 0 ≤ sizeLine; decide), fun b nb => ?_⟩
  have s1 := sl.trans (same_new nb (.lst []))
  have lp : l ≠ p := hW.ne nl
  have nb0 : H b = none := sl.free nb
  have bp : b ≠ p := hW.ne nb0
  have bl : b ≠ l := fun e => by
    rw [e, upd_same] at nb
    cases nb
  refine ⟨_, _, rfl, ?_⟩
  refine ⟨_, rfl, t, xs, rfl, hT.imp (L2.Same.seq s1) (Same.tup s1), ((xs.length : Nat) : Int), rfl, by omega, by omega, for_range (lo := 0) (n := ((xs.length : Nat) : Int).toNat) (fun i σ H' => ∃ (l : Addr) (ls fs : List V) (s4 s5 : Option V), σ = [some (.ref p), some (.ref t), some (.ref l), some (.ref b), s4, s5] ∧ But p H H' ∧ Wl H' p ∧ H' l = some (.lst ls) ∧ l ≠ p ∧ l ≠ b ∧ H' b = some (.lst fs) ∧
      fs.length = i ∧ List.Perm (fs ++ ls) xs) ⟨l, xs, [], none, none, rfl, But.of s1, hW.same s1, (same_new nb _) _ _ upd_same, lp, Ne.symm bl, upd_same, rfl, .refl _⟩ ?_ ?_⟩
  · rintro i σ H1 li ⟨l, ls, fs, s4, s5, rfl, b1, w1, hl, lp, lb, hb, lf, pm⟩
    have ll : fs.length + ls.length = xs.length := by
      have := pm.length_eq
      rw [List.length_append] at this
      exact this
    have li' : i < xs.length := by omega
    refine ⟨_, rfl, _, rfl, l, _, rfl, .inl (SqL.of hl), p, _, rfl, w1, by omega, by omega, fun r H2 r0 r1 b2 w2 => ?_⟩
    obtain ⟨k, rfl⟩ : ∃ k : Nat, r = (k : Int) := ⟨r.toNat, by omega⟩
    have hk : k < ls.length := by omega
    have hl2 := b2 _ _ lp hl
    have hb2 := b2 _ _ bp hb
    refine ⟨_, rfl, .inl ⟨rfl, _, SqL.of hb2⟩, ?_⟩
    refine ⟨_, rfl, _, rfl, l, ls, _, ls[k], rfl, rfl, SqL.of hl2, atI_nat (List.getElem?_eq_getElem hk), b, fs, _, rfl, rfl, hb2, small1000 (by omega), ?_⟩
    have hl3 : upd H2 b (.lst (fs ++ [ls[k]])) l = some (.lst ls) := by rw [upd_ne lb]; exact hl2
    have hb3 := upd_same (H := H2) (a := b) (o := .lst (fs ++ [ls[k]]))
    have b3 := but_put (o := .lst (fs ++ [ls[k]])) (b1.trans b2) nb0
    have w3 := w2.put (o := .lst (fs ++ [ls[k]])) bp
    generalize upd H2 b (.lst (fs ++ [ls[k]])) = H3 at hl3 hb3 b3 w3 ⊢
    refine ⟨_, rfl, _, rfl, _, rfl, l, ls, rfl, SqL.of hl3, fun u nu => ?_⟩
    have su := same_new nu (.lst (cutV ls none (some (k : Int))))
    refine ⟨_, rfl, _, rfl, _, _, rfl, rfl, _, rfl, l, ls, rfl, SqL.of (su _ _ hl3), fun v nv => ?_⟩
    have sv := same_new nv (.lst (cutV ls (some ((k : Int) + 1)) none))
    have eu := sv _ _ (upd_same (H := H3) (a := u) (o := .lst (cutV ls none (some (k : Int)))))
    refine ⟨u, v, _, _, rfl, rfl, eu, upd_same, ?_, fun z nz => ?_⟩
    · have := cutV_length ls none (some (k : Int))
      have := cutV_length ls (some ((k : Int) + 1)) none
      exact Nat.le_trans (Nat.add_le_add (cutV_length ls none (some (k : Int))) (cutV_length ls (some ((k : Int) + 1)) none)) (Nat.le_trans (by omega : ls.length + ls.length ≤ 1800) (by rw [sizeLine_eq]; decide))
    have sz := same_new nz (.lst (cutV ls none (some (k : Int)) ++ cutV ls (some ((k : Int) + 1)) none))
    have s36 := su.trans (sv.trans sz)
    have zb : z ≠ b := fun e => by
      have := (su.trans sv) _ _ hb3
      rw [e, this] at nz
      cases nz
    have e1 : cutV ls none (some (k : Int)) = ls.take k := cut_to (by omega)
    have e2 : cutV ls (some ((k : Int) + 1)) none = ls.drop (k + 1) := cut_from (k := k + 1) (by omega)
    refine ⟨z, _, fs ++ [ls[k]], _, _, rfl, b3.trans (But.of s36), w3.same s36, upd_same, (w3.same (su.trans sv)).ne nz, zb, s36 _ _ hb3, by rw [List.length_append]; show fs.length + 1 = i + 1; omega, ?_⟩
    rw [e1, e2, List.append_assoc]
    refine List.Perm.trans ?_ pm
    exact List.Perm.append_left fs (perm_cut (List.getElem?_eq_getElem hk)).symm
  · rintro σ H1 ⟨l, ls, fs, s4, s5, rfl, b1, w1, hl, lp, lb, hb, lf, pm⟩
    have ll : fs.length + ls.length = xs.length := by
      have := pm.length_eq
      rw [List.length_append] at this
      exact this
    have l0 : ls = [] := List.eq_nil_of_length_eq_zero (by omega)
    rw [l0, List.append_nil] at pm
    exact ⟨_, rfl, q b fs _ pm hb bp b1 w1⟩
end
end My

set_option maxHeartbeats 8000000
namespace My
open PySem PySem.Spec PyProof.Rows L2
abbrev sOdd : Stmt := top 31
theorem scOdd : FnScope ["pot", "some", "more", "last"] ["pot"] (defScope sOdd) := ⟨rfl, rfl, rfl, by decide +kernel, rfl, by decide +kernel, by decide +kernel⟩
/-- a value of some kind -/
def spOdd (K : PySem.W.Frag) : Sp := fun vs H Q _ => ∃ p : Addr, vs = [.ref p] ∧ Wl H p ∧ ∀ (v : V) (H' : Hp), But p H H' → Wl H' p → Va K H' v → Q v H'
section
variable {P : Program} {w : World} {K : PySem.W.Frag} {mg : Str → Option Value} {base : Heap} {f fD fK : Addr} {fd dD dK : FuncData}
theorem ok_odd (F : L2.Fun K "_law_odd" "_law_odd" sOdd f fd) (GK : FnOk P w K mg base CX0 2 fK dK ["pot", "some"] (spPickL K)) (bK : L2.Binds K dK ["pot", "some"] []) (kK : PySem.W.keepIn K (.ref fK) = true) (mK : mg "_law_pick" = some (.ref fK)) : FnOk P w K mg base CX0 3 f fd ["pot"] (spOdd K) := by
  refine F.ok scOdd (fun vs H Q E h => ?_) (fun cdv A outer s H vs Q E hr h => ?_)
  · obtain ⟨p, rfl, _⟩ := h
    rfl
  obtain ⟨p, rfl, hW, q⟩ := h
  refine ⟨_, pss_cons (ps_set (i := 1) scOdd.nd rfl (.inl rfl) (pe_lst (pa_cons pe_non (pa_cons pe_bl (pa_cons pe_bl (pa_cons pe_int (pa_cons pe_int (pa_cons (pe_un un_neg pe_int) (pa_cons (pe_op op_pow pe_int pe_int) (pa_cons pe_str (pa_cons pe_str (pa_cons pe_str (pa_cons (pe_tup pa_nil) (pa_cons (pe_tup (pa_cons pe_int pa_nil)) (pa_cons (pe_tup (pa_cons pe_int (pa_cons pe_int pa_nil))) (pa_cons (pe_tup (pa_cons pe_int (pa_cons pe_int pa_nil))) (pa_cons (pe_tup (pa_cons pe_int (pa_cons pe_int pa_nil))) (pa_cons (pe_tup (pa_cons (pe_tup (pa_cons pe_int (pa_cons pe_int pa_nil))) pa_nil)) pa_nil))))))))))))))))))
    (pss_cons (ps_set (i := 2) scOdd.nd rfl (.inl rfl) (pe_lst (pa_cons (pe_tup (pa_cons (pe_tup (pa_cons pe_int (pa_cons pe_int pa_nil))) pa_nil)) (pa_cons (pe_tup (pa_cons (pe_tup (pa_cons pe_int (pa_cons pe_int pa_nil))) (pa_cons (pe_tup (pa_cons pe_int (pa_cons pe_int pa_nil))) pa_nil))) (pa_cons (pe_lst pa_nil) (pa_cons (pe_lst (pa_cons (pe_tup (pa_cons pe_int (pa_cons pe_int pa_nil))) pa_nil)) (pa_cons pe_dnewK (pa_cons (pe_tup (pa_cons pe_bl pa_nil)) (pa_cons (pe_tup (pa_cons pe_int (pa_cons pe_bl pa_nil))) (pa_cons (pe_tup (pa_cons (pe_tup (pa_cons pe_int (pa_cons pe_bl pa_nil))) pa_nil)) (pa_cons (pe_tup (pa_cons pe_non pa_nil)) (pa_cons (pe_tup (pa_cons pe_str pa_nil)) pa_nil))))))))))))
    (pss_cons (ps_set (i := 3) scOdd.nd rfl (.inl rfl) (pe_lst (pa_cons (pe_tup (pa_cons pe_int (pa_cons (pe_tup pa_nil) pa_nil))) (pa_cons (pe_tup (pa_cons pe_int (pa_cons (pe_tup pa_nil) pa_nil))) (pa_cons (pe_tup (pa_cons pe_int (pa_cons (pe_tup (pa_cons (pe_tup (pa_cons pe_int (pa_cons pe_int pa_nil))) pa_nil)) pa_nil))) (pa_cons (pe_tup (pa_cons pe_int (pa_cons pe_int (pa_cons (pe_tup (pa_cons (pe_tup (pa_cons pe_int (pa_cons pe_int pa_nil))) pa_nil)) pa_nil)))) (pa_cons (pe_tup (pa_cons pe_int (pa_cons pe_int (pa_cons (pe_tup pa_nil) pa_nil)))) (pa_cons (pe_tup (pa_cons (pe_tup pa_nil) (pa_cons (pe_tup pa_nil) pa_nil))) (pa_cons (pe_tup (pa_cons (pe_tup (pa_cons pe_int pa_nil)) pa_nil)) (pa_cons (pe_tup (pa_cons pe_str (pa_cons (pe_tup pa_nil) pa_nil))) pa_nil))))))))))
    (pss_one (ps_ret (pe_call GK hr (by rfl) mK kK bK .nil pass0 (pa_cons (pv 0) (pa_cons (pe_op op_cat (pe_op op_cat (pv 1) (pv 2)) (pv 3)) pa_nil))))))), ?_⟩
  have mk1 := (mk_cons (K := K) mk_non (mk_cons (mk_bl true) (mk_cons (mk_bl false) (mk_cons (mk_int 0) (mk_cons (mk_int 1) (mk_cons (mk_neg 1) (mk_cons (mk_pow 10 20 ⟨by decide, by decide, by decide⟩) (mk_cons (mk_str "") (mk_cons (mk_str "x") (mk_cons (mk_str "hole") (mk_cons (mk_tup (by decide) mk_nil) (mk_cons (mk_tup (by decide) (mk_cons (mk_int 0) mk_nil)) (mk_cons (mk_tup (by decide) (mk_cons (mk_int 1) (mk_cons (mk_int 0) mk_nil))) (mk_cons (mk_tup (by decide) (mk_cons (mk_int 0) (mk_cons (mk_int 1) mk_nil))) (mk_cons (mk_tup (by decide) (mk_cons (mk_int 0) (mk_cons (mk_int 0) mk_nil))) (mk_cons (mk_tup (by decide) (mk_cons (mk_tup (by decide) (mk_cons (mk_int 0) (mk_cons (mk_int 1) mk_nil))) mk_nil)) mk_nil))))))))))))))))
  have mk2 := (mk_cons (K := K) (mk_tup (by decide) (mk_cons (mk_tup (by decide) (mk_cons (mk_int 1) (mk_cons (mk_int 0) mk_nil))) mk_nil)) (mk_cons (mk_tup (by decide) (mk_cons (mk_tup (by decide) (mk_cons (mk_int 0) (mk_cons (mk_int 1) mk_nil))) (mk_cons (mk_tup (by decide) (mk_cons (mk_int 1) (mk_cons (mk_int 0) mk_nil))) mk_nil))) (mk_cons (mk_lst (by decide) mk_nil) (mk_cons (mk_lst (by decide) (mk_cons (mk_tup (by decide) (mk_cons (mk_int 0) (mk_cons (mk_int 1) mk_nil))) mk_nil)) (mk_cons mk_dct (mk_cons (mk_tup (by decide) (mk_cons (mk_bl true) mk_nil)) (mk_cons (mk_tup (by decide) (mk_cons (mk_int 0) (mk_cons (mk_bl true) mk_nil))) (mk_cons (mk_tup (by decide) (mk_cons (mk_tup (by decide) (mk_cons (mk_int 0) (mk_cons (mk_bl true) mk_nil))) mk_nil)) (mk_cons (mk_tup (by decide) (mk_cons mk_non mk_nil)) (mk_cons (mk_tup (by decide) (mk_cons (mk_str "0") mk_nil)) mk_nil))))))))))
  have mk3 := (mk_cons (K := K) (mk_tup (by decide) (mk_cons (mk_int 0) (mk_cons (mk_tup (by decide) mk_nil) mk_nil))) (mk_cons (mk_tup (by decide) (mk_cons (mk_int 1) (mk_cons (mk_tup (by decide) mk_nil) mk_nil))) (mk_cons (mk_tup (by decide) (mk_cons (mk_int 2) (mk_cons (mk_tup (by decide) (mk_cons (mk_tup (by decide) (mk_cons (mk_int 0) (mk_cons (mk_int 1) mk_nil))) mk_nil)) mk_nil))) (mk_cons (mk_tup (by decide) (mk_cons (mk_int 1) (mk_cons (mk_int 1) (mk_cons (mk_tup (by decide) (mk_cons (mk_tup (by decide) (mk_cons (mk_int 0) (mk_cons (mk_int 0) mk_nil))) mk_nil)) mk_nil)))) (mk_cons (mk_tup (by decide) (mk_cons (mk_int 1) (mk_cons (mk_int 1) (mk_cons (mk_tup (by decide) mk_nil) mk_nil)))) (mk_cons (mk_tup (by decide) (mk_cons (mk_tup (by decide) mk_nil) (mk_cons (mk_tup (by decide) mk_nil) mk_nil))) (mk_cons (mk_tup (by decide) (mk_cons (mk_tup (by decide) (mk_cons (mk_int 0) mk_nil)) mk_nil)) (mk_cons (mk_tup (by decide) (mk_cons (mk_str "vertex") (mk_cons (mk_tup (by decide) mk_nil) mk_nil))) mk_nil))))))))
  refine set_mk mk1 (by decide) fun vs1 F1 H2 t1 l1 h1 n1 f1 => ?_
  have w1 := hW.same t1
  have p1 : F1 ≠ p := hW.ne n1
  refine set_mk mk2 (by decide) fun vs2 F2 H4 t2 l2 h2 n2 f2 => ?_
  refine set_mk mk3 (by decide) fun vs3 F3 H6 t3 l3 h3 n3 f3 => ?_
  have f2 := t3 _ _ f2
  have f1 := (t2.trans t3) _ _ f1
  have h2 := fun x hx => (h2 x hx).same t3
  have h1 := fun x hx => (h1 x hx).same (t2.trans t3)
  have t6 := t1.trans (t2.trans t3)
  refine ⟨_, rfl, _, rfl, _, rfl, F1, F2, _, _, rfl, rfl, f1, f2, by rw [l1, l2]; exact small (by decide), fun G1 m1 => ?_⟩
  have e4 := same_new m1 (.lst (vs1 ++ vs2))
  have g1 := upd_same (H := H6) (a := G1) (o := .lst (vs1 ++ vs2))
  have f3 := e4 _ _ f3
  generalize upd H6 G1 (.lst (vs1 ++ vs2)) = H7 at e4 g1 f3 ⊢
  have w7 := (w1.same (t2.trans t3)).same e4
  refine ⟨_, rfl, G1, F3, _, _, rfl, rfl, g1, f3, by rw [List.length_append, l1, l2, l3]; exact small (by decide), fun G2 m2 => ?_⟩
  have e5 := same_new m2 (.lst (vs1 ++ vs2 ++ vs3))
  have hh := fun x hx => (va_app (va_app h1 h2) h3 x hx).same (e4.trans e5)
  have w8 := w7.same e5
  refine ⟨p, G2, _, rfl, w8, upd_same, w7.ne m2, by rw [List.length_append, List.length_append, l1, l2, l3]; decide, by rw [List.length_append, List.length_append, l1, l2, l3]; decide, fun i v H9 hi b9 w9 => ?_⟩
  exact q v H9 ((But.of (t6.trans (e4.trans e5))).trans b9) w9 ((hh v (List.mem_of_getElem? hi)).but b9 w8 w9)
end
end My

set_option maxHeartbeats 4000000
namespace My
open PySem PySem.Spec PyProof.Rows L2 RZ
abbrev sIsWhole : Stmt := top 7
abbrev sWholeFrom : Stmt := top (7 + 1)
abbrev sIsTwo : Stmt := top (7 + 2)
abbrev sAsc : Stmt := top (7 + 3)
abbrev sIsGraph : Stmt := top (7 + 4)
abbrev sIsVP : Stmt := top (7 + 5)
abbrev sCheckGraph : Stmt := top (7 + 6)
theorem scIsWhole : FnScope ["value", "low", "high"] ["value", "low", "high"] (defScope sIsWhole) := ⟨rfl, rfl, rfl, by decide +kernel, rfl, by decide +kernel, by decide +kernel⟩
theorem scWholeFrom : FnScope ["value", "low"] ["value", "low"] (defScope sWholeFrom) := ⟨rfl, rfl, rfl, by decide +kernel, rfl, by decide +kernel, by decide +kernel⟩
theorem scIsTwo : FnScope ["value"] ["value"] (defScope sIsTwo) := ⟨rfl, rfl, rfl, by decide +kernel, rfl, by decide +kernel, by decide +kernel⟩
theorem scAsc : FnScope ["row", "value", "following"] ["row"] (defScope sAsc) := ⟨rfl, rfl, rfl, by decide +kernel, rfl, by decide +kernel, by decide +kernel⟩
theorem scIsGraph : FnScope ["value", "many", "edges", "edge"] ["value"] (defScope sIsGraph) := ⟨rfl, rfl, rfl, by decide +kernel, rfl, by decide +kernel, by decide +kernel⟩
theorem scIsVP : FnScope ["value", "many", "vertex"] ["value", "many"] (defScope sIsVP) := ⟨rfl, rfl, rfl, by decide +kernel, rfl, by decide +kernel, by decide +kernel⟩
theorem scCheckGraph : FnScope ["graph"] ["graph"] (defScope sCheckGraph) := ⟨rfl, rfl, rfl, by decide +kernel, rfl, by decide +kernel, by decide +kernel⟩
theorem opOr {X : Cx} {op : Value → Value → Sem Value} {r r' : R2} (a : OpR X op r) (b : OpR X op r') : OpR X op (fun x y H Q => r x y H Q ∨ r' x y H Q) := by
  intro pins s σ H x y v u Q I rx ry h
  rcases h with h | h
  · exact a pins s σ H x y v u Q I rx ry h
  · exact b pins s σ H x y v u Q I rx ry h
theorem walk_zipT {K : PySem.W.Frag} {a b : Addr} {xs ys : List V} {n : Nat} (hn : n = min xs.length ys.length) : Walk (ItzT K a b) n (fun H => SqT K H a xs ∧ SqT K H b ys) (YPair (fun i => xs[i]?) (fun i => ys[i]?)) := by
  subst hn
  refine ⟨fun i _ hi q => ?_, fun _ q => ⟨xs, ys, q.1, q.2, by omega⟩, fun i H v H' _ q y => ?_⟩
  · have h1 : i < xs.length := by omega
    have h2 : i < ys.length := by omega
    exact ⟨xs, ys, xs[i], ys[i], q.1, q.2, by simp [h1], by simp [h2]⟩
  · obtain ⟨T, x, z, h1, h2, h3, h4, h5⟩ := y
    exact ⟨T, x, z, h1, h2, h3, h4 xs q.1, h5 ys q.2⟩
/-- what may be compared: numbers alone, or pairs of numbers alone -/
def Cmp (ss : List Sh) : Prop := (∀ s ∈ ss, ∃ i, s = .int i) ∨ (∀ s ∈ ss, ∃ i j, s = .tup [.int i, .int j])
theorem asc_zip : ∀ ss : List Sh, (List.zipWith ltS ss (ss.drop 1)).all id = ascB ss
  | [] => rfl
  | [s] => rfl
  | s :: t :: r => by
    have ih := asc_zip (t :: r)
    show (ltS s t && (List.zipWith ltS (t :: r) ((t :: r).drop 1)).all id) = (ltS s t && ascB (t :: r))
    rw [ih]
def spWholeFromA (K : PySem.W.Frag) : Sp := fun vs H Q _ => ∃ (v : V) (s : Sh) (lo : Int), vs = [v, .int lo] ∧ ShAt K H v s ∧ Q (.bl (wholeF lo s)) H
def spIsWholeA (K : PySem.W.Frag) : Sp := fun vs H Q _ => ∃ (v : V) (s : Sh) (lo hi : Int), vs = [v, .int lo, .int hi] ∧ ShAt K H v s ∧ Q (.bl (wholeR lo hi s)) H
def spIsTwoA (K : PySem.W.Frag) : Sp := fun vs H Q _ => ∃ (v : V) (s : Sh), vs = [v] ∧ ShAt K H v s ∧ Q (.bl (isTwo s)) H
def spAscA (K : PySem.W.Frag) : Sp := fun vs H Q _ => ∃ (e : Addr) (xs : List V) (ss : List Sh), vs = [.ref e] ∧ SqT K H e xs ∧ ShsAt K H xs ss ∧ Cmp ss ∧ ss.length ≤ 900 ∧ ∀ H', Same H H' → Q (.bl (ascB ss)) H'
def spVPA (K : PySem.W.Frag) : Sp := fun vs H Q _ => ∃ (v : V) (s : Sh) (n : Int), vs = [v, .int n] ∧ ShAt K H v s ∧ ∀ H', Same H H' → Q (.bl (vpB n s)) H'
/-- no tuple in it is too long -/
def shortS : Sh → Prop
  | .tup [_, .tup es] => es.length ≤ 900
  | _ => True
def spIsGraphA (K : PySem.W.Frag) : Sp := fun vs H Q _ => ∃ (v : V) (s : Sh), vs = [v] ∧ ShAt K H v s ∧ shortS s ∧ ∀ H', Same H H' → Q (.bl (isGr s)) H'
section
variable {P : Program} {w : World} {K : PySem.W.Frag} {mg : Str → Option Value} {base : Heap} {f fW fI fE fG : Addr} {fd dW dI dE dG : FuncData}
theorem ok_whole_from (F : L2.Fun K "is_whole_from" "is_whole_from" sWholeFrom f fd) (mty : mg "type" = none) (mi : mg "int" = none) : FnOk P w K mg base CX0 1 f fd ["value", "low"] (spWholeFromA K) := by
  refine F.ok scWholeFrom (fun vs H Q E h => ?_) (fun cdv A outer s H vs Q E hr h => ?_)
  · obtain ⟨v, s, lo, rfl, _⟩ := h
    rfl
  obtain ⟨v, s, lo, rfl, hv, q⟩ := h
  refine ⟨_, pss_one (ps_ret (pe_and (pe_cmpR op_isTy (pe_callTy call_type1 (by rfl) mty (by decide +kernel) (pa_cons (pv 0) pa_nil)) (pe_bltn (v := .ty "int") (by rfl) mi (by decide +kernel) rfl) (nomark _)) (pe_one (pe_cmpR op_ge (pv 0) (pv 1) (nomark _))))), ?_⟩
  obtain ⟨T, ty, ok⟩ := hv.ty
  refine ⟨_, rfl, v, T, rfl, ty, T, "int", rfl, rfl, _, rfl, iteB (fun c => ?_) (fun c => ?_)⟩
  · have c' : T = "int" := of_decide_eq_true c
    cases hv with
    | int i => exact ⟨_, rfl, _, rfl, _, _, rfl, rfl, q⟩
    | bool b => cases ty; exact absurd c' (by decide)
    | tup h r => rw [show T = "tuple" from ok] at c'; exact absurd c' (by decide)
    | non => exact absurd c' ok.1
    | str x => rw [show T = "str" from ok] at c'; exact absurd c' (by decide)
    | lst h => exact absurd c' ok.1
    | dct h => exact absurd c' ok.1
  · show Q (.bl false) H
    have nc : T ≠ "int" := of_decide_eq_false c
    have e : wholeF lo s = false := by
      cases s with
      | int i => exact absurd ok nc
      | _ => rfl
    rw [e] at q
    exact q
theorem ok_is_whole (F : L2.Fun K "is_whole" "is_whole" sIsWhole f fd) (GW : FnOk P w K mg base CX0 1 fW dW ["value", "low"] (spWholeFromA K)) (bW : L2.Binds K dW ["value", "low"] []) (kW : PySem.W.keepIn K (.ref fW) = true) (mW : mg "is_whole_from" = some (.ref fW)) : FnOk P w K mg base CX0 2 f fd ["value", "low", "high"] (spIsWholeA K) := by
  refine F.ok scIsWhole (fun vs H Q E h => ?_) (fun cdv A outer s H vs Q E hr h => ?_)
  · obtain ⟨v, s, lo, hi, rfl, _⟩ := h
    rfl
  obtain ⟨v, s, lo, hi, rfl, hv, q⟩ := h
  refine ⟨_, pss_one (ps_ret (pe_and (pe_call GW hr (by rfl) mW kW bW .nil pass0 (pa_cons (pv 0) (pa_cons (pv 1) pa_nil))) (pe_one (pe_cmpR op_le (pv 0) (pv 2) (nomark _))))), ?_⟩
  refine ⟨_, rfl, _, rfl, v, s, lo, rfl, hv, _, rfl, iteB (fun c => ?_) (fun c => ?_)⟩
  · cases s with
    | int i =>
      cases hv
      refine ⟨_, rfl, _, rfl, _, _, rfl, rfl, ?_⟩
      have e : wholeR lo hi (.int i) = decide (i ≤ hi) := by
        show (decide (i ≥ lo) && decide (i ≤ hi)) = _
        rw [show decide (i ≥ lo) = true from c]
        rfl
      rw [e] at q
      exact q
    | bool b => cases c
    | tup ss => cases c
    | str x => cases c
    | oth => cases c
  · show Q (.bl false) H
    have c' : wholeF lo s = false := c
    have e : wholeR lo hi s = false := by
      cases s with
      | int i =>
        show (decide (i ≥ lo) && decide (i ≤ hi)) = false
        rw [show decide (i ≥ lo) = false from c']
        rfl
      | _ => rfl
    rw [e] at q
    exact q
theorem ok_is_two (F : L2.Fun K "is_tuple_of_two" "is_tuple_of_two" sIsTwo f fd) (mty : mg "type" = none) (mt : mg "tuple" = none) (ml : mg "len" = none) : FnOk P w K mg base CX0 1 f fd ["value"] (spIsTwoA K) := by
  refine F.ok scIsTwo (fun vs H Q E h => ?_) (fun cdv A outer s H vs Q E hr h => ?_)
  · obtain ⟨v, s, rfl, _⟩ := h
    rfl
  obtain ⟨v, s, rfl, hv, q⟩ := h
  refine ⟨_, pss_one (ps_ret (pe_and (pe_cmpR op_isTy (pe_callTy call_type1 (by rfl) mty (by decide +kernel) (pa_cons (pv 0) pa_nil)) (pe_bltn (v := .ty "tuple") (by rfl) mt (by decide +kernel) rfl) (nomark _)) (pe_one (pe_cmpR op_eq (pe_callB call_len_seq (by rfl) ml PySem.boot_len (pa_cons (pv 0) pa_nil)) pe_int (nomark _))))), ?_⟩
  obtain ⟨T, ty, ok⟩ := hv.ty
  refine ⟨_, rfl, v, T, rfl, ty, T, "tuple", rfl, rfl, _, rfl, iteB (fun c => ?_) (fun c => ?_)⟩
  · have c' : T = "tuple" := of_decide_eq_true c
    cases hv with
    | int i => rw [show T = "int" from ok] at c'; exact absurd c' (by decide)
    | bool b => rw [show T = "bool" from ok] at c'; exact absurd c' (by decide)
    | @tup t xs ss h r =>
      refine ⟨_, rfl, t, xs, rfl, .inr h, rfl, ?_⟩
      have le := r.len
      show Q (.bl (decide (V.int ((xs.length : Nat) : Int) = V.int 2))) H
      have e : isTwo (.tup ss) = decide (V.int ((xs.length : Nat) : Int) = V.int 2) := by
        rw [le]
        rcases ss with _ | ⟨a, _ | ⟨b, _ | ⟨c, r⟩⟩⟩
        · rfl
        · rfl
        · rfl
        · symm
          show decide _ = false
          refine decide_eq_false fun z => ?_
          injection z with z
          simp at z
          omega
      rw [e] at q
      exact q
    | non => exact absurd c' ok.2.2.1
    | str x => rw [show T = "str" from ok] at c'; exact absurd c' (by decide)
    | lst h => exact absurd c' ok.2.2.1
    | dct h => exact absurd c' ok.2.2.1
  · show Q (.bl false) H
    have nc : T ≠ "tuple" := of_decide_eq_false c
    have e : isTwo s = false := by
      cases s with
      | tup ss => exact absurd ok nc
      | _ => rfl
    rw [e] at q
    exact q
theorem ok_asc (F : L2.Fun K "is_ascending" "is_ascending" sAsc f fd) (ma : mg "all" = none) (mz : mg "zip" = none) : FnOk P w K mg base CX0 1 f fd ["row"] (spAscA K) := by
  refine F.ok scAsc (fun vs H Q E h => ?_) (fun cdv A outer s H vs Q E hr h => ?_)
  · obtain ⟨e, xs, ss, rfl, _⟩ := h
    rfl
  obtain ⟨e, xs, ss, rfl, he, hs, cmp, few, q⟩ := h
  refine ⟨_, pss_one (ps_ret (pe_callB (cr_all rfl) (by rfl) ma (by decide +kernel) (pa_cons (pe_lc (own := [("value", 1), ("following", 2)]) (g := gTup K 2 (gCons (gName 1) (gCons (gName 2) gNil))) (tt := tYes) rfl scAsc.nd (pi_zipA (by rfl) mz (pa_cons (pv 0) (pa_cons (pe_slice sl_tupA (pv 0) (po_some pe_int) po_none) pa_nil)))
        (blkOk_by (N := ["row", "value", "following"]) (sc := defScope sAsc) (by decide +kernel)) (fun _ _ _ _ _ => pg_tup (by rfl) (pgs_cons (pg_name (i := 1) scAsc.nd rfl (Or.inl rfl)) (pgs_cons (pg_name (i := 2) scAsc.nd rfl (Or.inl rfl)) pgs_nil))) (fun _ _ _ _ _ => pts_nil)
        (fun _ _ _ _ _ => pe_cmpR (r := fun x y H Q => rI0 (fun i j => .bl (decide (i < j))) x y H Q ∨ rLtT K x y H Q) (opOr op_lt (op_ltT hr.units0)) (pv 1) (pv 2) (nomark _))) pa_nil))), ?_⟩
  have lxs := hs.len
  have lz : (List.zipWith ltS ss (ss.drop 1)).length = ss.length - 1 := by rw [List.length_zipWith, List.length_drop]; omega
  cases xs with
  | nil =>
    cases hs
    refine ⟨_, rfl, _, rfl, 1, rfl, e, [], rfl, he, fun _ => ?_, fun z => absurd ⟨rfl, rfl⟩ z⟩
    refine ⟨e, e, [], [], rfl, .inr ⟨he, he, fun B nB => lc_it (walk_zipT (n := 0) rfl) (fun i H3 => i = 0 ∧ Same H H3 ∧ H3 B = some (.lst [])) ⟨rfl, same_new nB _, upd_same⟩ (fun i H3 _ ⟨_, s3, _⟩ => ⟨Same.tup s3 he, Same.tup s3 he⟩) (fun i x H3 H4 hi => absurd hi (Nat.not_lt_zero _)) ?_⟩⟩
    rintro H3 ⟨_, s3, hB⟩
    exact ⟨B, [], rfl, SqL.of hB, q H3 s3⟩
  | cons x0 xs =>
    have hs3 : ShsAt K H xs (ss.drop 1) := by cases hs; assumption
    have cut : cutV (x0 :: xs) (some 1) none = xs := by
      unfold cutV
      rw [HT.sIx_none, show ((1 : Int)) = ((1 : Nat) : Int) from rfl, HT.sIx_nat, List.length_cons, show min 1 (xs.length + 1) = 1 by omega, List.drop_one, List.tail_cons, Nat.add_sub_cancel, List.take_length]
    refine ⟨_, rfl, _, rfl, 1, rfl, e, x0 :: xs, rfl, he, fun z => ?_, fun _ c nc => ?_⟩
    · exfalso
      have z1 := z.1
      rw [show ((1 : Int)) = ((1 : Nat) : Int) from rfl, HT.sIx_nat, List.length_cons] at z1
      omega
    rw [cut]
    have s3 := same_new nc (.tup xs)
    have l1 : xs.length + 1 = ss.length := by rw [← lxs, List.length_cons]
    refine ⟨e, c, x0 :: xs, xs, rfl, .inr ⟨Same.tup s3 he, SqT.of upd_same, fun B nB => lc_it (walk_zipT (n := xs.length) (by rw [List.length_cons]; omega)) (fun i H3 => Same (upd H c (.tup xs)) H3 ∧ H3 B = some (.lst (((List.zipWith ltS ss (ss.drop 1)).take i).map V.bl))) ⟨same_new nB _, upd_same⟩ (fun i H3 _ ⟨s4, _⟩ => ⟨Same.tup (s3.trans s4) he, Same.tup s4 (SqT.of upd_same)⟩) (fun i x H3 H4 hi ⟨s4, hB⟩ ⟨T, y, z, e1, nT, e2, hy, hz⟩ => ?_) ?_⟩⟩
    · subst e1
      subst e2
      have s5 := same_new nT (.tup [y, z])
      have sA := s3.trans (s4.trans s5)
      obtain ⟨a, ha, sa⟩ := (hs.same sA).get hy
      obtain ⟨b, hb, sb⟩ := (hs3.same sA).get hz
      have hz' : (List.zipWith ltS ss (ss.drop 1))[i]? = some (ltS a b) := by rw [List.getElem?_zipWith, ha, hb]
      have fin : Same (upd H c (.tup xs)) (upd (upd H3 T (.tup [y, z])) B (.lst (((List.zipWith ltS ss (ss.drop 1)).take i).map V.bl ++ [V.bl (ltS a b)]))) ∧ upd (upd H3 T (.tup [y, z])) B (.lst (((List.zipWith ltS ss (ss.drop 1)).take i).map V.bl ++ [V.bl (ltS a b)])) B = some (.lst (((List.zipWith ltS ss (ss.drop 1)).take (i + 1)).map V.bl)) := by
        refine ⟨same_put (s4.trans s5) nB, ?_⟩
        rw [upd_same, take_succ hz', List.map_append]
        rfl
      have ln : (((List.zipWith ltS ss (ss.drop 1)).take i).map V.bl).length < sizeLine := small1000 (by rw [List.length_map, List.length_take]; omega)
      have hB5 := s5 _ _ hB
      refine ⟨T, _, rfl, SqT.of upd_same, rfl, _, _, rfl, _, _, rfl, rfl, rfl, ?_⟩
      refine ⟨_, rfl, _, rfl, ?_⟩
      have ma := List.mem_of_getElem? ha
      have mb := List.mem_of_mem_drop (List.mem_of_getElem? hb)
      rcases cmp with cm | cm
      · obtain ⟨k, rfl⟩ := cm a ma
        obtain ⟨l, rfl⟩ := cm b mb
        cases sa
        cases sb
        exact .inl ⟨_, _, rfl, rfl, _, hB5, ln, fin⟩
      · obtain ⟨k, k2, rfl⟩ := cm a ma
        obtain ⟨l, l2, rfl⟩ := cm b mb
        cases sa with
        | @tup t1 ys1 _ h1 r1 =>
          cases sb with
          | @tup t2 ys2 _ h2 r2 =>
            cases r1 with
            | cons p1 r1 =>
              cases r1 with
              | cons p2 r1 =>
                cases r1
                cases p1
                cases p2
                cases r2 with
                | cons p3 r2 =>
                  cases r2 with
                  | cons p4 r2 =>
                    cases r2
                    cases p3
                    cases p4
                    exact .inr ⟨t1, t2, [k, k2], [l, l2], rfl, rfl, h1, h2, _, hB5, ln, fin⟩
    · rintro H3 ⟨s4, hB⟩
      refine ⟨B, _, rfl, SqL.of hB, ?_⟩
      rw [List.take_of_length_le (by omega), asc_zip]
      exact q H3 (s3.trans s4)
theorem ok_vp (F : L2.Fun K "is_vertex_pair" "is_vertex_pair" sIsVP f fd) (GI : FnOk P w K mg base CX0 1 fI dI ["value"] (spIsTwoA K)) (bI : L2.Binds K dI ["value"] []) (kI : PySem.W.keepIn K (.ref fI) = true) (mI : mg "is_tuple_of_two" = some (.ref fI))
    (GW : FnOk P w K mg base CX0 2 fW dW ["value", "low", "high"] (spIsWholeA K)) (bW : L2.Binds K dW ["value", "low", "high"] []) (kW : PySem.W.keepIn K (.ref fW) = true) (mW : mg "is_whole" = some (.ref fW)) (ma : mg "all" = none) : FnOk P w K mg base CX0 3 f fd ["value", "many"] (spVPA K) := by
  refine F.ok scIsVP (fun vs H Q E h => ?_) (fun cdv A outer s H vs Q E hr h => ?_)
  · obtain ⟨v, s, n, rfl, _⟩ := h
    rfl
  obtain ⟨v, s, n, rfl, hv, q⟩ := h
  refine ⟨_, pss_one (ps_ret (pe_and (pe_call GI (hr.mono (by decide)) (by rfl) mI kI bI .nil pass0 (pa_cons (pv 0) pa_nil)) (pe_one (pe_callB (cr_all rfl) (by rfl) ma (by decide +kernel) (pa_cons (pe_lc (own := [("vertex", 2)]) (g := gName 2) (tt := tYes) rfl scIsVP.nd (pi_tup (pv 0))
        (blkOk_by (N := ["value", "many", "vertex"]) (sc := defScope sIsVP) (by decide +kernel)) (fun _ _ _ _ _ => pg_name (i := 2) scIsVP.nd rfl (Or.inl rfl)) (fun _ _ _ _ _ => pts_nil)
        (fun _ _ _ _ _ => pe_call GW hr (by rfl) mW kW bW .nil pass0 (pa_cons (pv 2) (pa_cons pe_int (pa_cons (pe_op op_sub (pv 1) pe_int) pa_nil))))) pa_nil))))), ?_⟩
  refine ⟨_, rfl, v, s, rfl, hv, _, rfl, iteB (fun c => ?_) (fun c => ?_)⟩
  · obtain ⟨a, b, rfl⟩ : ∃ a b, s = .tup [a, b] := by
      unfold isTwo at c
      split at c
      · exact ⟨_, _, rfl⟩
      · cases c
    cases hv with
    | @tup t xs _ h r =>
      have lx := r.len
      refine ⟨_, rfl, t, rfl, ⟨_, h⟩, fun D nD => lc_tup (K := K) (a := t) (xs := xs) (fun i H2 => Same H H2 ∧ H2 D = some (.lst ((([a, b].take i).map (wholeR 0 (n - 1))).map V.bl))) ⟨same_new nD _, upd_same⟩ (fun i H1 _ ⟨s1, _⟩ => Same.tup s1 h) ?_ ?_⟩
      · rintro i x H2 hi ⟨s2, hD⟩
        obtain ⟨z, hz, sz⟩ := (r.same s2).get hi
        refine ⟨rfl, ?_⟩
        refine ⟨_, rfl, _, rfl, _, _, rfl, rfl, x, z, 0, n - 1, rfl, sz, _, hD, small1000 (by rw [List.length_map, List.length_map, List.length_take]; exact Nat.le_trans (Nat.min_le_right _ _) (by show 2 ≤ 1000; decide)), same_put s2 nD, ?_⟩
        rw [upd_same, take_succ hz, List.map_append, List.map_append]
        rfl
      · rintro H2 ⟨s2, hD⟩
        rw [lx, List.take_length] at hD
        refine ⟨D, _, rfl, SqL.of hD, ?_⟩
        have e : ([a, b].map (wholeR 0 (n - 1))).all id = vpB n (.tup [a, b]) := by
          show (wholeR 0 (n - 1) a && (wholeR 0 (n - 1) b && true)) = _
          rw [Bool.and_true]
          rfl
        rw [e]
        exact q H2 s2
  · have e : vpB n s = false := by
      unfold vpB
      split
      · cases c
      · rfl
    rw [e] at q
    exact q H (L2.Same.refl H)
theorem ok_is_graph (F : L2.Fun K "is_graph" "is_graph" sIsGraph f fd) (GI : FnOk P w K mg base CX0 1 fI dI ["value"] (spIsTwoA K)) (bI : L2.Binds K dI ["value"] []) (kI : PySem.W.keepIn K (.ref fI) = true) (mI : mg "is_tuple_of_two" = some (.ref fI))
    (GW : FnOk P w K mg base CX0 2 fW dW ["value", "low", "high"] (spIsWholeA K)) (bW : L2.Binds K dW ["value", "low", "high"] []) (kW : PySem.W.keepIn K (.ref fW) = true) (mW : mg "is_whole" = some (.ref fW))
    (GE : FnOk P w K mg base CX0 3 fE dE ["value", "many"] (spVPA K)) (bE : L2.Binds K dE ["value", "many"] []) (kE : PySem.W.keepIn K (.ref fE) = true) (mE : mg "is_vertex_pair" = some (.ref fE))
    (GA : FnOk P w K mg base CX0 1 fG dG ["row"] (spAscA K)) (bA : L2.Binds K dG ["row"] []) (kA : PySem.W.keepIn K (.ref fG) = true) (mA : mg "is_ascending" = some (.ref fG))
    (tk : Tok) (mM : mg "MOST_VERTICES" = some (.int 9 tk)) (mty : mg "type" = none) (mt : mg "tuple" = none) (ma : mg "all" = none) : FnOk P w K mg base CX0 4 f fd ["value"] (spIsGraphA K) := by
  refine F.ok scIsGraph (fun vs H Q E h => ?_) (fun cdv A outer s H vs Q E hr h => ?_)
  · obtain ⟨v, s, rfl, _⟩ := h
    rfl
  obtain ⟨v, s, rfl, hv, sh, q⟩ := h
  refine ⟨_, pss_cons (ps_if (pt_not (pt_val (pe_call GI (hr.mono (by decide)) (by rfl) mI kI bI .nil pass0 (pa_cons (pv 0) pa_nil)))) (pss_one (ps_ret pe_bl)) pss_nil)
    (pss_cons (ps_asg (pv 0) (pg_tup (by rfl) (pgs_cons (pg_name (i := 1) scIsGraph.nd rfl (.inr rfl)) (pgs_cons (pg_name (i := 2) scIsGraph.nd rfl (.inl rfl)) pgs_nil))))
    (pss_cons (ps_if (PW.pt (pw_or (pt_not (pt_val (pe_call GW (hr.mono (by decide)) (by rfl) mW kW bW .nil pass0 (pa_cons (pv 1) (pa_cons pe_int (pa_cons (pe_glob (v := .int 9) (by rfl) mM ⟨_, rfl⟩) pa_nil))))))
        (pw_or1 (pt_cmpR op_isNotTy (pe_callTy call_type1 (by rfl) mty (by decide +kernel) (pa_cons (pv 2) pa_nil)) (pe_bltn (v := .ty "tuple") (by rfl) mt (by decide +kernel) rfl) (nomark _))))) (pss_one (ps_ret pe_bl)) pss_nil)
    (pss_one (ps_ret (pe_and (pe_callB (cr_all rfl) (by rfl) ma (by decide +kernel) (pa_cons (pe_lc (own := [("edge", 3)]) (g := gName 3) (tt := tYes) rfl scIsGraph.nd (pi_tup (pv 2))
        (blkOk_by (N := ["value", "many", "edges", "edge"]) (sc := defScope sIsGraph) (by decide +kernel)) (fun _ _ _ _ _ => pg_name (i := 3) scIsGraph.nd rfl (Or.inl rfl)) (fun _ _ _ _ _ => pts_nil)
        (fun _ _ _ _ _ => pe_and (pe_call GE (hr.mono (by decide)) (by rfl) mE kE bE .nil pass0 (pa_cons (pv 3) (pa_cons (pv 1) pa_nil))) (pe_one (pe_cmpR op_lt (pe_ix (r := rIxT K) ix_tup (pv 3) pe_int (fun _ _ => rfl)) (pe_ix (r := rIxT K) ix_tup (pv 3) pe_int (fun _ _ => rfl)) (nomark _))))) pa_nil))
      (pe_one (pe_call GA (hr.mono (by decide)) (by rfl) mA kA bA .nil pass0 (pa_cons (pv 2) pa_nil)))))))), ?_⟩
  have q0 := q H (L2.Same.refl H)
  refine ⟨_, rfl, v, s, rfl, hv, _, rfl, iteB (fun c => ?_) (fun c => ?_)⟩
  · have e : isGr s = false := by
      unfold isGr
      split
      · cases c
      · rfl
    rw [e] at q0
    exact q0
  obtain ⟨m, es, rfl⟩ : ∃ a b, s = .tup [a, b] := by
    unfold isTwo at c
    split at c
    · exact ⟨_, _, rfl⟩
    · cases c
  cases hv with
  | @tup t xs _ ht r =>
  cases r with
  | @cons x _ xs _ hm r =>
  cases r with
  | @cons y _ xs _ hy r =>
  cases r
  refine ⟨_, rfl, t, _, rfl, ht, rfl, _, _, rfl, _, _, rfl, rfl, ?_⟩
  refine ⟨_, rfl, x, m, 0, 9, rfl, hm, _, rfl, iteB (fun c1 => ?_) (fun c1 => ?_)⟩
  · have e : isGr (.tup [m, es]) = false := by
      unfold isGr
      split
      · rename_i n es' e
        injection e with e
        injection e with e1 e2
        subst e1
        have c2 : (decide (n ≥ 0) && decide (n ≤ 9)) = false := (Bool.not_eq_true' _).mp c1
        rw [c2, Bool.false_and]
      · rfl
    rw [e] at q0
    exact q0
  obtain ⟨n, rfl, c2⟩ : ∃ n, m = .int n ∧ (decide (n ≥ 0) && decide (n ≤ 9)) = true := by
    cases m with
    | int n => exact ⟨n, rfl, (Bool.not_eq_false' _).mp c1⟩
    | _ => cases c1
  cases hm
  obtain ⟨T, ty, ok⟩ := hy.ty
  refine ⟨_, rfl, y, T, rfl, ty, T, "tuple", rfl, rfl, _, rfl, iteB (fun c3 => ?_) (fun c3 => ?_)⟩
  · have nt : T ≠ "tuple" := by simpa using c3
    have e : isGr (.tup [.int n, es]) = false := by
      cases es with
      | tup es => exact absurd ok nt
      | _ => rfl
    rw [e] at q0
    exact q0
  have et : T = "tuple" := by simpa using c3
  obtain ⟨es, rfl⟩ : ∃ ss, es = .tup ss := by
    cases es with
    | tup ss => exact ⟨ss, rfl⟩
    | int i => rw [show T = "int" from ok] at et; exact absurd et (by decide)
    | bool b => rw [show T = "bool" from ok] at et; exact absurd et (by decide)
    | str x => rw [show T = "str" from ok] at et; exact absurd et (by decide)
    | oth => exact absurd et ok.2.2.1
  have few : es.length ≤ 900 := sh
  cases hy with
  | @tup e xs _ he r =>
  have lx := r.len
  have eq : isGr (.tup [.int n, .tup es]) = (es.all (edgeB n) && ascB es) := by
    show ((decide (n ≥ 0) && decide (n ≤ 9)) && (es.all (edgeB n) && ascB es)) = _
    rw [c2, Bool.true_and]
  refine ⟨_, rfl, e, rfl, ⟨_, he⟩, fun D nD => lc_tup (K := K) (a := e) (xs := xs) (fun i H2 => Same H H2 ∧ H2 D = some (.lst (((es.take i).map (edgeB n)).map V.bl))) ⟨same_new nD _, upd_same⟩ (fun i H1 _ ⟨s1, _⟩ => Same.tup s1 he) ?_ ?_⟩
  · rintro i x H2 hi ⟨s2, hD⟩
    obtain ⟨z, hz, sz⟩ := (r.same s2).get hi
    have ln : (((es.take i).map (edgeB n)).map V.bl).length < sizeLine := small1000 (by rw [List.length_map, List.length_map, List.length_take]; omega)
    have fin : ∀ H3, Same H2 H3 → ∃ acc, H3 D = some (.lst acc) ∧ acc.length < sizeLine ∧ Same H (upd H3 D (.lst (acc ++ [V.bl (edgeB n z)]))) ∧ upd H3 D (.lst (acc ++ [V.bl (edgeB n z)])) D = some (.lst (((es.take (i + 1)).map (edgeB n)).map V.bl)) := fun H3 s3 => by
      refine ⟨_, s3 _ _ hD, ln, same_put (s2.trans s3) nD, ?_⟩
      rw [upd_same, take_succ hz, List.map_append, List.map_append]
      rfl
    refine ⟨rfl, ?_⟩
    refine ⟨_, rfl, _, rfl, x, z, n, rfl, sz, fun H3 s3 => ⟨_, rfl, iteB (fun c4 => ?_) (fun c4 => ?_)⟩⟩
    · obtain ⟨a, b, rfl⟩ : ∃ a b, z = .tup [.int a, .int b] := by
        unfold vpB at c4
        split at c4
        · rename_i a b
          cases a with
          | int a =>
            cases b with
            | int b => exact ⟨a, b, rfl⟩
            | _ => simp [wholeR] at c4
          | _ => simp [wholeR] at c4
        · cases c4
      have e1 : edgeB n (.tup [.int a, .int b]) = decide (a < b) := by
        show (vpB n (.tup [.int a, .int b]) && decide (a < b)) = _
        rw [show vpB n (.tup [.int a, .int b]) = true from c4, Bool.true_and]
      cases sz with
      | @tup u us _ hu ru =>
      cases ru with
      | cons p1 ru =>
      cases ru with
      | cons p2 ru =>
      cases ru
      cases p1
      cases p2
      have hu3 := Same.tup s3 hu
      refine ⟨_, rfl, u, _, 0, _, rfl, rfl, hu3, rfl, _, rfl, u, _, 1, _, rfl, rfl, hu3, rfl, _, _, rfl, rfl, ?_⟩
      have f := fin H3 s3
      rw [e1] at f
      exact f
    · have e1 : edgeB n z = false := by
        show (vpB n z && lt2 z) = false
        rw [show vpB n z = false from c4, Bool.false_and]
      have f := fin H3 s3
      rw [e1] at f
      exact f
  rintro H2 ⟨s2, hD⟩
  rw [lx, List.take_length] at hD
  refine ⟨D, _, rfl, SqL.of hD, _, rfl, ?_⟩
  have ea : (es.map (edgeB n)).all id = es.all (edgeB n) := by rw [List.all_map]; rfl
  rw [ea]
  refine iteB (fun c4 => ?_) (fun c4 => ?_)
  · refine ⟨_, rfl, e, xs, es, rfl, Same.tup s2 he, r.same s2, .inr fun s hs => ?_, few, fun H3 s3 => ?_⟩
    · have h1 := List.all_eq_true.mp c4 s hs
      unfold edgeB at h1
      rw [Bool.and_eq_true] at h1
      have h2 := h1.2
      unfold lt2 at h2
      split at h2
      · exact ⟨_, _, rfl⟩
      · cases h2
    · have q1 := q H3 (s2.trans s3)
      rw [eq, c4, Bool.true_and] at q1
      exact q1
  · have q1 := q H2 s2
    rw [eq, c4, Bool.false_and] at q1
    exact q1
end
end My

set_option maxHeartbeats 4000000
namespace My
open PySem PySem.Spec PyProof.Rows L2
def graphS (n : Nat) (es : List E2) : Sh := .tup [.int (n : Int), .tup (es.map pairS)]
theorem GraphAt.sh {K : PySem.W.Frag} {H : Hp} {x : V} {n : Nat} {es : List E2} (h : GraphAt K H x n es) : ShAt K H x (graphS n es) := by
  obtain ⟨t, e, xs, rfl, h1, h2, h3⟩ := h
  exact .tup h1 (.cons (.int _) (.cons (.tup h2 h3.sh) .nil))
theorem asc_pairs : ∀ {es : List E2}, es.Pairwise ahead → ascB (es.map pairS) = true
  | [], _ => rfl
  | [_], _ => rfl
  | p :: q :: r, h => by
    have h1 := (List.pairwise_cons.mp h).1 q (List.mem_cons_self ..)
    have ih := asc_pairs (es := q :: r) (List.pairwise_cons.mp h).2
    show (HT.lexLt [(p.1 : Int), (p.2 : Int)] [(q.1 : Int), (q.2 : Int)] && ascB ((q :: r).map pairS)) = true
    rw [ih, Bool.and_true]
    unfold HT.lexLt
    split
    · unfold HT.lexLt
      rcases h1 with h1 | ⟨_, h1⟩
      · omega
      · rw [if_neg (by omega)]
        exact decide_eq_true (by omega)
    · rename_i e
      rcases h1 with h1 | ⟨h1, _⟩
      · exact decide_eq_true (by omega)
      · exact absurd (by omega) e
theorem isGr_good {n : Nat} {es : List E2} (g : Good n es) : isGr (graphS n es) = true := by
  have n9 := g.n9
  show ((decide ((n : Int) ≥ 0) && decide ((n : Int) ≤ 9)) && ((es.map pairS).all (edgeB (n : Int)) && ascB (es.map pairS))) = true
  rw [asc_pairs g.up, decide_eq_true (show (n : Int) ≥ 0 by omega), decide_eq_true (show (n : Int) ≤ 9 by omega)]
  simp only [Bool.and_true, Bool.true_and]
  rw [List.all_eq_true]
  intro s hs
  obtain ⟨p, hp, rfl⟩ := List.mem_map.mp hs
  obtain ⟨l1, l2⟩ := g.lt p hp
  show (((decide ((p.1 : Int) ≥ 0) && decide ((p.1 : Int) ≤ (n : Int) - 1)) && (decide ((p.2 : Int) ≥ 0) && decide ((p.2 : Int) ≤ (n : Int) - 1))) && decide ((p.1 : Int) < (p.2 : Int))) = true
  simp
  omega
/-- a lot -/
def LotAt (K : PySem.W.Frag) (H : Hp) (x : V) (l : List Nat) : Prop := ∃ t, x = .ref t ∧ SqT K H t (l.map fun k => V.int ((k : Nat) : Int))
structure LotOk (n : Nat) (l : List Nat) : Prop where
  lt : ∀ k ∈ l, k < n
  up : l.Pairwise (· < ·)
def lotS (l : List Nat) : Sh := .tup (l.map fun k => Sh.int ((k : Nat) : Int))
theorem LotAt.same {K : PySem.W.Frag} {H H' : Hp} (s : Same H H') {x : V} {l : List Nat} (h : LotAt K H x l) : LotAt K H' x l := by
  obtain ⟨t, rfl, h⟩ := h
  exact ⟨t, rfl, Same.tup s h⟩
theorem ints_sh {K : PySem.W.Frag} {H : Hp} : ∀ l : List Nat, ShsAt K H (l.map fun k => V.int ((k : Nat) : Int)) (l.map fun k => Sh.int ((k : Nat) : Int))
  | [] => .nil
  | _ :: r => .cons (.int _) (ints_sh r)
theorem LotAt.sh {K : PySem.W.Frag} {H : Hp} {x : V} {l : List Nat} (h : LotAt K H x l) : ShAt K H x (lotS l) := by
  obtain ⟨t, rfl, h⟩ := h
  exact .tup h (ints_sh l)
theorem asc_lot : ∀ {l : List Nat}, l.Pairwise (· < ·) → ascB (l.map fun k => Sh.int ((k : Nat) : Int)) = true
  | [], _ => rfl
  | [_], _ => rfl
  | p :: q :: r, h => by
    have h1 := (List.pairwise_cons.mp h).1 q (List.mem_cons_self ..)
    have ih := asc_lot (l := q :: r) (List.pairwise_cons.mp h).2
    show (decide ((p : Int) < (q : Int)) && ascB ((q :: r).map fun k => Sh.int ((k : Nat) : Int))) = true
    rw [ih, Bool.and_true]
    exact decide_eq_true (by omega)
theorem isLot_ok {n : Nat} {l : List Nat} (g : LotOk n l) : isLot n (lotS l) = true := by
  show ((l.map fun k => Sh.int ((k : Nat) : Int)).all (wholeR 0 ((n : Int) - 1)) && ascB (l.map fun k => Sh.int ((k : Nat) : Int))) = true
  rw [asc_lot g.up, Bool.and_true, List.all_eq_true]
  intro s hs
  obtain ⟨k, hk, rfl⟩ := List.mem_map.mp hs
  have l1 := g.lt k hk
  show (decide ((k : Int) ≥ 0) && decide ((k : Int) ≤ (n : Int) - 1)) = true
  simp
  omega
theorem LotOk.few {n : Nat} {l : List Nat} (g : LotOk n l) : l.length ≤ n := by
  have nd : l.Nodup := g.up.imp fun h => Nat.ne_of_lt h
  have z := sub_few nd (m := List.range n) fun k hk => List.mem_range.mpr (g.lt k hk)
  rw [List.length_range] at z
  exact z
def shortL : Sh → Prop
  | .tup ss => ss.length ≤ 900
  | _ => True
def spCheckGraph (K : PySem.W.Frag) : Sp := fun vs H Q _ => ∃ (x : V) (n : Nat) (es : List E2), vs = [x] ∧ GraphAt K H x n es ∧ Good n es ∧ ∀ H', Same H H' → Q .non H'
section
variable {P : Program} {w : World} {K : PySem.W.Frag} {mg : Str → Option Value} {base : Heap} {f fW fA fG fC fL fO : Addr} {fd dW dA dG dC dL dO : FuncData}
theorem ok_check_graph (F : L2.Fun K "check_graph" "check_graph" sCheckGraph f fd) (GG : FnOk P w K mg base CX0 4 fG dG ["value"] (spIsGraphA K)) (bG : L2.Binds K dG ["value"] []) (kG : PySem.W.keepIn K (.ref fG) = true) (mG : mg "is_graph" = some (.ref fG)) : FnOk P w K mg base CX0 5 f fd ["graph"] (spCheckGraph K) := by
  refine F.ok scCheckGraph (fun vs H Q E h => ?_) (fun cdv A outer s H vs Q E hr h => ?_)
  · obtain ⟨x, n, es, rfl, _⟩ := h
    rfl
  obtain ⟨x, n, es, rfl, hx, g, q⟩ := h
  refine ⟨_, pss_one (ps_if (pt_not (pt_val (pe_call GG (hr.mono (by decide)) (by rfl) mG kG bG .nil pass0 (pa_cons (pv 0) pa_nil)))) (pss_one ps_never) pss_nil), ?_⟩
  have few := g.few
  refine ⟨_, rfl, x, graphS n es, rfl, hx.sh, (by show (es.map pairS).length ≤ 900; rw [List.length_map]; omega), fun H' s' => ?_⟩
  rw [isGr_good g]
  exact ⟨_, rfl, iteF (q H' s')⟩
end
end My

set_option maxHeartbeats 8000000
namespace My
open PySem PySem.Spec PyProof.Rows L2
abbrev sIsLot : Stmt := top 14
abbrev sCheckLot : Stmt := top 15
theorem scIsLot : FnScope ["graph", "value", "vertex"] ["graph", "value"] (defScope sIsLot) := ⟨rfl, rfl, rfl, by decide +kernel, rfl, by decide +kernel, by decide +kernel⟩
theorem scCheckLot : FnScope ["graph", "lot"] ["graph", "lot"] (defScope sCheckLot) := ⟨rfl, rfl, rfl, by decide +kernel, rfl, by decide +kernel, by decide +kernel⟩
def spIsLotA (K : PySem.W.Frag) : Sp := fun vs H Q _ => ∃ (x : V) (n : Nat) (es : List E2) (v : V) (s : Sh), vs = [x, v] ∧ GraphAt K H x n es ∧ Good n es ∧ ShAt K H v s ∧ shortL s ∧ ∀ H', Same H H' → Q (.bl (isLot n s)) H'
def spCheckLot (K : PySem.W.Frag) : Sp := fun vs H Q _ => ∃ (x : V) (n : Nat) (es : List E2) (v : V) (l : List Nat), vs = [x, v] ∧ GraphAt K H x n es ∧ Good n es ∧ LotAt K H v l ∧ LotOk n l ∧ ∀ H', Same H H' → Q .non H'
section
variable {P : Program} {w : World} {K : PySem.W.Frag} {mg : Str → Option Value} {base : Heap} {f fW fA fG fC fL fO : Addr} {fd dW dA dG dC dL dO : FuncData}
theorem ok_is_lot (F : L2.Fun K "is_lot" "is_lot" sIsLot f fd) (GC : FnOk P w K mg base CX0 5 fC dC ["graph"] (spCheckGraph K)) (bC : L2.Binds K dC ["graph"] []) (kC : PySem.W.keepIn K (.ref fC) = true) (mC : mg "check_graph" = some (.ref fC))
    (GW : FnOk P w K mg base CX0 2 fW dW ["value", "low", "high"] (spIsWholeA K)) (bW : L2.Binds K dW ["value", "low", "high"] []) (kW : PySem.W.keepIn K (.ref fW) = true) (mW : mg "is_whole" = some (.ref fW))
    (GA : FnOk P w K mg base CX0 1 fA dA ["row"] (spAscA K)) (bA : L2.Binds K dA ["row"] []) (kA : PySem.W.keepIn K (.ref fA) = true) (mA : mg "is_ascending" = some (.ref fA))
    (mty : mg "type" = none) (mt : mg "tuple" = none) (ma : mg "all" = none) : FnOk P w K mg base CX0 6 f fd ["graph", "value"] (spIsLotA K) := by
  refine F.ok scIsLot (fun vs H Q E h => ?_) (fun cdv A outer s H vs Q E hr h => ?_)
  · obtain ⟨x, n, es, v, s, rfl, _⟩ := h
    rfl
  obtain ⟨x, n, es, v, s, rfl, hx, g, hv, sh, q⟩ := h
  refine ⟨_, pss_cons (ps_expr (pe_call GC hr (by rfl) mC kC bC .nil pass0 (pa_cons (pv 0) pa_nil)))
    (pss_cons (ps_if (pt_cmpR op_isNotTy (pe_callTy call_type1 (by rfl) mty (by decide +kernel) (pa_cons (pv 1) pa_nil)) (pe_bltn (v := .ty "tuple") (by rfl) mt (by decide +kernel) rfl) (nomark _)) (pss_one (ps_ret pe_bl)) pss_nil)
    (pss_one (ps_ret (pe_and (pe_callB (cr_all rfl) (by rfl) ma (by decide +kernel) (pa_cons (pe_lc (own := [("vertex", 2)]) (g := gName 2) (tt := tYes) rfl scIsLot.nd (pi_tup (pv 1))
        (blkOk_by (N := ["graph", "value", "vertex"]) (sc := defScope sIsLot) (by decide +kernel)) (fun _ _ _ _ _ => pg_name (i := 2) scIsLot.nd rfl (Or.inl rfl)) (fun _ _ _ _ _ => pts_nil)
        (fun _ _ _ _ _ => pe_call GW (hr.mono (by decide)) (by rfl) mW kW bW .nil pass0 (pa_cons (pv 2) (pa_cons pe_int (pa_cons (pe_op op_sub (pe_ix (r := rIxT K) ix_tup (pv 0) pe_int (fun _ _ => rfl)) pe_int) pa_nil))))) pa_nil))
      (pe_one (pe_call GA (hr.mono (by decide)) (by rfl) mA kA bA .nil pass0 (pa_cons (pv 1) pa_nil))))))), ?_⟩
  refine ⟨_, rfl, x, n, es, rfl, hx, g, fun H1 s1 => ?_⟩
  have hv1 := hv.same s1
  obtain ⟨T, ty, ok⟩ := hv1.ty
  refine ⟨_, rfl, v, T, rfl, ty, T, "tuple", rfl, rfl, _, rfl, iteB (fun c3 => ?_) (fun c3 => ?_)⟩
  · have nt : T ≠ "tuple" := by simpa using c3
    have e : isLot n s = false := by
      cases s with
      | tup es => exact absurd ok nt
      | _ => rfl
    have q0 := q H1 s1
    rw [e] at q0
    exact q0
  have et : T = "tuple" := by simpa using c3
  obtain ⟨ss, rfl⟩ : ∃ ss, s = .tup ss := by
    cases s with
    | tup ss => exact ⟨ss, rfl⟩
    | int i => rw [show T = "int" from ok] at et; exact absurd et (by decide)
    | bool b => rw [show T = "bool" from ok] at et; exact absurd et (by decide)
    | str x => rw [show T = "str" from ok] at et; exact absurd et (by decide)
    | oth => exact absurd et ok.2.2.1
  have few : ss.length ≤ 900 := sh
  have eq : isLot n (.tup ss) = (ss.all (wholeR 0 ((n : Int) - 1)) && ascB ss) := rfl
  obtain ⟨t, e, ys, rfl, ht, _, _⟩ := hx.same s1
  have a0 : atI [V.int (n : Int), V.ref e] 0 = some (.int (n : Int)) := atI_nat (j := 0) rfl
  cases hv1 with
  | @tup u xs _ hu r =>
  have lx := r.len
  refine ⟨_, rfl, u, rfl, ⟨_, hu⟩, fun D nD => lc_tup (K := K) (a := u) (xs := xs) (fun i H2 => Same H1 H2 ∧ H2 D = some (.lst (((ss.take i).map (wholeR 0 ((n : Int) - 1))).map V.bl))) ⟨same_new nD _, upd_same⟩ (fun i H1 _ ⟨s1, _⟩ => Same.tup s1 hu) ?_ ?_⟩
  · rintro i x H2 hi ⟨s2, hD⟩
    obtain ⟨z, hz, sz⟩ := (r.same s2).get hi
    refine ⟨rfl, ?_⟩
    refine ⟨_, rfl, _, rfl, t, _, 0, _, rfl, rfl, Same.tup s2 ht, a0, _, _, rfl, rfl, x, z, 0, (n : Int) - 1, rfl, sz, _, hD, small1000 (by rw [List.length_map, List.length_map, List.length_take]; omega), same_put s2 nD, ?_⟩
    rw [upd_same, take_succ hz, List.map_append, List.map_append]
    rfl
  rintro H2 ⟨s2, hD⟩
  rw [lx, List.take_length] at hD
  refine ⟨D, _, rfl, SqL.of hD, _, rfl, ?_⟩
  have ea : (ss.map (wholeR 0 ((n : Int) - 1))).all id = ss.all (wholeR 0 ((n : Int) - 1)) := by rw [List.all_map]; rfl
  rw [ea]
  refine iteB (fun c4 => ?_) (fun c4 => ?_)
  · refine ⟨_, rfl, u, xs, ss, rfl, Same.tup s2 hu, r.same s2, .inl fun s hs => ?_, few, fun H3 s3 => ?_⟩
    · have h1 := List.all_eq_true.mp c4 s hs
      cases s with
      | int i => exact ⟨i, rfl⟩
      | _ => cases h1
    · have q1 := q H3 (s1.trans (s2.trans s3))
      rw [eq, c4, Bool.true_and] at q1
      exact q1
  · have q1 := q H2 (s1.trans s2)
    rw [eq, c4, Bool.false_and] at q1
    exact q1
theorem ok_check_lot (F : L2.Fun K "check_lot" "check_lot" sCheckLot f fd) (GL : FnOk P w K mg base CX0 6 fL dL ["graph", "value"] (spIsLotA K)) (bL : L2.Binds K dL ["graph", "value"] []) (kL : PySem.W.keepIn K (.ref fL) = true) (mL : mg "is_lot" = some (.ref fL)) : FnOk P w K mg base CX0 7 f fd ["graph", "lot"] (spCheckLot K) := by
  refine F.ok scCheckLot (fun vs H Q E h => ?_) (fun cdv A outer s H vs Q E hr h => ?_)
  · obtain ⟨x, n, es, v, l, rfl, _⟩ := h
    rfl
  obtain ⟨x, n, es, v, l, rfl, hx, g, hv, lo, q⟩ := h
  refine ⟨_, pss_one (ps_if (pt_not (pt_val (pe_call GL (hr.mono (by decide)) (by rfl) mL kL bL .nil pass0 (pa_cons (pv 0) (pa_cons (pv 1) pa_nil))))) (pss_one ps_never) pss_nil), ?_⟩
  have few := lo.few
  have n9 := g.n9
  refine ⟨_, rfl, _, rfl, x, n, es, v, lotS l, rfl, hx, g, hv.sh, (by show (l.map _).length ≤ 900; rw [List.length_map]; omega), fun H' s' => ?_⟩
  rw [isLot_ok lo]
  exact ⟨_, rfl, iteF (q H' s')⟩
end
end My

set_option maxHeartbeats 2000000
/-! Sets of vertices as masks, in plain Lean. -/
namespace My
open PySem PySem.Spec PyProof.Rows L2
theorem and_nn (a b : Nat) : Builtin.bitAnd (a : Int) (b : Int) = ((a &&& b : Nat) : Int) := by
  rw [bitAnd_pp (by omega) (by omega), Int.toNat_natCast, Int.toNat_natCast]
theorem or_nn (a b : Nat) : Builtin.bitOr (a : Int) (b : Int) = ((a ||| b : Nat) : Int) := by
  have n1 : ∀ k : Nat, Builtin.bitNot (Builtin.bitNot (k : Int)) = (k : Int) := fun k => by unfold Builtin.bitNot; omega
  have n2 : ∀ k : Nat, ¬ 0 ≤ Builtin.bitNot (k : Int) := fun k => by unfold Builtin.bitNot; omega
  unfold Builtin.bitOr Builtin.bitAnd
  simp only [n2, decide_false]
  rw [n1, n1, n1, Int.toNat_natCast, Int.toNat_natCast]
def adjB (es : List E2) (u v : Nat) : Bool := decide ((min u v, max u v) ∈ es)
theorem adj_comm (es : List E2) (u v : Nat) : adjB es u v = adjB es v u := by
  unfold adjB
  rw [Nat.min_comm, Nat.max_comm]
theorem adj_ne {n : Nat} {es : List E2} (g : Good n es) {u v : Nat} (h : adjB es u v = true) : u ≠ v ∧ u < n ∧ v < n := by
  have z := g.lt _ (of_decide_eq_true h)
  dsimp only at z
  omega
def NbOk (n : Nat) (es : List E2) (nb : List Nat) : Prop := nb.length = n ∧ ∀ u, u < n → ∀ v, (nb.getD u 0).testBit v = adjB es u v
theorem nb_nil (n : Nat) : NbOk n [] (List.replicate n 0) := by
  refine ⟨List.length_replicate .., fun u hu v => ?_⟩
  rw [List.getD_eq_getElem?_getD, List.getElem?_replicate, if_pos hu]
  simp [adjB]
theorem bit_pow (a v : Nat) : (2 ^ a).testBit v = decide (a = v) := by
  rw [Nat.testBit_two_pow]
theorem nb_step {n : Nat} {l : List E2} {nb : List Nat} {a b : Nat} (h : NbOk n l nb) (ab : a < b) (bn : b < n) :
    NbOk n (l ++ [(a, b)]) ((nb.set a (nb.getD a 0 ||| 2 ^ b)).set b ((nb.set a (nb.getD a 0 ||| 2 ^ b)).getD b 0 ||| 2 ^ a)) := by
  obtain ⟨hl, hb⟩ := h
  refine ⟨by rw [List.length_set, List.length_set, hl], fun u hu v => ?_⟩
  have eb : (nb.set a (nb.getD a 0 ||| 2 ^ b)).getD b 0 = nb.getD b 0 := by
    rw [List.getD_eq_getElem?_getD, List.getElem?_set_ne (by omega), ← List.getD_eq_getElem?_getD]
  rw [eb]
  have ad : adjB (l ++ [(a, b)]) u v = (adjB l u v || (decide (u = a ∧ v = b) || decide (u = b ∧ v = a))) := by
    unfold adjB
    rw [Bool.eq_iff_iff]
    simp only [decide_eq_true_eq, Bool.or_eq_true, List.mem_append, List.mem_singleton, Prod.mk.injEq]
    constructor
    · rintro (z | ⟨z1, z2⟩)
      · exact .inl z
      · right
        omega
    · rintro (z | z | z)
      · exact .inl z
      · right; omega
      · right; omega
  rw [ad]
  by_cases c1 : u = b
  · subst c1
    rw [List.getD_eq_getElem?_getD, List.getElem?_set_self (by rw [List.length_set, hl]; exact hu)]
    show (nb.getD u 0 ||| 2 ^ a).testBit v = _
    rw [Nat.testBit_or, hb u hu, bit_pow]
    congr 1
    rw [Bool.eq_iff_iff, Bool.or_eq_true, decide_eq_true_eq, decide_eq_true_eq, decide_eq_true_eq]
    constructor
    · intro z
      exact .inr ⟨rfl, z.symm⟩
    · rintro (z | z)
      · exact absurd z.1 (by omega)
      · exact z.2.symm
  · rw [List.getD_eq_getElem?_getD, List.getElem?_set_ne (by omega)]
    by_cases c2 : u = a
    · subst c2
      rw [List.getElem?_set_self (by rw [hl]; exact hu)]
      show (nb.getD u 0 ||| 2 ^ b).testBit v = _
      rw [Nat.testBit_or, hb u hu, bit_pow]
      congr 1
      rw [Bool.eq_iff_iff, Bool.or_eq_true, decide_eq_true_eq, decide_eq_true_eq, decide_eq_true_eq]
      constructor
      · intro z
        exact .inl ⟨rfl, z.symm⟩
      · rintro (z | z)
        · exact z.2.symm
        · exact absurd z.1 c1
    · rw [List.getElem?_set_ne (by omega), ← List.getD_eq_getElem?_getD, hb u hu]
      have z : (decide (u = a ∧ v = b) || decide (u = b ∧ v = a)) = false := by
        rw [Bool.or_eq_false_iff]
        exact ⟨decide_eq_false (fun z => c2 z.1), decide_eq_false (fun z => c1 z.1)⟩
      rw [z, Bool.or_false]
/-! cliques -/
def Clq (es : List E2) (m : Nat) : Prop := ∀ u v, m.testBit u = true → m.testBit v = true → u ≠ v → adjB es u v = true
theorem sub_and (a b : Nat) : a &&& b = a ↔ ∀ v, a.testBit v = true → b.testBit v = true := by
  constructor
  · intro h v hv
    have z := congrArg (Nat.testBit · v) h
    simp only [Nat.testBit_and, hv, Bool.true_and] at z
    exact z
  · intro h
    refine Nat.eq_of_testBit_eq fun v => ?_
    rw [Nat.testBit_and]
    cases e : a.testBit v with
    | false => rfl
    | true => rw [h v e]; rfl
def FoundOk (es : List E2) (k : Nat) (found : List Nat) : Prop := found.Nodup ∧ ∀ m, m ∈ found ↔ m < 2 ^ k ∧ Clq es m
theorem found_nil (es : List E2) : FoundOk es 0 [0] := by
  refine ⟨by simp, fun m => ?_⟩
  rw [List.mem_singleton]
  constructor
  · rintro rfl
    exact ⟨by decide, fun u v h => by simp at h⟩
  · intro h
    have := h.1
    omega
def goOn (found : List Nat) (k near : Nat) : List Nat := found ++ (found.filter fun m => m &&& near == m).map (· ||| 2 ^ k)
theorem or_pow_bit {c k v : Nat} : (c ||| 2 ^ k).testBit v = (c.testBit v || decide (k = v)) := by rw [Nat.testBit_or, bit_pow]
theorem high_out {c k v : Nat} (h : c < 2 ^ k) (hv : k ≤ v) : c.testBit v = false := Nat.testBit_lt_two_pow (Nat.lt_of_lt_of_le h (Nat.pow_le_pow_right (by decide) hv))
theorem found_step {n : Nat} {es : List E2} {nb : List Nat} {found : List Nat} {k : Nat} (h : FoundOk es k found) (nk : NbOk n es nb) (kn : k < n) : FoundOk es (k + 1) (goOn found k (nb.getD k 0)) := by
  obtain ⟨nd, mem⟩ := h
  have low : ∀ m ∈ found, m < 2 ^ k := fun m hm => ((mem m).mp hm).1
  constructor
  · unfold goOn
    rw [List.nodup_append]
    refine ⟨nd, ?_, ?_⟩
    · show List.Pairwise _ _
      rw [List.pairwise_map]
      refine List.Pairwise.imp_of_mem ?_ (nd.filter _)
      intro x y hx hy ne e
      refine ne (?_ : x = y)
      refine Nat.eq_of_testBit_eq fun v => ?_
      have lx := low x (List.mem_filter.mp hx).1
      have ly := low y (List.mem_filter.mp hy).1
      have z := congrArg (Nat.testBit · v) e
      simp only [or_pow_bit] at z
      by_cases c : k = v
      · subst c
        rw [high_out lx (Nat.le_refl _), high_out ly (Nat.le_refl _)]
      · rw [decide_eq_false c, Bool.or_false, Bool.or_false] at z
        exact z
    · intro a ha b hb e
      subst e
      obtain ⟨c, hc, e⟩ := List.mem_map.mp hb
      have z := high_out (low a ha) (Nat.le_refl k)
      rw [← e, or_pow_bit, decide_eq_true rfl, Bool.or_true] at z
      cases z
  · intro m
    unfold goOn
    rw [List.mem_append, mem m, List.mem_map]
    constructor
    · rintro (⟨h1, h2⟩ | ⟨c, hc, rfl⟩)
      · exact ⟨Nat.lt_of_lt_of_le h1 (Nat.pow_le_pow_right (by decide) (Nat.le_succ k)), h2⟩
      · obtain ⟨hc, near⟩ := List.mem_filter.mp hc
        obtain ⟨lc, cl⟩ := (mem c).mp hc
        have sub := (sub_and c _).mp (by simpa using near)
        refine ⟨Nat.or_lt_two_pow (Nat.lt_of_lt_of_le lc (Nat.pow_le_pow_right (by decide) (Nat.le_succ k))) (Nat.pow_lt_pow_right (by decide) (Nat.lt_succ_self k)), fun u v hu hv ne => ?_⟩
        rw [or_pow_bit] at hu hv
        simp only [Bool.or_eq_true, decide_eq_true_eq] at hu hv
        rcases hu with hu | rfl
        · rcases hv with hv | rfl
          · exact cl u v hu hv ne
          · rw [adj_comm, ← nk.2 k kn]
            exact sub u hu
        · rcases hv with hv | rfl
          · rw [← nk.2 k kn]
            exact sub v hv
          · exact absurd rfl ne
    · rintro ⟨h1, h2⟩
      by_cases c : m.testBit k = true
      · right
        have le : m % 2 ^ k < 2 ^ k := Nat.mod_lt _ (Nat.two_pow_pos k)
        have bits : ∀ v, (m % 2 ^ k).testBit v = (decide (v < k) && m.testBit v) := fun v => Nat.testBit_mod_two_pow m k v
        refine ⟨m % 2 ^ k, List.mem_filter.mpr ⟨(mem _).mpr ⟨le, fun u v hu hv ne => ?_⟩, ?_⟩, ?_⟩
        · rw [bits, Bool.and_eq_true] at hu hv
          exact h2 u v hu.2 hv.2 ne
        · have s : m % 2 ^ k &&& nb.getD k 0 = m % 2 ^ k := (sub_and _ _).mpr fun v hv => by
            rw [bits, Bool.and_eq_true] at hv
            have lt := of_decide_eq_true hv.1
            rw [nk.2 k kn]
            exact h2 k v c hv.2 (by omega)
          simpa using s
        · refine Nat.eq_of_testBit_eq fun v => ?_
          rw [or_pow_bit, bits]
          by_cases e : k = v
          · subst e; simp [c]
          · by_cases l : v < k
            · simp [l, e]
            · have z : m.testBit v = false := high_out h1 (by omega)
              simp [l, e, z]
      · left
        refine ⟨?_, h2⟩
        refine Nat.lt_pow_two_of_testBit m fun v hv => ?_
        by_cases e : v = k
        · subst e; simpa using c
        · exact high_out h1 (by omega)
/-! lots as masks -/
def maskN (l : List Nat) : Nat := (l.map fun k => 2 ^ k).sum
theorem desc_lt : ∀ {l : List Nat} {k : Nat}, l.Pairwise (· > ·) → (∀ a ∈ l, a < k) → maskN l < 2 ^ k
  | [], k, _, _ => Nat.two_pow_pos k
  | a :: r, k, h, lt => by
    have ak := lt a (List.mem_cons_self ..)
    have ih := desc_lt (l := r) (k := a) (List.pairwise_cons.mp h).2 fun b hb => (List.pairwise_cons.mp h).1 b hb
    have e : maskN (a :: r) = 2 ^ a + maskN r := by unfold maskN; rw [List.map_cons, List.sum_cons]
    have z : 2 ^ (a + 1) ≤ 2 ^ k := Nat.pow_le_pow_right (by decide) ak
    rw [Nat.pow_succ] at z
    omega
theorem desc_bit : ∀ {l : List Nat}, l.Pairwise (· > ·) → ∀ v, (maskN l).testBit v = decide (v ∈ l)
  | [], _, v => by simp [maskN]
  | a :: r, h, v => by
    have lt := desc_lt (l := r) (k := a) (List.pairwise_cons.mp h).2 fun b hb => (List.pairwise_cons.mp h).1 b hb
    have ih := desc_bit (l := r) (List.pairwise_cons.mp h).2 v
    have e : maskN (a :: r) = 2 ^ a + maskN r := by unfold maskN; rw [List.map_cons, List.sum_cons]
    rw [e]
    rcases Nat.lt_trichotomy v a with c | c | c
    · rw [Nat.testBit_two_pow_add_gt c, ih]
      have ne : v ≠ a := by omega
      simp [ne]
    · subst c
      rw [Nat.testBit_two_pow_add_eq, high_out lt (Nat.le_refl _)]
      simp
    · have z : 2 ^ a + maskN r < 2 ^ (a + 1) := by rw [Nat.pow_succ]; omega
      rw [high_out z c]
      have n1 : v ≠ a := by omega
      have n2 : v ∉ r := fun hv => by have := (List.pairwise_cons.mp h).1 v hv; omega
      simp [n1, n2]
theorem mask_rev (l : List Nat) : maskN l.reverse = maskN l := by
  unfold maskN
  rw [List.map_reverse]
  exact List.sum_reverse _
theorem mask_bit {l : List Nat} (h : l.Pairwise (· < ·)) (v : Nat) : (maskN l).testBit v = decide (v ∈ l) := by
  rw [← mask_rev, desc_bit (List.pairwise_reverse.mpr h)]
  simp
/-- the lot of a mask's bits below n -/
def bitsN (n m : Nat) : List Nat := (List.range n).filter fun v => m.testBit v
theorem bits_up (n m : Nat) : (bitsN n m).Pairwise (· < ·) := (List.pairwise_lt_range).filter _
theorem mem_bits {n m v : Nat} : v ∈ bitsN n m ↔ v < n ∧ m.testBit v = true := by
  unfold bitsN
  rw [List.mem_filter, List.mem_range]
theorem mask_bits {n m : Nat} (h : m < 2 ^ n) : maskN (bitsN n m) = m := by
  refine Nat.eq_of_testBit_eq fun v => ?_
  rw [mask_bit (bits_up n m)]
  by_cases c : v < n
  · cases e : m.testBit v with
    | true => exact decide_eq_true (mem_bits.mpr ⟨c, e⟩)
    | false => exact decide_eq_false fun z => by rw [(mem_bits.mp z).2] at e; cases e
  · rw [high_out h (by omega)]
    exact decide_eq_false fun z => c (mem_bits.mp z).1
/-- two ascending lists with the same members -/
theorem eq_of_lt : ∀ {l m : List Nat}, l.Pairwise (· < ·) → m.Pairwise (· < ·) → (∀ k, k ∈ l ↔ k ∈ m) → l = m
  | [], [], _, _, _ => rfl
  | [], b :: m, _, _, h => absurd ((h b).mpr (List.mem_cons_self ..)) (by simp)
  | a :: l, [], _, _, h => absurd ((h a).mp (List.mem_cons_self ..)) (by simp)
  | a :: l, b :: m, hl, hm, h => by
    have l1 := (List.pairwise_cons.mp hl).1
    have m1 := (List.pairwise_cons.mp hm).1
    have e : a = b := by
      rcases List.mem_cons.mp ((h a).mp (List.mem_cons_self ..)) with e | e
      · exact e
      · rcases List.mem_cons.mp ((h b).mpr (List.mem_cons_self ..)) with e2 | e2
        · exact e2.symm
        · have := l1 b e2
          have := m1 a e
          omega
    subst e
    rw [eq_of_lt (List.pairwise_cons.mp hl).2 (List.pairwise_cons.mp hm).2 fun k => ?_]
    constructor
    · intro hk
      have := l1 k hk
      rcases List.mem_cons.mp ((h k).mp (List.mem_cons_of_mem _ hk)) with e | e
      · omega
      · exact e
    · intro hk
      have := m1 k hk
      rcases List.mem_cons.mp ((h k).mpr (List.mem_cons_of_mem _ hk)) with e | e
      · omega
      · exact e
theorem bits_mask {n : Nat} {l : List Nat} (h : l.Pairwise (· < ·)) (lt : ∀ k ∈ l, k < n) : bitsN n (maskN l) = l := by
  refine eq_of_lt (bits_up n _) h fun k => ?_
  rw [mem_bits, mask_bit h, decide_eq_true_eq]
  exact ⟨fun z => z.2, fun z => ⟨lt k z, z⟩⟩
/-- all of a list are adjacent two by two, or no two are -/
def PairB (es : List E2) (tied : Bool) (l : List Nat) : Prop := l.Pairwise fun u v => adjB es u v = tied
instance (es : List E2) (tied : Bool) (l : List Nat) : Decidable (PairB es tied l) := inferInstanceAs (Decidable (List.Pairwise _ l))
theorem pairB_mem {es : List E2} {tied : Bool} {l : List Nat} (nd : l.Nodup) : PairB es tied l ↔ ∀ u ∈ l, ∀ v ∈ l, u ≠ v → adjB es u v = tied := by
  unfold PairB
  constructor
  · intro h
    induction l with
    | nil => intro u hu; cases hu
    | cons a r ih =>
      obtain ⟨h1, h2⟩ := List.pairwise_cons.mp h
      have ih := ih (List.nodup_cons.mp nd).2 h2
      intro u hu v hv ne
      rcases List.mem_cons.mp hu with e1 | hu2
      · rcases List.mem_cons.mp hv with e2 | hv2
        · exact absurd (e1.trans e2.symm) ne
        · rw [e1]; exact h1 v hv2
      · rcases List.mem_cons.mp hv with e2 | hv2
        · rw [adj_comm, e2]; exact h1 u hu2
        · exact ih u hu2 v hv2 ne
  · intro h
    refine List.Pairwise.imp_of_mem (R := fun u v => u ≠ v) ?_ nd
    intro u v hu hv ne
    exact h u hu v hv ne
theorem clq_mask {es : List E2} {l : List Nat} (h : l.Pairwise (· < ·)) : Clq es (maskN l) ↔ PairB es true l := by
  rw [pairB_mem (h.imp fun z => Nat.ne_of_lt z)]
  constructor
  · intro c u hu v hv ne
    exact c u v (by rw [mask_bit h]; exact decide_eq_true hu) (by rw [mask_bit h]; exact decide_eq_true hv) ne
  · intro c u v hu hv ne
    rw [mask_bit h] at hu hv
    exact c u (of_decide_eq_true hu) v (of_decide_eq_true hv) ne
end My

set_option maxHeartbeats 4000000
/-! Tables of who is adjacent to whom: lists of lists of bools. -/
namespace My
open PySem PySem.Spec PyProof.Rows L2
def tabP (n : Nat) (f : Nat → Nat → Bool) : List E2 := (allP n).filter fun p => f p.1 p.2
theorem tab_good {n : Nat} (h : n ≤ 9) (f : Nat → Nat → Bool) : Good n (tabP n f) :=
  ⟨h, fun p hp => mem_allP.mp (List.mem_filter.mp hp).1, (allP_up n h).filter _⟩
theorem tabP_eq (n : Nat) (f : Nat → Nat → Bool) : tabP n f = (List.range n).flatMap fun u => (rowP n u).filter fun p => f p.1 p.2 := List.filter_flatMap
def rowV (n : Nat) (f : Nat → Bool) : List V := (List.range n).map fun j => V.bl (f j)
theorem rowV_len (n : Nat) (f : Nat → Bool) : (rowV n f).length = n := by unfold rowV; rw [List.length_map, List.length_range]
theorem rowV_get {n j : Nat} (f : Nat → Bool) (h : j < n) : (rowV n f)[j]? = some (.bl (f j)) := by
  unfold rowV
  rw [List.getElem?_map, List.getElem?_range h]
  rfl
theorem rowV_set {n : Nat} (f : Nat → Bool) (j : Nat) (b : Bool) : (rowV n f).set j (.bl b) = rowV n fun k => if k = j then b else f k := by
  refine List.ext_getElem? fun k => ?_
  by_cases hk : k < n
  · rw [rowV_get _ hk]
    by_cases e : k = j
    · subst e
      rw [List.getElem?_set_self (by rw [rowV_len]; exact hk), if_pos rfl]
    · rw [List.getElem?_set_ne (Ne.symm e), rowV_get f hk, if_neg e]
  · rw [List.getElem?_eq_none (by rw [List.length_set, rowV_len]; omega), List.getElem?_eq_none (by rw [rowV_len]; omega)]
theorem rowV_succ (n : Nat) (f : Nat → Bool) : rowV (n + 1) f = rowV n f ++ [.bl (f n)] := by
  unfold rowV
  rw [List.range_succ, List.map_append]
  rfl
theorem rowV_congr {n : Nat} {f g : Nat → Bool} (h : ∀ j, j < n → f j = g j) : rowV n f = rowV n g := by
  unfold rowV
  exact List.map_congr_left fun j hj => by rw [h j (List.mem_range.mp hj)]
structure TabR (H : Hp) (D : Addr) (n : Nat) (f : Nat → Nat → Bool) (rs : List Addr) : Prop where
  hd : H D = some (.lst (rs.map V.ref))
  len : rs.length = n
  row : ∀ i r, rs[i]? = some r → H r = some (.lst (rowV n (f i)))
theorem TabR.same {H H' : Hp} (s : Same H H') {D : Addr} {n : Nat} {f : Nat → Nat → Bool} {rs : List Addr} (h : TabR H D n f rs) : TabR H' D n f rs := ⟨s _ _ h.hd, h.len, fun i r hi => s _ _ (h.row i r hi)⟩
theorem TabR.get {H : Hp} {D : Addr} {n : Nat} {f : Nat → Nat → Bool} {rs : List Addr} (h : TabR H D n f rs) {i : Nat} (hi : i < n) : ∃ r, rs[i]? = some r ∧ (rs.map V.ref)[i]? = some (.ref r) ∧ H r = some (.lst (rowV n (f i))) := by
  have l : i < rs.length := by rw [h.len]; exact hi
  refine ⟨rs[i], List.getElem?_eq_getElem l, by rw [List.getElem?_map, List.getElem?_eq_getElem l]; rfl, h.row i _ (List.getElem?_eq_getElem l)⟩
theorem TabR.congr {H : Hp} {D : Addr} {n : Nat} {f g : Nat → Nat → Bool} {rs : List Addr} (h : TabR H D n f rs) (e : ∀ i j, i < n → j < n → f i j = g i j) : TabR H D n g rs :=
  ⟨h.hd, h.len, fun i r hi => by
    rw [h.row i r hi, rowV_congr fun j hj => e i j (by have := (List.getElem?_eq_some_iff.mp hi).1; rw [h.len] at this; exact this) hj]⟩
theorem ixN_of {n j : Nat} (h : j < n) : ixN n (j : Int) = some j := by
  unfold ixN
  rw [if_pos (by omega), if_pos (by omega), Int.toNat_natCast]
def GraphT (H : Hp) (x : V) (n : Nat) (es : List E2) : Prop := ∃ (t e : Addr) (xs : List V), x = .ref t ∧ H t = some (.tup [.int (n : Int), .ref e]) ∧ H e = some (.tup xs) ∧ PairsT H xs es
theorem GraphT.at {K : PySem.W.Frag} {H : Hp} {x : V} {n : Nat} {es : List E2} (h : GraphT H x n es) : GraphAt K H x n es := by
  obtain ⟨t, e, xs, h1, h2, h3, h4⟩ := h
  exact ⟨t, e, xs, h1, SqT.of h2, SqT.of h3, h4.at⟩
theorem GraphT.same {H H' : Hp} (s : Same H H') {x : V} {n : Nat} {es : List E2} (h : GraphT H x n es) : GraphT H' x n es := by
  obtain ⟨t, e, xs, h1, h2, h3, h4⟩ := h
  exact ⟨t, e, xs, h1, s _ _ h2, s _ _ h3, h4.same s⟩
theorem GraphT.but {p : Addr} {H H' : Hp} (b : But p H H') (w : Wl H p) {x : V} {n : Nat} {es : List E2} (h : GraphT H x n es) : GraphT H' x n es := by
  obtain ⟨t, e, xs, h1, h2, h3, h4⟩ := h
  exact ⟨t, e, xs, h1, b _ _ (wl_tup w h2) h2, b _ _ (wl_tup w h3) h3, h4.but b w⟩
theorem GraphAt.same' {K : PySem.W.Frag} {H H' : Hp} (s : Same H H') {x : V} {n : Nat} {es : List E2} (h : GraphAt K H x n es) : GraphAt K H' x n es := h.ts (TS.of s)
theorem pair_at {K : PySem.W.Frag} {H : Hp} {xs : List V} {es : List E2} (h : PairsAt K H xs es) {i : Nat} {p : E2} (hp : es[i]? = some p) : ∃ u, xs[i]? = some (.ref u) ∧ SqT K H u [.int (p.1 : Int), .int (p.2 : Int)] := by
  have le := PairsAt.len h
  have hi : i < xs.length := by rw [le]; exact (List.getElem?_eq_some_iff.mp hp).1
  obtain ⟨q, hq, u, hu, su⟩ := PairsAt.get h (List.getElem?_eq_getElem hi)
  rw [hp] at hq
  cases hq
  exact ⟨u, by rw [List.getElem?_eq_getElem hi, hu], su⟩
theorem adj_nil (u v : Nat) : adjB [] u v = false := by simp [adjB]
theorem adj_snoc {l : List E2} {a b : Nat} (ab : a < b) (u v : Nat) : adjB (l ++ [(a, b)]) u v = (adjB l u v || (decide (u = a ∧ v = b) || decide (u = b ∧ v = a))) := by
  unfold adjB
  have e : decide ((min u v, max u v) ∈ l ++ [(a, b)]) = (decide ((min u v, max u v) ∈ l) || decide ((min u v, max u v) = (a, b))) := by
    rw [Bool.eq_iff_iff]
    simp
  rw [e]
  congr 1
  rw [Bool.eq_iff_iff]
  simp only [Bool.or_eq_true, decide_eq_true_eq, Prod.mk.injEq]
  omega
end My

set_option maxHeartbeats 8000000
namespace My
open PySem PySem.Spec PyProof.Rows L2
abbrev sTable : Stmt := top 34
abbrev sOfT : Stmt := top 35
theorem scTable : FnScope ["graph", "rows", "one", "two", "each"] ["graph"] (defScope sTable) := ⟨rfl, rfl, rfl, by decide +kernel, rfl, by decide +kernel, by decide +kernel⟩
theorem scOfT : FnScope ["rows", "found", "one", "two"] ["rows"] (defScope sOfT) := ⟨rfl, rfl, rfl, by decide +kernel, rfl, by decide +kernel, by decide +kernel⟩
def spTable (K : PySem.W.Frag) : Sp := fun vs H Q _ => ∃ (x : V) (n : Nat) (es : List E2), vs = [x] ∧ GraphAt K H x n es ∧ Good n es ∧ ∀ (D : Addr) (rs : List Addr) H', Same H H' → H D = none → TabR H' D n (adjB es) rs → Q (.ref D) H'
def spOfT : Sp := fun vs H Q _ => ∃ (D : Addr) (n : Nat) (f : Nat → Nat → Bool) (rs : List Addr), vs = [.ref D] ∧ TabR H D n f rs ∧ n ≤ 9 ∧ ∀ y H', Same H H' → GraphT H' y n (tabP n f) → Q y H'
section
variable {P : Program} {w : World} {K : PySem.W.Frag} {mg : Str → Option Value} {base : Heap} {f fD : Addr} {fd dD : FuncData}
theorem ok_table (F : L2.Fun K "_law_table" "_law_table" sTable f fd) (mr : mg "range" = none) : FnOk P w K mg base CX0 1 f fd ["graph"] (spTable K) := by
  refine F.ok scTable (fun vs H Q E h => ?_) (fun cdv A outer s H vs Q E hr h => ?_)
  · obtain ⟨x, n, es, rfl, _⟩ := h
    rfl
  obtain ⟨x, n, es, rfl, ⟨t, e, xs, rfl, ht, he, hes⟩, g, q⟩ := h
  refine ⟨_, pss_cons (ps_setLc (i := 1) (own := [("each", 4)]) (g := gName 4) (tt := tYes) rfl scTable.nd rfl rfl (sw_true rfl rfl rfl (by decide +kernel)) (pi_range1 rfl mr (pa_cons (pe_ix (r := rIxT K) ix_tup (pv 0) pe_int (fun _ _ => rfl)) pa_nil))
        (blkOk_by (N := ["graph", "rows", "one", "two", "each"]) (sc := defScope sTable) (by decide +kernel)) (fun _ _ _ _ _ => pg_name (i := 4) scTable.nd rfl (Or.inl rfl)) (fun _ _ _ _ _ => pts_nil)
        (fun _ _ _ _ _ => pe_op (r := rRep) op_rep (pe_lst (pa_cons pe_bl pa_nil)) (pe_ix (r := rIxT K) ix_tup (pv 0) pe_int (fun _ _ => rfl))))
    (pss_cons (ps_for PassesOwn.never rfl (pi_tup (pe_ix (r := rIxT K) ix_tup (pv 0) pe_int (fun _ _ => rfl))) (pg_tup (by rfl) (pgs_cons (pg_name (i := 2) scTable.nd rfl (.inl rfl)) (pgs_cons (pg_name (i := 3) scTable.nd rfl (.inl rfl)) pgs_nil)))
      (pss_cons (ps_asg pe_bl (pg_sub (pe_ix (r := rIxL K) ix_list (pv 1) (pv 2) (fun _ _ => rfl)) (pv 3) set_list))
      (pss_one (ps_asg pe_bl (pg_sub (pe_ix (r := rIxL K) ix_list (pv 1) (pv 3) (fun _ _ => rfl)) (pv 2) set_list)))))
    (pss_one (ps_ret (pv 1)))), ?_⟩
  have n9 := g.n9
  have few := g.few
  have le := PairsAt.len hes
  have a0 : atI [V.int (n : Int), V.ref e] 0 = some (.int (n : Int)) := atI_nat (j := 0) rfl
  have a1 : atI [V.int (n : Int), V.ref e] 1 = some (.ref e) := atI_nat (j := 1) rfl
  refine ⟨_, rfl, t, _, 0, _, rfl, rfl, ht, a0, (n : Int), rfl, by omega, by omega, fun D nD => lc_range (lo := 0) (n := ((n : Nat) : Int).toNat) (fun i H2 => Same H H2 ∧ ∃ rs : List Addr, rs.length = i ∧ H2 D = some (.lst (rs.map V.ref)) ∧ rs.Nodup ∧ ∀ r ∈ rs, r ≠ D ∧ H r = none ∧ H2 r = some (.lst (rowV n fun _ => false))) ⟨same_new nD _, [], rfl, upd_same, List.nodup_nil, fun _ z => nomatch z⟩ ?_ ?_⟩
  · rintro i H2 li ⟨s2, rs, lr, hD, nd, hrs⟩
    refine ⟨rfl, ?_⟩
    refine ⟨small (by decide), fun Z nZ => ?_⟩
    have sZ := same_new nZ (.lst [V.bl false])
    have hZ := upd_same (H := H2) (a := Z) (o := .lst [V.bl false])
    generalize upd H2 Z (.lst [V.bl false]) = H3 at sZ hZ ⊢
    refine ⟨_, rfl, t, _, 0, _, rfl, rfl, Same.tup (s2.trans sZ) ht, a0, Z, (n : Int), [V.bl false], rfl, rfl, hZ, by omega, by omega, small (by rw [Int.toNat_natCast, List.length_singleton]; omega), fun F nF => ?_⟩
    have e0 : (List.replicate ((n : Nat) : Int).toNat [V.bl false]).flatten = rowV n fun _ => false := by
      rw [Int.toNat_natCast, List.flatten_replicate_singleton]
      unfold rowV
      rw [List.map_const', List.length_range]
    rw [e0]
    have sF := same_new nF (.lst (rowV n fun _ => false))
    have hF := upd_same (H := H3) (a := F) (o := .lst (rowV n fun _ => false))
    have nF2 : H2 F = none := sZ.free nF
    have nF0 : H F = none := s2.free nF2
    have FD : F ≠ D := fun z => by rw [z, hD] at nF2; cases nF2
    generalize upd H3 F (.lst (rowV n fun _ => false)) = H4 at sF hF ⊢
    have s24 := sZ.trans sF
    refine ⟨_, s24 _ _ hD, small1000 (by rw [List.length_map]; omega), same_put (s2.trans s24) nD, rs ++ [F], by rw [List.length_append, lr]; rfl, by rw [upd_same, List.map_append]; rfl, ?_, fun r hr => ?_⟩
    · rw [List.nodup_append]
      refine ⟨nd, by simp, fun a ha b hb z => ?_⟩
      rw [List.mem_singleton.mp hb] at z
      have := (hrs a ha).2.2
      rw [z, nF2] at this
      cases this
    · rcases List.mem_append.mp hr with hr | hr
      · obtain ⟨h1, h2, h3⟩ := hrs r hr
        exact ⟨h1, h2, by rw [upd_ne h1]; exact s24 _ _ h3⟩
      · rw [List.mem_singleton.mp hr]
        exact ⟨FD, nF0, by rw [upd_ne FD]; exact hF⟩
  rintro H1 ⟨s1, rs, lr, hD, nd, hrs⟩
  rw [show ((n : Nat) : Int).toNat = n by omega] at lr
  have T0 : TabR H1 D n (adjB []) rs := ⟨hD, lr, fun i r hi => by
    rw [(hrs r (List.mem_of_getElem? hi)).2.2, rowV_congr fun j _ => adj_nil i j]⟩
  have off : ∀ r ∈ rs, r ≠ D ∧ H r = none := fun r hr => ⟨(hrs r hr).1, (hrs r hr).2.1⟩
  -- setting one place
  have put : ∀ (H2 : Hp) (ff : Nat → Nat → Bool) (a b : Nat) (r : Addr), Same H H2 → TabR H2 D n ff rs → rs[a]? = some r → Same H (upd H2 r (.lst (rowV n fun k => if k = b then true else ff a k))) ∧ TabR (upd H2 r (.lst (rowV n fun k => if k = b then true else ff a k))) D n (fun i j => if i = a ∧ j = b then true else ff i j) rs := fun H2 ff a b r s2 T ha => by
    have ma := List.mem_of_getElem? ha
    refine ⟨same_put s2 (off r ma).2, by rw [upd_ne (Ne.symm (off r ma).1)]; exact T.hd, T.len, fun i q hi => ?_⟩
    by_cases c : i = a
    · subst c
      rw [ha] at hi
      cases hi
      rw [upd_same]
      congr 2
      exact rowV_congr fun j _ => by simp
    · have qr : q ≠ r := fun z => by
        subst z
        obtain ⟨l1, e1⟩ := List.getElem?_eq_some_iff.mp hi
        obtain ⟨l2, e2⟩ := List.getElem?_eq_some_iff.mp ha
        rcases Nat.lt_or_gt_of_ne c with h | h
        · exact List.pairwise_iff_getElem.mp nd i a l1 l2 h (e1.trans e2.symm)
        · exact List.pairwise_iff_getElem.mp nd a i l2 l1 h (e2.trans e1.symm)
      rw [upd_ne qr, T.row i q hi]
      congr 2
      exact rowV_congr fun j _ => by simp [c]
  refine ⟨_, rfl, t, _, 1, _, rfl, rfl, Same.tup s1 ht, a1, e, rfl, ⟨_, Same.tup s1 he⟩, for_it (walk_tup (xs := xs)) (fun i σ H' => ∃ (s2 s3 : Option V), σ = [some (.ref t), some (.ref D), s2, s3, none] ∧ Same H H' ∧ TabR H' D n (adjB (es.take i)) rs) ⟨none, none, rfl, s1, T0⟩ (fun i σ H' _ ⟨_, _, _, s, _⟩ => Same.tup s he) ?_ ?_⟩
  · rintro i x σ H2 H3 li ⟨s2', s3', rfl, s2, T⟩ ⟨rfl, hi⟩
    obtain ⟨p, hp, u, rfl, hu⟩ := PairsAt.get (hes.same s2) hi
    obtain ⟨l1, l2⟩ := g.lt p (List.mem_of_getElem? hp)
    obtain ⟨r1, hr1, hv1, row1⟩ := T.get (show p.1 < n by omega)
    refine ⟨u, _, rfl, hu, rfl, _, _, rfl, _, _, rfl, rfl, ?_⟩
    refine ⟨_, rfl, _, rfl, D, _, _, _, rfl, rfl, SqL.of T.hd, atI_nat hv1, _, rfl, r1, _, _, p.2, rfl, rfl, row1, by rw [rowV_len]; exact ixN_of l2, ?_⟩
    rw [rowV_set]
    obtain ⟨s4, T4⟩ := put H3 _ p.1 p.2 r1 s2 T hr1
    generalize upd H3 r1 (.lst (rowV n fun k => if k = p.2 then true else adjB (es.take i) p.1 k)) = H4 at s4 T4 ⊢
    obtain ⟨r2, hr2, hv2, row2⟩ := T4.get l2
    refine ⟨_, rfl, _, rfl, D, _, _, _, rfl, rfl, SqL.of T4.hd, atI_nat hv2, _, rfl, r2, _, _, p.1, rfl, rfl, row2, by rw [rowV_len]; exact ixN_of (by omega), ?_⟩
    rw [rowV_set]
    obtain ⟨s5, T5⟩ := put H4 _ p.2 p.1 r2 s4 T4 hr2
    refine ⟨_, _, rfl, s5, T5.congr fun a b _ _ => ?_⟩
    rw [take_succ hp, show p = (p.1, p.2) from rfl, adj_snoc l1]
    by_cases c1 : a = p.2 ∧ b = p.1
    · simp [c1]
    · by_cases c2 : a = p.1 ∧ b = p.2
      · simp [c2]
      · simp [c1, c2]
  · rintro σ H2 ⟨s2', s3', rfl, s2, T⟩
    rw [le, List.take_length] at T
    exact ⟨_, rfl, q D rs H2 s2 nD T⟩
theorem ok_oft (F : L2.Fun K "_law_of_table" "_law_of_table" sOfT f fd) (mr : mg "range" = none) (ml : mg "len" = none) (mt : mg "tuple" = none) : FnOk P w K mg base CX0 1 f fd ["rows"] spOfT := by
  refine F.ok scOfT (fun vs H Q E h => ?_) (fun cdv A outer s H vs Q E hr h => ?_)
  · obtain ⟨D, n, ff, rs, rfl, _⟩ := h
    rfl
  obtain ⟨D, n, ff, rs, rfl, T, n9, q⟩ := h
  refine ⟨_, pss_cons (ps_set (i := 1) scOfT.nd rfl (.inl rfl) (pe_lst pa_nil))
    (pss_cons (ps_for PassesOwn.never rfl (pi_range1 rfl mr (pa_cons (pe_callB call_len_seq (by rfl) ml PySem.boot_len (pa_cons (pv 0) pa_nil)) pa_nil)) (pg_name (i := 2) scOfT.nd rfl (.inr rfl))
      (pss_one (ps_set (i := 1) scOfT.nd rfl (.inl rfl) (pe_op op_cat (pv 1) (pe_lc (own := [("two", 3)]) (g := gName 3) (tt := tB (tOp (rIxL K) (tOp (rIxL K) (tVar 0) (tVar 2)) (tVar 3))) rfl scOfT.nd (pi_range2 (by rfl) mr (pa_cons (pe_op op_add (pv 2) pe_int) (pa_cons (pe_callB call_len_seq (by rfl) ml PySem.boot_len (pa_cons (pv 0) pa_nil)) pa_nil)))
        (blkOk_by (N := ["rows", "found", "one", "two"]) (sc := defScope sOfT) (by decide +kernel)) (fun _ _ _ _ _ => pg_name (i := 3) scOfT.nd rfl (Or.inl rfl))
        (fun _ _ _ _ _ => pts_one (pt_val (pe_ix (r := rIxL K) ix_list (pe_ix (r := rIxL K) ix_list (pv 0) (pv 2) (fun _ _ => rfl)) (pv 3) (fun _ _ => rfl))))
        (fun _ _ _ _ _ => pe_tup (pa_cons (pv 2) (pa_cons (pv 3) pa_nil))))))))
    (pss_one (ps_ret (pe_tup (pa_cons (pe_callB call_len_seq (by rfl) ml PySem.boot_len (pa_cons (pv 0) pa_nil)) (pa_cons (pe_callTy call_tuple_of (by rfl) mt (by decide +kernel) (pa_cons (pv 1) pa_nil)) pa_nil)))))), ?_⟩
  have lr : (rs.map V.ref).length = n := by rw [List.length_map]; exact T.len
  refine ⟨(by show 0 ≤ sizeLine; decide), fun a na => ?_⟩
  have sa := same_new na (.lst [])
  refine ⟨_, rfl, D, _, rfl, .inl (SqL.of (T.same sa).hd), (((rs.map V.ref).length : Nat) : Int), rfl, by omega, by omega, for_range (lo := 0) (n := (((rs.map V.ref).length : Nat) : Int).toNat) (fun i σ H' => ∃ (b : Addr) (ys : List V) (s4 : Option V), σ = [some (.ref D), some (.ref b), s4, none] ∧ Same H H' ∧ H' b = some (.lst ys) ∧
      PairsT H' ys ((List.range i).flatMap fun u => (rowP n u).filter fun p => ff p.1 p.2)) ⟨a, [], none, rfl, sa, upd_same, .nil⟩ ?_ ?_⟩
  · rintro u σ H1 lu ⟨b, ys, s4, rfl, s1, hb, py⟩
    rw [Int.zero_add]
    have un : u < n := by omega
    have T1 := T.same s1
    refine ⟨_, rfl, _, rfl, _, _, rfl, rfl, _, rfl, D, _, rfl, .inl (SqL.of T1.hd), _, _, rfl, ⟨by omega, by omega, by omega, by omega⟩, fun E nE => lc_range (lo := (u : Int) + 1) (n := ((((rs.map V.ref).length : Nat) : Int) - ((u : Int) + 1)).toNat)
      (fun k H2 => Same H1 H2 ∧ ∃ zs, H2 E = some (.lst zs) ∧ zs.length ≤ k ∧ PairsT H2 zs (((List.range k).map fun j => (u, u + 1 + j)).filter fun p => ff p.1 p.2)) ⟨same_new nE _, [], upd_same, Nat.le_refl _, .nil⟩ ?_ ?_⟩
    · rintro k H2 lk ⟨s2, zs, hE, lz, pz⟩
      rw [show ((u : Int) + 1 + (k : Int)) = ((u + 1 + k : Nat) : Int) by omega]
      have T2 := T1.same s2
      obtain ⟨r, hr, hv, row⟩ := T2.get un
      refine ⟨rfl, ?_⟩
      refine ⟨_, rfl, _, rfl, D, _, _, _, rfl, rfl, SqL.of T2.hd, atI_nat hv, _, rfl, r, _, _, _, rfl, rfl, SqL.of row, atI_nat (rowV_get _ (by omega)), _, rfl, ?_⟩
      refine iteB (fun c => ?_) (fun c => ?_)
      · refine ⟨_, rfl, _, rfl, (by show 2 ≤ sizeLine; exact small (by decide)), fun r2 nr2 => ?_⟩
        have pp := push_pairT (u, u + 1 + k) hE nr2 pz
        refine ⟨zs, (same_new nr2 _) _ _ hE, small1000 (by omega), same_put (s2.trans (same_new nr2 _)) nE, _, upd_same, by rw [List.length_append]; show zs.length + 1 ≤ k + 1; omega, ?_⟩
        rw [List.range_succ, List.map_append, List.filter_append]
        show PairsT _ _ (_ ++ [(u, u + 1 + k)].filter fun p => ff p.1 p.2)
        rw [List.filter_cons_of_pos (by exact c), List.filter_nil]
        exact pp
      · refine ⟨s2, zs, hE, by omega, ?_⟩
        rw [List.range_succ, List.map_append, List.filter_append]
        show PairsT _ zs (_ ++ [(u, u + 1 + k)].filter fun p => ff p.1 p.2)
        rw [List.filter_cons_of_neg (by show ¬ ff u (u + 1 + k) = true; rw [c]; decide), List.filter_nil, List.append_nil]
        exact pz
    · rintro H2 ⟨s2, zs, hE, lz, pz⟩
      have le1 : ys.length ≤ 81 := by
        rw [PairsT.len py]
        have z := List.length_filter_le (fun p => ff p.1 p.2) ((List.range u).flatMap (rowP n))
        rw [List.filter_flatMap] at z
        exact Nat.le_trans z (rows_few u (by omega) n n9)
      refine ⟨b, E, ys, zs, rfl, rfl, s2 _ _ hb, hE, small (by omega), fun c nc => ?_⟩
      have s3 := same_new nc (.lst (ys ++ zs))
      refine ⟨c, _, _, rfl, (s1.trans s2).trans s3, upd_same, ?_⟩
      rw [List.range_succ, List.flatMap_append]
      refine (py.same (s2.trans s3)).append ?_
      have ek : ((((rs.map V.ref).length : Nat) : Int) - ((u : Int) + 1)).toNat = n - (u + 1) := by omega
      rw [ek] at pz
      show PairsT _ zs ([u].flatMap fun u => (rowP n u).filter fun p => ff p.1 p.2)
      rw [List.flatMap_cons, List.flatMap_nil, List.append_nil]
      exact pz.same s3
  · rintro σ H1 ⟨b, ys, s4, rfl, s1, hb, py⟩
    rw [show (((rs.map V.ref).length : Nat) : Int).toNat = n by omega, ← tabP_eq] at py
    refine ⟨_, rfl, D, _, rfl, .inl (SqL.of (T.same s1).hd), _, rfl, b, _, rfl, .inl ⟨SqL.of hb, fun l' nl => ⟨(by show 2 ≤ sizeLine; exact small (by decide)), fun r' nr => ?_⟩⟩⟩
    rw [lr]
    have s2 := same_new nl (.tup ys)
    have s3 := same_new nr (.tup [.int (n : Int), .ref l'])
    exact q (.ref r') _ ((s1.trans s2).trans s3) ⟨r', l', ys, rfl, upd_same, s3 _ _ upd_same, (py.same s2).same s3⟩
end
end My

set_option maxHeartbeats 8000000
namespace My
open PySem PySem.Spec PyProof.Rows L2
abbrev sWithin : Stmt := top 36
theorem scWithin : FnScope ["graph", "some", "rows", "one", "two"] ["graph", "some"] (defScope sWithin) := ⟨rfl, rfl, rfl, by decide +kernel, rfl, by decide +kernel, by decide +kernel⟩
def spRing : Sp := fun vs H Q _ => ∃ m : Nat, vs = [.int (m : Int)] ∧ 3 ≤ m ∧ m ≤ 9 ∧ ∀ y es H', Same H H' → GraphT H' y m es → Good m es → Q y H'
def spFlip (K : PySem.W.Frag) : Sp := fun vs H Q _ => ∃ (x : V) (n : Nat) (es : List E2), vs = [x] ∧ GraphAt K H x n es ∧ Good n es ∧ ∀ y H', Same H H' → GraphT H' y n (tabP n fun i j => !adjB es i j) → Q y H'
def spWithin (K : PySem.W.Frag) : Sp := fun vs H Q _ => ∃ (x : V) (n : Nat) (es : List E2) (S : Addr) (l : List Nat), vs = [x, .ref S] ∧ GraphAt K H x n es ∧ Good n es ∧ H S = some (.lst (numsN l)) ∧ (∀ k ∈ l, k < n) ∧ l.length ≤ 9 ∧ ∀ y H', Same H H' → GraphT H' y l.length (tabP l.length fun i j => adjB es (l.getD i 0) (l.getD j 0)) → Q y H'
def ringP (m : Nat) : List E2 := (List.range (m - 1)).map (fun k => (k, k + 1)) ++ [(0, m - 1)]
theorem ring_nodup : ∀ m, m ≤ 9 → 3 ≤ m → (ringP m).Nodup := by decide +kernel
theorem ring_lt {m : Nat} (h : 3 ≤ m) : ∀ p ∈ ringP m, p.1 < p.2 ∧ p.2 < m := fun p hp => by
  unfold ringP at hp
  rcases List.mem_append.mp hp with hp | hp
  · obtain ⟨k, hk, rfl⟩ := List.mem_map.mp hp
    have := List.mem_range.mp hk
    exact ⟨by show k < k + 1; omega, by show k + 1 < m; omega⟩
  · rw [List.mem_singleton.mp hp]
    exact ⟨by show 0 < m - 1; omega, by show m - 1 < m; omega⟩
section
variable {P : Program} {w : World} {K : PySem.W.Frag} {mg : Str → Option Value} {base : Heap} {f fT fO : Addr} {fd dT dO : FuncData}
theorem ok_within (F : L2.Fun K "_law_within" "_law_within" sWithin f fd) (GT : FnOk P w K mg base CX0 1 fT dT ["graph"] (spTable K)) (bT : L2.Binds K dT ["graph"] []) (kT : PySem.W.keepIn K (.ref fT) = true) (mT : mg "_law_table" = some (.ref fT))
    (GO : FnOk P w K mg base CX0 1 fO dO ["rows"] spOfT) (bO : L2.Binds K dO ["rows"] []) (kO : PySem.W.keepIn K (.ref fO) = true) (mO : mg "_law_of_table" = some (.ref fO)) : FnOk P w K mg base CX0 2 f fd ["graph", "some"] (spWithin K) := by
  refine F.ok scWithin (fun vs H Q E h => ?_) (fun cdv A outer s H vs Q E hr h => ?_)
  · obtain ⟨x, n, es, S, l, rfl, _⟩ := h
    rfl
  obtain ⟨x, n, es, S, l, rfl, hx, g, hS, ln, l9, q⟩ := h
  refine ⟨_, pss_cons (ps_set (i := 2) scWithin.nd rfl (.inr rfl) (pe_call GT hr (by rfl) mT kT bT .nil pass0 (pa_cons (pv 0) pa_nil)))
    (pss_one (ps_ret (pe_call GO hr (by rfl) mO kO bO .nil pass0 (pa_cons (pe_lc (own := [("one", 3)]) (g := gName 3) (tt := tYes) (te := tLc (iList K (tVar 1)) (gName 4) tYes (tOp (rIxL K) (tOp (rIxL K) (tVar 2) (tVar 3)) (tVar 4)) [4]) rfl scWithin.nd (pi_list (pv 1))
        (blkOk_by (N := ["graph", "some", "rows", "one", "two"]) (sc := defScope sWithin) (by decide +kernel)) (fun _ _ _ _ _ => pg_name (i := 3) scWithin.nd rfl (Or.inr rfl)) (fun _ _ _ _ _ => pts_nil)
        (fun _ _ _ _ _ => pe_lc (own := [("two", 4)]) (g := gName 4) (tt := tYes) rfl scWithin.nd (pi_list (pv 1))
          (blkOk_by (N := ["graph", "some", "rows", "one", "two"]) rfl) (fun _ _ _ _ _ => pg_name (i := 4) scWithin.nd rfl (Or.inl rfl)) (fun _ _ _ _ _ => pts_nil) (fun _ _ _ _ _ => pe_ix (r := rIxL K) ix_list (pe_ix (r := rIxL K) ix_list (pv 2) (pv 3) (fun _ _ => rfl)) (pv 4) (fun _ _ => rfl)))) pa_nil)))), ?_⟩
  refine ⟨_, rfl, x, n, es, rfl, hx, g, fun D rs H1 s1 _ T => ?_⟩
  have hS1 := s1 _ _ hS
  refine ⟨_, rfl, S, rfl, ⟨_, SqL.of hS1⟩, fun R nR => lo_it (walk_list (xs := numsN l)) (fun i H2 => Same H1 H2 ∧ ∃ qs : List Addr, qs.length = i ∧ H2 R = some (.lst (qs.map V.ref)) ∧ ∀ k r, qs[k]? = some r → r ≠ R ∧ H2 r = some (.lst (rowV l.length fun j => adjB es (l.getD k 0) (l.getD j 0)))) ⟨same_new nR _, [], rfl, upd_same, fun k r z => by simp at z⟩ (fun i H2 _ ⟨s2, _⟩ => SqL.of (s2 _ _ hS1)) ?_ ?_⟩
  · rintro i y _ H2 li ⟨s2, qs, lq, hR, hqs⟩ ⟨rfl, hy⟩
    obtain ⟨a, ha, rfl⟩ := numsN_get hy
    have an := ln a (List.mem_of_getElem? ha)
    have ea : l.getD i 0 = a := by rw [List.getD_eq_getElem?_getD, ha]; rfl
    have T2 := T.same s2
    obtain ⟨r, hr', hv, row⟩ := T2.get an
    have hS2 := s2 _ _ hS1
    refine ⟨rfl, ?_⟩
    refine ⟨_, rfl, S, rfl, ⟨_, SqL.of hS2⟩, fun B nB => lo_it (walk_list (xs := numsN l)) (fun j H3 => Same H2 H3 ∧ H3 B = some (.lst (rowV j fun j => adjB es (l.getD i 0) (l.getD j 0)))) ⟨same_new nB _, upd_same⟩ (fun j H3 _ ⟨s3, _⟩ => SqL.of (s3 _ _ hS2)) ?_ ?_⟩
    · rintro j z _ H3 lj ⟨s3, hB⟩ ⟨rfl, hz⟩
      obtain ⟨b, hb, rfl⟩ := numsN_get hz
      have bn := ln b (List.mem_of_getElem? hb)
      have eb : l.getD j 0 = b := by rw [List.getD_eq_getElem?_getD, hb]; rfl
      rw [numsN_len] at lj
      refine ⟨rfl, ?_⟩
      refine ⟨_, rfl, _, rfl, D, _, _, _, rfl, rfl, SqL.of (s3 _ _ T2.hd), atI_nat hv, _, rfl, r, _, _, _, rfl, rfl, SqL.of (s3 _ _ row), atI_nat (rowV_get _ bn), _, hB, small1000 (by rw [rowV_len]; omega), same_put s3 nB, ?_⟩
      rw [upd_same, rowV_succ, ea, eb]
    · rintro H3 ⟨s3, hB⟩
      rw [numsN_len] at hB
      have hR3 := s3 _ _ hR
      have BR : B ≠ R := fun z => by rw [z, hR] at nB; cases nB
      rw [numsN_len] at li
      refine ⟨_, hR3, small1000 (by rw [List.length_map]; omega), same_put (s2.trans s3) nR, qs ++ [B], by rw [List.length_append, lq]; rfl, by rw [upd_same, List.map_append]; rfl, fun k u hk => ?_⟩
      by_cases c : k < i
      · rw [List.getElem?_append_left (by omega)] at hk
        obtain ⟨h1, h2⟩ := hqs k u hk
        exact ⟨h1, by rw [upd_ne h1]; exact s3 _ _ h2⟩
      · have : k = i := by
          have := (List.getElem?_eq_some_iff.mp hk).1
          rw [List.length_append, List.length_singleton] at this
          omega
        subst this
        rw [List.getElem?_append_right (by omega), lq, Nat.sub_self] at hk
        cases hk
        exact ⟨BR, by rw [upd_ne BR]; exact hB⟩
  · rintro H2 ⟨s2, qs, lq, hR, hqs⟩
    rw [numsN_len] at lq
    refine ⟨R, l.length, _, qs, rfl, ⟨hR, by omega, fun i r hi => (hqs i r hi).2⟩, l9, fun y H3 s3 hy => q y H3 (s1.trans (s2.trans s3)) hy⟩
end
end My

set_option maxHeartbeats 4000000
/-! range(n) as a value; list(range(n)). -/
namespace My
open PySem PySem.Spec PyProof.Rows L2
section
variable {X : Cx}
def rRng1 : List V → Hp → VK → Prop := fun vs H Q => ∃ j : Int, vs = [V.int j] ∧ ∀ p, H p = none → Q (.ref p) (upd H p (.rng 0 j))
theorem cr_range1 : CallR X (.type "range") rRng1 := by
  intro pins s σ H vs us Q I r h
  obtain ⟨j, rfl, q⟩ := h
  obtain ⟨u1, rfl, t, rfl⟩ := vals1 r
  refine call_range_1 ⟨.ref s.heap.objs.size, upd H s.heap.objs.size (.rng 0 j), I.laid (t' := s.toks + 2) (fun b o e => Heap.get?_push_of_some _ e) (Nat.le_refl _) ?_, rfl, q _ (I.hok.fresh (Nat.le_refl _))⟩
  exact ⟨_, _, _, Heap.get?_push_size _ rfl⟩
def rListRng : List V → Hp → VK → Prop := fun vs H Q => ∃ (a : Addr) (n : Nat), vs = [V.ref a] ∧ H a = some (.rng 0 (n : Int)) ∧ n ≤ 1000 ∧ ∀ p, H p = none → Q (.ref p) (upd H p (.lst (numsN (List.range n))))
theorem call_listRng (hc : X.calm = true) : CallR X (.type "list") rListRng := by
  intro pins s σ H vs us Q I r h
  obtain ⟨a, n, rfl, ha, hn, q⟩ := h
  obtain ⟨u1, rfl, ru⟩ := vals1 r
  obtain rfl : u1 = Value.ref a := ru
  obtain ⟨t1, t2, t3, ho⟩ := I.hok a _ ha
  refine call_list_range (I.ok.hd hc) (n := n) ho (small_one (by decide) (by decide) (by omega) (by omega)) (by rw [rangeSize_one]; split <;> omega) (by omega) fun h' tk acc c' hk e' hi => ?_
  refine ⟨.ref s.heap.objs.size, upd H s.heap.objs.size (.lst (numsN (List.range n))), I.laid hk (Nat.le_refl _) (show ObjOk X.prog X.w _ _ _ (.lst (numsN (List.range n))) from ⟨?_, acc.toList, c', ?_, ?_⟩), rfl, q _ (I.hok.fresh (Nat.le_refl _))⟩
  · rw [numsN_len, List.length_range]; exact small hn
  · have la : acc.toList.length = n := by rw [Array.length_toList]; exact hi.1
    have es : numsN (List.range n) = (List.range acc.toList.length).map fun i => V.int ((i : Nat) : Int) := by
      rw [la]
      rfl
    rw [es]
    refine vals_of_get acc.toList _ fun j u hj => ?_
    obtain ⟨t, rfl⟩ := hi.2 j u (by rw [← hj, Array.getElem?_toList])
    exact ⟨t, by rw [Int.mul_one, Int.zero_add]⟩
  · rw [Array.toArray_toList]
    exact e'
end
end My

set_option maxHeartbeats 4000000
/-! Bipartite multigraphs, in plain Lean and in the heap. -/
namespace My
open PySem PySem.Spec PyProof.Rows L2
structure MulG (l r : Nat) (es : List E2) : Prop where
  l9 : l ≤ 9
  r9 : r ≤ 9
  lt : ∀ p ∈ es, p.1 < l ∧ p.2 < r
  up : es.Pairwise fun a b => ¬ ahead b a
def MulAt (K : PySem.W.Frag) (H : Hp) (x : V) (l r : Nat) (es : List E2) : Prop := ∃ (t e : Addr) (xs : List V), x = .ref t ∧ SqT K H t [.int (l : Int), .int (r : Int), .ref e] ∧ SqT K H e xs ∧ PairsAt K H xs es
def MulT (H : Hp) (x : V) (l r : Nat) (es : List E2) : Prop := ∃ (t e : Addr) (xs : List V), x = .ref t ∧ H t = some (.tup [.int (l : Int), .int (r : Int), .ref e]) ∧ H e = some (.tup xs) ∧ PairsT H xs es
theorem MulT.at {K : PySem.W.Frag} {H : Hp} {x : V} {l r : Nat} {es : List E2} (h : MulT H x l r es) : MulAt K H x l r es := by
  obtain ⟨t, e, xs, h1, h2, h3, h4⟩ := h
  exact ⟨t, e, xs, h1, SqT.of h2, SqT.of h3, h4.at⟩
theorem MulAt.ts {K : PySem.W.Frag} {H H' : Hp} (s : TS H H') {x : V} {l r : Nat} {es : List E2} (h : MulAt K H x l r es) : MulAt K H' x l r es := by
  obtain ⟨t, e, xs, h1, h2, h3, h4⟩ := h
  exact ⟨t, e, xs, h1, s.tup h2, s.tup h3, h4.ts s⟩
theorem MulAt.same {K : PySem.W.Frag} {H H' : Hp} (s : Same H H') {x : V} {l r : Nat} {es : List E2} (h : MulAt K H x l r es) : MulAt K H' x l r es := h.ts (TS.of s)
theorem MulT.but {p : Addr} {H H' : Hp} (b : But p H H') (w : Wl H p) {x : V} {l r : Nat} {es : List E2} (h : MulT H x l r es) : MulT H' x l r es := by
  obtain ⟨t, e, xs, h1, h2, h3, h4⟩ := h
  exact ⟨t, e, xs, h1, b _ _ (wl_tup w h2) h2, b _ _ (wl_tup w h3) h3, h4.but b w⟩
theorem MulT.same {H H' : Hp} (s : Same H H') {x : V} {l r : Nat} {es : List E2} (h : MulT H x l r es) : MulT H' x l r es := by
  obtain ⟨t, e, xs, h1, h2, h3, h4⟩ := h
  exact ⟨t, e, xs, h1, s _ _ h2, s _ _ h3, h4.same s⟩
/-! ### what is a multigraph -/
def intS : Sh → Int
  | .int i => i
  | _ => 0
def mulS (l r : Nat) (es : List E2) : Sh := .tup [.int (l : Int), .int (r : Int), .tup (es.map pairS)]
def leS : Sh → Sh → Bool
  | .tup [.int a, .int b], .tup [.int c, .int d] => if a = c then (if b = d then true else decide (b ≤ d)) else decide (a ≤ c)
  | _, _ => false
def nevB : List Sh → Bool
  | s :: t :: r => leS s t && nevB (t :: r)
  | _ => true
def edgeM (l r : Int) : Sh → Bool
  | .tup [a, b] => wholeR 0 (l - 1) a && wholeR 0 (r - 1) b
  | _ => false
def isMul : Sh → Bool
  | .tup [a, b, .tup es] => (wholeR 0 9 a && wholeR 0 9 b) && (decide (es.length ≤ 9) && (es.all (edgeM (intS a) (intS b)) && nevB es))
  | _ => false
theorem MulAt.sh {K : PySem.W.Frag} {H : Hp} {x : V} {l r : Nat} {es : List E2} (h : MulAt K H x l r es) : ShAt K H x (mulS l r es) := by
  obtain ⟨t, e, xs, rfl, h2, h3, h4⟩ := h
  exact .tup h2 (.cons (.int _) (.cons (.int _) (.cons (.tup h3 h4.sh) .nil)))
theorem sh_mul {K : PySem.W.Frag} {H : Hp} {x : V} {l r : Nat} {es : List E2} (h : ShAt K H x (mulS l r es)) : MulAt K H x l r es := by
  cases h with
  | tup ht r =>
    cases r with
    | cons a r =>
      cases r with
      | cons b r =>
        cases r with
        | cons c r =>
          cases r
          cases a
          cases b
          cases c with
          | tup he re => exact ⟨_, _, _, rfl, ht, he, sh_pairs re⟩
theorem leS_pair (p q : E2) : leS (pairS p) (pairS q) = true ↔ ¬ ahead q p := by
  show (if (p.1 : Int) = (q.1 : Int) then (if (p.2 : Int) = (q.2 : Int) then true else decide ((p.2 : Int) ≤ (q.2 : Int))) else decide ((p.1 : Int) ≤ (q.1 : Int))) = true ↔ _
  unfold ahead
  split
  · split
    · simp; omega
    · rw [decide_eq_true_eq]; omega
  · rw [decide_eq_true_eq]; omega
theorem nev_pairs : ∀ ps : List E2, nevB (ps.map pairS) = true ↔ ps.Pairwise fun a b => ¬ ahead b a
  | [] => ⟨fun _ => .nil, fun _ => rfl⟩
  | [p] => ⟨fun _ => List.pairwise_singleton _ _, fun _ => rfl⟩
  | p :: q :: r => by
    have ih := nev_pairs (q :: r)
    show (leS (pairS p) (pairS q) && nevB ((q :: r).map pairS)) = true ↔ _
    rw [Bool.and_eq_true, leS_pair, ih, List.pairwise_cons (a := p)]
    constructor
    · rintro ⟨h1, h2⟩
      refine ⟨fun z hz => ?_, h2⟩
      rcases List.mem_cons.mp hz with rfl | hz
      · exact h1
      · have h3 := (List.pairwise_cons.mp h2).1 z hz
        unfold ahead at h1 h3 ⊢
        omega
    · rintro ⟨h1, h2⟩
      exact ⟨h1 q (List.mem_cons_self ..), h2⟩
theorem edgeM_pair {l r : Int} {s : Sh} (h : edgeM l r s = true) : ∃ p : E2, s = pairS p ∧ (p.1 : Int) < l ∧ (p.2 : Int) < r := by
  unfold edgeM at h
  split at h
  · rename_i a b
    rw [Bool.and_eq_true] at h
    obtain ⟨h1, h2⟩ := h
    cases a with
    | int i =>
      cases b with
      | int j =>
        have h1' : (decide (i ≥ 0) && decide (i ≤ l - 1)) = true := h1
        have h2' : (decide (j ≥ 0) && decide (j ≤ r - 1)) = true := h2
        simp at h1' h2'
        refine ⟨(i.toNat, j.toNat), ?_, ?_, ?_⟩
        · show Sh.tup [.int i, .int j] = .tup [.int ((i.toNat : Nat) : Int), .int ((j.toNat : Nat) : Int)]
          rw [show ((i.toNat : Nat) : Int) = i by omega, show ((j.toNat : Nat) : Int) = j by omega]
        · show ((i.toNat : Nat) : Int) < l
          omega
        · show ((j.toNat : Nat) : Int) < r
          omega
      | _ => cases h2
    | _ => cases h1
  · cases h
theorem edgesM_pairs {l r : Int} : ∀ {es : List Sh}, es.all (edgeM l r) = true → ∃ ps : List E2, es = ps.map pairS ∧ ∀ p ∈ ps, (p.1 : Int) < l ∧ (p.2 : Int) < r
  | [], _ => ⟨[], rfl, fun _ z => nomatch z⟩
  | s :: es, h => by
    rw [List.all_cons, Bool.and_eq_true] at h
    obtain ⟨p, e, lt⟩ := edgeM_pair h.1
    obtain ⟨ps, e2, lts⟩ := edgesM_pairs h.2
    refine ⟨p :: ps, by rw [e, e2]; rfl, fun q hq => ?_⟩
    rcases List.mem_cons.mp hq with rfl | hq
    · exact lt
    · exact lts q hq
theorem whole9 {s : Sh} (h : wholeR 0 9 s = true) : ∃ n : Nat, s = .int (n : Int) ∧ n ≤ 9 := by
  cases s with
  | int i =>
    have h' : (decide (i ≥ 0) && decide (i ≤ 9)) = true := h
    simp at h'
    refine ⟨i.toNat, by rw [show ((i.toNat : Nat) : Int) = i by omega], by omega⟩
  | _ => cases h
theorem isMul_spec {s : Sh} (h : isMul s = true) : ∃ l r es, s = mulS l r es ∧ MulG l r es ∧ es.length ≤ 9 := by
  unfold isMul at h
  split at h
  · rename_i a b es
    rw [Bool.and_eq_true, Bool.and_eq_true, Bool.and_eq_true, Bool.and_eq_true, decide_eq_true_eq] at h
    obtain ⟨⟨h1, h2⟩, h3, h4, h5⟩ := h
    obtain ⟨l, rfl, l9⟩ := whole9 h1
    obtain ⟨r, rfl, r9⟩ := whole9 h2
    obtain ⟨ps, rfl, lt⟩ := edgesM_pairs h4
    have lt' : ∀ p ∈ ps, (p.1 : Int) < (l : Int) ∧ (p.2 : Int) < (r : Int) := lt
    exact ⟨l, r, ps, rfl, ⟨l9, r9, fun p hp => by have := lt' p hp; omega, (nev_pairs ps).mp h5⟩, by rw [List.length_map] at h3; exact h3⟩
  · cases h
theorem isMul_good {l r : Nat} {es : List E2} (g : MulG l r es) (e9 : es.length ≤ 9) : isMul (mulS l r es) = true := by
  have l9 := g.l9
  have r9 := g.r9
  show ((wholeR 0 9 (.int (l : Int)) && wholeR 0 9 (.int (r : Int))) && (decide ((es.map pairS).length ≤ 9) && ((es.map pairS).all (edgeM (l : Int) (r : Int)) && nevB (es.map pairS)))) = true
  have w : ∀ n : Nat, n ≤ 9 → wholeR 0 9 (.int (n : Int)) = true := fun n h => by
    show (decide ((n : Int) ≥ 0) && decide ((n : Int) ≤ 9)) = true
    simp
    omega
  rw [w l l9, w r r9, (nev_pairs es).mpr g.up, decide_eq_true (by rw [List.length_map]; exact e9)]
  simp only [Bool.and_true, Bool.true_and]
  rw [List.all_eq_true]
  intro s hs
  obtain ⟨p, hp, rfl⟩ := List.mem_map.mp hs
  obtain ⟨a, b⟩ := g.lt p hp
  show ((decide ((p.1 : Int) ≥ 0) && decide ((p.1 : Int) ≤ (l : Int) - 1)) && (decide ((p.2 : Int) ≥ 0) && decide ((p.2 : Int) ≤ (r : Int) - 1))) = true
  simp
  omega
/-! ### edges at a vertex, degrees, the line graph -/
def sd (i : Nat) (p : E2) : Nat := if i = 0 then p.1 else p.2
def eAt (es : List E2) (k : Nat) : E2 := es.getD k (0, 0)
theorem eAt_get {es : List E2} {k : Nat} (h : k < es.length) : es[k]? = some (eAt es k) := by
  unfold eAt
  rw [List.getD_eq_getElem?_getD, List.getElem?_eq_getElem h]
  rfl
def atL (es : List E2) (i v : Nat) : List Nat := (List.range es.length).filter fun k => sd i (eAt es k) == v
def degL (l r : Nat) (es : List E2) : List Nat := [0] ++ (List.range l).map (fun v => (atL es 0 v).length) ++ (List.range r).map fun v => (atL es 1 v).length
def meetB (es : List E2) (u v : Nat) : Bool := (eAt es u).1 == (eAt es v).1 || (eAt es u).2 == (eAt es v).2
def lineP (es : List E2) : List E2 := (allP es.length).filter fun p => meetB es p.1 p.2
theorem atL_few (es : List E2) (i v : Nat) : (atL es i v).length ≤ es.length := by
  unfold atL
  refine Nat.le_trans (List.length_filter_le _ _) ?_
  rw [List.length_range]
  exact Nat.le_refl _
theorem degL_few {l r : Nat} {es : List E2} : ∀ d ∈ degL l r es, d ≤ es.length := fun d hd => by
  unfold degL at hd
  rcases List.mem_append.mp hd with hd | hd
  · rcases List.mem_append.mp hd with hd | hd
    · rw [List.mem_singleton.mp hd]; exact Nat.zero_le _
    · obtain ⟨v, _, rfl⟩ := List.mem_map.mp hd
      exact atL_few es 0 v
  · obtain ⟨v, _, rfl⟩ := List.mem_map.mp hd
    exact atL_few es 1 v
def IsMax (ns : List Nat) (m : Nat) : Prop := m ∈ ns ∧ ∀ y ∈ ns, y ≤ m
theorem IsMax.uniq {ns : List Nat} {m m' : Nat} (h : IsMax ns m) (h' : IsMax ns m') : m = m' := Nat.le_antisymm (h'.2 _ h.1) (h.2 _ h'.1)
theorem line_good {es : List E2} (h : es.length ≤ 9) : Good es.length (lineP es) := by
  refine ⟨h, fun p hp => mem_allP.mp (List.mem_filter.mp hp).1, (allP_up es.length h).filter _⟩
theorem mem_lineP {es : List E2} {u v : Nat} : (u, v) ∈ lineP es ↔ u < v ∧ v < es.length ∧ meetB es u v = true := by
  unfold lineP
  rw [List.mem_filter, mem_allP]
  exact and_assoc
end My

set_option maxHeartbeats 4000000
/-! Orientations: lists of pairs of numbers of any kind. -/
namespace My
open PySem PySem.Spec PyProof.Rows L2
abbrev Z2 := Int × Int
def zS (p : Z2) : Sh := .tup [.int p.1, .int p.2]
def zE (p : E2) : Z2 := ((p.1 : Int), (p.2 : Int))
def zw (p : Z2) : Z2 := (p.2, p.1)
def zD (p : Z2) : PyData := .tuple [.int p.1, .int p.2]
/-- s is an orientation of es -/
def Ori (es : List E2) (s : Sh) : Prop := ∃ ps : List Z2, s = .tup (ps.map zS) ∧ ascB (ps.map zS) = true ∧ (∀ p ∈ ps, p ∈ es.map zE ∨ zw p ∈ es.map zE) ∧ ∀ e ∈ es.map zE, e ∈ ps ∨ zw e ∈ ps
open Classical in
noncomputable def oriB (es : List E2) (s : Sh) : Bool := decide (Ori es s)
theorem ori_yes {es : List E2} {s : Sh} (h : Ori es s) : oriB es s = true := @decide_eq_true _ (Classical.propDecidable _) h
theorem ori_no {es : List E2} {s : Sh} (h : ¬ Ori es s) : oriB es s = false := @decide_eq_false _ (Classical.propDecidable _) h
theorem zS_inj {p q : Z2} (h : zS p = zS q) : p = q := by
  unfold zS at h
  injection h with h
  injection h with h1 h
  injection h with h2 _
  injection h1 with h1
  injection h2 with h2
  exact Prod.ext h1 h2
theorem zSs_inj : ∀ {ps qs : List Z2}, ps.map zS = qs.map zS → ps = qs
  | [], [], _ => rfl
  | [], _ :: _, h => by cases h
  | _ :: _, [], h => by cases h
  | p :: ps, q :: qs, h => by
    rw [List.map_cons, List.map_cons] at h
    injection h with h1 h2
    rw [zS_inj h1, zSs_inj h2]
theorem ori_iff {es : List E2} {ps : List Z2} : Ori es (.tup (ps.map zS)) ↔ ascB (ps.map zS) = true ∧ (∀ p ∈ ps, p ∈ es.map zE ∨ zw p ∈ es.map zE) ∧ ∀ e ∈ es.map zE, e ∈ ps ∨ zw e ∈ ps := by
  constructor
  · rintro ⟨qs, e, h⟩
    injection e with e
    rw [zSs_inj e]
    exact h
  · exact fun h => ⟨ps, rfl, h⟩
def isZ : Sh → Bool
  | .tup [.int _, .int _] => true
  | _ => false
theorem isZ_of {s : Sh} (h : isZ s = true) : ∃ p, s = zS p := by
  unfold isZ at h
  split at h
  · exact ⟨(_, _), rfl⟩
  · cases h
theorem isZs : ∀ {ss : List Sh}, ss.all isZ = true → ∃ ps : List Z2, ss = ps.map zS
  | [], _ => ⟨[], rfl⟩
  | s :: ss, h => by
    rw [List.all_cons, Bool.and_eq_true] at h
    obtain ⟨p, rfl⟩ := isZ_of h.1
    obtain ⟨ps, rfl⟩ := isZs h.2
    exact ⟨p :: ps, rfl⟩
theorem isZ_zS (p : Z2) : isZ (zS p) = true := rfl
theorem all_isZ (ps : List Z2) : (ps.map zS).all isZ = true := by
  rw [List.all_eq_true]
  intro s hs
  obtain ⟨p, _, rfl⟩ := List.mem_map.mp hs
  rfl
theorem ori_not {es : List E2} {ss : List Sh} (h : ss.all isZ = false) : ¬ Ori es (.tup ss) := by
  rintro ⟨ps, e, _⟩
  injection e with e
  rw [e, all_isZ] at h
  cases h
theorem zS_at {K : PySem.W.Frag} {H : Hp} {x : V} {p : Z2} (h : ShAt K H x (zS p)) : ∃ t, x = .ref t ∧ SqT K H t [.int p.1, .int p.2] := by
  cases h with
  | tup h r =>
    cases r with
    | cons a r =>
      cases r with
      | cons b r =>
        cases r
        cases a
        cases b
        exact ⟨_, rfl, h⟩
theorem at_zS {K : PySem.W.Frag} {H : Hp} {t : Addr} {p : Z2} (h : SqT K H t [.int p.1, .int p.2]) : ShAt K H (.ref t) (zS p) := .tup h (.cons (.int _) (.cons (.int _) .nil))
theorem zS_dp {K : PySem.W.Frag} {H : Hp} {x : V} {p : Z2} (h : ShAt K H x (zS p)) : Dp K H x (zD p) := by
  obtain ⟨t, rfl, ht⟩ := zS_at h
  exact .tup ht (.cons (.int _) (.cons (.int _) .nil))
theorem zSs_dp {K : PySem.W.Frag} {H : Hp} : ∀ {xs : List V} {ps : List Z2}, ShsAt K H xs (ps.map zS) → DpAll K H xs (ps.map zD)
  | [], [], _ => .nil
  | _ :: _, [], h => by cases h
  | [], _ :: _, h => by cases h
  | x :: xs, p :: ps, h => by
    rw [List.map_cons] at h
    cases h with
    | cons a r => exact .cons (zS_dp a) (zSs_dp r)
theorem zSs_get {K : PySem.W.Frag} {H : Hp} {xs : List V} {ps : List Z2} (h : ShsAt K H xs (ps.map zS)) {i : Nat} {x : V} (hx : xs[i]? = some x) : ∃ p t, ps[i]? = some p ∧ x = .ref t ∧ SqT K H t [.int p.1, .int p.2] := by
  obtain ⟨s, h1, h2⟩ := h.get hx
  rw [List.getElem?_map] at h1
  cases e : ps[i]? with
  | none => rw [e] at h1; cases h1
  | some p =>
    rw [e] at h1
    cases h1
    obtain ⟨t, h3, h4⟩ := zS_at h2
    exact ⟨p, t, rfl, h3, h4⟩
theorem zD_eqv (p q : Z2) : PyData.eqv (zD p) (zD q) = decide (p = q) := by
  obtain ⟨a, b⟩ := p
  obtain ⟨c, d⟩ := q
  simp only [zD, PyData.eqv, PyData.eqvAll, Bool.and_true]
  by_cases h1 : a = c
  · subst h1
    by_cases h2 : b = d
    · subst h2
      simp
    · have z : (b == d) = false := beq_eq_false_iff_ne.mpr h2
      simp [z, h2]
  · have z : (a == c) = false := beq_eq_false_iff_ne.mpr h1
    simp [z, h1]
theorem any_zs (p : Z2) : ∀ es : List Z2, ((es.map zD).any fun z => PyData.eqv z (zD p)) = decide (p ∈ es)
  | [] => rfl
  | q :: es => by
    rw [List.map_cons, List.any_cons, any_zs p es, zD_eqv]
    by_cases h : q = p
    · subst h
      simp
    · have h' : p ≠ q := fun e => h e.symm
      simp [h, h']
theorem zD_depth (p : Z2) : (zD p).depth ≤ 3 := by simp [zD, PyData.depth, PyData.depthAll]
theorem zDs_depth : ∀ es : List Z2, PyData.depthAll (es.map zD) ≤ 3
  | [] => by simp [PyData.depthAll]
  | q :: es => by
    have h1 := zD_depth q
    have h2 := zDs_depth es
    simp only [List.map_cons, PyData.depthAll]
    omega
theorem zD_lay (p : Z2) : (zD p).canLay0 = true := by simp [zD, PyData.canLay0, PyData.canLayAll0]
theorem zDs_lay : ∀ es : List Z2, PyData.canLayAll0 (es.map zD) = true
  | [] => by simp [PyData.canLayAll0]
  | q :: es => by simp [PyData.canLayAll0, zD_lay q, zDs_lay es]
theorem pairs_zs {K : PySem.W.Frag} {H : Hp} {xs : List V} {es : List E2} (h : PairsAt K H xs es) : ShsAt K H xs ((es.map zE).map zS) := by
  have := h.sh
  rw [List.map_map]
  exact this
section
variable {X : Cx}
def rInZ (K : PySem.W.Frag) : R2 := fun x y H Q => ∃ (p : Z2) (t : Addr) (xs : List V) (es : List Z2), ShAt K H x (zS p) ∧ y = .ref t ∧ SqT K H t xs ∧ ShsAt K H xs (es.map zS) ∧ Q (.bl (decide (p ∈ es))) H
theorem op_inZ (hu : X.A.units + 64 < cLine) : OpR X (compareOp .In) (rInZ X.K) := by
  rintro pins s σ H x y v u Q I rx ry ⟨p, t, xs, es, hp, rfl, ht, hes, q⟩
  obtain ⟨as, r1⟩ := Dp.reads I _ x v (zS_dp hp) rx
  obtain ⟨bs, r2⟩ := Dp.reads I (.tuple (es.map zD)) (.ref t) u (.tup ht (zSs_dp hes)) ry
  refine SeqAt.in_tuple_reads r2 r1 (zDs_lay es) (zD_lay p) ?_ ?_
  · have := zD_depth p
    have := Nat.min_le_right (PyData.depthAll (es.map zD)) (zD p).depth
    omega
  · rw [any_zs]
    exact ⟨.bl _, H, I, rfl, q⟩
theorem pe_revK {K : PySem.W.Frag} {e : Expr} {te : TE} {k : Nat} {p1 p2 p3 pos : Pos} (he : PE X e te) (hK : X.K = K := by rfl) : PE X (.Subscript e (.Slice none none (some (.UnaryOp .USub (.Constant (.int 1) k p1) p2)) p3) pos) (tRevT K te) := by
  subst hK
  exact pe_revT he
/-- isinstance in a comprehension -/
theorem call_isiG {K : PySem.W.Frag} (hK : X.K = K := by rfl) : CallR X (.builtin "isinstance") (rIsi K) := by
  subst hK
  exact call_isi
end
theorem push_bl {f : Sh → Bool} {ss : List Sh} {i : Nat} {t : Sh} (ht : ss[i]? = some t) : ((ss.take (i + 1)).map f).map V.bl = ((ss.take i).map f).map V.bl ++ [.bl (f t)] := by
  rw [take_succ ht, List.map_append, List.map_append]
  rfl
theorem all_id {α : Type} (f : α → Bool) (l : List α) : (l.map f).all id = l.all f := by
  rw [List.all_map]
  rfl
/-- len, in a comprehension -/
def rLenZ (K : PySem.W.Frag) : List V → Hp → VK → Prop := fun xs H Q => ∃ p ys, xs = [V.ref p] ∧ (SqL K H p ys ∨ SqT K H p ys) ∧ Q (V.int ((ys.length : Nat) : Int)) H
/-! ### by what the program asks -/
theorem zE_inj {p q : E2} (h : zE p = zE q) : p = q := by
  have h1 := congrArg Prod.fst h
  have h2 := congrArg Prod.snd h
  exact Prod.ext (Int.ofNat.inj h1) (Int.ofNat.inj h2)
theorem mem_zE {p : E2} {es : List E2} : zE p ∈ es.map zE ↔ p ∈ es := by
  rw [List.mem_map]
  exact ⟨fun ⟨q, h, e⟩ => by rw [← zE_inj e]; exact h, fun h => ⟨p, h, rfl⟩⟩
def ordP (p : E2) : E2 := (min p.1 p.2, max p.1 p.2)
theorem ord_mem {n : Nat} {es : List E2} (g : Good n es) (p : E2) : ordP p ∈ es ↔ (p ∈ es ∨ (p.2, p.1) ∈ es) := by
  obtain ⟨a, b⟩ := p
  unfold ordP
  dsimp only
  by_cases h : a ≤ b
  · rw [Nat.min_eq_left h, Nat.max_eq_right h]
    constructor
    · exact .inl
    · rintro (z | z)
      · exact z
      · have := (g.lt _ z).1
        dsimp only at this
        omega
  · rw [Nat.min_eq_right (by omega), Nat.max_eq_left (by omega)]
    constructor
    · exact .inr
    · rintro (z | z)
      · have := (g.lt _ z).1
        dsimp only at this
        omega
      · exact z
theorem ord_is {n : Nat} {es : List E2} (g : Good n es) {p e : E2} (he : e ∈ es) : ordP p = e ↔ (p = e ∨ p = (e.2, e.1)) := by
  have l := (g.lt _ he).1
  obtain ⟨a, b⟩ := p
  obtain ⟨c, d⟩ := e
  dsimp only at l
  unfold ordP
  simp only [Prod.mk.injEq]
  omega
/-- the sides that lie in ps, in order, are all of es -/
theorem ori_pairs {n : Nat} {es : List E2} (g : Good n es) {ps ws : List E2} (up : ws.Pairwise ahead) (mw : ∀ q, q ∈ ws ↔ q ∈ ps.map ordP) : Ori es (.tup (ps.map pairS)) ↔ ascB (ps.map pairS) = true ∧ ws = es := by
  have e : ps.map pairS = (ps.map zE).map zS := by rw [List.map_map]; rfl
  rw [e, ori_iff]
  refine and_congr Iff.rfl ?_
  constructor
  · rintro ⟨h1, h2⟩
    refine eq_of_up up g.up fun q => ?_
    rw [mw, List.mem_map]
    constructor
    · rintro ⟨p, hp, rfl⟩
      rw [ord_mem g]
      rcases h1 (zE p) (mem_zE.mpr hp) with z | z
      · exact .inl (mem_zE.mp z)
      · exact .inr ((mem_zE (p := (p.2, p.1))).mp z)
    · intro hq
      rcases h2 (zE q) (mem_zE.mpr hq) with z | z
      · exact ⟨q, mem_zE.mp z, (ord_is g hq).mpr (.inl rfl)⟩
      · exact ⟨(q.2, q.1), (mem_zE (p := (q.2, q.1))).mp z, (ord_is g hq).mpr (.inr rfl)⟩
  · rintro rfl
    refine ⟨fun z hz => ?_, fun z hz => ?_⟩
    · obtain ⟨p, hp, rfl⟩ := List.mem_map.mp hz
      have := (mw (ordP p)).mpr (List.mem_map.mpr ⟨p, hp, rfl⟩)
      rw [ord_mem g] at this
      rcases this with h | h
      · exact .inl (mem_zE.mpr h)
      · exact .inr ((mem_zE (p := (p.2, p.1))).mpr h)
    · obtain ⟨q, hq, rfl⟩ := List.mem_map.mp hz
      obtain ⟨p, hp, e⟩ := List.mem_map.mp ((mw q).mp hq)
      rcases (ord_is g hq).mp e with rfl | rfl
      · exact .inl (mem_zE.mpr hp)
      · exact .inr (mem_zE.mpr hp)
def spLOr (K : PySem.W.Frag) : Sp := fun vs H Q _ => ∃ (x v : V) (n : Nat) (es : List E2) (s : Sh), vs = [x, v] ∧ GraphAt K H x n es ∧ Good n es ∧ ShAt K H v s ∧ Lb s ∧ ∀ H', Same H H' → Q (.bl (oriB es s)) H'
end My

set_option maxHeartbeats 8000000
namespace My
open PySem PySem.Spec PyProof.Rows L2
abbrev sLWh : Stmt := top 32
theorem scLWh : FnScope ["value"] ["value"] (defScope sLWh) := ⟨rfl, rfl, rfl, by decide +kernel, rfl, by decide +kernel, by decide +kernel⟩
def isWh : Sh → Bool
  | .int _ => true
  | _ => false
def spLWh (K : PySem.W.Frag) : Sp := fun vs H Q _ => ∃ (v : V) (s : Sh), vs = [v] ∧ ShAt K H v s ∧ Q (.bl (isWh s)) H
section
variable {P : Program} {w : World} {K : PySem.W.Frag} {mg : Str → Option Value} {base : Heap} {f fD fK : Addr} {fd dD dK : FuncData}
theorem ok_lwh (F : L2.Fun K "_law_is_whole" "_law_is_whole" sLWh f fd) (mi : mg "isinstance" = none) (mn : mg "int" = none) (mb : mg "bool" = none) : FnOk P w K mg base CX0 1 f fd ["value"] (spLWh K) := by
  refine F.ok scLWh (fun vs H Q E h => ?_) (fun cdv A outer s H vs Q E hr h => ?_)
  · obtain ⟨v, s, rfl, _⟩ := h
    rfl
  obtain ⟨v, s, rfl, hv, q⟩ := h
  refine ⟨_, pss_one (ps_ret (pe_and (pe_callB call_isi (by rfl) mi (by decide +kernel) (pa_cons (pv 0) (pa_cons (pe_bltn (v := .ty "int") (by rfl) mn (by decide +kernel) rfl) pa_nil))) (pe_one (pe_not (pe_callB call_isi (by rfl) mi (by decide +kernel) (pa_cons (pv 0) (pa_cons (pe_bltn (v := .ty "bool") (by rfl) mb (by decide +kernel) rfl) pa_nil))))))), ?_⟩
  obtain ⟨tt, tx, k1, k2, k3⟩ := isi_of hv
  refine ⟨_, rfl, v, .ty "int", tt, .type "int", isInt s, rfl, .ty _, tx, k2, _, rfl, ?_⟩
  refine iteB (fun c => ?_) (fun c => ?_)
  · refine ⟨_, rfl, v, .ty "bool", tt, .type "bool", isBool s, rfl, .ty _, tx, k3, _, rfl, ?_⟩
    cases s with
    | int i => exact q
    | bool b => exact q
    | _ => cases c
  · cases s with
    | int i => cases c
    | bool b => cases c
    | _ => exact q
end
end My

set_option maxHeartbeats 8000000
namespace My
open PySem PySem.Spec PyProof.Rows L2
abbrev sLLot : Stmt := top 33
theorem scLLot : FnScope ["value", "many", "each", "k"] ["value", "many"] (defScope sLLot) := ⟨rfl, rfl, rfl, by decide +kernel, rfl, by decide +kernel, by decide +kernel⟩
theorem wholeR_lt (n i : Int) : wholeR 0 (n - 1) (.int i) = (decide (0 ≤ i) && decide (i < n)) := by
  show (decide (i ≥ 0) && decide (i ≤ n - 1)) = _
  congr 1
  exact decide_eq_decide.mpr (by omega)
/-- [f(xs[k], xs[k + 1]) for k ..] -/
theorem zip_take {f : Sh → Sh → Bool} {ss : List Sh} {k : Nat} {a b : Sh} (ha : ss[k]? = some a) (hb : ss[k + 1]? = some b) : (List.zipWith f ss (ss.drop 1))[k]? = some (f a b) := by
  rw [List.getElem?_zipWith, ha, List.getElem?_drop, Nat.add_comm, hb]
/-- a lot of numbers below m -/
def lotB (m : Int) : Sh → Bool
  | .tup ss => ss.all (wholeR 0 (m - 1)) && ascB ss
  | _ => false
def spLLot (K : PySem.W.Frag) : Sp := fun vs H Q _ => ∃ (v : V) (s : Sh) (m : Int), vs = [v, .int m] ∧ ShAt K H v s ∧ Lb s ∧ ∀ H', Same H H' → Q (.bl (lotB m s)) H'
section
variable {P : Program} {w : World} {K : PySem.W.Frag} {mg : Str → Option Value} {base : Heap} {f fW fA fC fL : Addr} {fd dW dA dC dL : FuncData}
theorem ok_llot (F : L2.Fun K "_law_is_lot" "_law_is_lot" sLLot f fd) (GW : FnOk P w K mg base CX0 1 fW dW ["value"] (spLWh K)) (bW : L2.Binds K dW ["value"] []) (kW : PySem.W.keepIn K (.ref fW) = true) (mW : mg "_law_is_whole" = some (.ref fW))
    (mi : mg "isinstance" = none) (mt : mg "tuple" = none) (ml : mg "len" = none) (mr : mg "range" = none) (ma : mg "all" = none) : FnOk P w K mg base CX0 2 f fd ["value", "many"] (spLLot K) := by
  refine F.ok scLLot (fun vs H Q E h => ?_) (fun cdv A outer s0 H vs Q E hr h => ?_)
  · obtain ⟨v, s, m, rfl, _⟩ := h
    rfl
  obtain ⟨v, s, m, rfl, hv, lb, q⟩ := h
  refine ⟨_, pss_cons (ps_if (PW.pt (pw_or (pt_not (pt_val (pe_callB call_isi (by rfl) mi (by decide +kernel) (pa_cons (pv 0) (pa_cons (pe_bltn (v := .ty "tuple") (by rfl) mt (by decide +kernel) rfl) pa_nil)))))
        (pw_or1 (pt_not (pt_val (pe_callB (cr_all rfl) (by rfl) ma (by decide +kernel) (pa_cons (pe_lc (own := [("each", 2)]) (g := gName 2) (tt := tYes) rfl scLLot.nd (pi_tup (pv 0))
          (blkOk_by (N := ["value", "many", "each", "k"]) (sc := defScope sLLot) (by decide +kernel)) (fun _ _ _ _ _ => pg_name (i := 2) scLLot.nd rfl (Or.inl rfl)) (fun _ _ _ _ _ => pts_nil)
          (fun _ _ _ _ _ => pe_and (pe_call GW hr (by rfl) mW kW bW .nil pass0 (pa_cons (pv 2) pa_nil)) (pe_one (pe_chain op_le op_lt pe_int (pv 2) (pv 1))))) pa_nil))))))) (pss_one (ps_ret pe_bl)) pss_nil)
    (pss_one (ps_ret (pe_callB (cr_all rfl) (by rfl) ma (by decide +kernel) (pa_cons (pe_lc (own := [("k", 3)]) (g := gName 3) (tt := tYes) rfl scLLot.nd (pi_range1 rfl mr (pa_cons (pe_op op_sub (pe_callB call_len_seq (by rfl) ml PySem.boot_len (pa_cons (pv 0) pa_nil)) pe_int) pa_nil))
          (blkOk_by (N := ["value", "many", "each", "k"]) (sc := defScope sLLot) (by decide +kernel)) (fun _ _ _ _ _ => pg_name (i := 3) scLLot.nd rfl (Or.inl rfl)) (fun _ _ _ _ _ => pts_nil)
          (fun _ _ _ _ _ => pe_cmpR op_lt (pe_ix (r := rIxT K) ix_tup (pv 0) (pv 3) (fun _ _ => rfl)) (pe_ix (r := rIxT K) ix_tup (pv 0) (pe_op op_add (pv 3) pe_int) (fun _ _ => rfl)) (nomark _))) pa_nil)))), ?_⟩
  have qn : ∀ H', Same H H' → lotB m s = false → Q (.bl false) H' := fun H' s' c => by
    have := q H' s'
    rw [c] at this
    exact this
  obtain ⟨tt, tx, k1, _, _⟩ := isi_of hv
  refine ⟨_, rfl, v, .ty "tuple", tt, .type "tuple", isTup s, rfl, .ty _, tx, k1, _, rfl, ?_⟩
  refine iteB (fun c0 => iteT (qn H (Same.refl H) ?_)) (fun c0 => ?_)
  · cases s with
    | tup ss => cases c0
    | _ => rfl
  obtain ⟨ss, rfl⟩ : ∃ ss, s = .tup ss := by
    cases s with
    | tup ss => exact ⟨ss, rfl⟩
    | _ => cases c0
  clear c0
  have l9 : ss.length ≤ 900 := by cases lb; assumption
  cases hv with
  | @tup u xs _ hu r =>
  have lx := r.len
  have eq0 : lotB m (.tup ss) = (ss.all (wholeR 0 (m - 1)) && ascB ss) := rfl
  refine ⟨_, rfl, u, rfl, ⟨_, hu⟩, fun D nD => lo_it (walk_tup (xs := xs)) (fun i H2 => Same H H2 ∧ H2 D = some (.lst (((ss.take i).map (wholeR 0 (m - 1))).map V.bl))) ⟨same_new nD _, upd_same⟩ (fun i H2 _ ⟨s2, _⟩ => Same.tup s2 hu) ?_ ?_⟩
  · rintro i y _ H2 li ⟨s2, hD⟩ ⟨rfl, hy⟩
    obtain ⟨z, hz, st⟩ := (r.same s2).get hy
    have fin : ∀ b, b = wholeR 0 (m - 1) z → Same H (upd H2 D (.lst (((ss.take i).map (wholeR 0 (m - 1))).map V.bl ++ [.bl b]))) ∧ upd H2 D (.lst (((ss.take i).map (wholeR 0 (m - 1))).map V.bl ++ [.bl b])) D = some (.lst (((ss.take (i + 1)).map (wholeR 0 (m - 1))).map V.bl)) := fun b e => by
      refine ⟨same_put s2 nD, ?_⟩
      rw [upd_same, push_bl hz, e]
    have ln : (((ss.take i).map (wholeR 0 (m - 1))).map V.bl).length < sizeLine := small1000 (by rw [List.length_map, List.length_map, List.length_take]; omega)
    refine ⟨rfl, ?_⟩
    refine ⟨_, rfl, y, z, rfl, st, _, rfl, iteB (fun c1 => ?_) (fun c1 => ⟨_, hD, ln, fin _ ?_⟩)⟩
    rotate_left 1
    · cases z with
      | int i => cases c1
      | _ => rfl
    obtain ⟨k, rfl⟩ : ∃ k, z = .int k := by
      cases z with
      | int k => exact ⟨k, rfl⟩
      | _ => cases c1
    cases st
    have wl := wholeR_lt m k
    refine ⟨_, rfl, _, _, rfl, rfl, _, rfl, iteB (fun c2 => ?_) (fun c2 => ⟨_, hD, ln, fin _ ?_⟩)⟩
    rotate_left 1
    · rw [wl, c2]
      rfl
    refine ⟨_, rfl, _, _, rfl, rfl, _, hD, ln, fin _ ?_⟩
    rw [wl, c2, Bool.true_and]
  rintro H2 ⟨s2, hD⟩
  rw [lx, List.take_length] at hD
  refine ⟨D, _, rfl, SqL.of hD, _, rfl, ?_⟩
  rw [all_id]
  refine iteB (fun c1 => qn H2 s2 ?_) (fun c1 => ?_)
  · have c2 : ss.all (wholeR 0 (m - 1)) = false := by simpa using c1
    rw [eq0, c2, Bool.false_and]
  have al : ss.all (wholeR 0 (m - 1)) = true := by simpa using c1
  have num : ∀ t ∈ ss, ∃ k, t = .int k := fun t ht => by
    have := List.all_eq_true.mp al t ht
    cases t with
    | int k => exact ⟨k, rfl⟩
    | _ => cases this
  rw [eq0, al, Bool.true_and] at q
  clear hD nD D c1
  have hu2 := Same.tup s2 hu
  have r2 := r.same s2
  have lw : (List.zipWith ltS ss (ss.drop 1)).length = ss.length - 1 := by rw [List.length_zipWith, List.length_drop]; omega
  have ej : (((xs.length : Nat) : Int) - 1).toNat = ss.length - 1 := by omega
  refine ⟨_, rfl, u, xs, rfl, .inr hu2, _, _, rfl, rfl, _, rfl, by omega, by omega, fun D nD => lc_range (lo := 0) (n := (((xs.length : Nat) : Int) - 1).toNat) (fun j H3 => Same H2 H3 ∧ H3 D = some (.lst (((List.zipWith ltS ss (ss.drop 1)).take j).map V.bl))) ⟨same_new nD _, upd_same⟩ ?_ ?_⟩
  · rintro j H3 lj ⟨s3, hD⟩
    rw [Int.zero_add]
    have j1 : j < xs.length := by omega
    have j2 : j + 1 < xs.length := by omega
    obtain ⟨t1, h1, r1⟩ := r2.get (List.getElem?_eq_getElem j1)
    obtain ⟨t2, h2, r2'⟩ := r2.get (List.getElem?_eq_getElem j2)
    obtain ⟨a, rfl⟩ := num t1 (List.mem_of_getElem? h1)
    obtain ⟨b, rfl⟩ := num t2 (List.mem_of_getElem? h2)
    have g1 : xs[j]? = some (.int a) := by
      rw [List.getElem?_eq_getElem j1]
      generalize xs[j] = y1 at r1
      cases r1
      rfl
    have g2 : xs[j + 1]? = some (.int b) := by
      rw [List.getElem?_eq_getElem j2]
      generalize xs[j + 1] = y1 at r2'
      cases r2'
      rfl
    have zt : (List.zipWith ltS ss (ss.drop 1))[j]? = some (ltS (.int a) (.int b)) := by
      rw [List.getElem?_zipWith, h1, List.getElem?_drop, Nat.add_comm, h2]
    refine ⟨rfl, ?_⟩
    refine ⟨_, rfl, _, rfl, u, xs, _, _, rfl, rfl, Same.tup s3 hu2, atI_nat g1, _, rfl, _, rfl, _, _, rfl, rfl, u, xs, _, _, rfl, rfl, Same.tup s3 hu2, atI_nat (j := j + 1) g2, _, _, rfl, rfl, _, hD, small1000 (by rw [List.length_map, List.length_take]; omega), same_put s3 nD, ?_⟩
    rw [upd_same, take_succ zt, List.map_append]
    rfl
  rintro H3 ⟨s3, hD⟩
  rw [ej, ← lw, List.take_length] at hD
  refine ⟨D, _, rfl, SqL.of hD, ?_⟩
  rw [asc_zip]
  exact q H3 (s2.trans s3)
end
end My

set_option maxHeartbeats 2000000
/-! list(text); a, *b = list. -/
namespace My
open PySem PySem.Spec PyProof.Rows L2
def sgnsOf (z : Str) : List V := z.cps.toList.map fun c => V.str ⟨#[c]⟩
section
variable {X : Cx}
def rListT : List V → Hp → VK → Prop := fun xs H Q => ∃ z : Str, xs = [.str z] ∧ z.cps.size ≤ sizeLine ∧ ∀ l, H l = none → Q (.ref l) (upd H l (.lst (sgnsOf z)))
theorem call_listT (hc : X.calm = true) : CallR X (.type "list") rListT := by
  rintro pins s σ H xs us Q I r ⟨z, rfl, hz, q⟩
  obtain ⟨u, rfl, t, rfl⟩ := vals1 r
  refine call_list_str (I.ok.hd hc) z t (hn := hz) fun h' tk acc c' hk e' hi => ?_
  refine ⟨.ref s.heap.objs.size, upd H s.heap.objs.size (.lst (sgnsOf z)), I.laid hk (Nat.le_refl _) (show ObjOk X.prog X.w _ _ _ (.lst (sgnsOf z)) from ⟨?_, acc.toList, c', ?_, ?_⟩), rfl, q _ (I.hok.fresh (Nat.le_refl _))⟩
  · unfold sgnsOf
    rw [List.length_map, Array.length_toList]
    exact hz
  · have la : acc.toList.length = z.cps.size := by rw [Array.length_toList]; exact hi.1
    have es : sgnsOf z = (List.range acc.toList.length).map fun i => V.str ⟨#[z.cps.getD i 0]⟩ := by
      rw [la]
      unfold sgnsOf
      refine List.ext_getElem? fun i => ?_
      rw [List.getElem?_map, List.getElem?_map, Array.getElem?_toList]
      by_cases hi : i < z.cps.size
      · rw [List.getElem?_range hi]
        simp [Array.getD, hi]
      · rw [Array.getElem?_eq_none (by omega), List.getElem?_eq_none (by rw [List.length_range]; omega)]
        rfl
    rw [es]
    refine vals_of_get acc.toList _ fun j u hj => ?_
    obtain ⟨c, t2, h1, rfl⟩ := hi.2 j u (by rw [← hj, Array.getElem?_toList])
    refine ⟨t2, ?_⟩
    have : z.cps.getD j 0 = c := by
      obtain ⟨hlt, e⟩ := Array.getElem?_eq_some_iff.mp h1
      simp [Array.getD, hlt, e]
    rw [this]
  · rw [Array.toArray_toList]
    exact e'
theorem walks_shift {prog : Program} {w : World} {A : Around} {I : Addr} {fp wr : List Addr} {n : Nat} {P : Nat → Value → Prop} {St : Nat → Heap → Prop} (W : Walks prog w A I fp wr (n + 1) P St) : Walks prog w A I fp wr n (fun i => P (i + 1)) (fun i => St (i + 1)) :=
  ⟨W.sub, fun i => W.frame (i + 1), fun i s Q E hi => W.item (i + 1) s Q E (Nat.succ_lt_succ hi), fun s Q E => W.done s Q E, fun i => W.self (i + 1)⟩
/-- a, *b = a list -/
def gStar (K : PySem.W.Frag) (g0 g1 : TG) : TG := fun v σ H Q => ∃ (a : Addr) (x : V) (xs : List V), v = .ref a ∧ SqL K H a (x :: xs) ∧ ∀ l, H l = none → gCons g0 (gCons g1 gNil) [x, .ref l] σ (upd H l (.lst xs)) Q
theorem pg_star {t0 t1 : Expr} {p1 pos : Pos} {k : Nat} {g0 g1 : TG} (hc : X.calm = true) (h0 : PG X t0 g0) (h1 : PG X t1 g1)
    (hs : assignEach [t0, .Starred t1 p1] X.env = [(false, assign t0 X.env), (true, assign t1 X.env)] := by rfl) (hs2 : assignEach [t0, t1] X.env = [(false, assign t0 X.env), (false, assign t1 X.env)] := by rfl) (hs3 : assignEach [t1] X.env = [(false, assign t1 X.env)] := by rfl) : PG X (.Tuple [t0, .Starred t1 p1] k pos) (gStar X.K g0 g1) := by
  have hg : PGs X [t0, t1] (gCons g0 (gCons g1 gNil)) := pgs_cons h0 (pgs_cons h1 pgs_nil (by rw [hs3]; rfl)) (by rw [hs2, hs3]; rfl)
  refine ⟨fun pins s σ H v u Q I r hw => ?_⟩
  obtain ⟨a, x, xs, rfl, hq, hw⟩ := hw
  cases r
  obtain ⟨its, rv, pl, hz⟩ := I.list hq
  cases rv with
  | @cons _ y _ ys r0 rs =>
  rw [assign_Tuple]
  refine wpAny_bind (wpAny_standAt ?_)
  rw [hs]
  unfold unpack
  refine wpAny_bind (wpAny_holding ?_)
  show wpAny _ _ (unpackItems (.ref a) 2 (some 1)) _ _ _
  unfold unpackItems
  refine wpAny_bind ?_
  unfold notIterableAtAll
  refine wpAny_bind (wpAny_specialOf pl.isList.typeIs slot_list_iter.lookup ?_)
  refine wpAny_pure ?_
  simp only [Option.isSome_some, if_true, Bool.false_eq_true, if_false]
  refine wpAny_bind (wpAny_holding (wpAny_pyIter_list pl.isList ?_))
  have ha : a < s.heap.objs.size := by
    obtain ⟨o, ho, _⟩ := pl.isList
    exact Heap.lt_size ho
  have ne : a ≠ s.heap.objs.size := Nat.ne_of_lt ha
  refine wpAny_bind (wpAny_holding ?_)
  unfold draw
  generalize hs0 : s.heap.push { cls := .type "list_iterator", data := .fields #[.ref a, .int 0 0] } = h0'
  have k0 : ∀ b o, s.heap.get? b = some o → h0'.get? b = some o := fun b o e => by rw [← hs0]; exact Heap.get?_push_of_some _ e
  have it0 : h0'.IsListIter s.heap.objs.size a 0 := by rw [← hs0]; exact ⟨_, Heap.get?_push_size _ rfl, rfl, rfl⟩
  have li0 : h0'.IsList a (y :: ys).toArray := pl.isList.at fun o e => k0 a o e
  refine wpAny_bind (wpAny_pyNext_list_item it0 li0 (x := y) rfl fun h1 it1 sb1 => ?_)
  have li1 : h1.IsList a (y :: ys).toArray := li0.extBut sb1.extBut ne
  refine wpAny_bind (wpAny_holding ?_)
  unfold draw
  refine wpAny_pure (wpAny_pure ?_)
  simp only [List.length_singleton, Nat.lt_irrefl, if_false]
  refine wpAny_bind (wpAny_holding ?_)
  have W := walks_shift (n := ys.length) (Walks.list (prog := X.prog) (w := X.w) (A := X.A.in1) (I.ok.hd hc) s.heap.objs.size a ne (y :: ys).toArray)
  have hI : ∀ b ∈ [s.heap.objs.size, a], b < h1.objs.size := fun b hb => by
    rcases List.mem_cons.mp hb with rfl | hb
    · obtain ⟨o, ho, _⟩ := it1
      exact Heap.lt_size ho
    · rw [List.mem_singleton.mp hb]
      obtain ⟨o, ho, _⟩ := li1
      exact Heap.lt_size ho
  have lxy : xs.length = ys.length := Vals.length rs
  have zx : xs.length + 1 ≤ sizeLine := by simpa using hz
  refine wpAny_collect_iter (s := { s with heap := h1 }) (.inr (.inr (.inl rfl))) W.toS (fun _ _ st => st.1.typeIs) ⟨it1, li1⟩ hI (by simp) (fun s' acc mv io => ?_) (by omega)
  have accE : acc.toList = ys := by
    refine List.ext_getElem? fun j => ?_
    by_cases hj : j < acc.size
    · have e1 : acc[j]? = some acc[j] := Array.getElem?_eq_getElem hj
      have e2 := io.2 j _ e1
      rw [Array.getElem?_toList, e1, ← e2]
      simp
    · have l1 := io.1
      rw [List.getElem?_eq_none (by rw [Array.length_toList]; omega), List.getElem?_eq_none (by omega)]
  rw [accE, if_neg (by omega)]
  refine wpAny_bind (wpAny_newObj_type ?_ (by show (List.take _ ys).length ≤ sizeLine; rw [List.length_take]; omega))
  refine wpAny_pure ?_
  have kp : ∀ b o, s.heap.get? b = some o → s'.heap.get? b = some o := fun b o e => by
    have nb : b ≠ s.heap.objs.size := Nat.ne_of_lt (Heap.lt_size e)
    exact mv.heap b o (fun m => nb (List.mem_singleton.mp m)) ((sb1.2 b nb).trans (k0 b o e))
  have es : s' = { s with heap := s'.heap, toks := s'.toks } := by
    have g1 : s'.gens = s.gens := mv.gens
    have g2 : s'.drawn = s.drawn := mv.drawn
    have g3 : s'.os = s.os := mv.os
    cases s'
    cases s
    simp only at g1 g2 g3
    subst g1 g2 g3
    rfl
  have I1 : L2.Inv X pins σ H s' := by
    rw [es]
    exact I.kept (t' := s'.toks) kp
  have tk : List.take (ys.length - (2 - 1 - 1)) ys = ys := List.take_of_length_le (by omega)
  have dr : List.drop (ys.length - (2 - 1 - 1)) ys = [] := List.drop_eq_nil_of_le (by omega)
  rw [tk, dr]
  have I2 := I1.laid (h' := s'.heap.push { cls := .type "list", data := .seq ys.toArray }) (a := s'.heap.objs.size) (o := .lst xs) (t' := s'.toks) (fun b o e => Heap.get?_push_of_some _ e) (Nat.le_refl _) (show ObjOk X.prog X.w _ _ _ (.lst xs) from ⟨by omega, ys, _, rs, Heap.get?_push_size _ rfl⟩)
  have z := hg.run pins _ σ _ [x, .ref s'.heap.objs.size] _ Q I2 (.cons r0 (.cons rfl .nil)) (hw _ (I1.hok.fresh (Nat.le_refl _)))
  rw [hs2] at z
  exact z
end
end My

set_option maxHeartbeats 2000000
/-! a, *b = tuple. -/
namespace My
open PySem PySem.Spec PyProof.Rows L2
section
variable {X : Cx}
/-- a, *b = a tuple -/
def gStarT (K : PySem.W.Frag) (g0 g1 : TG) : TG := fun v σ H Q => ∃ (a : Addr) (x : V) (xs : List V), v = .ref a ∧ SqT K H a (x :: xs) ∧ ∀ l, H l = none → gCons g0 (gCons g1 gNil) [x, .ref l] σ (upd H l (.lst xs)) Q
theorem pg_starT {t0 t1 : Expr} {p1 pos : Pos} {k : Nat} {g0 g1 : TG} (hc : X.calm = true) (h0 : PG X t0 g0) (h1 : PG X t1 g1)
    (hs : assignEach [t0, .Starred t1 p1] X.env = [(false, assign t0 X.env), (true, assign t1 X.env)] := by rfl) (hs2 : assignEach [t0, t1] X.env = [(false, assign t0 X.env), (false, assign t1 X.env)] := by rfl) (hs3 : assignEach [t1] X.env = [(false, assign t1 X.env)] := by rfl) : PG X (.Tuple [t0, .Starred t1 p1] k pos) (gStarT X.K g0 g1) := by
  have hg : PGs X [t0, t1] (gCons g0 (gCons g1 gNil)) := pgs_cons h0 (pgs_cons h1 pgs_nil (by rw [hs3]; rfl)) (by rw [hs2, hs3]; rfl)
  refine ⟨fun pins s σ H v u Q I r hw => ?_⟩
  obtain ⟨a, x, xs, rfl, hq, hw⟩ := hw
  cases r
  obtain ⟨its, rv, pl, hz⟩ := I.tuple hq
  have pl : s.heap.IsTuple a its.toArray := pl
  cases rv with
  | @cons _ y _ ys r0 rs =>
  rw [assign_Tuple]
  refine wpAny_bind (wpAny_standAt ?_)
  rw [hs]
  unfold unpack
  refine wpAny_bind (wpAny_holding ?_)
  show wpAny _ _ (unpackItems (.ref a) 2 (some 1)) _ _ _
  unfold unpackItems
  refine wpAny_bind ?_
  unfold notIterableAtAll
  refine wpAny_bind (wpAny_specialOf pl.typeIs PySem.F.slot_tuple_iter.lookup ?_)
  refine wpAny_pure ?_
  simp only [Option.isSome_some, if_true, Bool.false_eq_true, if_false]
  refine wpAny_bind (wpAny_holding (wpAny_pyIter_tuple pl ?_))
  have ha : a < s.heap.objs.size := by
    obtain ⟨o, ho, _⟩ := pl
    exact Heap.lt_size ho
  have ne : a ≠ s.heap.objs.size := Nat.ne_of_lt ha
  refine wpAny_bind (wpAny_holding ?_)
  unfold draw
  generalize hs0 : s.heap.push { cls := .type "tuple_iterator", data := .fields #[.ref a, .int 0 0] } = h0'
  have k0 : ∀ b o, s.heap.get? b = some o → h0'.get? b = some o := fun b o e => by rw [← hs0]; exact Heap.get?_push_of_some _ e
  have it0 : h0'.IsTupleIter s.heap.objs.size a 0 := by rw [← hs0]; exact ⟨_, Heap.get?_push_size _ rfl, rfl, rfl⟩
  have li0 : h0'.IsTuple a (y :: ys).toArray := ⟨_, k0 _ _ pl.choose_spec.1, pl.choose_spec.2⟩
  refine wpAny_bind (wpAny_pyNext_tuple_item it0 li0 (x := y) rfl fun h1 it1 sb1 => ?_)
  have li1 : h1.IsTuple a (y :: ys).toArray := li0.extBut sb1.extBut ne
  refine wpAny_bind (wpAny_holding ?_)
  unfold draw
  refine wpAny_pure (wpAny_pure ?_)
  simp only [List.length_singleton, Nat.lt_irrefl, if_false]
  refine wpAny_bind (wpAny_holding ?_)
  have W := walks_shift (n := ys.length) (Walks.tuple (prog := X.prog) (w := X.w) (A := X.A.in1) (I.ok.hd hc) s.heap.objs.size a ne (y :: ys).toArray)
  have hI : ∀ b ∈ [s.heap.objs.size, a], b < h1.objs.size := fun b hb => by
    rcases List.mem_cons.mp hb with rfl | hb
    · obtain ⟨o, ho, _⟩ := it1
      exact Heap.lt_size ho
    · rw [List.mem_singleton.mp hb]
      obtain ⟨o, ho, _⟩ := li1
      exact Heap.lt_size ho
  have lxy : xs.length = ys.length := Vals.length rs
  have zx : xs.length + 1 ≤ sizeLine := by simpa using hz
  refine wpAny_collect_iter (s := { s with heap := h1 }) (.inr (.inr (.inr rfl))) W.toS (fun _ _ st => st.1.typeIs) ⟨it1, li1⟩ hI (by simp) (fun s' acc mv io => ?_) (by omega)
  have accE : acc.toList = ys := by
    refine List.ext_getElem? fun j => ?_
    by_cases hj : j < acc.size
    · have e1 : acc[j]? = some acc[j] := Array.getElem?_eq_getElem hj
      have e2 := io.2 j _ e1
      rw [Array.getElem?_toList, e1, ← e2]
      simp
    · have l1 := io.1
      rw [List.getElem?_eq_none (by rw [Array.length_toList]; omega), List.getElem?_eq_none (by omega)]
  rw [accE, if_neg (by omega)]
  refine wpAny_bind (wpAny_newObj_type ?_ (by show (List.take _ ys).length ≤ sizeLine; rw [List.length_take]; omega))
  refine wpAny_pure ?_
  have kp : ∀ b o, s.heap.get? b = some o → s'.heap.get? b = some o := fun b o e => by
    have nb : b ≠ s.heap.objs.size := Nat.ne_of_lt (Heap.lt_size e)
    exact mv.heap b o (fun m => nb (List.mem_singleton.mp m)) ((sb1.2 b nb).trans (k0 b o e))
  have es : s' = { s with heap := s'.heap, toks := s'.toks } := by
    have g1 : s'.gens = s.gens := mv.gens
    have g2 : s'.drawn = s.drawn := mv.drawn
    have g3 : s'.os = s.os := mv.os
    cases s'
    cases s
    simp only at g1 g2 g3
    subst g1 g2 g3
    rfl
  have I1 : L2.Inv X pins σ H s' := by
    rw [es]
    exact I.kept (t' := s'.toks) kp
  have tk : List.take (ys.length - (2 - 1 - 1)) ys = ys := List.take_of_length_le (by omega)
  have dr : List.drop (ys.length - (2 - 1 - 1)) ys = [] := List.drop_eq_nil_of_le (by omega)
  rw [tk, dr]
  have I2 := I1.laid (h' := s'.heap.push { cls := .type "list", data := .seq ys.toArray }) (a := s'.heap.objs.size) (o := .lst xs) (t' := s'.toks) (fun b o e => Heap.get?_push_of_some _ e) (Nat.le_refl _) (show ObjOk X.prog X.w _ _ _ (.lst xs) from ⟨by omega, ys, _, rs, Heap.get?_push_size _ rfl⟩)
  have z := hg.run pins _ σ _ [x, .ref s'.heap.objs.size] _ Q I2 (.cons r0 (.cons rfl .nil)) (hw _ (I1.hok.fresh (Nat.le_refl _)))
  rw [hs2] at z
  exact z
end
end My

set_option maxHeartbeats 2000000
/-! D.get(text), D a dict of the module. -/
namespace My
open PySem PySem.Spec PyProof.Rows L2
section
variable {X : Cx} {d : Addr} {es : Array DictEntry} {n : Nat} {e : Expr} {x : Str} {p apos cpos : Pos} {ty : TE}
def tKGet (K : PySem.W.Frag) (d : Addr) (ty : TE) : TE := fun σ H Q => ty σ H fun y H1 => ∃ (z : Str) (r : Option Value) (v : V), y = .str z ∧ PySem.W.nsIn K d z = some r ∧ RelV v (r.getD .none) ∧ Q v H1
theorem pe_kget (D : KDict X.K X.w d es n) (hg : Gl X x) (hm : X.mg x = some (.ref d)) (he : PE X e ty) (m : M1 X (.Name x p) "get" apos e cpos) (hdb : (x == ("__debug__" : Str)) = false := by decide) :
    PE X (.Call (.Attribute (.Name x p) "get" apos) [e] [] cpos) (tKGet X.K d ty) := by
  refine ⟨fun pins s σ H Q I h => ?_⟩
  refine wpAny_Call_method m.base m.few m.line PySem.F.plainAttrs_dict PySem.F.slot_dict_get PySem.F.type_dict_get (ld_glob I hg hm ?_ hdb)
  have mo := PySem.W.mapOf_K (prog := X.prog) (w := X.w) I.kIn D.at_ D.lit
  refine ⟨kd_type D I, fun b q => ?_, ?_⟩
  · cases q
    exact ⟨_, I.kIn _ _ D.at_, rfl⟩
  rw [m.trees]
  refine Calls.callWith_builtin rfl (Calls.evalArgs_plain (Calls.spliced_cons (thn (he.run pins s σ H _ I h) fun iv s2 ⟨y, H2, I2, ry, z, r, v, ey, e2, rv, q2⟩ => Calls.spliced_nil ?_)))
  subst ey
  obtain ⟨t, rfl⟩ := ry
  have mo2 := PySem.W.mapOf_K (prog := X.prog) (w := X.w) I2.kIn D.at_ D.lit
  refine call_meetsIn PySem.F.slot_dict_get (kd_type D I2) PySem.F.entry_dict_get (PySem.F.args_dict_get_2 _ _) (meets_dict_get (strKind X.prog X.w) d (PySem.strKind_is X.prog X.w z t) D.low) ⟨_, mo2, ?_⟩
  rw [PySem.W.find_K D.at_ e2]
  exact ⟨v, H2, I2.tok _, rv, q2⟩
end
end My

set_option maxHeartbeats 4000000
/-! t.index(k), t a tuple that was made from a list and is known whole. -/
namespace My
open PySem PySem.Spec PyProof.Rows L2
theorem flat_ints (ns : List Int) : (ns.map V.int).all flatV = true := by
  rw [List.all_map]
  exact List.all_eq_true.mpr fun _ _ => rfl
/-- a tuple without attributes of its own -/
def TupF (H : Hp) (p : Addr) (xs : List V) : Prop := ∃ ob : Obj, H p = some (.frz ob (.tup xs)) ∧ ob.dict = none ∧ ob.cls = .type "tuple"
theorem TupF.sq {K : PySem.W.Frag} {H : Hp} {p : Addr} {xs : List V} (h : TupF H p xs) : SqT K H p xs := by
  obtain ⟨ob, h, _⟩ := h
  exact .inl (.inr ⟨ob, h⟩)
theorem TupF.same {H H' : Hp} (s : Same H H') {p : Addr} {xs : List V} (h : TupF H p xs) : TupF H' p xs := by
  obtain ⟨ob, h, d⟩ := h
  exact ⟨ob, s _ _ h, d⟩
section
variable {X : Cx}
def rTupF (K : PySem.W.Frag) : List V → Hp → VK → Prop := fun xs H Q => ∃ p ys, xs = [V.ref p] ∧ SqL K H p ys ∧ ∀ l H', Same H H' → TupF H' l ys → Q (.ref l) H'
theorem call_tupF : CallR X (.type "tuple") (rTupF X.K) := by
  intro pins s σ H xs us Q I r h
  obtain ⟨p, ys, rfl, hq, q⟩ := h
  obtain ⟨u, rfl, rx⟩ := vals1 r
  cases rx
  obtain ⟨its, r', pl, hz⟩ := I.list hq
  have len := r'.length
  refine call_tuple_list pl.isList (fun h' kp => ?_) (by simp only [List.size_toArray] <;> omega)
  have I1 : L2.Inv X pins σ H { s with heap := h' } := I.kept (t' := s.toks) kp
  have nn : H h'.objs.size = none := I1.hok.fresh (Nat.le_refl _)
  let ob : Obj := { cls := .type "tuple", data := .seq its.toArray }
  have I2 : L2.Inv X pins σ (upd H h'.objs.size (.frz ob (.tup ys))) { s with heap := h'.push ob } :=
    I1.laid (t' := s.toks) (fun b o e => Heap.get?_push_of_some _ e) (Nat.le_refl _) (show ObjOk X.prog X.w _ _ _ (.frz ob (.tup ys)) from ⟨Heap.get?_push_size _ rfl, hz, its, r', IsTup.new _ _⟩)
  exact ⟨.ref h'.objs.size, _, I2, rfl, q _ _ (same_new nn _) ⟨ob, upd_same, rfl, rfl⟩⟩
def rTixF : V → List V → Hp → VK → Prop := fun x xs H Q => ∃ (p : Addr) (ns : List Int) (z : Int) (j : Nat), x = .ref p ∧ xs = [.int z] ∧ TupF H p (ns.map V.int) ∧ ns[j]? = some z ∧ (∀ m, m < j → ns[m]? ≠ some z) ∧ Q (.int (j : Nat)) H
theorem mt_tixF : MtR X "tuple.index" rTixF := by
  intro pins s σ H x xs v us Q I rx rs h
  obtain ⟨p, ns, z, j, rfl, rfl, hf, hy, hno, q⟩ := h
  cases rx
  obtain ⟨u, rfl, t, rfl⟩ := vals1 rs
  obtain ⟨its, r, pl, hz⟩ := I.tuple (hf.sq (K := X.K))
  obtain ⟨⟨cls, dd, dt, sl⟩, ho, hc, n, hd⟩ := pl
  simp only at hc hd
  subst hc
  subst hd
  have hl : its.toArray.size = ns.length := by rw [List.size_toArray, ← r.length, List.length_map]
  have hj : j < its.toArray.size := by rw [hl]; exact (List.getElem?_eq_some_iff.mp hy).1
  have each : ∀ (m : Nat) (hm : m < its.toArray.size), ∃ y t', ns[m]? = some y ∧ its.toArray[m] = Value.int y t' := fun m hm => by
    have hm' : m < ns.length := by rw [← hl]; exact hm
    obtain ⟨w, hw, t', hw'⟩ := r.get (i := m) (x := .int ns[m]) (by simp [hm'])
    refine ⟨ns[m], t', List.getElem?_eq_getElem hm', ?_⟩
    have e := (List.getElem?_eq_some_iff.mp hw).2
    rw [← hw', ← e]
    simp
  refine call_meets PySem.F.slot_tuple_index ⟨_, ho, rfl⟩ PySem.F.entry_tuple_index (PySem.F.args_tuple_index_2 _ _) (TI.tuple_indexAt p its.toArray n dd sl (.int z t) (eqU (.int z)) j hj ?_ ?_)
    ⟨ho, fun w hw => mem_eqAt (x := .int z) ⟨t, rfl⟩ rfl r (flat_ints ns) w (by simpa using hw), ⟨.int (j : Nat), H, I.tok _, ⟨_, rfl⟩, q⟩⟩
  · obtain ⟨y, t', h1, h2⟩ := each j hj
    rw [hy] at h1
    cases h1
    rw [h2]
    show (z == z) = true
    exact beq_self_eq_true z
  · intro m hm hmj
    obtain ⟨y, t', h1, h2⟩ := each m hm
    rw [h2]
    show (y == z) = false
    exact beq_eq_false_iff_ne.mpr fun e => hno m hmj (e ▸ h1)
def tBF (r : V → List V → Hp → VK → Prop) (to : TE) (t : TA) : TE := fun σ H Q => to σ H fun x H1 => (∃ p xs, x = .ref p ∧ TupF H1 p xs) ∧ t σ H1 fun xs H2 => r x xs H2 Q
variable {o e : Expr} {es : List Expr} {to : TE} {t : TA} {name : Str} {apos cpos : Pos} {id : String} {r : V → List V → Hp → VK → Prop}
/-- t.m(..), t such a tuple -/
theorem pe_bmF (pa : PlainAttrs "tuple") (slot : Slot "tuple" name id) (hty : typeOf (.builtin id) = pure (.type "method_descriptor")) (hm : MtR X id r) (ho : PE X o to) (ha : PA X (e :: es) t)
    (k1 : attributeBase o name X.env (eval o X.env) = eval o X.env := by rfl)
    (k2 : ((backTo cpos (starEach (e :: es) X.env)).all (fun x => !x.1) && (backToKw cpos (keywordEach [] X.env)).all (fun x => x.1.isSome) && decide ((e :: es).length + ([] : List Keyword).length + (if ([] : List Keyword).isEmpty then 0 else 1) < 30)) = true := by rfl)
    (k3 : (apos.endLine == cpos.line) = true := by rfl) (hs : starEach (e :: es) X.env = (false, eval e X.env) :: starEach es X.env := by rfl) (k4 : (backTo cpos (starEach es X.env)).any (·.1) = false := by rfl) :
    PE X (.Call (.Attribute o name apos) (e :: es) [] cpos) (tBF r to t) := by
  refine ⟨fun pins s σ H Q I h => ?_⟩
  refine wpAny_Call_method_late k1 k2 k3 rfl (thn (ho.run pins s σ H _ I h) fun v s1 ⟨x, H1, I1, r1, ⟨p, xs, ex, ob, hp, hd, hc⟩, q1⟩ => ?_)
  subst ex
  cases r1
  have hob := (I1.hok p _ hp).1
  refine ⟨"tuple", id, pa, slot, hty, ⟨ob, hob, hc⟩, fun a ea => ?_, ?_⟩
  · cases ea
    exact ⟨ob, hob, hd⟩
  have hA := ha.run cpos pins s1 σ H1 _ I1 q1
  rw [hs] at hA ⊢
  refine Calls.callWith_builtin (by show (false || (backTo cpos (starEach es X.env)).any (·.1)) = false; rw [k4] <;> rfl) (Calls.evalArgs_plain ?_)
  exact thn hA fun us s2 ⟨vs, H2, I2, r2, q2⟩ => hm pins s2 σ H2 (.ref p) vs (.ref p) us Q I2 rfl r2 q2
end
end My

set_option maxHeartbeats 6400000
/-! set(xs), xs a list of tuples of ints of any length, at most 62 unlike ones. -/
namespace My
open PySem PySem.Spec PyProof.Rows L2
section
variable {P : Program} {w : World} {A : Around} {E : Value → Shared → Prop} {s : Shared}
theorem st_loop {I : Addr} {fp wr : List Addr} {G : Array GenState → Array GenState → Prop} {n : Nat} {Pv : Nat → Value → Prop} {St : Nat → Shared → Prop} {R : Result → Shared → Prop}
    (W : WalksS P w A.in1 I fp wr G n Pv St) (S : Addr) (offS : S ∉ fp) (ks : List (Addr × List Int)) (hn : n = ks.length) (hfew : ∀ M : List (Addr × List Int), (∀ p ∈ M, p ∈ ks) → (M.map (·.2)).Nodup → M.length ≤ 62) (hval : ∀ i v, Pv i v → ∃ p, ks[i]? = some p ∧ v = .ref p.1)
    (h0 : Heap) (hk : ∀ p ∈ ks, IsT P w h0 p.2 p.1) (hS0 : h0.get? S = none) (hw0 : ∀ b ∈ wr, h0.get? b = none) (hu : A.in1.units < cLine) :
    ∀ (k i : Nat) (s : Shared), n - i = k → i ≤ n → St i s → (∀ b o, h0.get? b = some o → s.heap.get? b = some o) → (∃ L es ep t, SetTR P w s.heap S L es ep t ∧ Got ks i L) →
      (∀ s' L es ep t, Moved (S :: wr) G s s' → SetTR P w s'.heap S L es ep t → Got ks n L → (∀ b o, h0.get? b = some o → s'.heap.get? b = some o) → R (.ok (.ret .none)) s') →
      codeAny (model P w) A (.builtin "set.update.loop" ⟨[.ref S, .ref I], []⟩) R s := by
  have offw : S ∉ wr := fun h => offS (W.sub _ h)
  have into : ∀ b ∈ wr, b ∈ S :: wr := fun b hb => List.mem_cons_of_mem _ hb
  have stays : ∀ {s s' : Shared}, Moved wr G s s' → (∀ b o, h0.get? b = some o → s.heap.get? b = some o) → ∀ b o, h0.get? b = some o → s'.heap.get? b = some o := fun hm kp b o e =>
    hm.heap b o (fun hb => by rw [hw0 b hb] at e; cases e) (kp b o e)
  intro k
  induction k with
  | zero =>
    intro i s hk' hi st0 kp ⟨L, es, ep, t, hS, g⟩ hR
    have hin : i = n := by omega
    subst hin
    refine codeAny_builtin PyProof.Rows.F.entry_set_update_loop ?_
    rw [Around.under_plainId PyProof.Rows.F.plain_set_update_loop _]
    show wpAny _ A.in1 (pyNext (.ref I) >>= _) _ _ s
    refine wpAny_bind (W.done s _ _ st0 fun s' hm => ?_)
    show wpAny _ A.in1 (ret Value.none) _ _ s'
    have kp' := stays hm kp
    have sub : ∀ p ∈ L, p ∈ ks := fun p hp => List.mem_of_mem_take (g.sub p hp)
    exact wpAny_pure (hR s' L es ep t (hm.mono into) (hS.keep (fun o e => hm.heap S o offw e) fun p hp => isT_keep (hk p (sub p hp)) kp') g kp')
  | succ k ih =>
    intro i s hk' hi st0 kp ⟨L, es, ep, t, hS, g⟩ hR
    have hlt : i < n := by omega
    refine codeAny_builtin PyProof.Rows.F.entry_set_update_loop ?_
    rw [Around.under_plainId PyProof.Rows.F.plain_set_update_loop _]
    show wpAny _ A.in1 (pyNext (.ref I) >>= _) _ _ s
    refine wpAny_bind (W.item i s _ _ hlt st0 fun v s' hP st' hm => ?_)
    obtain ⟨p, hp, rfl⟩ := hval i v hP
    have kp' := stays hm kp
    have sub : ∀ p ∈ L, p ∈ ks := fun p hp => List.mem_of_mem_take (g.sub p hp)
    have hS' : SetTR P w s'.heap S L es ep t := hS.keep (fun o e => hm.heap S o offw e) fun q hq => isT_keep (hk q (sub q hq)) kp'
    have hx : IsT P w s'.heap p.2 p.1 := isT_keep (hk p (List.mem_of_getElem? hp)) kp'
    show wpAny _ A.in1 (holding [Value.ref p.1] (setAdd S (.ref p.1)) >>= _) _ _ s'
    refine wpAny_bind (wpAny_holding ?_)
    unfold setAdd
    refine wpAny_holding ?_
    refine wpAny_bind (wpAny_pyHash_tuple hu hx ?_)
    refine add_at (s := { s' with toks := s'.toks + (p.2.length + 1) }) hS' hx hu (by have := hfew L sub hS.nd; omega) fun b h' L' es' ep' t' hsb hS2 c1 c2 => ?_
    have g' : Got ks (i + 1) L' := by
      rcases Classical.em (p.2 ∈ L.map (·.2)) with c | c
      · rw [c1 c]; exact g.same hp c
      · exact g.more hp (c2 c)
    have kp2 : ∀ b o, h0.get? b = some o → h'.get? b = some o := fun b o e => (hsb.2 b (fun z => by rw [z, hS0] at e; cases e)).trans (kp' b o e)
    refine wpAny_pure ⟨plainId_quiet PyProof.Rows.F.plain_set_update_loop _, ih (i + 1) _ (by omega) hlt (W.frame _ s' _ _ st' (Nat.le_add_right _ _) fun b hb o e => ?_) kp2 ⟨L', es', ep', t', hS2, g'⟩ fun s'' L2 es2 ep2 t2 hm'' hS'' g'' kp'' => ?_⟩
    · rw [hsb.2 b (fun h : b = S => offS (by rw [← h]; exact hb))]; exact e
    · refine hR s'' L2 es2 ep2 t2 (Moved.trans W.gtrans ((hm.mono into).then_heap (Nat.le_add_right _ _) fun b o hb e => ?_) hm'') hS'' g'' kp''
      rw [hsb.2 b (fun h : b = S => hb (by rw [h]; exact List.mem_cons_self))]; exact e

theorem st_call {l : Addr} {items : Array Value} (ks : List (Addr × List Int)) {Q : Value → Shared → Prop} (hh : A.handled = none) (hl : s.heap.IsList l items) (hit : items.toList = ks.map fun p => Value.ref p.1)
    (hk : ∀ p ∈ ks, IsT P w s.heap p.2 p.1) (hfew : ∀ M : List (Addr × List Int), (∀ p ∈ M, p ∈ ks) → (M.map (·.2)).Nodup → M.length ≤ 62) (hu : A.units + 3 < cLine)
    (h : ∀ (h' : Heap) (tk : Nat) L es ep t, SetTR P w h' s.heap.objs.size L es ep t → Got ks ks.length L → (∀ b o, s.heap.get? b = some o → h'.get? b = some o) → Q (.ref s.heap.objs.size) { s with heap := h', toks := tk }) :
    wpAny (model P w) A (call (.type "set") [.ref l]) Q E s := by
  have lenI : items.size = ks.length := by
    have q := congrArg List.length hit
    rw [Array.length_toList, List.length_map] at q
    exact q
  obtain ⟨c, tl, mr⟩ := F.called_set.mro
  have md := F.called_set.made
  have into := F.called_set.sub
  refine wpAny_call (codeAny_of_tree ?_)
  show wpAny _ _ (callAny (.type "set") _) _ _ _
  refine wpAny_pure ⟨Code.quiet_builtin _ (by decide +kernel), codeAny_builtin F.entry_type_call ?_⟩
  rw [Around.under_plain (weight_type_call_type "set" [.ref l] []) rfl]
  have h1 := F.called_set.notType
  have h2 := F.called_set.canCreate
  have ct := F.typeCall_set_1 (.ref l)
  repeat (any_goals (first | assumption | wp_step))

  refine codeAny_mono (code_set_led1 (.ref l) (E := E) (Q₁ := fun obj s₁ => obj = .ref s.heap.objs.size ∧ s₁ = { s with heap := s.heap.push { cls := .type "set", dict := none, data := .set #[] 0 (.fresh 0 0 (!w.params.followText "set-order")) } }) ⟨rfl, rfl⟩) fun r s₁ hr => ?_
  cases r with
  | error e => exact hr
  | ok fl =>
    cases fl with
    | ret obj =>
      obtain ⟨rfl, rfl⟩ := hr
      have hS : (s.heap.push { cls := .type "set", dict := none, data := .set #[] 0 (.fresh 0 0 (!w.params.followText "set-order")) }).get? s.heap.objs.size = some { cls := .type "set", dict := none, data := .set #[] 0 (.fresh 0 0 (!w.params.followText "set-order")) } := Heap.get?_push_size _ rfl
      have hT : Shared.TypeIs { s with heap := s.heap.push { cls := .type "set", dict := none, data := .set #[] 0 (.fresh 0 0 (!w.params.followText "set-order")) } } (.ref s.heap.objs.size) "set" := ⟨_, hS, rfl⟩
      have hli := F.called_set.init.lookup
      have hbi := F.called_set.init.bind (.ref s.heap.objs.size)
      repeat (any_goals (first | assumption | wp_step))

      refine codeAny_mono (codeAny_call_builtin (R := wants (fun r s₂ => r = .none ∧ ∃ h' tk L es ep t, s₂ = { s with heap := h', toks := tk } ∧ SetTR P w h' s.heap.objs.size L es ep t ∧ Got ks ks.length L ∧
          (∀ b o, s.heap.get? b = some o → h'.get? b = some o)) E) F.called_set.init.plain F.entry_set_init (check_set_init_1 hT ?_)) fun r₂ s₂ hr₂ => ?_
      · obtain ⟨ol, hol, hcl, nl, hdl⟩ := hl
        obtain ⟨ocls, odict, odata, oslots⟩ := ol
        simp only at hcl hdl
        subst hcl; subst hdl
        have hol' : (s.heap.push { cls := .type "set", dict := none, data := .set #[] 0 (.fresh 0 0 (!w.params.followText "set-order")) }).get? l = some { cls := .type "list", dict := odict, data := .seq items nl, slots := oslots } := Heap.get?_push_of_some _ hol
        have y1 := F.sub_list_set
        have y2 := F.sub_list_frozenset
        have hne : (Value.type "list" == Value.type "dict") = false := by decide
        have hl1 : (s.heap.push { cls := .type "set", dict := none, data := .set #[] 0 (.fresh 0 0 (!w.params.followText "set-order")) }).IsList l items := ⟨_, hol', rfl, nl, rfl⟩
        unfold Builtin.«set.__init__» noKeywords Builtin.Frozenset.updateFrom
        generalize hPI : pyIter = PI
        wp_walk
        subst hPI

        refine wpAny_pyIter_list hl1 ?_
        refine wpAny_bind (wpAny_runValue ?_)
        have lS : l < s.heap.objs.size := Heap.lt_size hol
        have hh3 : A.in1.in1.in1.handled = none := by simp [hh]
        have hz1 : (s.heap.push { cls := .type "set", dict := none, data := .set #[] 0 (.fresh 0 0 (!w.params.followText "set-order")) }).objs.size = s.heap.objs.size + 1 := Heap.size_push ..
        have nI : l ≠ (s.heap.push { cls := .type "set", dict := none, data := .set #[] 0 (.fresh 0 0 (!w.params.followText "set-order")) }).objs.size := by
          rw [Heap.size_push]; exact Nat.ne_of_lt (Nat.lt_succ_of_lt lS)
        have offS : s.heap.objs.size ∉ [(s.heap.push { cls := .type "set", dict := none, data := .set #[] 0 (.fresh 0 0 (!w.params.followText "set-order")) }).objs.size, l] := by
          rw [Heap.size_push]; simp only [List.mem_cons, List.mem_singleton, List.not_mem_nil, or_false, not_or]
          exact ⟨Nat.ne_of_lt (Nat.lt_succ_self _), Nat.ne_of_gt lS⟩
        have hval : ∀ (i : Nat) (v : Value), items[i]? = some v → ∃ p, ks[i]? = some p ∧ v = .ref p.1 := fun i v hv => by
          have q : items.toList[i]? = some v := by rw [Array.getElem?_toList]; exact hv
          rw [hit, List.getElem?_map] at q
          cases hq : ks[i]? with
          | none => rw [hq] at q; cases q
          | some p =>
            rw [hq] at q
            exact ⟨p, rfl, (Option.some.inj q).symm⟩
        have fresh : ∀ b, s.heap.objs.size ≤ b → s.heap.get? b = none := fun b hb => by
          cases q : s.heap.get? b with
          | none => rfl
          | some o => exact absurd (Nat.lt_of_lt_of_le (Heap.lt_size q) hb) (Nat.lt_irrefl _)
        refine st_loop ((Walks.list hh3 _ l nI items).toS) s.heap.objs.size
          offS ks lenI hfew hval s.heap hk (fresh _ (Nat.le_refl _)) (fun b hb => fresh b (by
            rw [List.mem_singleton.mp hb, Heap.size_push]
            exact Nat.le_succ _)) hu (items.size - 0) 0 _ (by omega) (Nat.zero_le _)
          ⟨⟨_, Heap.get?_push_size _ rfl, rfl, rfl⟩, (hl1.push _)⟩ (fun b o e => Heap.get?_push_of_some _ (Heap.get?_push_of_some _ e)) ?hS0 ?hR
        case hS0 =>
          have hget : ((s.heap.push { cls := .type "set", dict := none, data := .set #[] 0 (.fresh 0 0 (!w.params.followText "set-order")) }).push { cls := .type "list_iterator", data := .fields #[.ref l, .int 0 0] }).get? s.heap.objs.size
              = some { cls := .type "set", dict := none, data := .set #[] 0 (.fresh 0 0 (!w.params.followText "set-order")) } := Heap.get?_push_of_some _ hS
          exact ⟨[], #[], 0, _, setTR_fresh hget, Got.zero ks⟩
        case hR =>
          intro s' L es ep t hm hS' g' kp
          obtain ⟨h', g2, d', tk', os'⟩ := s'
          have eg : g2 = s.gens := hm.gens
          have ed : d' = s.drawn := hm.drawn
          have eo : os' = s.os := hm.os
          subst eg; subst ed; subst eo
          show wpAny _ _ _ _ _ _
          refine wpAny_pure ?_
          show wpAny _ _ (ret Value.none) _ _ _
          rw [lenI] at g'
          exact wpAny_pure ⟨rfl, h', tk', L, es, ep, t, rfl, hS', g', kp⟩

      · cases r₂ with
        | error e => exact hr₂
        | ok fl₂ =>
          cases fl₂ with
          | ret r =>
            obtain ⟨rfl, h', tk, L, es, ep, t, rfl, hS', g', hk'⟩ := hr₂
            repeat (any_goals (first | assumption | wp_step))
            exact h _ _ _ _ _ _ hS' g' hk'
          | _ => exact hr₂.elim
    | _ => exact hr.elim

end
section
variable {X : Cx}
def rSetM (K : PySem.W.Frag) (P : Program) (w : World) : List V → Hp → VK → Prop := fun xs H Q => ∃ (l : Addr) (ks : List (Addr × List Int)), xs = [V.ref l] ∧ SqL K H l (ks.map fun p => V.ref p.1) ∧ (∀ p ∈ ks, SqT K H p.1 (p.2.map V.int)) ∧ (∀ M : List (Addr × List Int), (∀ p ∈ M, p ∈ ks) → (M.map (·.2)).Nodup → M.length ≤ 62) ∧
  ∀ a L, H a = none → (∀ p ∈ L, p ∈ ks) → (∀ p ∈ ks, p.2 ∈ L.map (·.2)) → Q (.ref a) (upd H a (SetTO P w a L))
theorem cr_setM (hc : X.calm = true) (hu : X.A.units + 64 < cLine) : CallR X (.type "set") (rSetM X.K X.prog X.w) := by
  intro pins s σ H xs us Q I r h
  obtain ⟨l, ks, rfl, hl, hk, hf, q⟩ := h
  rw [Vals.ref1 r]
  obtain ⟨its, rv, pl, hz⟩ := I.list hl
  have hn : H s.heap.objs.size = none := I.hok.fresh (Nat.le_refl _)
  refine st_call (P := X.prog) (w := X.w) ks (I.ok.hd hc) pl.isList (by simpa using refs_of_vals rv) (fun p hp => L2.Inv.isT I (hk p hp)) hf (by omega) fun h' tk L es ep t R g k => ?_
  refine ⟨.ref s.heap.objs.size, upd H s.heap.objs.size (SetTO X.prog X.w s.heap.objs.size L), I.laid (t' := tk) k (Nat.le_refl _) (setTO_new R.t0), rfl, q _ L hn (fun p hp => ?_) fun p hp => ?_⟩
  · exact List.mem_of_mem_take (g.sub p hp)
  · exact g.all p (by rw [List.take_length]; exact hp)
end
end My

set_option maxHeartbeats 4000000
/-! Sets of sides; what the program's is_orientation answers. -/
namespace My
open PySem PySem.Spec PyProof.Rows L2
theorem pairs_ksO {K : PySem.W.Frag} {H : Hp} : ∀ {ys : List V} {qs : List E2}, PairsAt K H ys qs → ∃ ks : List (Addr × List Int), ys = ks.map (fun p => V.ref p.1) ∧ ks.map (·.2) = qs.map (fun q => [(q.1 : Int), (q.2 : Int)]) ∧ ∀ p ∈ ks, SqT K H p.1 (p.2.map V.int)
  | _, _, .nil => ⟨[], rfl, rfl, fun _ z => nomatch z⟩
  | _, _, .cons a b => by
    obtain ⟨t, rfl, h⟩ := a
    obtain ⟨ks, h1, h2, h3⟩ := pairs_ksO b
    refine ⟨(t, _) :: ks, by rw [h1]; rfl, by rw [List.map_cons, h2]; rfl, ?_⟩
    intro p hp
    rcases List.mem_cons.mp hp with rfl | hp
    · exact h
    · exact h3 p hp
def toEO (ns : List Int) : E2 := ((ns.getD 0 0).toNat, (ns.getD 1 0).toNat)
theorem toEO_of (q : E2) : toEO [(q.1 : Int), (q.2 : Int)] = q := by
  unfold toEO
  simp
theorem ks_pairsO {K : PySem.W.Frag} {H : Hp} : ∀ {L : List (Addr × List Int)}, (∀ p ∈ L, SqT K H p.1 (p.2.map V.int)) → (∀ p ∈ L, p.2 = [((toEO p.2).1 : Int), ((toEO p.2).2 : Int)]) → PairsAt K H (L.map fun q => V.ref q.1) (L.map fun p => toEO p.2)
  | [], _, _ => .nil
  | p :: L, h, b => by
    refine .cons ⟨p.1, rfl, ?_⟩ (ks_pairsO (fun r hr => h r (List.mem_cons_of_mem _ hr)) fun r hr => b r (List.mem_cons_of_mem _ hr))
    have z := h p (List.mem_cons_self ..)
    rw [b p (List.mem_cons_self ..)] at z
    exact z
def leP : List E2 := (List.range 9).flatMap fun a => ((List.range 9).filter fun b => decide (a ≤ b)).map fun b => (a, b)
theorem leP_len : leP.length = 45 := by decide +kernel
theorem mem_leP {q : E2} (h : q.1 ≤ q.2) (h9 : q.2 < 9) : q ∈ leP := by
  unfold leP
  rw [List.mem_flatMap]
  refine ⟨q.1, List.mem_range.mpr (by omega), List.mem_map.mpr ⟨q.2, List.mem_filter.mpr ⟨List.mem_range.mpr h9, by simpa using h⟩, rfl⟩⟩
theorem ks_few {M : List (Addr × List Int)} (nd : (M.map (·.2)).Nodup) (h : ∀ p ∈ M, ∃ q : E2, p.2 = [(q.1 : Int), (q.2 : Int)] ∧ q.1 ≤ q.2 ∧ q.2 < 9) : M.length ≤ 62 := by
  have e : M.map (·.2) = (M.map fun p => toEO p.2).map fun q => [(q.1 : Int), (q.2 : Int)] := by
    rw [List.map_map]
    refine List.map_congr_left fun p hp => ?_
    obtain ⟨q, e, _⟩ := h p hp
    show p.2 = [((toEO p.2).1 : Int), ((toEO p.2).2 : Int)]
    rw [e, toEO_of]
  rw [e] at nd
  have nd2 : (M.map fun p => toEO p.2).Nodup := by
    have z := List.pairwise_map.mp nd
    exact z.imp fun h e => h (by rw [e])
  have z := sub_few nd2 (m := leP) fun q hq => by
    obtain ⟨p, hp, rfl⟩ := List.mem_map.mp hq
    obtain ⟨q, e, h1, h2⟩ := h p hp
    rw [e, toEO_of]
    exact mem_leP h1 h2
  rw [List.length_map, leP_len] at z
  omega
theorem pairsD_eqv : ∀ ws es : List E2, PyData.eqvAll (ws.map pairD) (es.map pairD) = decide (ws = es)
  | [], [] => by simp [PyData.eqvAll]
  | [], _ :: _ => by simp [PyData.eqvAll]
  | _ :: _, [] => by simp [PyData.eqvAll]
  | w :: ws, e :: es => by
    rw [List.map_cons, List.map_cons]
    simp only [PyData.eqvAll]
    rw [pairD_eqv, pairsD_eqv ws es]
    by_cases h : w = e
    · subst h
      simp
    · simp [h]
theorem pairs_shapedO (es : List E2) : SeqAt.shaped (.list (es.map pairD)) = true := by
  have pd := pairsD_depth es
  unfold SeqAt.shaped
  rw [Bool.and_eq_true, decide_eq_true_eq]
  refine ⟨?_, ?_⟩
  · simp only [PyData.canLay0, pairsD_lay es]
  · simp only [PyData.depth]
    omega
theorem vp_edge (n : Int) (s : Sh) : vpB n s = edgeM n n s := by
  cases s with
  | tup ss => rcases ss with _ | ⟨a, _ | ⟨b, _ | ⟨c, t⟩⟩⟩ <;> rfl
  | _ => rfl
theorem vp_pairs {n : Nat} {ss : List Sh} (h : ss.all (vpB (n : Int)) = true) : ∃ ps : List E2, ss = ps.map pairS ∧ ∀ p ∈ ps, p.1 < n ∧ p.2 < n := by
  rw [show vpB (n : Int) = edgeM n n from funext (vp_edge n)] at h
  obtain ⟨ps, e, lt⟩ := edgesM_pairs h
  exact ⟨ps, e, fun p hp => by have := lt p hp; omega⟩
theorem ori_vp {n : Nat} {es : List E2} (g : Good n es) {ss : List Sh} (h : Ori es (.tup ss)) : ss.all (vpB (n : Int)) = true := by
  obtain ⟨ps, e, _, h1, _⟩ := h
  injection e with e
  subst e
  rw [List.all_eq_true]
  intro s hs
  obtain ⟨p, hp, rfl⟩ := List.mem_map.mp hs
  have small : ∀ q : Z2, q ∈ es.map zE → 0 ≤ q.1 ∧ q.1 < n ∧ 0 ≤ q.2 ∧ q.2 < n := fun q hq => by
    obtain ⟨r, hr, rfl⟩ := List.mem_map.mp hq
    have := g.lt r hr
    show (0 : Int) ≤ (r.1 : Int) ∧ (r.1 : Int) < n ∧ (0 : Int) ≤ (r.2 : Int) ∧ (r.2 : Int) < n
    omega
  have b : 0 ≤ p.1 ∧ p.1 < n ∧ 0 ≤ p.2 ∧ p.2 < n := by
    rcases h1 p hp with z | z
    · exact small p z
    · have := small _ z
      exact ⟨this.2.2.1, this.2.2.2, this.1, this.2.1⟩
  show ((decide (p.1 ≥ 0) && decide (p.1 ≤ (n : Int) - 1)) && (decide (p.2 ≥ 0) && decide (p.2 ≤ (n : Int) - 1))) = true
  simp
  omega
end My

set_option maxHeartbeats 4000000
/-! A pair in a list or a tuple of pairs; lots compared to the empty one. -/
namespace My
open PySem PySem.Spec PyProof.Rows L2
def numsD (l : List Nat) : List PyData := l.map fun k => PyData.int ((k : Nat) : Int)
theorem numsD_dp {K : PySem.W.Frag} {H : Hp} : ∀ l : List Nat, DpAll K H (numsN l) (numsD l)
  | [] => .nil
  | a :: r => .cons (.int _) (numsD_dp r)
theorem numsD_lay : ∀ l : List Nat, PyData.canLayAll0 (numsD l) = true ∧ PyData.depthAll (numsD l) ≤ 1
  | [] => by constructor <;> simp [numsD, PyData.canLayAll0, PyData.depthAll]
  | a :: r => by
    obtain ⟨h1, h2⟩ := numsD_lay r
    unfold numsD at h1 h2 ⊢
    rw [List.map_cons]
    constructor
    · simp only [PyData.canLayAll0, PyData.canLay0, h1, Bool.and_true]
    · simp only [PyData.depthAll, PyData.depth]
      omega
theorem numsD_shL (l : List Nat) : SeqAt.shaped (.list (numsD l)) = true := by
  obtain ⟨h1, h2⟩ := numsD_lay l
  unfold SeqAt.shaped
  rw [Bool.and_eq_true, decide_eq_true_eq]
  refine ⟨?_, ?_⟩
  · simp only [PyData.canLay0, h1]
  · simp only [PyData.depth]
    omega
theorem numsD_shT (l : List Nat) : SeqAt.shaped (.tuple (numsD l)) = true := by
  obtain ⟨h1, h2⟩ := numsD_lay l
  unfold SeqAt.shaped
  rw [Bool.and_eq_true, decide_eq_true_eq]
  refine ⟨?_, ?_⟩
  · simp only [PyData.canLay0, h1]
  · simp only [PyData.depth]
    omega
theorem numsD_nilL (l : List Nat) : PyData.eqv (.list (numsD l)) (.list (numsD [])) = l.isEmpty := by
  cases l with
  | nil => simp [numsD, PyData.eqv, PyData.eqvAll]
  | cons a r => simp [numsD, PyData.eqv, PyData.eqvAll]
theorem numsD_nilT (l : List Nat) : PyData.eqv (.tuple (numsD l)) (.tuple (numsD [])) = l.isEmpty := by
  cases l with
  | nil => simp [numsD, PyData.eqv, PyData.eqvAll]
  | cons a r => simp [numsD, PyData.eqv, PyData.eqvAll]
section
variable {X : Cx}
def rInPL (K : PySem.W.Frag) : R2 := fun x y H Q => ∃ (p : E2) (t : Addr) (xs : List V) (es : List E2), PairAt K H x p ∧ y = .ref t ∧ (SqL K H t xs ∨ SqT K H t xs) ∧ PairsAt K H xs es ∧ Q (.bl (decide (p ∈ es))) H
theorem op_inPL (hu : X.A.units + 64 < cLine) : OpR X (compareOp .In) (rInPL X.K) := by
  rintro pins s σ H x y v u Q I rx ry ⟨p, t, xs, es, hp, rfl, ht, hes, q⟩
  rcases ht with ht | ht
  · obtain ⟨as, r1⟩ := Dp.reads I _ x v hp.dp rx
    obtain ⟨bs, r2⟩ := Dp.reads I (.list (es.map pairD)) (.ref t) u (.lst ht hes.dp) ry
    refine SeqAt.in_list_reads r2 r1 (pairsD_lay es) (pairD_lay p) ?_ ?_
    · have := pairD_depth p
      have := Nat.min_le_right (PyData.depthAll (es.map pairD)) (pairD p).depth
      omega
    · rw [any_pairs]
      exact ⟨.bl _, H, I, rfl, q⟩
  · exact op_inP hu pins s σ H x _ v u Q I rx ry ⟨p, t, xs, es, hp, rfl, ht, hes, q⟩
end
end My
namespace My
open PySem PySem.Spec PyProof.Rows L2
theorem pairs_ksT {H : Hp} : ∀ {ys : List V} {qs : List E2}, PairsT H ys qs → ∃ ks : List (Addr × List Int), ys = ks.map (fun p => V.ref p.1) ∧ ks.map (·.2) = qs.map (fun q => [(q.1 : Int), (q.2 : Int)]) ∧ ∀ p ∈ ks, H p.1 = some (.tup (p.2.map V.int))
  | _, _, .nil => ⟨[], rfl, rfl, fun _ z => nomatch z⟩
  | _, _, .cons a b => by
    obtain ⟨t, rfl, h⟩ := a
    obtain ⟨ks, h1, h2, h3⟩ := pairs_ksT b
    refine ⟨(t, _) :: ks, by rw [h1]; rfl, by rw [List.map_cons, h2]; rfl, ?_⟩
    intro p hp
    rcases List.mem_cons.mp hp with rfl | hp
    · exact h
    · exact h3 p hp
theorem ks_pairsT {H : Hp} : ∀ {L : List (Addr × List Int)}, (∀ p ∈ L, H p.1 = some (.tup (p.2.map V.int))) → (∀ p ∈ L, p.2 = [((toEO p.2).1 : Int), ((toEO p.2).2 : Int)]) → PairsT H (L.map fun q => V.ref q.1) (L.map fun p => toEO p.2)
  | [], _, _ => .nil
  | p :: L, h, b => by
    refine .cons ⟨p.1, rfl, ?_⟩ (ks_pairsT (fun r hr => h r (List.mem_cons_of_mem _ hr)) fun r hr => b r (List.mem_cons_of_mem _ hr))
    have z := h p (List.mem_cons_self ..)
    rw [b p (List.mem_cons_self ..)] at z
    exact z
def lotsD (L : List (List Nat)) : List PyData := L.map fun l => .tuple (numsD l)
theorem lotsD_lay : ∀ L : List (List Nat), PyData.canLayAll0 (lotsD L) = true ∧ PyData.depthAll (lotsD L) ≤ 3
  | [] => by constructor <;> simp [lotsD, PyData.canLayAll0, PyData.depthAll]
  | l :: r => by
    obtain ⟨h1, h2⟩ := lotsD_lay r
    obtain ⟨g1, g2⟩ := numsD_lay l
    unfold lotsD at h1 h2 ⊢
    rw [List.map_cons]
    constructor
    · simp only [PyData.canLayAll0, PyData.canLay0, h1, g1, Bool.and_true]
    · simp only [PyData.depthAll, PyData.depth]
      omega
theorem lotsD_sh (L : List (List Nat)) : SeqAt.shaped (.list (lotsD L)) = true := by
  obtain ⟨h1, h2⟩ := lotsD_lay L
  unfold SeqAt.shaped
  rw [Bool.and_eq_true, decide_eq_true_eq]
  refine ⟨?_, ?_⟩
  · simp only [PyData.canLay0, h1]
  · simp only [PyData.depth]
    omega
theorem lotsD_nil (L : List (List Nat)) : PyData.eqv (.list (lotsD L)) (.list (lotsD [])) = L.isEmpty := by
  cases L with
  | nil => simp [lotsD, PyData.eqv, PyData.eqvAll]
  | cons a r => simp [lotsD, PyData.eqv, PyData.eqvAll]
end My
namespace My
open PySem PySem.Spec PyProof.Rows L2
section
variable {X : Cx}
def rListRng2 : List V → Hp → VK → Prop := fun vs H Q => ∃ (a : Addr) (lo n : Nat), vs = [V.ref a] ∧ H a = some (.rng (lo : Int) ((lo + n : Nat) : Int)) ∧ n ≤ 1000 ∧ lo ≤ 1000 ∧ ∀ p, H p = none → Q (.ref p) (upd H p (.lst (numsN ((List.range n).map (lo + ·)))))
theorem call_listRng2 (hc : X.calm = true) : CallR X (.type "list") rListRng2 := by
  intro pins s σ H vs us Q I r h
  obtain ⟨a, lo, n, rfl, ha, hn, hlo, q⟩ := h
  obtain ⟨u1, rfl, ru⟩ := vals1 r
  obtain rfl : u1 = Value.ref a := ru
  obtain ⟨t1, t2, t3, ho⟩ := I.hok a _ ha
  refine call_list_range (I.ok.hd hc) (n := n) ho (small_one (by omega) (by omega) (by omega) (by omega)) (by rw [rangeSize_one]; split <;> omega) (by omega) fun h' tk acc c' hk e' hi => ?_
  refine ⟨.ref s.heap.objs.size, upd H s.heap.objs.size (.lst (numsN ((List.range n).map (lo + ·)))), I.laid hk (Nat.le_refl _) (show ObjOk X.prog X.w _ _ _ (.lst (numsN ((List.range n).map (lo + ·)))) from ⟨?_, acc.toList, c', ?_, ?_⟩), rfl, q _ (I.hok.fresh (Nat.le_refl _))⟩
  · rw [numsN_len, List.length_map, List.length_range]; exact small hn
  · have la : acc.toList.length = n := by rw [Array.length_toList]; exact hi.1
    have es : numsN ((List.range n).map (lo + ·)) = (List.range acc.toList.length).map fun i => V.int (((lo + i : Nat)) : Int) := by
      rw [la]
      unfold numsN
      rw [List.map_map]
      rfl
    rw [es]
    refine vals_of_get acc.toList _ fun j u hj => ?_
    obtain ⟨t, rfl⟩ := hi.2 j u (by rw [← hj, Array.getElem?_toList])
    refine ⟨t, ?_⟩
    rw [Int.mul_one]
    congr 1
  · rw [Array.toArray_toList]
    exact e'
end
end My

set_option maxHeartbeats 4000000
/-! Changes of graphs, in plain Lean. -/
namespace My
open PySem PySem.Spec PyProof.Rows L2
theorem ahead_irr {a : E2} : ¬ ahead a a := fun h => ahead_ne h rfl
theorem ahead_anti {a b : E2} (h : ahead a b) (k : ahead b a) : False := by
  unfold ahead at h k
  omega
theorem up_ext : ∀ {xs ys : List E2}, xs.Pairwise ahead → ys.Pairwise ahead → (∀ p, p ∈ xs ↔ p ∈ ys) → xs = ys
  | [], [], _, _, _ => rfl
  | [], y :: ys, _, _, h => absurd ((h y).mpr List.mem_cons_self) (by simp)
  | x :: xs, [], _, _, h => absurd ((h x).mp List.mem_cons_self) (by simp)
  | x :: xs, y :: ys, hx, hy, h => by
    obtain ⟨x1, x2⟩ := List.pairwise_cons.mp hx
    obtain ⟨y1, y2⟩ := List.pairwise_cons.mp hy
    have e : x = y := by
      rcases List.mem_cons.mp ((h x).mp List.mem_cons_self) with e | m
      · exact e
      · rcases List.mem_cons.mp ((h y).mpr List.mem_cons_self) with e | m'
        · exact e.symm
        · exact (ahead_anti (x1 y m') (y1 x m)).elim
    subst e
    rw [up_ext x2 y2 fun p => ⟨fun m => ?_, fun m => ?_⟩]
    · rcases List.mem_cons.mp ((h p).mp (List.mem_cons_of_mem _ m)) with e | m'
      · exact absurd (x1 p m) (by rw [e]; exact ahead_irr)
      · exact m'
    · rcases List.mem_cons.mp ((h p).mpr (List.mem_cons_of_mem _ m)) with e | m'
      · exact absurd (y1 p m) (by rw [e]; exact ahead_irr)
      · exact m'
theorem getD_at {l : List Nat} {i : Nat} (h : i < l.length) : l.getD i 0 = l[i] := by
  simp [h]
/-- the place in a lot -/
def place (l : List Nat) (k : Nat) : Nat := l.findIdx (· == k)
theorem place_lt {l : List Nat} {k : Nat} (h : k ∈ l) : place l k < l.length := List.findIdx_lt_length_of_exists ⟨k, h, beq_self_eq_true k⟩
theorem place_get {l : List Nat} {k : Nat} (h : k ∈ l) : l.getD (place l k) 0 = k := by
  have lt := place_lt h
  rw [getD_at lt]
  exact beq_iff_eq.mp (show (l[place l k] == k) = true from List.findIdx_getElem (w := lt))
theorem place_at {l : List Nat} {k : Nat} (h : k ∈ l) : (l.map fun k => ((k : Nat) : Int))[place l k]? = some (k : Int) ∧ ∀ m, m < place l k → (l.map fun k => ((k : Nat) : Int))[m]? ≠ some (k : Int) := by
  have lt := place_lt h
  constructor
  · rw [List.getElem?_map, List.getElem?_eq_getElem lt]
    have e2 : l[place l k] = k := by have := place_get h; rwa [getD_at lt] at this
    show some (((l[place l k] : Nat)) : Int) = _
    rw [e2]
  · intro m hm z
    rw [List.getElem?_map] at z
    cases e : l[m]? with
    | none => rw [e] at z; cases z
    | some a =>
      rw [e] at z
      have z2 : ((a : Nat) : Int) = (k : Int) := Option.some.inj z
      obtain ⟨l1, e1⟩ := List.getElem?_eq_some_iff.mp e
      have no := List.not_of_lt_findIdx hm
      rw [e1] at no
      exact absurd (show (a == k) = true by simp; omega) (by simpa using no)
theorem asc_get {l : List Nat} (up : l.Pairwise (· < ·)) {i j : Nat} (ij : i < j) (jl : j < l.length) : l.getD i 0 < l.getD j 0 := by
  rw [getD_at jl, getD_at (Nat.lt_trans ij jl)]
  exact List.pairwise_iff_getElem.mp up i j (Nat.lt_trans ij jl) jl ij
theorem asc_place {l : List Nat} (up : l.Pairwise (· < ·)) {a b : Nat} (ha : a ∈ l) (hb : b ∈ l) (h : a < b) : place l a < place l b := by
  rcases Nat.lt_trichotomy (place l a) (place l b) with z | z | z
  · exact z
  · have h1 := place_get ha
    have h2 := place_get hb
    rw [z, h2] at h1
    omega
  · have := asc_get up z (place_lt ha)
    rw [place_get ha, place_get hb] at this
    omega
theorem place_nth {l : List Nat} (up : l.Pairwise (· < ·)) {i : Nat} (il : i < l.length) : place l (l.getD i 0) = i := by
  have m : l.getD i 0 ∈ l := by rw [getD_at il]; exact List.getElem_mem il
  rcases Nat.lt_trichotomy (place l (l.getD i 0)) i with z | z | z
  · have := asc_get up z il
    rw [place_get m] at this
    omega
  · exact z
  · have := asc_get up z (place_lt m)
    rw [place_get m] at this
    omega
/-- the pairs within a lot, renumbered -/
def withinL (es : List E2) (l : List Nat) : List E2 := (es.filter fun p => decide (p.1 ∈ l) && decide (p.2 ∈ l)).map fun p => (place l p.1, place l p.2)
def withinP (es : List E2) (l : List Nat) : List E2 := tabP l.length fun i j => adjB es (l.getD i 0) (l.getD j 0)
theorem withinL_eq {n : Nat} {es : List E2} (g : Good n es) {l : List Nat} (up : l.Pairwise (· < ·)) (l9 : l.length ≤ 9) : withinL es l = withinP es l := by
  refine up_ext ?_ (tab_good l9 _).up fun p => ?_
  · unfold withinL
    rw [List.pairwise_map]
    refine (g.up.filter _).imp_of_mem fun {a b} ha hb h => ?_
    obtain ⟨_, ha⟩ := List.mem_filter.mp ha
    obtain ⟨_, hb⟩ := List.mem_filter.mp hb
    rw [Bool.and_eq_true, decide_eq_true_eq, decide_eq_true_eq] at ha hb
    rcases h with h | ⟨h, k⟩
    · exact .inl (asc_place up ha.1 hb.1 h)
    · exact .inr ⟨by show place l a.1 = place l b.1; rw [h], asc_place up ha.2 hb.2 k⟩
  · unfold withinL withinP tabP
    rw [List.mem_map, List.mem_filter]
    constructor
    · rintro ⟨q, hq, rfl⟩
      obtain ⟨h1, h2⟩ := List.mem_filter.mp hq
      rw [Bool.and_eq_true, decide_eq_true_eq, decide_eq_true_eq] at h2
      have := g.lt q h1
      refine ⟨mem_allP.mpr ⟨asc_place up h2.1 h2.2 this.1, place_lt h2.2⟩, ?_⟩
      show adjB es (l.getD (place l q.1) 0) (l.getD (place l q.2) 0) = true
      rw [place_get h2.1, place_get h2.2]
      unfold adjB
      rw [Nat.min_eq_left (by omega), Nat.max_eq_right (by omega)]
      exact decide_eq_true h1
    · rintro ⟨h1, h2⟩
      obtain ⟨h3, h4⟩ := mem_allP.mp h1
      have lt := asc_get up h3 h4
      have m1 : l.getD p.1 0 ∈ l := by rw [getD_at (Nat.lt_trans h3 h4)]; exact List.getElem_mem _
      have m2 : l.getD p.2 0 ∈ l := by rw [getD_at h4]; exact List.getElem_mem _
      unfold adjB at h2
      dsimp only at h2
      rw [Nat.min_eq_left (by omega), Nat.max_eq_right (by omega)] at h2
      refine ⟨(l.getD p.1 0, l.getD p.2 0), List.mem_filter.mpr ⟨of_decide_eq_true h2, by rw [decide_eq_true m1, decide_eq_true m2]; rfl⟩, ?_⟩
      show (place l (l.getD p.1 0), place l (l.getD p.2 0)) = p
      rw [place_nth up (Nat.lt_trans h3 h4), place_nth up h4]
/-! ### what a change is -/
def eqs (z : Str) (x : String) : Bool := decide (V.str z = V.str (x : Str))
def lenV (z : Str) : V := if eqs z "vertex" || eqs z "out" then .int 2 else if eqs z "edge" || eqs z "cut" then .int 3 else .non
def numsOf (z : Str) (rest : List Sh) : Option (List Sh) := if eqs z "vertex" then (match rest with | [.tup ss] => some ss | _ => none) else some rest
def isChg : Sh → Bool
  | .tup (.str z :: rest) => decide (lenV z = .int ((rest.length : Int) + 1)) && (match numsOf z rest with | some ss => ss.all (wholeR 0 8) && ascB ss | none => false)
  | _ => false
def isStrS : Sh → Bool
  | .str _ => true
  | _ => false
theorem isS_of {K : PySem.W.Frag} {H : Hp} {v : V} {s : Sh} (h : ShAt K H v s) : ∃ t, TyX K H v t ∧ PySem.W.kitOne K t (.type "str") = some (isStrS s) := by
  cases h with
  | int i => exact ⟨_, .base (.int i), rfl⟩
  | bool b => exact ⟨_, .base (.bl b), rfl⟩
  | tup h r => exact ⟨_, tyx_tup h, rfl⟩
  | non => exact ⟨_, .base .non, rfl⟩
  | str x => exact ⟨_, .base (.str x), rfl⟩
  | lst h => exact ⟨_, tyx_lst h, rfl⟩
  | dct h => exact ⟨_, .base (.dK h), rfl⟩
/-! ### the table of lengths -/
def LensOk (K : PySem.W.Frag) (w : World) (d : Addr) : Prop := (∃ es n, KDict K w d es n) ∧ ∀ z : Str, ∃ r, PySem.W.nsIn K d z = some r ∧ RelV (lenV z) (r.getD .none)
theorem lens_mk {w : World} {K : PySem.W.Frag} {d : Addr} {es : Array DictEntry} {n : Nat} {t1 t2 t3 t4 : Tok} (b : K.lookup d = some ⟨.type "dict", none, .dict es n, #[]⟩) (c : PySem.W.KeysLit w.params es.toList) (lo : (d == sysModules) = false)
    (v1 : PySem.W.nsIn K d "vertex" = some (some (.int 2 t1))) (v2 : PySem.W.nsIn K d "out" = some (some (.int 2 t2))) (v3 : PySem.W.nsIn K d "edge" = some (some (.int 3 t3))) (v4 : PySem.W.nsIn K d "cut" = some (some (.int 3 t4)))
    (ks : es.toList.map (fun e => e.key.isStr "vertex" || e.key.isStr "out" || e.key.isStr "edge" || e.key.isStr "cut") = [true, true, true, true]) : LensOk K w d := by
  refine ⟨⟨es, n, b, c, lo⟩, fun z => ?_⟩
  by_cases z1 : z = "vertex"
  · subst z1
    exact ⟨_, v1, t1, rfl⟩
  by_cases z2 : z = "out"
  · subst z2
    exact ⟨_, v2, t2, rfl⟩
  by_cases z3 : z = "edge"
  · subst z3
    exact ⟨_, v3, t3, rfl⟩
  by_cases z4 : z = "cut"
  · subst z4
    exact ⟨_, v4, t4, rfl⟩
  refine ⟨none, ?_, ?_⟩
  · unfold PySem.W.nsIn
    rw [b]
    show (match es.toList.find? (·.key.isStr z) with | some e => some (some e.val) | none => if es.toList.any (·.refKey) then none else some none) = some none
    have all : ∀ e ∈ es.toList, (e.key.isStr "vertex" || e.key.isStr "out" || e.key.isStr "edge" || e.key.isStr "cut") = true := fun e he => by
      have m := List.mem_map_of_mem (f := fun e : DictEntry => e.key.isStr "vertex" || e.key.isStr "out" || e.key.isStr "edge" || e.key.isStr "cut") he
      rw [ks] at m
      simpa using m
    have no : es.toList.find? (·.key.isStr z) = none := List.find?_eq_none.mpr fun e he => by
      obtain ⟨x, t, hk, _⟩ := c.all e he
      have a := all e he
      rw [hk] at a ⊢
      intro q
      have isx : ∀ y : Str, (Value.str x t).isStr y = true → x = y := fun y h => by
        have := beq_iff_eq.mp (show (x == y) = true from h)
        exact this
      have e1 := isx z q
      subst e1
      simp only [Bool.or_eq_true] at a
      rcases a with ((a | a) | a) | a
      · exact z1 (isx _ a)
      · exact z2 (isx _ a)
      · exact z3 (isx _ a)
      · exact z4 (isx _ a)
    have nr : es.toList.any (·.refKey) = false := List.any_eq_false.mpr fun e he => by
      obtain ⟨x, t, hk, _⟩ := c.all e he
      unfold DictEntry.refKey
      rw [hk]
      simp
    rw [no, nr]
    rfl
  · have ne : ∀ (y : String), z ≠ (y : Str) → eqs z y = false := fun y h => decide_eq_false fun e => by injection e with e; exact h e
    unfold lenV
    rw [ne _ z1, ne _ z2, ne _ z3, ne _ z4]
    rfl
end My

set_option maxHeartbeats 8000000
namespace My
open PySem PySem.Spec PyProof.Rows L2
abbrev sPIsChg : Stmt := top 21
theorem scPIsChg : FnScope ["value", "kind", "rest", "numbers", "number"] ["value"] (defScope sPIsChg) := ⟨rfl, rfl, rfl, by decide +kernel, rfl, by decide +kernel, by decide +kernel⟩
def allAsc : Sh → Bool
  | .tup ns => ns.all (wholeR 0 8) && ascB ns
  | _ => false
theorem scal_len (z : Str) (k : Int) : scal (lenV z) (.int k) = true := by
  unfold lenV
  split
  · rfl
  · split <;> rfl
def spPIsChg (K : PySem.W.Frag) : Sp := fun vs H Q _ => ∃ (v : V) (s : Sh), vs = [v] ∧ ShAt K H v s ∧ Lb s ∧ ∀ H', Same H H' → Q (.bl (isChg s)) H'
section
variable {P : Program} {w : World} {K : PySem.W.Frag} {mg : Str → Option Value} {base : Heap} {f fW fA dL : Addr} {fd dW dA : FuncData}
theorem ok_pischg (F : L2.Fun K "is_change" "is_change" sPIsChg f fd) (GW : FnOk P w K mg base CX0 2 fW dW ["value", "low", "high"] (spIsWholeA K)) (bW : L2.Binds K dW ["value", "low", "high"] []) (kW : PySem.W.keepIn K (.ref fW) = true) (mW : mg "is_whole" = some (.ref fW))
    (GA : FnOk P w K mg base CX0 1 fA dA ["row"] (spAscA K)) (bA : L2.Binds K dA ["row"] []) (kA : PySem.W.keepIn K (.ref fA) = true) (mA : mg "is_ascending" = some (.ref fA))
    (mL : mg "LENGTHS" = some (.ref dL)) (hL : LensOk K w dL)
    (tk : Tok) (mV : mg "MOST_VERTICES" = some (.int 9 tk)) (mty : mg "type" = none) (mt : mg "tuple" = none) (ms : mg "str" = none) (ma : mg "all" = none) (ml : mg "len" = none) : FnOk P w K mg base CX0 3 f fd ["value"] (spPIsChg K) := by
  obtain ⟨⟨des, dn, D⟩, lens⟩ := hL
  refine F.ok scPIsChg (fun vs H Q E h => ?_) (fun cdv A outer s0 H vs Q E hr h => ?_)
  · obtain ⟨v, s, rfl, _⟩ := h
    rfl
  obtain ⟨v, s, rfl, hv, lb, q⟩ := h
  have h1 := hr.mono (show 1 ≤ 2 by decide)
  refine ⟨_, pss_cons (ps_if (PW.pt (pw_or (pt_cmpR op_isNotTy (pe_callTy call_type1 (by rfl) mty (by decide +kernel) (pa_cons (pv 0) pa_nil)) (pe_bltn (v := .ty "tuple") (by rfl) mt (by decide +kernel) rfl) (nomark _)) (pw_or (pt_not (pt_truth (pv 0) (by intro _; rfl))) (pw_or1 (pt_cmpR op_isNotTy (pe_callTy call_type1 (by rfl) mty (by decide +kernel) (pa_cons (pe_ix (r := rIxT K) ix_tup (pv 0) pe_int (fun _ _ => rfl)) pa_nil)) (pe_bltn (v := .ty "str") (by rfl) ms (by decide +kernel) rfl) (nomark _)))))) (pss_one (ps_ret pe_bl)) pss_nil)
    (pss_cons (ps_if (pt_cmpR op_ne (pe_kget D (by rfl) mL (pe_ix (r := rIxT K) ix_tup (pv 0) pe_int (fun _ _ => rfl)) ⟨rfl, rfl, rfl, rfl⟩) (pe_callB call_len_seq (by rfl) ml PySem.boot_len (pa_cons (pv 0) pa_nil)) (nomark _)) (pss_one (ps_ret pe_bl)) pss_nil)
    (pss_cons (ps_asg (pv 0) (pg_starT (by rfl) (pg_name (i := 1) scPIsChg.nd rfl (.inl rfl)) (pg_name (i := 2) scPIsChg.nd rfl (.inl rfl))))
    (pss_cons (ps_set (i := 3) scPIsChg.nd rfl (.inl rfl) (pe_ifExp (pt_cmpR op_eq (pv 1) pe_str (nomark _)) (pe_ix (r := rIxL K) ix_list (pv 2) pe_int (fun _ _ => rfl)) (pe_callTy call_tuple_of (by rfl) mt (by decide +kernel) (pa_cons (pv 2) pa_nil))))
    (pss_cons (ps_if (pt_cmpR op_isNotTy (pe_callTy call_type1 (by rfl) mty (by decide +kernel) (pa_cons (pv 3) pa_nil)) (pe_bltn (v := .ty "tuple") (by rfl) mt (by decide +kernel) rfl) (nomark _)) (pss_one (ps_ret pe_bl)) pss_nil)
    (pss_one (ps_ret (pe_and (pe_callB (cr_all rfl) (by rfl) ma (by decide +kernel) (pa_cons (pe_lc (own := [("number", 4)]) (g := gName 4) (tt := tYes) rfl scPIsChg.nd (pi_tup (pv 3))
        (blkOk_by (N := ["value", "kind", "rest", "numbers", "number"]) (sc := defScope sPIsChg) (by decide +kernel)) (fun _ _ _ _ _ => pg_name (i := 4) scPIsChg.nd rfl (Or.inl rfl)) (fun _ _ _ _ _ => pts_nil)
        (fun _ _ _ _ _ => pe_call GW hr (by rfl) mW kW bW .nil pass0 (pa_cons (pv 4) (pa_cons pe_int (pa_cons (pe_op op_sub (pe_glob (v := .int 9) (by rfl) mV ⟨_, rfl⟩) pe_int) pa_nil))))) pa_nil)) (pe_one (pe_call GA h1 (by rfl) mA kA bA .nil pass0 (pa_cons (pv 3) pa_nil)))))))))), ?_⟩
  have qn : ∀ H', Same H H' → isChg s = false → Q (.bl false) H' := fun H' s' c => by
    have := q H' s'
    rw [c] at this
    exact this
  obtain ⟨T, ty, ok⟩ := hv.ty
  refine ⟨_, rfl, v, T, rfl, ty, T, "tuple", rfl, rfl, _, rfl, iteB (fun c0 => iteT (qn H (Same.refl H) ?_)) (fun c0 => ?_)⟩
  · have nt : T ≠ "tuple" := by simpa using c0
    cases s with
    | tup ss => exact absurd ok nt
    | _ => rfl
  have et : T = "tuple" := by simpa using c0
  obtain ⟨ss, rfl⟩ : ∃ ss, s = .tup ss := by
    cases s with
    | tup ss => exact ⟨ss, rfl⟩
    | int i => rw [show T = "int" from ok] at et; exact absurd et (by decide)
    | bool b => rw [show T = "bool" from ok] at et; exact absurd et (by decide)
    | str x => rw [show T = "str" from ok] at et; exact absurd et (by decide)
    | oth => exact absurd et ok.2.2.1
  clear c0 et ok ty
  cases hv with
  | @tup u xs _ hu r =>
  refine ⟨_, rfl, !xs.isEmpty, .inr (.inl ⟨xs, hu, rfl⟩), ?_⟩
  cases r with
  | nil => exact iteT (qn H (Same.refl H) rfl)
  | @cons x0 s0 xs ss a r =>
  refine iteF ?_
  obtain ⟨T0, ty0, ok0⟩ := a.ty
  have h00 : atI (x0 :: xs) 0 = some x0 := atI_nat (j := 0) rfl
  refine ⟨_, rfl, u, _, 0, x0, rfl, rfl, hu, h00, x0, T0, rfl, ty0, T0, "str", rfl, rfl, _, rfl, iteB (fun c0 => qn H (Same.refl H) ?_) (fun c0 => ?_)⟩
  · have nt : T0 ≠ "str" := by simpa using c0
    cases s0 with
    | str z => exact absurd ok0 nt
    | _ => rfl
  have et : T0 = "str" := by simpa using c0
  obtain ⟨z, rfl⟩ : ∃ z, s0 = .str z := by
    cases s0 with
    | str z => exact ⟨z, rfl⟩
    | int i => rw [show T0 = "int" from ok0] at et; exact absurd et (by decide)
    | bool b => rw [show T0 = "bool" from ok0] at et; exact absurd et (by decide)
    | tup b => rw [show T0 = "tuple" from ok0] at et; exact absurd et (by decide)
    | oth => exact absurd et ok0.2.2.2
  clear c0 et ok0 ty0
  obtain rfl : x0 = .str z := by cases a; rfl
  have lx := r.len
  have l9 : (Sh.str z :: ss).length ≤ 900 := by cases lb; assumption
  have lbs : ∀ t ∈ ss, Lb t := fun t ht => by
    cases lb with
    | tup _ h => exact h t (List.mem_cons_of_mem _ ht)
  rw [List.length_cons] at l9
  obtain ⟨lr, hlr, rlr⟩ := lens z
  refine ⟨_, rfl, u, _, 0, .str z, rfl, rfl, hu, h00, z, lr, lenV z, rfl, hlr, rlr, _, rfl, u, _, rfl, .inr hu, ?_, _, rfl, iteB (fun c1 => qn H (Same.refl H) ?_) (fun c1 => ?_)⟩
  · exact scal_len z _
  · have ne : decide (lenV z = V.int (((V.str z :: xs).length : Nat) : Int)) = false := by simpa using c1
    rw [List.length_cons, lx, Int.natCast_add, Int.natCast_one] at ne
    show (decide (lenV z = .int ((ss.length : Int) + 1)) && _) = false
    rw [ne, Bool.false_and]
  have c1 : lenV z = .int ((ss.length : Int) + 1) := by
    have ne : decide (lenV z = V.int (((V.str z :: xs).length : Nat) : Int)) = true := by simpa using c1
    rw [List.length_cons, lx, Int.natCast_add, Int.natCast_one] at ne
    exact of_decide_eq_true ne
  refine ⟨_, rfl, u, .str z, xs, rfl, hu, fun L nL => ⟨_, _, rfl, _, _, rfl, rfl, ?_⟩⟩
  have sL := same_new nL (.lst xs)
  have hL := upd_same (H := H) (a := L) (o := .lst xs)
  generalize upd H L (.lst xs) = H1 at sL hL ⊢
  refine' joinS (i := 3) (R := fun y H' => ∃ sn, ShAt K H' y sn ∧ Same H H' ∧ Lb sn ∧ isChg (.tup (.str z :: ss)) = allAsc sn) (fun go => ?_) ?_
  rotate_left 2
  · refine ⟨_, rfl, rfl, _, rfl, iteB (fun c2 => ?_) (fun c2 => ?_)⟩
    · have c2' : eqs z "vertex" = true := c2
      have l2 : lenV z = .int 2 := by
        unfold lenV
        rw [c2']
        rfl
      have c1b := c1
      rw [l2] at c1b
      injection c1b with c1b
      have lx1 : xs.length = 1 := by omega
      obtain ⟨x1, e1⟩ := List.length_eq_one_iff.mp lx1
      have h0 : xs[0]? = some x1 := by rw [e1]; rfl
      obtain ⟨s1, hs1, a1⟩ := r.get h0
      have e2 : ss = [s1] := by
        obtain ⟨s2, e2⟩ := List.length_eq_one_iff.mp (show ss.length = 1 by omega)
        rw [e2] at hs1 ⊢
        simpa using hs1
      refine ⟨_, rfl, L, xs, 0, x1, rfl, rfl, SqL.of hL, atI_nat (j := 0) h0, go x1 H1 ⟨s1, a1.same sL, sL, lbs s1 (List.mem_of_getElem? hs1), ?_⟩⟩
      rw [e2]
      show (decide (lenV z = .int 2) && _) = _
      rw [decide_eq_true l2, Bool.true_and]
      unfold numsOf
      rw [if_pos c2']
      cases s1 <;> rfl
    · have c2' : eqs z "vertex" = false := c2
      refine ⟨_, rfl, L, xs, rfl, .inl ⟨SqL.of hL, fun t nt => go _ _ ⟨.tup ss, .tup (SqT.of upd_same) (r.same (sL.trans (same_new nt _))), sL.trans (same_new nt _), .tup (by omega) lbs, ?_⟩⟩⟩
      show (decide (lenV z = .int ((ss.length : Int) + 1)) && _) = _
      rw [decide_eq_true c1, Bool.true_and]
      unfold numsOf
      rw [c2']
      rfl
  rintro y H2 ⟨sn, hy, s2, lbn, eq0⟩
  rw [eq0] at q
  have qf : ∀ H', Same H H' → allAsc sn = false → Q (.bl false) H' := fun H' s' c => by
    have := q H' s'
    rw [c] at this
    exact this
  obtain ⟨T2, ty2, ok2⟩ := hy.ty
  refine ⟨_, rfl, y, T2, rfl, ty2, T2, "tuple", rfl, rfl, _, rfl, iteB (fun c0 => qf H2 s2 ?_) (fun c0 => ?_)⟩
  · have nt : T2 ≠ "tuple" := by simpa using c0
    cases sn with
    | tup ss => exact absurd ok2 nt
    | _ => rfl
  have et : T2 = "tuple" := by simpa using c0
  obtain ⟨ns, rfl⟩ : ∃ ns, sn = .tup ns := by
    cases sn with
    | tup ss => exact ⟨ss, rfl⟩
    | int i => rw [show T2 = "int" from ok2] at et; exact absurd et (by decide)
    | bool b => rw [show T2 = "bool" from ok2] at et; exact absurd et (by decide)
    | str x => rw [show T2 = "str" from ok2] at et; exact absurd et (by decide)
    | oth => exact absurd et ok2.2.2.1
  clear c0 et ok2 ty2
  have ln : ns.length ≤ 900 := by cases lbn; assumption
  cases hy with
  | @tup t ys _ ht ry =>
  have ly := ry.len
  refine ⟨_, rfl, t, rfl, ⟨_, ht⟩, fun B nB => lo_it (walk_tup (xs := ys)) (fun i H3 => Same H2 H3 ∧ H3 B = some (.lst (((ns.take i).map (wholeR 0 8)).map V.bl))) ⟨same_new nB _, upd_same⟩ (fun i H3 _ ⟨s3, _⟩ => Same.tup s3 ht) ?_ ?_⟩
  · rintro i v _ H3 li ⟨s3, hB⟩ ⟨rfl, hv⟩
    obtain ⟨k, hk, st⟩ := (ry.same s3).get hv
    refine ⟨rfl, ?_⟩
    refine ⟨_, rfl, _, _, rfl, rfl, v, k, 0, 8, rfl, st, _, hB, small1000 (by rw [List.length_map, List.length_map, List.length_take]; omega), same_put s3 nB, ?_⟩
    rw [upd_same, push_bl hk]
  rintro H3 ⟨s3, hB⟩
  rw [ly, List.take_length] at hB
  refine ⟨B, _, rfl, SqL.of hB, _, rfl, ?_⟩
  rw [all_id]
  refine iteB (fun c2 => ?_) (fun c2 => ?_)
  · refine ⟨_, rfl, t, ys, ns, rfl, Same.tup s3 ht, ry.same s3, .inl fun s hs => ?_, by omega, fun H4 s4 => ?_⟩
    · have := List.all_eq_true.mp c2 s hs
      cases s with
      | int i => exact ⟨i, rfl⟩
      | _ => cases this
    · have z := q H4 (s2.trans (s3.trans s4))
      rw [show allAsc (Sh.tup ns) = (ns.all (wholeR 0 8) && ascB ns) from rfl, c2, Bool.true_and] at z
      exact z
  · refine qf H3 (s2.trans s3) ?_
    show (ns.all (wholeR 0 8) && ascB ns) = false
    rw [c2, Bool.false_and]
end
end My

set_option maxHeartbeats 8000000
namespace My
open PySem PySem.Spec PyProof.Rows L2
abbrev sLIsChg : Stmt := top 37
theorem scLIsChg : FnScope ["value", "each"] ["value"] (defScope sLIsChg) := ⟨rfl, rfl, rfl, by decide +kernel, rfl, by decide +kernel, by decide +kernel⟩
def spLIsChg (K : PySem.W.Frag) : Sp := fun vs H Q _ => ∃ (v : V) (s : Sh), vs = [v] ∧ ShAt K H v s ∧ Lb s ∧ ∀ H', Same H H' → Q (.bl (isChg s)) H'
theorem eqs_ne {z : Str} {x y : String} (h : eqs z x = true) (ne : (x : Str) ≠ (y : Str)) : eqs z y = false := decide_eq_false fun e => by
  have e1 := of_decide_eq_true h
  rw [e1] at e
  injection e with e
  exact ne e
theorem eqs_len {z : Str} : (eqs z "vertex" = true → lenV z = .int 2) ∧ (eqs z "out" = true → lenV z = .int 2) ∧ (eqs z "edge" = true → lenV z = .int 3) ∧ (eqs z "cut" = true → lenV z = .int 3) ∧ (eqs z "vertex" = false → eqs z "out" = false → eqs z "edge" = false → eqs z "cut" = false → lenV z = .non) := by
  refine ⟨fun h => ?_, fun h => ?_, fun h => ?_, fun h => ?_, fun h1 h2 h3 h4 => ?_⟩
  · unfold lenV
    rw [h]
    rfl
  · unfold lenV
    rw [h, Bool.or_true]
    rfl
  · unfold lenV
    rw [eqs_ne h (y := "vertex") (by decide), eqs_ne h (y := "out") (by decide), h]
    rfl
  · unfold lenV
    rw [eqs_ne h (y := "vertex") (by decide), eqs_ne h (y := "out") (by decide), h, Bool.or_true]
    rfl
  · unfold lenV
    rw [h1, h2, h3, h4]
    rfl
theorem chg_vertex {z : Str} {rest : List Sh} (h : eqs z "vertex" = true) : isChg (.tup (.str z :: rest)) = (match rest with | [s] => lotB 9 s | _ => false) := by
  have l := eqs_len.1 h
  show (decide (lenV z = .int ((rest.length : Int) + 1)) && (match numsOf z rest with | some ss => ss.all (wholeR 0 8) && ascB ss | none => false)) = _
  unfold numsOf
  rw [l, if_pos h]
  match rest with
  | [] => rfl
  | [s] =>
    cases s <;> rfl
  | a :: b :: c =>
    have e : decide (V.int 2 = V.int ((((a :: b :: c).length : Nat) : Int) + 1)) = false := decide_eq_false fun e => by
      injection e with e
      simp only [List.length_cons] at e
      omega
    rw [e]
    rfl
theorem chg_else {z : Str} {rest : List Sh} (h : eqs z "vertex" = false) : isChg (.tup (.str z :: rest)) = (decide (lenV z = .int ((rest.length : Int) + 1)) && (rest.all (wholeR 0 8) && ascB rest)) := by
  show (decide (lenV z = .int ((rest.length : Int) + 1)) && (match numsOf z rest with | some ss => ss.all (wholeR 0 8) && ascB ss | none => false)) = _
  unfold numsOf
  rw [h]
  rfl
theorem len_ne1 (z : Str) : lenV z ≠ .int 1 := by
  unfold lenV
  split
  · intro e
    injection e with e
    omega
  · split
    · intro e
      injection e with e
      omega
    · intro e
      cases e
section
variable {P : Program} {w : World} {K : PySem.W.Frag} {mg : Str → Option Value} {base : Heap} {f fW fL : Addr} {fd dW dL : FuncData}
theorem ok_lischg (F : L2.Fun K "_law_is_change" "_law_is_change" sLIsChg f fd) (GW : FnOk P w K mg base CX0 1 fW dW ["value"] (spLWh K)) (bW : L2.Binds K dW ["value"] []) (kW : PySem.W.keepIn K (.ref fW) = true) (mW : mg "_law_is_whole" = some (.ref fW))
    (GL : FnOk P w K mg base CX0 2 fL dL ["value", "many"] (spLLot K)) (bL : L2.Binds K dL ["value", "many"] []) (kL : PySem.W.keepIn K (.ref fL) = true) (mL : mg "_law_is_lot" = some (.ref fL))
    (mi : mg "isinstance" = none) (mt : mg "tuple" = none) (ms : mg "str" = none) (ml : mg "len" = none) (ma : mg "all" = none) : FnOk P w K mg base CX0 3 f fd ["value"] (spLIsChg K) := by
  refine F.ok scLIsChg (fun vs H Q E h => ?_) (fun cdv A outer s0 H vs Q E hr h => ?_)
  · obtain ⟨v, s, rfl, _⟩ := h
    rfl
  obtain ⟨v, s, rfl, hv, lb, q⟩ := h
  have h1 := hr.mono (show 1 ≤ 2 by decide)
  have line2 : (2 : Nat) ≤ sizeLine := small (by decide)
  refine ⟨_, pss_cons (ps_if (PW.pt (pw_or (pt_not (pt_val (pe_callB call_isi (by rfl) mi (by decide +kernel) (pa_cons (pv 0) (pa_cons (pe_bltn (v := .ty "tuple") (by rfl) mt (by decide +kernel) rfl) pa_nil)))))
        (pw_or (pt_cmpR op_lt (pe_callB call_len_seq (by rfl) ml PySem.boot_len (pa_cons (pv 0) pa_nil)) pe_int (nomark _)) (pw_or1 (pt_not (pt_val (pe_callB call_isi (by rfl) mi (by decide +kernel) (pa_cons (pe_ix (r := rIxT K) ix_tup (pv 0) pe_int (fun _ _ => rfl)) (pa_cons (pe_bltn (v := .ty "str") (by rfl) ms (by decide +kernel) rfl) pa_nil))))))))) (pss_one (ps_ret pe_bl)) pss_nil)
    (pss_cons (ps_if (pt_cmpR op_eq (pe_ix (r := rIxT K) ix_tup (pv 0) pe_int (fun _ _ => rfl)) pe_str (nomark _)) (pss_one (ps_ret (pe_and (pe_cmpR op_eq (pe_callB call_len_seq (by rfl) ml PySem.boot_len (pa_cons (pv 0) pa_nil)) pe_int (nomark _)) (pe_one (pe_call GL hr (by rfl) mL kL bL .nil pass0 (pa_cons (pe_ix (r := rIxT K) ix_tup (pv 0) pe_int (fun _ _ => rfl)) (pa_cons pe_int pa_nil))))))) pss_nil)
    (pss_cons (ps_if (pt_not (pt_val (pe_callB (cr_all rfl) (by rfl) ma (by decide +kernel) (pa_cons (pe_lc (own := [("each", 1)]) (g := gName 1) (tt := tYes) rfl scLIsChg.nd (pi_tup (pe_slice sl_tupW (pv 0) (po_some pe_int) po_none))
          (blkOk_by (N := ["value", "each"]) (sc := defScope sLIsChg) (by decide +kernel)) (fun _ _ _ _ _ => pg_name (i := 1) scLIsChg.nd rfl (Or.inl rfl)) (fun _ _ _ _ _ => pts_nil)
          (fun _ _ _ _ _ => pe_and (pe_call GW h1 (by rfl) mW kW bW .nil pass0 (pa_cons (pv 1) pa_nil)) (pe_one (pe_chain op_le op_le pe_int (pv 1) pe_int)))) pa_nil)))) (pss_one (ps_ret pe_bl)) pss_nil)
    (pss_cons (ps_if (pt_cmpR op_eq (pe_ix (r := rIxT K) ix_tup (pv 0) pe_int (fun _ _ => rfl)) pe_str (nomark _)) (pss_one (ps_ret (pe_cmpR op_eq (pe_callB call_len_seq (by rfl) ml PySem.boot_len (pa_cons (pv 0) pa_nil)) pe_int (nomark _)))) pss_nil)
    (pss_one (ps_ret (pe_and (pe_cmpR (r := rIn K false) op_in_seq (pe_ix (r := rIxT K) ix_tup (pv 0) pe_int (fun _ _ => rfl)) (pe_tup (pa_cons pe_str (pa_cons pe_str pa_nil))) (by rfl)) (pe_and (pe_cmpR op_eq (pe_callB call_len_seq (by rfl) ml PySem.boot_len (pa_cons (pv 0) pa_nil)) pe_int (nomark _)) (pe_one (pe_cmpR op_lt (pe_ix (r := rIxT K) ix_tup (pv 0) pe_int (fun _ _ => rfl)) (pe_ix (r := rIxT K) ix_tup (pv 0) pe_int (fun _ _ => rfl)) (nomark _)))))))))), ?_⟩
  have qn : ∀ H', Same H H' → isChg s = false → Q (.bl false) H' := fun H' s' c => by
    have := q H' s'
    rw [c] at this
    exact this
  obtain ⟨tt, tx, k1, _, _⟩ := isi_of hv
  refine ⟨_, rfl, v, .ty "tuple", tt, .type "tuple", isTup s, rfl, .ty _, tx, k1, _, rfl, ?_⟩
  refine iteB (fun c0 => iteT (qn H (Same.refl H) ?_)) (fun c0 => ?_)
  · cases s with
    | tup ss => cases c0
    | _ => rfl
  obtain ⟨ss, rfl⟩ : ∃ ss, s = .tup ss := by
    cases s with
    | tup ss => exact ⟨ss, rfl⟩
    | _ => cases c0
  clear c0 k1 tx
  have l9 : ss.length ≤ 900 := by cases lb; assumption
  have lbs : ∀ t ∈ ss, Lb t := by cases lb; assumption
  cases hv with
  | @tup u xs _ hu r =>
  have lx := r.len
  refine ⟨_, rfl, u, xs, rfl, .inr hu, _, _, rfl, rfl, _, rfl, iteB (fun c1 => iteT (qn H (Same.refl H) ?_)) (fun c1 => ?_)⟩
  · have l2 := of_decide_eq_true c1
    match ss with
    | [] => rfl
    | [a] =>
      cases a with
      | str z =>
        show (decide (lenV z = .int 1) && _) = false
        rw [decide_eq_false (len_ne1 z), Bool.false_and]
      | _ => rfl
    | a :: b :: c =>
      simp only [List.length_cons] at lx
      omega
  have l2 : 2 ≤ ss.length := by
    have := of_decide_eq_false c1
    omega
  obtain ⟨x0, hx0⟩ : ∃ x0, xs[0]? = some x0 := ⟨xs[0], List.getElem?_eq_getElem (by omega)⟩
  obtain ⟨y0, hy0, a0⟩ := r.get hx0
  obtain ⟨x1, hx1⟩ : ∃ x1, xs[1]? = some x1 := ⟨xs[1], List.getElem?_eq_getElem (by omega)⟩
  obtain ⟨y1, hy1, a1⟩ := r.get hx1
  have i0 := atI_nat (j := 0) hx0
  have i1 := atI_nat (j := 1) hx1
  obtain ⟨rest, e0⟩ : ∃ rest, ss = y0 :: rest := by
    cases ss with
    | nil => simp at l2
    | cons a b => exact ⟨b, by simpa using hy0⟩
  have lr : rest.length + 1 = ss.length := by rw [e0, List.length_cons]
  obtain ⟨t0, tx0, k0⟩ := isS_of a0
  refine ⟨_, rfl, u, xs, 0, x0, rfl, rfl, hu, i0, x0, .ty "str", t0, .type "str", isStrS y0, rfl, .ty _, tx0, k0, _, rfl, iteB (fun c2 => qn H (Same.refl H) ?_) (fun c2 => ?_)⟩
  · rw [e0]
    cases y0 with
    | str z => cases c2
    | _ => rfl
  obtain ⟨z, rfl⟩ : ∃ z, y0 = .str z := by
    cases y0 with
    | str z => exact ⟨z, rfl⟩
    | _ => cases c2
  obtain rfl : x0 = .str z := by cases a0; rfl
  clear c2 k0 tx0 c1
  refine ⟨_, rfl, u, xs, 0, _, rfl, rfl, hu, i0, rfl, _, rfl, iteB (fun c3 => ?_) (fun c3 => ?_)⟩
  · -- vertex
    have c3' : eqs z "vertex" = true := c3
    have ev := chg_vertex (rest := rest) c3'
    refine ⟨_, rfl, u, xs, rfl, .inr hu, rfl, _, rfl, iteB (fun c4 => ?_) (fun c4 => qn H (Same.refl H) ?_)⟩
    · have l : xs.length = 2 := by
        have := of_decide_eq_true c4
        injection this with this
        omega
      have er : rest = [y1] := by
        obtain ⟨y, ey⟩ := List.length_eq_one_iff.mp (show rest.length = 1 by omega)
        rw [e0, ey] at hy1
        rw [ey]
        simpa using hy1
      refine ⟨_, rfl, u, xs, 1, x1, rfl, rfl, hu, i1, x1, y1, 9, rfl, a1, lbs _ (List.mem_of_getElem? hy1), fun H1 s1 => ?_⟩
      have z1 := q H1 s1
      rw [e0, ev, er] at z1
      exact z1
    · rw [e0, ev]
      match rest, lr with
      | [], _ => rfl
      | [s], lr =>
        have := of_decide_eq_false c4
        exact absurd (by simp only [List.length_cons, List.length_nil] at lr; rw [show xs.length = 2 by omega]; rfl) this
      | a :: b :: c, _ => rfl
  have c3' : eqs z "vertex" = false := c3
  have ev := chg_else (rest := rest) c3'
  have rr : ShsAt K H (xs.drop 1) rest := by
    rw [e0] at r
    cases r with
    | cons _ b => exact b
  refine ⟨_, rfl, _, rfl, u, xs, rfl, hu, fun t H1 s1 ht => ?_⟩
  have cf := cut_from (xs := xs) (k := 1) (by omega)
  rw [show ((1 : Nat) : Int) = 1 from rfl] at cf
  rw [cf] at ht
  have hu1 := Same.tup s1 hu
  have lxr : (xs.drop 1).length = rest.length := by rw [List.length_drop]; omega
  refine ⟨t, rfl, ⟨_, ht⟩, fun D nD => lo_it (walk_tup (xs := xs.drop 1)) (fun i H2 => Same H1 H2 ∧ H2 D = some (.lst (((rest.take i).map (wholeR 0 8)).map V.bl))) ⟨same_new nD _, upd_same⟩ (fun i H2 _ ⟨s2, _⟩ => Same.tup s2 ht) ?_ ?_⟩
  · rintro i y _ H2 li ⟨s2, hD⟩ ⟨rfl, hy⟩
    obtain ⟨zz, hz, st⟩ := (rr.same (s1.trans s2)).get hy
    have fin : ∀ b, b = wholeR 0 8 zz → Same H1 (upd H2 D (.lst (((rest.take i).map (wholeR 0 8)).map V.bl ++ [.bl b]))) ∧ upd H2 D (.lst (((rest.take i).map (wholeR 0 8)).map V.bl ++ [.bl b])) D = some (.lst (((rest.take (i + 1)).map (wholeR 0 8)).map V.bl)) := fun b e => by
      refine ⟨same_put s2 nD, ?_⟩
      rw [upd_same, push_bl hz, e]
    have ln : (((rest.take i).map (wholeR 0 8)).map V.bl).length < sizeLine := small1000 (by rw [List.length_map, List.length_map, List.length_take]; omega)
    refine ⟨rfl, ?_⟩
    refine ⟨_, rfl, y, zz, rfl, st, _, rfl, iteB (fun c1 => ?_) (fun c1 => ⟨_, hD, ln, fin _ ?_⟩)⟩
    rotate_left 1
    · cases zz with
      | int i => cases c1
      | _ => rfl
    obtain ⟨k, rfl⟩ : ∃ k, zz = .int k := by
      cases zz with
      | int k => exact ⟨k, rfl⟩
      | _ => cases c1
    cases st
    have wl : wholeR 0 8 (.int k) = (decide (0 ≤ k) && decide (k ≤ 8)) := rfl
    refine ⟨_, rfl, _, _, rfl, rfl, _, rfl, iteB (fun c2 => ?_) (fun c2 => ⟨_, hD, ln, fin _ ?_⟩)⟩
    rotate_left 1
    · rw [wl, c2]
      rfl
    refine ⟨_, _, rfl, rfl, _, hD, ln, fin _ ?_⟩
    rw [wl, c2, Bool.true_and]
  rintro H2 ⟨s2, hD⟩
  rw [lxr, List.take_length] at hD
  have s12 := s1.trans s2
  refine ⟨D, _, rfl, SqL.of hD, _, rfl, ?_⟩
  rw [all_id]
  refine iteB (fun c4 => qn H2 s12 ?_) (fun c4 => ?_)
  · have c2 : rest.all (wholeR 0 8) = false := by simpa using c4
    rw [e0, ev, c2, Bool.false_and, Bool.and_false]
  have al : rest.all (wholeR 0 8) = true := by simpa using c4
  rw [e0, ev, al, Bool.true_and] at q
  have num : ∀ t ∈ rest, ∃ k, t = .int k := fun t ht => by
    have := List.all_eq_true.mp al t ht
    cases t with
    | int k => exact ⟨k, rfl⟩
    | _ => cases this
  have hu2 := Same.tup s12 hu
  refine ⟨_, rfl, u, xs, 0, _, rfl, rfl, hu2, i0, rfl, _, rfl, iteB (fun c5 => ?_) (fun c5 => ?_)⟩
  · have c5' : eqs z "out" = true := c5
    refine ⟨_, rfl, u, xs, rfl, .inr hu2, rfl, ?_⟩
    have z1 := q H2 s12
    have e3 : (decide (lenV z = V.int ((rest.length : Int) + 1)) && ascB rest) = decide (V.int ((xs.length : Nat) : Int) = V.int 2) := by
      rw [eqs_len.2.1 c5']
      match rest, lr with
      | [], lr =>
        simp only [List.length_nil] at lr
        rw [show xs.length = 1 by omega]
        rfl
      | [a], lr =>
        simp only [List.length_cons, List.length_nil] at lr
        rw [show xs.length = 2 by omega]
        rfl
      | a :: b :: c, lr =>
        rw [decide_eq_false, Bool.false_and, decide_eq_false]
        · intro e
          injection e with e
          simp only [List.length_cons] at lr
          omega
        · intro e
          injection e with e
          simp only [List.length_cons] at e
          omega
    rw [e3] at z1
    exact z1
  have c5' : eqs z "out" = false := c5
  refine ⟨_, rfl, u, xs, 0, _, rfl, rfl, hu2, i0, line2, fun o no => ?_⟩
  have so := same_new no (.tup [.str "edge", .str "cut"])
  have ho := upd_same (H := H2) (a := o) (o := .tup [.str "edge", .str "cut"])
  generalize upd H2 o (.tup [.str "edge", .str "cut"]) = H3 at so ho ⊢
  have hu3 := Same.tup so hu2
  have s13 := s12.trans so
  refine ⟨o, [.str "edge", .str "cut"], rfl, .inr (SqT.of ho), rfl, rfl, _, rfl, ?_⟩
  have inE : (if false = true then !inV (V.str z) [.str "edge", .str "cut"] else inV (V.str z) [.str "edge", .str "cut"]) = (eqs z "edge" || eqs z "cut") := by
    have e : ∀ y : Str, (y == z) = decide (V.str z = V.str y) := fun y => by
      by_cases h : z = y
      · subst h
        rw [decide_eq_true rfl]
        exact beq_self_eq_true z
      · rw [decide_eq_false (fun q => by injection q with q; exact h q)]
        exact beq_eq_false_iff_ne.mpr fun q => h q.symm
    show (((("edge" : Str) == z)) || ((("cut" : Str) == z) || false)) = _
    rw [e, e, Bool.or_false]
    rfl
  rw [inE]
  refine iteB (fun c6 => ?_) (fun c6 => ?_)
  rotate_left 1
  · have n1 : eqs z "edge" = false := by
      cases h : eqs z "edge" with
      | false => rfl
      | true => rw [h] at c6; cases c6
    have n2 : eqs z "cut" = false := by
      cases h : eqs z "cut" with
      | false => rfl
      | true => rw [h, Bool.or_true] at c6; cases c6
    have z1 := q H3 s13
    rw [eqs_len.2.2.2.2 c3' c5' n1 n2] at z1
    exact z1
  have l3 : lenV z = .int 3 := by
    rcases Bool.or_eq_true _ _ |>.mp c6 with h | h
    · exact eqs_len.2.2.1 h
    · exact eqs_len.2.2.2.1 h
  rw [l3] at q
  refine ⟨_, rfl, u, xs, rfl, .inr hu3, rfl, _, rfl, iteB (fun c7 => ?_) (fun c7 => ?_)⟩
  rotate_left 1
  · have z1 := q H3 s13
    have ne : decide (V.int 3 = V.int ((rest.length : Int) + 1)) = false := decide_eq_false fun e => by
      have := of_decide_eq_false c7
      apply this
      injection e with e
      rw [show ((xs.length : Nat) : Int) = 3 by omega]
    rw [ne, Bool.false_and] at z1
    exact z1
  have l : rest.length = 2 := by
    have := of_decide_eq_true c7
    injection this with this
    omega
  rw [l] at q
  obtain ⟨a, b, er⟩ : ∃ a b, rest = [a, b] := by
    match rest, l with
    | [a, b], _ => exact ⟨a, b, rfl⟩
  obtain ⟨i, ea⟩ := num a (by rw [er]; simp)
  obtain ⟨j, eb⟩ := num b (by rw [er]; simp)
  have hy1' : y1 = .int i := by
    rw [e0, er, ea] at hy1
    simpa using hy1.symm
  subst hy1'
  obtain rfl : x1 = .int i := by cases a1; rfl
  obtain ⟨x2, hx2⟩ : ∃ x2, xs[2]? = some x2 := ⟨xs[2], List.getElem?_eq_getElem (by omega)⟩
  obtain ⟨y2, hy2, a2⟩ := r.get hx2
  have hy2' : y2 = .int j := by
    rw [e0, er, eb] at hy2
    simpa using hy2.symm
  subst hy2'
  obtain rfl : x2 = .int j := by cases a2; rfl
  refine ⟨_, rfl, u, xs, 1, _, rfl, rfl, hu3, i1, _, rfl, u, xs, 2, _, rfl, rfl, hu3, atI_nat (j := 2) hx2, _, _, rfl, rfl, ?_⟩
  have z1 := q H3 s13
  rw [er, ea, eb] at z1
  have e : (decide (V.int 3 = V.int (((2 : Nat) : Int) + 1)) && ascB [Sh.int i, Sh.int j]) = decide (i < j) := by
    rw [decide_eq_true (by rfl), Bool.true_and]
    show (List.zipWith ltS [Sh.int i, Sh.int j] [Sh.int j]).all id = _
    show (decide (i < j) && true) = _
    rw [Bool.and_true]
  rw [e] at z1
  exact z1
end
end My

set_option maxHeartbeats 4000000
namespace My
open PySem PySem.Spec PyProof.Rows L2
abbrev sInduced : Stmt := top 16
theorem scInduced : FnScope ["graph", "lot", "within", "one", "other"] ["graph", "lot"] (defScope sInduced) := ⟨rfl, rfl, rfl, by decide +kernel, rfl, by decide +kernel, by decide +kernel⟩
def tBoth (K : PySem.W.Frag) : TT := tAnd (tTest (tOp (rIn K false) (tVar 3) (tVar 1))) (tTest (tOp (rIn K false) (tVar 4) (tVar 1)))
def spInduced (K : PySem.W.Frag) : Sp := fun vs H Q _ => ∃ (x : V) (n : Nat) (es : List E2) (u : Addr) (l : List Nat), vs = [x, .ref u] ∧ GraphAt K H x n es ∧ Good n es ∧ TupF H u ((l.map fun k => ((k : Nat) : Int)).map V.int) ∧ LotOk n l ∧ ∀ (y : V) H', Same H H' → GraphT H' y l.length (withinP es l) → Q y H'
theorem inV_ints (k : Nat) : ∀ l : List Nat, inV (V.int (k : Int)) (l.map fun k => V.int ((k : Nat) : Int)) = decide (k ∈ l)
  | [] => rfl
  | a :: l => by
    have ih := inV_ints k l
    unfold inV at ih ⊢
    rw [List.map_cons, List.any_cons, ih]
    have e : eqV (V.int (k : Int)) (V.int (a : Int)) = decide (k = a) := by
      show ((k : Int) == (a : Int)) = _
      by_cases h : k = a
      · subst h; simp
      · have : ((k : Int) == (a : Int)) = false := beq_eq_false_iff_ne.mpr (by omega)
        rw [this, decide_eq_false h]
    first
      | rw [e]
      | rw [show eqV (V.int (a : Int)) (V.int (k : Int)) = decide (k = a) by rw [← e]; show ((a : Int) == (k : Int)) = ((k : Int) == (a : Int)); exact BEq.comm]
    simp [List.mem_cons]
section
variable {P : Program} {w : World} {K : PySem.W.Frag} {mg : Str → Option Value} {base : Heap} {f fC : Addr} {fd dC : FuncData}
theorem ok_induced (F : L2.Fun K "induced" "induced" sInduced f fd) (GC : FnOk P w K mg base CX0 7 fC dC ["graph", "lot"] (spCheckLot K)) (bC : L2.Binds K dC ["graph", "lot"] []) (kC : PySem.W.keepIn K (.ref fC) = true) (mC : mg "check_lot" = some (.ref fC)) (ml : mg "len" = none) (mt : mg "tuple" = none) : FnOk P w K mg base CX0 8 f fd ["graph", "lot"] (spInduced K) := by
  refine F.ok scInduced (fun vs H Q E h => ?_) (fun cdv A outer s H vs Q E hr h => ?_)
  · obtain ⟨x, n, es, u, l, rfl, _⟩ := h
    rfl
  obtain ⟨x, n, es, u, l, rfl, hx, g, hv, lo, q⟩ := h
  have hq : ∀ {H'}, TupF H' u ((l.map fun k => ((k : Nat) : Int)).map V.int) → SqT K H' u (l.map fun k => V.int ((k : Nat) : Int)) := fun h => by
    have := h.sq (K := K)
    rw [List.map_map] at this
    exact this
  refine ⟨_, pss_cons (ps_expr (pe_call GC hr (by rfl) mC kC bC .nil pass0 (pa_cons (pv 0) (pa_cons (pv 1) pa_nil))))
    (pss_cons (ps_setLc (i := 2) (own := [("one", 3), ("other", 4)]) (g := gTup K 2 (gCons (gName 3) (gCons (gName 4) gNil))) (tt := tBoth K) (te := tTup (tCons (tBF rTixF (tVar 1) (tCons (tVar 3) tNil)) (tCons (tBF rTixF (tVar 1) (tCons (tVar 4) tNil)) tNil))) rfl scInduced.nd rfl rfl (sw_true rfl rfl rfl (by decide +kernel)) (pi_tup (pe_ix (r := rIxT K) ix_tup (pv 0) pe_int (fun _ _ => rfl)))
        (blkOk_by (N := ["graph", "lot", "within", "one", "other"]) (sc := defScope sInduced) (by decide +kernel)) (fun _ _ _ _ _ => pg_tup (by rfl) (pgs_cons (pg_name (i := 3) scInduced.nd rfl (Or.inl rfl)) (pgs_cons (pg_name (i := 4) scInduced.nd rfl (Or.inl rfl)) pgs_nil)))
        (fun _ _ _ _ _ => pts_one (PW.pt (pw_and (pt_cmpR (r := rIn K false) op_in_seq (pv 3) (pv 1) (by rfl)) (pw_and1 (pt_cmpR (r := rIn K false) op_in_seq (pv 4) (pv 1) (by rfl))))))
        (fun _ _ _ _ _ => pe_tup (pa_cons (pe_bmF PySem.F.plainAttrs_tuple PySem.F.slot_tuple_index PySem.F.type_tuple_index mt_tixF (pv 1) (pa_cons (pv 3) pa_nil)) (pa_cons (pe_bmF PySem.F.plainAttrs_tuple PySem.F.slot_tuple_index PySem.F.type_tuple_index mt_tixF (pv 1) (pa_cons (pv 4) pa_nil)) pa_nil))))
    (pss_one (ps_ret (pe_tup (pa_cons (pe_callB call_len_seq (by rfl) ml PySem.boot_len (pa_cons (pv 1) pa_nil)) (pa_cons (pe_callTy call_tuple_of (by rfl) mt (by decide +kernel) (pa_cons (pv 2) pa_nil)) pa_nil)))))), ?_⟩
  have n9 := g.n9
  have few := g.few
  refine ⟨_, rfl, _, rfl, x, n, es, .ref u, l, rfl, hx, g, ⟨u, rfl, hq hv⟩, lo, fun H1 s1 => ?_⟩
  obtain ⟨t, e, xs, rfl, ht, he, hes⟩ := hx.same s1
  have hv1 := hv.same s1
  have hu := hq hv1
  have le := PairsAt.len hes
  have a1 : atI [V.int (n : Int), V.ref e] 1 = some (.ref e) := atI_nat (j := 1) rfl
  have flat : (l.map fun k => V.int ((k : Nat) : Int)).all flatV = true := by
    rw [List.all_map]
    exact List.all_eq_true.mpr fun _ _ => rfl
  have hu2 : ∀ H2, Same H1 H2 → TupF H2 u ((l.map fun k => ((k : Nat) : Int)).map V.int) := fun H2 s2 => hv1.same s2
  refine ⟨_, rfl, t, _, 1, _, rfl, rfl, ht, a1, e, rfl, ⟨_, he⟩, fun D nD => lo_it (walk_tup (xs := xs)) (fun i H2 => Same H1 H2 ∧ ∃ ys, H2 D = some (.lst ys) ∧ ys.length ≤ i ∧ PairsT H2 ys (withinL (es.take i) l)) ⟨same_new nD _, [], upd_same, Nat.le_refl _, .nil⟩ (fun i H2 _ ⟨s2, _⟩ => Same.tup s2 he) ?_ ?_⟩
  · rintro i x _ H2 li ⟨s2, ys, hD, ly, py⟩ ⟨rfl, hi⟩
    obtain ⟨p, hp, w1, rfl, hw1⟩ := PairsAt.get (hes.same s2) hi
    have more : withinL (es.take (i + 1)) l = withinL (es.take i) l ++ withinL [p] l := by
      unfold withinL
      rw [take_succ hp, List.filter_append, List.map_append]
    have skip : ¬ (p.1 ∈ l ∧ p.2 ∈ l) → Same H1 H2 ∧ ∃ ys, H2 D = some (.lst ys) ∧ ys.length ≤ i + 1 ∧ PairsT H2 ys (withinL (es.take (i + 1)) l) := fun no => by
      refine ⟨s2, ys, hD, by omega, ?_⟩
      have e : withinL [p] l = [] := by
        unfold withinL
        rw [List.filter_cons_of_neg (by simpa using no)]
        rfl
      rw [more, e, List.append_nil]
      exact py
    refine ⟨w1, _, rfl, hw1, rfl, _, _, rfl, _, _, rfl, rfl, rfl, ?_⟩
    refine ⟨_, rfl, _, rfl, u, _, rfl, .inr (Same.tup s2 hu), rfl, flat, _, rfl, ?_⟩
    have c1 : (if false = true then !inV (V.int (p.1 : Int)) (l.map fun k => V.int ((k : Nat) : Int)) else inV (V.int (p.1 : Int)) (l.map fun k => V.int ((k : Nat) : Int))) = decide (p.1 ∈ l) := by rw [if_neg (by decide), inV_ints]
    have c2 : (if false = true then !inV (V.int (p.2 : Int)) (l.map fun k => V.int ((k : Nat) : Int)) else inV (V.int (p.2 : Int)) (l.map fun k => V.int ((k : Nat) : Int))) = decide (p.2 ∈ l) := by rw [if_neg (by decide), inV_ints]
    refine iteB (fun d1 => ⟨_, rfl, _, rfl, u, _, rfl, .inr (Same.tup s2 hu), rfl, flat, _, rfl, iteB (fun d2 => ?_) (fun d2 => ?_)⟩) (fun d1 => iteF ?_)
    · have m1 : p.1 ∈ l := of_decide_eq_true (c1.symm.trans d1)
      have m2 : p.2 ∈ l := of_decide_eq_true (c2.symm.trans d2)
      obtain ⟨p1, q1⟩ := place_at m1
      obtain ⟨p2, q2⟩ := place_at m2
      refine ⟨_, rfl, ⟨u, _, rfl, hu2 _ s2⟩, _, rfl, u, _, _, place l p.1, rfl, rfl, hu2 _ s2, p1, q1, _, rfl, ⟨u, _, rfl, hu2 _ s2⟩, _, rfl, u, _, _, place l p.2, rfl, rfl, hu2 _ s2, p2, q2, (by show 2 ≤ sizeLine; decide), fun r nr => ?_⟩
      have pp := push_pairT (place l p.1, place l p.2) hD nr py
      refine ⟨ys, (same_new nr _) _ _ hD, small1000 (by have := (List.getElem?_eq_some_iff.mp hi).1; omega), same_put (s2.trans (same_new nr _)) nD, _, upd_same, by rw [List.length_append]; exact Nat.succ_le_succ ly, ?_⟩
      have e : withinL [p] l = [(place l p.1, place l p.2)] := by
        unfold withinL
        rw [List.filter_cons_of_pos (by simp [m1, m2])]
        rfl
      rw [more, e]
      exact pp
    · exact skip fun h => by
        have z := c2.symm.trans d2
        exact absurd h.2 (of_decide_eq_false z)
    · exact skip fun h => by
        have z := c1.symm.trans d1
        exact absurd h.1 (of_decide_eq_false z)
  · rintro H2 ⟨s2, ys, hD, ly, py⟩
    rw [le, List.take_length] at py
    refine ⟨_, rfl, u, _, rfl, .inr (Same.tup s2 hu), _, rfl, D, ys, rfl, .inl ⟨SqL.of hD, fun c nc => ⟨(by show 2 ≤ sizeLine; decide), fun r nr => ?_⟩⟩⟩
    rw [List.length_map]
    have s4 := same_new nc (.tup ys)
    have s5 := same_new nr (.tup [.int ((l.length : Nat) : Int), .ref c])
    rw [withinL_eq g lo.up (Nat.le_trans lo.few g.n9)] at py
    exact q (.ref r) _ (s1.trans (s2.trans (s4.trans s5))) ⟨r, c, ys, rfl, upd_same, s5 _ _ upd_same, (py.same s4).same s5⟩
end
end My

set_option maxHeartbeats 4000000
/-! sorted(t), t a tuple of pairs of ints. -/
namespace My
open PySem PySem.Spec PyProof.Rows L2 Builtin
section
variable {prog : Program} {w : World} {A : Around} {E : Value → Shared → Prop} {s : Shared}
theorem collT {t : Addr} {us : List Value} {R : List Value → Shared → Prop} (ht : IsTup s.heap t us.toArray) (hz : us.length ≤ sizeLine)
    (h : R us { s with heap := (s.heap.push (seqObj "list" #[] 0)).update s.heap.objs.size (Obj.mapSeq (· ++ us.toArray)) }) : wpAny (model prog w) A (collect (.ref t)) R E s := by
  obtain ⟨ob, hob, hcl, m, hdt⟩ := id ht
  unfold collect
  refine wpAny_bind (wpAny_runValue (codeAny_builtin entry_proto_collect' ?_)); show wpAny _ _ (do again (.builtin "list.__iadd__" ⟨[← newList [], .ref t], []⟩)) _ _ s
  refine wpAny_bind (wpAny_newList (wpAny_pure ⟨Code.quiet_builtin _ (by decide +kernel), codeAny_builtin entry_list_iadd' ?_⟩))
  show wpAny _ _ (Builtin.List.listExtendWith (.ref s.heap.objs.size) (.ref t) (.ref s.heap.objs.size)) _ _ { s with heap := s.heap.push (seqObj "list" #[] 0) }
  unfold Builtin.List.listExtendWith
  have hob' : (s.heap.push (seqObj "list" #[] 0)).get? t = some ob := Heap.get?_push_of_some _ hob
  refine wpAny_bind (wpAny_typeOf (T := "tuple") ⟨ob, hob', hcl⟩ ?_)
  rw [if_pos (by rw [show (Value.type "tuple" == Value.type "tuple") = true from rfl]; simp)]
  have hnew : (s.heap.push (seqObj "list" #[] 0)).get? s.heap.objs.size = some (seqObj "list" #[] 0) := Heap.get?_push_size _ rfl
  refine wpAny_bind (listItems_at hob' hdt (wpAny_bind (listItems_at hnew rfl ?_)))
  rw [if_neg (by simp)]
  refine wpAny_bind (listUpdate_at hnew rfl ?_ (Nat.zero_le _) (by simp only [List.size_toArray, Array.size_append, List.length_nil]; omega))
  refine wpAny_pure ?_
  have hend := get?_update_seq hnew (· ++ us.toArray)
  have eus : ((#[] : Array Value) ++ us.toArray).toList = us := by simp
  show wpAny _ _ (do let o ← load s.heap.objs.size; match o.data with | .seq xs _ => pure xs.toList | _ => unsupported "internal:collect") _ _ _
  refine wpAny_bind (wpAny_load hend ?_); show wpAny _ _ (pure ((#[] : Array Value) ++ us.toArray).toList) R E _
  rw [eus]
  exact wpAny_pure h
theorem sortT {t : Addr} {us : List Value} {ord : Value → Value → Bool} {R : Value → Shared → Prop} (O : SrtO.Swo ord) (ht : IsTup s.heap t us.toArray) (hz : us.length ≤ sizeLine)
    (hS : 2 ≤ us.length → ∀ (g : Heap) (a : Addr), g.get? a = some (seqObj "list" us.toArray 0) → (∀ b o, s.heap.get? b = some o → b ≠ a ∧ g.get? b = some o) → SrtO.SortableO prog w A.in1.in1 { s with heap := g } a us ord)
    (h : ∀ out : List Value, SrtO.Srtd ord out → SrtO.Stb ord out us → R (.ref (s.heap.objs.size + 1)) { s with heap := sortedAll s.heap us out.toArray }) :
    wpAny (model prog w) A (call (.builtin "sorted") [.ref t]) R E s := by
  refine Calls.call_function_entry kind_sorted plain_sorted entry_sorted (args_sorted1 _) ?_; unfold Builtin.«sorted»
  refine wpAny_bind (m := checkCount "sorted" 1 1 _) (wpAny_pure (wpAny_bind (collT ht hz (wpAny_bind (wpAny_newList ?_ hz)))))
  generalize hg0 : (s.heap.push (seqObj "list" #[] 0)).update s.heap.objs.size (Obj.mapSeq (· ++ us.toArray)) = g0
  have z0 : g0.objs.size = s.heap.objs.size + 1 := by rw [← hg0, Heap.size_update, size_push']
  have old : ∀ b o, s.heap.get? b = some o → b ≠ s.heap.objs.size + 1 ∧ (g0.push (seqObj "list" us.toArray 0)).get? b = some o := fun b o e => by
    have lt : b < s.heap.objs.size := Heap.lt_size e
    refine ⟨Nat.ne_of_lt (Nat.lt_succ_of_lt lt), Heap.get?_push_of_some _ ?_⟩
    rw [← hg0, Heap.get?_update_ne _ _ _ _ (Nat.ne_of_lt lt)]; exact Heap.get?_push_of_some _ e
  have at1 : (g0.push (seqObj "list" us.toArray 0)).get? (s.heap.objs.size + 1) = some (seqObj "list" us.toArray 0) := by rw [← z0]; exact Heap.get?_push_size _ rfl
  show wpAny _ _ _ _ _ { s with heap := g0.push (seqObj "list" us.toArray 0) }
  rw [z0]
  refine wpAny_bind (wpAny_holding (wpAny_call_entry slot_list_sort ⟨_, at1, rfl⟩ entry_list_sort (SrtO.list_sort_ord O at1 hz (fun l2 => hS l2 _ _ at1 old) fun out so sb => ⟨_, rfl, wpAny_pure ⟨_, rfl, ?_⟩⟩) (args_list_sort _)))
  have z := h out so sb
  unfold sortedAll at z
  rw [hg0] at z
  exact z
end
section
variable {X : Cx}
def rSortPT (K : PySem.W.Frag) : List V → Hp → VK → Prop := fun vs H Q => ∃ (a : Addr) (xs : List V) (k : V → Int × Int), vs = [V.ref a] ∧ SqT K H a xs ∧ (∀ x ∈ xs, ∃ t, x = V.ref t ∧ H t = some (.tup [.int (k x).1, .int (k x).2])) ∧
  ∀ ys p, SrtO.Srtd (ltP k) ys → SrtO.Stb (ltP k) ys xs → H p = none → Q (.ref p) (upd H p (.lst ys))
theorem cr_sortPT : CallR X (.builtin "sorted") (rSortPT X.K) := by
  rintro pins s σ H vs us Q I r ⟨a, xs, k, rfl, hs, hx, q⟩
  obtain ⟨its, rv, hl, hz⟩ := I.tuple hs
  rw [Vals.ref1 r]
  obtain ⟨e1, e2⟩ := refs_back rv fun x m => let ⟨t, e, _⟩ := hx x m; ⟨t, e⟩
  have pr : ∀ v ∈ its, Srt.IsPair s.heap v (k (backV v)).1 (k (backV v)).2 := fun v hv => by
    obtain ⟨t, rfl⟩ := e2 v hv
    obtain ⟨t', e, ht⟩ := hx _ (show V.ref t ∈ xs by rw [e1]; exact List.mem_map.mpr ⟨_, hv, rfl⟩)
    cases e
    obtain ⟨_, its2, r2, o, ho, hc, n, hd⟩ := I.hok _ _ ht
    obtain ⟨u1, u2, rfl, ⟨t1, rfl⟩, ⟨t2, rfl⟩⟩ := vals2 r2
    exact ⟨t, o, t1, t2, n, rfl, ho, hc, hd⟩
  have lz : its.length ≤ sizeLine := by rw [← rv.length]; exact hz
  refine sortT (SrtO.swo_lex fun u => k (backV u)) hl lz (fun h2 g b hb kk => ?_) fun out so sb => ?_
  · refine SrtO.pairs_sortableO (s := { s with heap := g }) (by omega) (fun v hm => (pr v hm).keeps fun b o e _ => (kk b o e).2) fun o e => ?_
    have e' : some o = some (seqObj "list" its.toArray 0) := e.symm.trans hb
    cases e'
    exact fun c => absurd (Value.type.inj c) (by decide)
  · obtain ⟨n, hn⟩ := sortedAll_at s.heap its out.toArray
    have allr : ∀ u ∈ out, ∃ a, u = Value.ref a := fun u hu => e2 u (sb.perm.mem_iff.mp hu)
    have hb : SrtO.Stb (ltP k) (out.map backV) xs := by rw [e1]; exact SrtO.Stb.map (ltP_swo k) backV sb
    have new := Nat.le_succ s.heap.objs.size
    refine ⟨.ref (s.heap.objs.size + 1), upd H (s.heap.objs.size + 1) (.lst (out.map backV)), I.laid (t' := s.toks) (fun b o e => sortedAll_old e) new ⟨by rw [hb.len]; exact hz, out, n, vals_back allr, hn⟩, rfl, q _ _ (SrtO.srtd_map so) hb (I.hok.fresh new)⟩
end
end My

set_option maxHeartbeats 4000000
/-! Changes that are right, told by their parts. -/
namespace My
open PySem PySem.Spec PyProof.Rows L2
/-- a graph whose edges were made here -/
def GraphM (K : PySem.W.Frag) (H : Hp) (x : V) (n : Nat) (es : List E2) : Prop := ∃ t e xs, x = .ref t ∧ SqT K H t [.int (n : Int), .ref e] ∧ SqT K H e xs ∧ PairsT H xs es
theorem GraphM.at {K : PySem.W.Frag} {H : Hp} {x : V} {n : Nat} {es : List E2} (h : GraphM K H x n es) : GraphAt K H x n es := by
  obtain ⟨t, e, xs, rfl, ht, he, hp⟩ := h
  exact ⟨t, e, xs, rfl, ht, he, hp.at⟩
theorem GraphM.same {K : PySem.W.Frag} {H H' : Hp} (s : Same H H') {x : V} {n : Nat} {es : List E2} (h : GraphM K H x n es) : GraphM K H' x n es := by
  obtain ⟨t, e, xs, rfl, ht, he, hp⟩ := h
  exact ⟨t, e, xs, rfl, Same.tup s ht, Same.tup s he, hp.same s⟩
theorem empty_mk {K : PySem.W.Frag} {A B : Addr} {t : Tok} {d1 d2 : Option Addr} {n1 n2 : Nat} {s1 s2 : Array (Option Value)} (a : K.lookup A = some ⟨.type "tuple", d1, .seq #[.int 0 t, .ref B] n1, s1⟩) (b : K.lookup B = some ⟨.type "tuple", d2, .seq #[] n2, s2⟩) : ∀ H, GraphM K H (.ref A) 0 [] := fun H =>
  ⟨A, B, [], rfl, .inr ⟨_, _, _, a, rfl, rfl, small (show 2 ≤ 1000 by decide), .cons ⟨_, rfl⟩ (.cons rfl .nil)⟩, .inr ⟨_, _, _, b, rfl, rfl, small (show 0 ≤ 1000 by decide), .nil⟩, .nil⟩
theorem GraphT.gm {K : PySem.W.Frag} {H : Hp} {x : V} {n : Nat} {es : List E2} (h : GraphT H x n es) : GraphM K H x n es := by
  obtain ⟨t, e, xs, rfl, ht, he, hp⟩ := h
  exact ⟨t, e, xs, rfl, SqT.of ht, SqT.of he, hp⟩
def rTupOf (K : PySem.W.Frag) : List V → Hp → VK → Prop := fun xs H Q => ∃ p ys, xs = [.ref p] ∧ ((SqL K H p ys ∧ ∀ l, H l = none → Q (.ref l) (upd H l (.tup ys))) ∨ (SqT K H p ys ∧ Q (.ref p) H))
theorem PairsT.getC {H : Hp} : ∀ {xs : List V} {ps : List E2}, PairsT H xs ps → ∀ {i : Nat} {x : V}, xs[i]? = some x → ∃ q, ps[i]? = some q ∧ PairT H x q
  | _, _, .nil, i, x, e => by simp at e
  | _, _, .cons a r, 0, x, e => by simp at e; subst e; exact ⟨_, rfl, a⟩
  | _, _, .cons a r, i + 1, x, e => by
    obtain ⟨s, h1, h2⟩ := PairsT.getC r (i := i) (x := x) (by simpa using e)
    exact ⟨s, by simpa using h1, h2⟩
theorem pairD_shaped (p : E2) : SeqAt.shaped (pairD p) = true := by
  unfold SeqAt.shaped
  rw [Bool.and_eq_true, decide_eq_true_eq, pairD_depth]
  exact ⟨pairD_lay p, by decide⟩
inductive Chg where
  | vertex (l : List Nat)
  | out (a : Nat)
  | two (c : Bool) (a b : Nat)
def wordOf (c : Bool) : Str := if c then "cut" else "edge"
def ChgOk : Chg → Prop
  | .vertex l => (∀ k ∈ l, k < 9) ∧ l.Pairwise (· < ·)
  | .out a => a ≤ 8
  | .two _ a b => a < b ∧ b ≤ 8
def chgS : Chg → Sh
  | .vertex l => .tup [.str "vertex", .tup (l.map fun k => Sh.int ((k : Nat) : Int))]
  | .out a => .tup [.str "out", .int (a : Int)]
  | .two c a b => .tup [.str (wordOf c), .int (a : Int), .int (b : Int)]
def ChgAt (K : PySem.W.Frag) (H : Hp) (v : V) : Chg → Prop
  | .vertex l => ∃ t u, v = .ref t ∧ SqT K H t [.str "vertex", .ref u] ∧ SqT K H u (numsN l)
  | .out a => ∃ t, v = .ref t ∧ SqT K H t [.str "out", .int (a : Int)]
  | .two c a b => ∃ t, v = .ref t ∧ SqT K H t [.str (wordOf c), .int (a : Int), .int (b : Int)]
theorem numsN_sh {K : PySem.W.Frag} {H : Hp} (ns : List Nat) : ShsAt K H (numsN ns) (ns.map fun k => Sh.int ((k : Nat) : Int)) := by
  induction ns with
  | nil => exact .nil
  | cons a r ih => exact .cons (.int _) ih
theorem ChgAt.sh {K : PySem.W.Frag} {H : Hp} {v : V} {c : Chg} (h : ChgAt K H v c) : ShAt K H v (chgS c) := by
  cases c with
  | vertex l =>
    obtain ⟨t, u, rfl, ht, hu⟩ := h
    exact .tup ht (.cons (.str _) (.cons (.tup hu (numsN_sh l)) .nil))
  | out a =>
    obtain ⟨t, rfl, ht⟩ := h
    exact .tup ht (.cons (.str _) (.cons (.int _) .nil))
  | two c a b =>
    obtain ⟨t, rfl, ht⟩ := h
    exact .tup ht (.cons (.str _) (.cons (.int _) (.cons (.int _) .nil)))
theorem ChgAt.kp {K : PySem.W.Frag} {H H' : Hp} (e : Kp K H H') {v : V} {c : Chg} (h : ChgAt K H v c) : ChgAt K H' v c := by
  cases c with
  | vertex l =>
    obtain ⟨t, u, rfl, ht, hu⟩ := h
    exact ⟨t, u, rfl, e.tup _ _ ht, e.tup _ _ hu⟩
  | out a =>
    obtain ⟨t, rfl, ht⟩ := h
    exact ⟨t, rfl, e.tup _ _ ht⟩
  | two c a b =>
    obtain ⟨t, rfl, ht⟩ := h
    exact ⟨t, rfl, e.tup _ _ ht⟩
theorem ChgAt.same {K : PySem.W.Frag} {H H' : Hp} (e : Same H H') {v : V} {c : Chg} (h : ChgAt K H v c) : ChgAt K H' v c := h.kp (Kp.of e)
theorem asc_natS : ∀ {l : List Nat}, l.Pairwise (· < ·) → ascB (l.map fun k => Sh.int ((k : Nat) : Int)) = true
  | [], _ => rfl
  | [a], _ => rfl
  | a :: b :: l, h => by
    obtain ⟨h1, h2⟩ := List.pairwise_cons.mp h
    have ih := asc_natS h2
    have ab := h1 b List.mem_cons_self
    show (decide (((a : Nat) : Int) < ((b : Nat) : Int)) && ascB ((b :: l).map fun k => Sh.int ((k : Nat) : Int))) = true
    rw [ih, Bool.and_true]
    exact decide_eq_true (by omega)
theorem asc_natI : ∀ {l : List Nat}, ascB (l.map fun k => Sh.int ((k : Nat) : Int)) = true → l.Pairwise (· < ·)
  | [], _ => .nil
  | [a], _ => List.pairwise_singleton _ _
  | a :: b :: l, h => by
    have h' : (decide (((a : Nat) : Int) < ((b : Nat) : Int)) && ascB ((b :: l).map fun k => Sh.int ((k : Nat) : Int))) = true := h
    rw [Bool.and_eq_true, decide_eq_true_eq] at h'
    have ih := asc_natI h'.2
    refine List.pairwise_cons.mpr ⟨fun x hx => ?_, ih⟩
    rcases List.mem_cons.mp hx with rfl | hx
    · omega
    · have := (List.pairwise_cons.mp ih).1 x hx
      omega
theorem whole_nat {l : List Nat} (h : ∀ k ∈ l, k < 9) : (l.map fun k => Sh.int ((k : Nat) : Int)).all (wholeR 0 8) = true := by
  rw [List.all_eq_true]
  intro z hz
  obtain ⟨k, hk, rfl⟩ := List.mem_map.mp hz
  have := h k hk
  show (decide (((k : Nat) : Int) ≥ 0) && decide (((k : Nat) : Int) ≤ 8)) = true
  rw [decide_eq_true (by omega), decide_eq_true (by omega)]
  rfl
theorem isChg_ok {c : Chg} (h : ChgOk c) : isChg (chgS c) = true := by
  cases c with
  | vertex l =>
    show (decide (lenV "vertex" = .int 2) && ((l.map fun k => Sh.int ((k : Nat) : Int)).all (wholeR 0 8) && ascB (l.map fun k => Sh.int ((k : Nat) : Int)))) = true
    rw [whole_nat h.1, asc_natS h.2]
    rfl
  | out a =>
    have w := whole_nat (l := [a]) (fun k hk => by have := List.mem_singleton.mp hk; have h : a ≤ 8 := h; omega)
    show (decide (lenV "out" = .int 2) && (([a].map fun k => Sh.int ((k : Nat) : Int)).all (wholeR 0 8) && ascB ([a].map fun k => Sh.int ((k : Nat) : Int)))) = true
    rw [w]
    rfl
  | two c a b =>
    obtain ⟨h1, h2⟩ : a < b ∧ b ≤ 8 := h
    have w := whole_nat (l := [a, b]) (fun k hk => by
      simp only [List.mem_cons, List.mem_nil_iff, or_false] at hk
      omega)
    have s := asc_natS (l := [a, b]) (List.pairwise_cons.mpr ⟨fun x hx => by rw [List.mem_singleton.mp hx]; exact h1, List.pairwise_singleton _ _⟩)
    cases c
    · show (decide (lenV "edge" = .int 3) && (([a, b].map fun k => Sh.int ((k : Nat) : Int)).all (wholeR 0 8) && ascB ([a, b].map fun k => Sh.int ((k : Nat) : Int)))) = true
      rw [w, s]
      rfl
    · show (decide (lenV "cut" = .int 3) && (([a, b].map fun k => Sh.int ((k : Nat) : Int)).all (wholeR 0 8) && ascB ([a, b].map fun k => Sh.int ((k : Nat) : Int)))) = true
      rw [w, s]
      rfl
/-- whether it fits -/
def fits (n : Nat) (es : List E2) : Chg → Bool
  | .vertex l => decide (n < 9) && l.all fun k => decide (k < n)
  | .out a => decide (a < n)
  | .two c a b => decide (b < n) && (decide ((a, b) ∈ es) == c)
/-- what it does -/
def lotO (n a : Nat) : List Nat := (List.range n).filter fun k => decide (k ≠ a)
def chgN (n : Nat) : Chg → Nat
  | .vertex _ => n + 1
  | .out a => (lotO n a).length
  | .two _ _ _ => n
def chgM (n : Nat) (es : List E2) (p : E2) : Chg → Prop
  | .vertex l => p ∈ es ∨ (p.2 = n ∧ p.1 ∈ l)
  | .out a => p ∈ withinP es (lotO n a)
  | .two false a b => p ∈ es ∨ p = (a, b)
  | .two true a b => p ∈ es ∧ p ≠ (a, b)
structure Done (n : Nat) (es : List E2) (c : Chg) (m : Nat) (fs : List E2) : Prop where
  good : Good m fs
  many : m = chgN n c
  mem : ∀ p, p ∈ fs ↔ chgM n es p c
theorem Done.uniq {n : Nat} {es : List E2} {c : Chg} {m m' : Nat} {fs fs' : List E2} (h : Done n es c m fs) (h' : Done n es c m' fs') : m = m' ∧ fs = fs' := ⟨h.many.trans h'.many.symm, up_ext h.good.up h'.good.up fun p => (h.mem p).trans (h'.mem p).symm⟩
theorem sorted_up {es : List E2} (h : es.Pairwise fun a b => ¬ ahead b a) (nd : es.Nodup) : es.Pairwise ahead := by
  refine List.Pairwise.imp_of_mem (fun {a b} _ _ z => ?_) (h.and nd)
  obtain ⟨z1, z2⟩ := z
  have ne : ¬ (a.1 = b.1 ∧ a.2 = b.2) := fun q => z2 (Prod.ext q.1 q.2)
  unfold ahead at z1 ⊢
  omega
theorem done_vertex {n : Nat} {es : List E2} (g : Good n es) (n9 : n < 9) {l : List Nat} (up : l.Pairwise (· < ·)) (lt : ∀ k ∈ l, k < n) {fs : List E2} (so : fs.Pairwise fun a b => ¬ ahead b a) (pm : fs.Perm (es ++ l.map fun k => (k, n))) : Done n es (.vertex l) (n + 1) fs := by
  have nd : (es ++ l.map fun k => (k, n)).Nodup := by
    refine List.nodup_append.mpr ⟨g.nodup, ?_, fun a ha b hb => ?_⟩
    · refine List.Pairwise.map _ (fun a b h e => ?_) (up.imp fun h => Nat.ne_of_lt h)
      injection e with e
      exact h e
    · rintro rfl
      obtain ⟨k, _, rfl⟩ := List.mem_map.mp hb
      have := (g.lt _ ha).2
      exact absurd this (by show ¬ n < n; omega)
  have mem : ∀ p, p ∈ fs ↔ (p ∈ es ∨ (p.2 = n ∧ p.1 ∈ l)) := fun p => by
    rw [pm.mem_iff, List.mem_append, List.mem_map]
    constructor
    · rintro (h | ⟨k, hk, rfl⟩)
      · exact .inl h
      · exact .inr ⟨rfl, hk⟩
    · rintro (h | ⟨h1, h2⟩)
      · exact .inl h
      · exact .inr ⟨p.1, h2, by rw [← h1]⟩
  refine ⟨⟨by omega, fun p hp => ?_, sorted_up so (pm.nodup_iff.mpr nd)⟩, rfl, mem⟩
  rcases (mem p).mp hp with h | ⟨h1, h2⟩
  · have := g.lt p h
    omega
  · have := lt _ h2
    omega
theorem done_edge {n : Nat} {es : List E2} (g : Good n es) {a b : Nat} (ab : a < b) (bn : b < n) (no : (a, b) ∉ es) {fs : List E2} (so : fs.Pairwise fun a b => ¬ ahead b a) (pm : fs.Perm (es ++ [(a, b)])) : Done n es (.two false a b) n fs := by
  have nd : (es ++ [(a, b)]).Nodup := List.nodup_append.mpr ⟨g.nodup, by simp, fun x hx y hy => by
    rw [List.mem_singleton.mp hy]
    rintro rfl
    exact no hx⟩
  have mem : ∀ p, p ∈ fs ↔ (p ∈ es ∨ p = (a, b)) := fun p => by rw [pm.mem_iff, List.mem_append, List.mem_singleton]
  refine ⟨⟨g.n9, fun p hp => ?_, sorted_up so (pm.nodup_iff.mpr nd)⟩, rfl, mem⟩
  rcases (mem p).mp hp with h | rfl
  · exact g.lt p h
  · exact ⟨ab, bn⟩
theorem done_cut {n : Nat} {es : List E2} (g : Good n es) {a b : Nat} : Done n es (.two true a b) n (es.filter fun p => !decide (p = (a, b))) := by
  refine ⟨⟨g.n9, fun p hp => g.lt p (List.mem_filter.mp hp).1, g.up.filter _⟩, rfl, fun p => ?_⟩
  rw [List.mem_filter]
  show _ ↔ (p ∈ es ∧ p ≠ (a, b))
  simp
theorem done_out {n : Nat} {es : List E2} (g : Good n es) (a : Nat) : Done n es (.out a) (lotO n a).length (withinP es (lotO n a)) := by
  have l9 : (lotO n a).length ≤ 9 := by
    have := List.length_filter_le (fun k => decide (k ≠ a)) (List.range n)
    rw [List.length_range] at this
    have n9 := g.n9
    show ((List.range n).filter fun k => decide (k ≠ a)).length ≤ 9
    omega
  exact ⟨tab_good l9 _, rfl, fun p => Iff.rfl⟩
theorem lotO_ok (n a : Nat) : (lotO n a).Pairwise (· < ·) ∧ ∀ k ∈ lotO n a, k < n := ⟨List.pairwise_lt_range.filter _, fun k hk => List.mem_range.mp (List.mem_filter.mp hk).1⟩
end My

set_option maxHeartbeats 8000000
namespace My
open PySem PySem.Spec PyProof.Rows L2
abbrev sPFit : Stmt := top 22
abbrev sPLed : Stmt := top 23
theorem scPFit : FnScope ["graph", "change", "many", "edges", "kind", "rest"] ["graph", "change"] (defScope sPFit) := ⟨rfl, rfl, rfl, by decide +kernel, rfl, by decide +kernel, by decide +kernel⟩
def spPFit (K : PySem.W.Frag) : Sp := fun vs H Q _ => ∃ (x v : V) (n : Nat) (es : List E2) (c : Chg), vs = [x, v] ∧ GraphAt K H x n es ∧ Good n es ∧ ChgAt K H v c ∧ ChgOk c ∧ ∀ H', Same H H' → Q (.bl (fits n es c)) H'
theorem isLot_nat {n : Nat} {l : List Nat} (up : l.Pairwise (· < ·)) : isLot n (lotS l) = l.all fun k => decide (k < n) := by
  show ((l.map fun k => Sh.int ((k : Nat) : Int)).all (wholeR 0 ((n : Int) - 1)) && ascB (l.map fun k => Sh.int ((k : Nat) : Int))) = _
  rw [asc_natS up, Bool.and_true, List.all_map]
  refine List.all_congr rfl fun k => ?_
  show (decide (((k : Nat) : Int) ≥ 0) && decide (((k : Nat) : Int) ≤ (n : Int) - 1)) = decide (k < n)
  rw [decide_eq_true (show ((k : Nat) : Int) ≥ 0 by omega), Bool.true_and]
  exact decide_eq_decide.mpr (by omega)
theorem scPLed : FnScope ["graph", "change", "many", "edges", "kind", "rest", "more", "vertex", "edge"] ["graph", "change"] (defScope sPLed) := ⟨rfl, rfl, rfl, by decide +kernel, rfl, by decide +kernel, by decide +kernel⟩
def spPChkChg (K : PySem.W.Frag) : Sp := fun vs H Q _ => ∃ (x v : V) (n : Nat) (es : List E2) (c : Chg), vs = [x, v] ∧ GraphAt K H x n es ∧ Good n es ∧ ChgAt K H v c ∧ ChgOk c ∧ fits n es c = true ∧ ∀ H', Same H H' → Q .non H'
def spPLed (K : PySem.W.Frag) : Sp := fun vs H Q _ => ∃ (x v : V) (n : Nat) (es : List E2) (c : Chg), vs = [x, v] ∧ GraphM K H x n es ∧ Good n es ∧ ChgAt K H v c ∧ ChgOk c ∧ fits n es c = true ∧ ∀ y m fs H', Same H H' → GraphT H' y m fs → Done n es c m fs → Q y H'
section
variable {P : Program} {w : World} {K : PySem.W.Frag} {mg : Str → Option Value} {base : Heap} {f fL fC fI fF : Addr} {fd dL dC dI dF : FuncData}
theorem ok_pfit (F : L2.Fun K "does_fit" "does_fit" sPFit f fd) (GL : FnOk P w K mg base CX0 6 fL dL ["graph", "value"] (spIsLotA K)) (bL : L2.Binds K dL ["graph", "value"] []) (kL : PySem.W.keepIn K (.ref fL) = true) (mL : mg "is_lot" = some (.ref fL))
    (tk : Tok) (mV : mg "MOST_VERTICES" = some (.int 9 tk)) (mt : mg "tuple" = none) : FnOk P w K mg base CX0 7 f fd ["graph", "change"] (spPFit K) := by
  refine F.ok scPFit (fun vs H Q E h => ?_) (fun cdv A outer s0 H vs Q E hr h => ?_)
  · obtain ⟨x, v, n, es, c, rfl, _⟩ := h
    rfl
  obtain ⟨x, v, n, es, c, rfl, hx, g, hv, ok, q⟩ := h
  refine ⟨_, pss_cons (ps_asg (pv 0) (pg_tup (by rfl) (pgs_cons (pg_name (i := 2) scPFit.nd rfl (.inl rfl)) (pgs_cons (pg_name (i := 3) scPFit.nd rfl (.inl rfl)) pgs_nil))))
    (pss_cons (ps_asg (pv 1) (pg_starT (by rfl) (pg_name (i := 4) scPFit.nd rfl (.inl rfl)) (pg_name (i := 5) scPFit.nd rfl (.inl rfl))))
    (pss_cons (ps_if (pt_cmpR op_eq (pv 4) pe_str (nomark _)) (pss_one (ps_ret (pe_and (pe_cmpR op_lt (pv 2) (pe_glob (v := .int 9) (by rfl) mV ⟨_, rfl⟩) (nomark _)) (pe_one (pe_call GL hr (by rfl) mL kL bL .nil pass0 (pa_cons (pv 0) (pa_cons (pe_ix (r := rIxL K) ix_list (pv 5) pe_int (fun _ _ => rfl)) pa_nil))))))) pss_nil)
    (pss_cons (ps_if (pt_cmpR op_eq (pv 4) pe_str (nomark _)) (pss_one (ps_ret (pe_cmpR op_lt (pe_ix (r := rIxL K) ix_list (pv 5) pe_int (fun _ _ => rfl)) (pv 2) (nomark _)))) pss_nil)
    (pss_cons (ps_if (pt_cmpR op_eq (pv 4) pe_str (nomark _)) (pss_one (ps_ret (pe_and (pe_call GL hr (by rfl) mL kL bL .nil pass0 (pa_cons (pv 0) (pa_cons (pe_callTy call_tuple_of (by rfl) mt (by decide +kernel) (pa_cons (pv 5) pa_nil)) pa_nil))) (pe_one (pe_cmpR (op_notInP hr.units) (pe_callTy call_tuple_of (by rfl) mt (by decide +kernel) (pa_cons (pv 5) pa_nil)) (pv 3) (by rfl)))))) pss_nil)
    (pss_one (ps_ret (pe_cmpR (op_inP hr.units) (pe_callTy call_tuple_of (by rfl) mt (by decide +kernel) (pa_cons (pv 5) pa_nil)) (pv 3) (by rfl)))))))), ?_⟩
  obtain ⟨t, e, xs, rfl, ht, he, hes⟩ := id hx
  refine ⟨_, rfl, t, _, rfl, ht, rfl, _, _, rfl, _, _, rfl, rfl, ?_⟩
  cases c with
  | vertex l =>
    obtain ⟨ct, u, rfl, hct, hu⟩ := hv
    refine ⟨_, rfl, ct, _, _, rfl, hct, fun L nL => ⟨_, _, rfl, _, _, rfl, rfl, ?_⟩⟩
    have sL := same_new nL (.lst [.ref u])
    have hL := upd_same (H := H) (a := L) (o := .lst [.ref u])
    generalize upd H L (.lst [.ref u]) = H1 at sL hL ⊢
    refine ⟨_, rfl, rfl, _, rfl, iteT ?_⟩
    refine ⟨_, rfl, _, _, rfl, rfl, _, rfl, iteB (fun c1 => ?_) (fun c1 => ?_)⟩
    · refine ⟨_, rfl, _, rfl, L, [.ref u], 0, .ref u, rfl, rfl, SqL.of hL, rfl, .ref t, n, es, .ref u, lotS l, rfl, hx.same sL, g, .tup (Same.tup sL hu) (numsN_sh l), ?_, fun H2 s2 => ?_⟩
      · show (l.map _).length ≤ 900
        have := LotOk.few (n := 9) ⟨ok.1, ok.2⟩
        rw [List.length_map]
        omega
      · rw [isLot_nat ok.2]
        have z := q H2 (sL.trans s2)
        have e9 : n < 9 := by
          have := of_decide_eq_true c1
          omega
        rw [show fits n es (.vertex l) = (decide (n < 9) && l.all fun k => decide (k < n)) from rfl, decide_eq_true e9, Bool.true_and] at z
        exact z
    · have z := q H1 sL
      have e9 : ¬ n < 9 := by
        have := of_decide_eq_false c1
        omega
      rw [show fits n es (.vertex l) = (decide (n < 9) && l.all fun k => decide (k < n)) from rfl, decide_eq_false e9, Bool.false_and] at z
      exact z
  | out a =>
    obtain ⟨ct, rfl, hct⟩ := hv
    refine ⟨_, rfl, ct, _, _, rfl, hct, fun L nL => ⟨_, _, rfl, _, _, rfl, rfl, ?_⟩⟩
    have sL := same_new nL (.lst [.int (a : Int)])
    have hL := upd_same (H := H) (a := L) (o := .lst [.int (a : Int)])
    generalize upd H L (.lst [.int (a : Int)]) = H1 at sL hL ⊢
    refine ⟨_, rfl, rfl, _, rfl, iteF ?_⟩
    refine ⟨_, rfl, rfl, _, rfl, iteT ?_⟩
    refine ⟨_, rfl, L, [.int (a : Int)], 0, .int (a : Int), rfl, rfl, SqL.of hL, rfl, _, rfl, _, _, rfl, rfl, ?_⟩
    have z := q H1 sL
    rw [show fits n es (.out a) = decide (a < n) from rfl, show decide (a < n) = decide (((a : Nat) : Int) < ((n : Nat) : Int)) from decide_eq_decide.mpr (by omega)] at z
    exact z
  | two c a b =>
    obtain ⟨ct, rfl, hct⟩ := hv
    refine ⟨_, rfl, ct, _, _, rfl, hct, fun L nL => ⟨_, _, rfl, _, _, rfl, rfl, ?_⟩⟩
    have sL := same_new nL (.lst [.int (a : Int), .int (b : Int)])
    have hL := upd_same (H := H) (a := L) (o := .lst [.int (a : Int), .int (b : Int)])
    generalize upd H L (.lst [.int (a : Int), .int (b : Int)]) = H1 at sL hL ⊢
    obtain ⟨ab, b8⟩ : a < b ∧ b ≤ 8 := ok
    have w1 : decide (V.str (wordOf c) = V.str ("vertex" : Str)) = false := by cases c <;> decide
    have w2 : decide (V.str (wordOf c) = V.str ("out" : Str)) = false := by cases c <;> decide
    have w3 : decide (V.str (wordOf c) = V.str ("edge" : Str)) = !c := by cases c <;> decide
    have q' : ∀ H', Same H H' → Q (.bl (decide (b < n) && (decide ((a, b) ∈ es) == c))) H' := q
    refine ⟨_, rfl, rfl, _, rfl, ?_⟩
    rw [w1]
    refine iteF ⟨_, rfl, rfl, _, rfl, ?_⟩
    rw [w2]
    refine iteF ⟨_, rfl, rfl, _, rfl, ?_⟩
    rw [w3]
    cases c with
    | false =>
      refine iteT ?_
      refine ⟨_, rfl, _, rfl, L, _, rfl, .inl ⟨SqL.of hL, fun p np => ?_⟩⟩
      have sp := same_new np (.tup [.int (a : Int), .int (b : Int)])
      have hp := upd_same (H := H1) (a := p) (o := .tup [.int (a : Int), .int (b : Int)])
      generalize upd H1 p (.tup [.int (a : Int), .int (b : Int)]) = H2 at sp hp ⊢
      have up : [a, b].Pairwise (· < ·) := List.pairwise_cons.mpr ⟨fun x hx => by rw [List.mem_singleton.mp hx]; exact ab, List.pairwise_singleton _ _⟩
      refine ⟨.ref t, n, es, .ref p, lotS [a, b], rfl, hx.same (sL.trans sp), g, .tup (SqT.of hp) (numsN_sh [a, b]), (by show 2 ≤ 900; decide), fun H3 s3 => ?_⟩
      rw [isLot_nat up]
      have e1 : ([a, b].all fun k => decide (k < n)) = decide (b < n) := by
        show (decide (a < n) && (decide (b < n) && true)) = _
        by_cases h : b < n
        · rw [decide_eq_true h, decide_eq_true (show a < n by omega)]
          rfl
        · rw [decide_eq_false h, Bool.false_and, Bool.and_false]
      rw [e1]
      have s03 := (sL.trans sp).trans s3
      refine ⟨_, rfl, iteB (fun c1 => ?_) (fun c1 => ?_)⟩
      · refine ⟨_, rfl, L, _, rfl, .inl ⟨SqL.of ((sp.trans s3) _ _ hL), fun o no => ?_⟩⟩
        have so := same_new no (.tup [.int (a : Int), .int (b : Int)])
        refine ⟨_, rfl, (a, b), e, xs, es, ⟨o, rfl, SqT.of upd_same⟩, rfl, Same.tup (s03.trans so) he, hes.same (s03.trans so), ?_⟩
        have z := q' _ (s03.trans so)
        rw [c1, Bool.true_and] at z
        have e2 : (decide ((a, b) ∈ es) == false) = !decide ((a, b) ∈ es) := by cases decide ((a, b) ∈ es) <;> rfl
        rw [e2] at z
        exact z
      · have z := q' H3 s03
        rw [c1, Bool.false_and] at z
        exact z
    | true =>
      refine iteF ?_
      refine ⟨_, rfl, L, _, rfl, .inl ⟨SqL.of hL, fun o no => ?_⟩⟩
      have so := same_new no (.tup [.int (a : Int), .int (b : Int)])
      refine ⟨_, rfl, (a, b), e, xs, es, ⟨o, rfl, SqT.of upd_same⟩, rfl, Same.tup (sL.trans so) he, hes.same (sL.trans so), ?_⟩
      have z := q' _ (sL.trans so)
      have e2 : (decide (b < n) && (decide ((a, b) ∈ es) == true)) = decide ((a, b) ∈ es) := by
        by_cases h : (a, b) ∈ es
        · rw [decide_eq_true h, decide_eq_true (g.lt _ h).2]
          rfl
        · rw [decide_eq_false h]
          simp
      rw [e2] at z
      exact z
theorem ok_pled (F : L2.Fun K "_led_on" "_led_on" sPLed f fd) (GI : FnOk P w K mg base CX0 8 fI dI ["graph", "lot"] (spInduced K)) (bI : L2.Binds K dI ["graph", "lot"] []) (kI : PySem.W.keepIn K (.ref fI) = true) (mI : mg "induced" = some (.ref fI))
    (mt : mg "tuple" = none) (mr : mg "range" = none) (mso : mg "sorted" = none) : FnOk P w K mg base CX0 9 f fd ["graph", "change"] (spPLed K) := by
  refine F.ok scPLed (fun vs H Q E h => ?_) (fun cdv A outer s0 H vs Q E hr h => ?_)
  · obtain ⟨x, v, n, es, c, rfl, _⟩ := h
    rfl
  obtain ⟨x, v, n, es, c, rfl, hx, g, hv, ok, ft, q⟩ := h
  refine ⟨_, pss_cons (ps_asg (pv 0) (pg_tup (by rfl) (pgs_cons (pg_name (i := 2) scPLed.nd rfl (.inr rfl)) (pgs_cons (pg_name (i := 3) scPLed.nd rfl (.inl rfl)) pgs_nil))))
    (pss_cons (ps_asg (pv 1) (pg_starT (by rfl) (pg_name (i := 4) scPLed.nd rfl (.inl rfl)) (pg_name (i := 5) scPLed.nd rfl (.inr rfl))))
    (pss_cons (ps_if (pt_cmpR op_eq (pv 4) pe_str (nomark _)) (pss_one (ps_ret (pe_call GI hr (by rfl) mI kI bI .nil pass0 (pa_cons (pv 0) (pa_cons (pe_callTy call_tupF (by rfl) mt (by decide +kernel) (pa_cons (pe_lc (own := [("vertex", 7)]) (g := gName 7) (tt := tTest (tOp rNe (tVar 7) (tOp (rIxL K) (tVar 5) (tC (.int 0))))) rfl scPLed.nd (pi_range1 rfl mr (pa_cons (pv 2) pa_nil))
        (blkOk_by (N := ["graph", "change", "many", "edges", "kind", "rest", "more", "vertex", "edge"]) (sc := defScope sPLed) (by decide +kernel)) (fun _ _ _ _ _ => pg_name (i := 7) scPLed.nd rfl (Or.inl rfl))
        (fun _ _ _ _ _ => pts_one (pt_cmpR op_ne (pv 7) (pe_ix (r := rIxL K) ix_list (pv 5) pe_int (fun _ _ => rfl)) (nomark _))) (fun _ _ _ _ _ => pv 7)) pa_nil)) pa_nil))))) pss_nil)
    (pss_cons (ps_if (pt_cmpR op_eq (pv 4) pe_str (nomark _)) (pss_one (ps_ret (pe_tup (pa_cons (pv 2) (pa_cons (pe_callTy call_tuple_of (by rfl) mt (by decide +kernel) (pa_cons (pe_lc (own := [("edge", 8)]) (g := gName 8) (tt := tTest (tOp (rNeD K) (tVar 8) (tCB (rTupOf K) (tCons (tVar 5) tNil)))) rfl scPLed.nd (pi_tup (pv 3))
        (blkOk_by (N := ["graph", "change", "many", "edges", "kind", "rest", "more", "vertex", "edge"]) (sc := defScope sPLed) (by decide +kernel)) (fun _ _ _ _ _ => pg_name (i := 8) scPLed.nd rfl (Or.inl rfl))
        (fun _ _ _ _ _ => pts_one (pt_cmpR (op_neD hr.units) (pv 8) (pe_callTy (r := rTupOf K) call_tuple_of (by rfl) mt (by decide +kernel) (pa_cons (pv 5) pa_nil)) (nomark _))) (fun _ _ _ _ _ => pv 8)) pa_nil)) pa_nil))))) pss_nil)
    (pss_cons (ps_if (pt_cmpR op_eq (pv 4) pe_str (nomark _)) (pss_one (ps_ret (pe_tup (pa_cons (pv 2) (pa_cons (pe_callTy call_tuple_of (by rfl) mt (by decide +kernel) (pa_cons (pe_callB cr_sortPT (by rfl) mso (by decide +kernel) (pa_cons (pe_op op_catW (pv 3) (pe_tup (pa_cons (pe_callTy call_tuple_of (by rfl) mt (by decide +kernel) (pa_cons (pv 5) pa_nil)) pa_nil))) pa_nil)) pa_nil)) pa_nil))))) pss_nil)
    (pss_cons (ps_set (i := 6) scPLed.nd rfl (.inl rfl) (pe_callTy call_tuple_of (by rfl) mt (by decide +kernel) (pa_cons (pe_lc (own := [("vertex", 7)]) (g := gName 7) (tt := tYes) rfl scPLed.nd (pi_tup (pe_ix (r := rIxL K) ix_list (pv 5) pe_int (fun _ _ => rfl)))
        (blkOk_by (N := ["graph", "change", "many", "edges", "kind", "rest", "more", "vertex", "edge"]) (sc := defScope sPLed) (by decide +kernel)) (fun _ _ _ _ _ => pg_name (i := 7) scPLed.nd rfl (Or.inl rfl)) (fun _ _ _ _ _ => pts_nil)
        (fun _ _ _ _ _ => pe_tup (pa_cons (pv 7) (pa_cons (pv 2) pa_nil)))) pa_nil)))
    (pss_one (ps_ret (pe_tup (pa_cons (pe_op op_add (pv 2) pe_int) (pa_cons (pe_callTy call_tuple_of (by rfl) mt (by decide +kernel) (pa_cons (pe_callB cr_sortPT (by rfl) mso (by decide +kernel) (pa_cons (pe_op op_catW (pv 3) (pv 6)) pa_nil)) pa_nil)) pa_nil)))))))))), ?_⟩
  have two : (2 : Nat) ≤ sizeLine := small (by decide)
  have line : ∀ k, k ≤ 1000 → k ≤ sizeLine := fun k hk => small hk
  have few := g.few
  have n9 := g.n9
  obtain ⟨t, e, xs, rfl, ht, he, hes⟩ := id hx
  have lx := PairsT.len hes
  refine ⟨_, rfl, t, _, rfl, ht, rfl, _, _, rfl, _, _, rfl, rfl, ?_⟩
  cases c with
  | vertex l =>
    obtain ⟨ct, u, rfl, hct, hu⟩ := hv
    obtain ⟨ok1, ok2⟩ := ok
    have l9 := LotOk.few (n := 9) ⟨ok1, ok2⟩
    obtain ⟨f1, f2⟩ : n < 9 ∧ ∀ k ∈ l, k < n := by
      have z : (decide (n < 9) && l.all fun k => decide (k < n)) = true := ft
      rw [Bool.and_eq_true, decide_eq_true_eq, List.all_eq_true] at z
      exact ⟨z.1, fun k hk => of_decide_eq_true (z.2 k hk)⟩
    refine ⟨_, rfl, ct, _, _, rfl, hct, fun L nL => ⟨_, _, rfl, _, _, rfl, rfl, ?_⟩⟩
    have sL := same_new nL (.lst [.ref u])
    have hL := upd_same (H := H) (a := L) (o := .lst [.ref u])
    generalize upd H L (.lst [.ref u]) = H1 at sL hL ⊢
    refine ⟨_, rfl, rfl, _, rfl, iteF ⟨_, rfl, rfl, _, rfl, iteF ⟨_, rfl, rfl, _, rfl, iteF ?_⟩⟩⟩
    have hu1 := Same.tup sL hu
    refine ⟨_, rfl, L, [.ref u], 0, .ref u, rfl, rfl, SqL.of hL, rfl, u, rfl, ⟨_, hu1⟩, fun D nD => lo_it (walk_tup (xs := numsN l)) (fun i H2 => Same H1 H2 ∧ ∃ zs, H2 D = some (.lst zs) ∧ PairsT H2 zs ((l.take i).map fun k => (k, n))) ⟨same_new nD _, [], upd_same, .nil⟩ (fun i H2 _ ⟨s2, _⟩ => Same.tup s2 hu1) ?_ ?_⟩
    · rintro i y _ H2 li ⟨s2, zs, hD, pz⟩ ⟨rfl, hy⟩
      obtain ⟨k, hk, rfl⟩ : ∃ k, l[i]? = some k ∧ y = .int (k : Int) := by
        unfold numsN at hy
        rw [List.getElem?_map] at hy
        cases h : l[i]? with
        | none => rw [h] at hy; cases hy
        | some k =>
          rw [h] at hy
          exact ⟨k, rfl, (Option.some.inj hy).symm⟩
      refine ⟨rfl, ?_⟩
      refine ⟨_, rfl, _, rfl, two, fun o no => ?_⟩
      have pp := push_pairT (k, n) hD no pz
      have lz := PairsT.len pz
      refine ⟨zs, (same_new no _) _ _ hD, small1000 (by rw [lz, List.length_map, List.length_take]; omega), same_put (s2.trans (same_new no _)) nD, _, upd_same, ?_⟩
      rw [take_succ hk, List.map_append]
      exact pp
    rintro H2 ⟨s2, zs, hD, pz⟩
    rw [numsN_len, List.take_length] at pz
    have s12 := sL.trans s2
    have lz := PairsT.len pz
    rw [List.length_map] at lz
    refine ⟨D, zs, rfl, .inl ⟨SqL.of hD, fun r nr => ?_⟩⟩
    have sr := same_new nr (.tup zs)
    have hr' := upd_same (H := H2) (a := r) (o := .tup zs)
    have pz3 := pz.same sr
    generalize upd H2 r (.tup zs) = H3 at sr hr' pz3 ⊢
    have s13 := s12.trans sr
    have he3 := Same.tup s13 he
    have hes3 := hes.same s13
    refine ⟨_, rfl, _, _, rfl, rfl, _, rfl, _, rfl, e, r, xs, zs, rfl, rfl, he3, SqT.of hr', line _ (by omega), fun b H4 s4 hb => ?_⟩
    have pb := (hes3.same s4).append (pz3.same s4)
    refine ⟨b, _, kOf H4, rfl, hb, pb.ks, fun ys S so st nS => ?_⟩
    obtain ⟨g1, g2, g3⟩ := sorted_pairsD pb so st
    have sS := same_new nS (.lst ys)
    have hS := upd_same (H := H4) (a := S) (o := .lst ys)
    generalize upd H4 S (.lst ys) = H5 at sS hS ⊢
    refine ⟨S, ys, rfl, .inl ⟨SqL.of hS, fun w nw => ⟨two, fun y ny => ?_⟩⟩⟩
    have sw' := same_new nw (.tup ys)
    have sy := same_new ny (.tup [.int ((n : Int) + 1), .ref w])
    refine q (.ref y) (n + 1) _ _ (s13.trans (s4.trans (sS.trans (sw'.trans sy)))) ⟨y, w, ys, rfl, ?_, sy _ _ upd_same, g1.same (sS.trans (sw'.trans sy))⟩ (done_vertex g f1 ok2 f2 g2 g3)
    rw [upd_same, Int.natCast_add, Int.natCast_one]
  | out a =>
    obtain ⟨ct, rfl, hct⟩ := hv
    have an : a < n := of_decide_eq_true ft
    refine ⟨_, rfl, ct, _, _, rfl, hct, fun L nL => ⟨_, _, rfl, _, _, rfl, rfl, ?_⟩⟩
    have sL := same_new nL (.lst [.int (a : Int)])
    have hL := upd_same (H := H) (a := L) (o := .lst [.int (a : Int)])
    generalize upd H L (.lst [.int (a : Int)]) = H1 at sL hL ⊢
    refine ⟨_, rfl, rfl, _, rfl, iteT ?_⟩
    refine ⟨_, rfl, _, rfl, (n : Int), rfl, by omega, by omega, fun D nD => lc_range (lo := 0) (n := ((n : Nat) : Int).toNat) (fun j H2 => Same H1 H2 ∧ H2 D = some (.lst (numsN (lotO j a)))) ⟨same_new nD _, upd_same⟩ ?_ ?_⟩
    · rintro j H2 lj ⟨s2, hD⟩
      rw [Int.zero_add]
      have step : lotO (j + 1) a = lotO j a ++ (if j = a then [] else [j]) := by
        unfold lotO
        rw [List.range_succ, List.filter_append]
        by_cases h : j = a
        · rw [if_pos h, List.filter_cons_of_neg (by simp [h])]
          rfl
        · rw [if_neg h, List.filter_cons_of_pos (by simp [h])]
          rfl
      have lD : (numsN (lotO j a)).length < sizeLine := small1000 (by
        have := List.length_filter_le (fun k => decide (k ≠ a)) (List.range j)
        rw [List.length_range] at this
        rw [numsN_len]
        show ((List.range j).filter fun k => decide (k ≠ a)).length ≤ 1000
        omega)
      refine ⟨rfl, ?_⟩
      refine ⟨_, rfl, _, rfl, L, _, 0, _, rfl, rfl, SqL.of (s2 _ _ hL), rfl, rfl, _, rfl, iteB (fun c => ?_) (fun c => ?_)⟩
      · have ne : j ≠ a := fun h => by
          subst h
          simp at c
        refine ⟨_, rfl, _, hD, lD, same_put s2 nD, ?_⟩
        rw [upd_same, step, if_neg ne]
        unfold numsN
        rw [List.map_append]
        rfl
      · have e : j = a := by
          by_cases h : j = a
          · exact h
          · exfalso
            have : decide (V.int (j : Int) = V.int (a : Int)) = false := decide_eq_false fun q => by
              injection q with q
              omega
            rw [this] at c
            cases c
        refine ⟨s2, ?_⟩
        rw [step, if_pos e, List.append_nil]
        exact hD
    rintro H2 ⟨s2, hD⟩
    rw [Int.toNat_natCast] at hD
    have s12 := sL.trans s2
    refine ⟨D, _, rfl, SqL.of hD, fun p H3 s3 hp => ?_⟩
    have s13 := s12.trans s3
    refine ⟨.ref t, n, es, p, lotO n a, rfl, (hx.same s13).at, g, ?_, ⟨(lotO_ok n a).2, (lotO_ok n a).1⟩, fun y H4 s4 hy => q y _ _ H4 (s13.trans s4) hy (done_out g a)⟩
    rw [List.map_map]
    exact hp
  | two c a b =>
    obtain ⟨ct, rfl, hct⟩ := hv
    obtain ⟨ab, b8⟩ : a < b ∧ b ≤ 8 := ok
    have w2 : decide (V.str (wordOf c) = V.str ("out" : Str)) = false := by cases c <;> decide
    have w1 : decide (V.str (wordOf c) = V.str ("cut" : Str)) = c := by cases c <;> decide
    have w3 : decide (V.str (wordOf c) = V.str ("edge" : Str)) = !c := by cases c <;> decide
    have ft' : (decide (b < n) && (decide ((a, b) ∈ es) == c)) = true := ft
    rw [Bool.and_eq_true, decide_eq_true_eq] at ft'
    obtain ⟨bn, ft'⟩ := ft'
    refine ⟨_, rfl, ct, _, _, rfl, hct, fun L nL => ⟨_, _, rfl, _, _, rfl, rfl, ?_⟩⟩
    have sL := same_new nL (.lst [.int (a : Int), .int (b : Int)])
    have hL := upd_same (H := H) (a := L) (o := .lst [.int (a : Int), .int (b : Int)])
    generalize upd H L (.lst [.int (a : Int), .int (b : Int)]) = H1 at sL hL ⊢
    have he1 := Same.tup sL he
    have hes1 := hes.same sL
    refine ⟨_, rfl, rfl, _, rfl, ?_⟩
    rw [w2]
    refine iteF ⟨_, rfl, rfl, _, rfl, ?_⟩
    rw [w1]
    cases c with
    | true =>
      refine iteT ?_
      refine ⟨_, rfl, _, rfl, e, rfl, ⟨_, he1⟩, fun D nD => lo_it (walk_tup (xs := xs)) (fun i H2 => Same H1 H2 ∧ ∃ zs, H2 D = some (.lst zs) ∧ PairsT H2 zs ((es.take i).filter fun p => !decide (p = (a, b)))) ⟨same_new nD _, [], upd_same, .nil⟩ (fun i H2 _ ⟨s2, _⟩ => Same.tup s2 he1) ?_ ?_⟩
      · rintro i y _ H2 li ⟨s2, zs, hD, pz⟩ ⟨rfl, hy⟩
        obtain ⟨p, hp, r, rfl, hr2⟩ := PairsT.getC (hes1.same s2) hy
        refine ⟨rfl, ?_⟩
        refine ⟨_, rfl, _, rfl, L, _, rfl, .inl ⟨SqL.of (s2 _ _ hL), fun o no => ?_⟩⟩
        have so := same_new no (.tup [.int (a : Int), .int (b : Int)])
        have ho : PairAt K (upd H2 o (.tup [.int (a : Int), .int (b : Int)])) (.ref o) (a, b) := ⟨o, rfl, SqT.of upd_same⟩
        have hD3 := so _ _ hD
        have pz3 := pz.same so
        have hr3 := so _ _ hr2
        generalize upd H2 o (.tup [.int (a : Int), .int (b : Int)]) = H3 at so ho hD3 pz3 hr3 ⊢
        refine ⟨pairD p, pairD (a, b), PairAt.dp ⟨r, rfl, SqT.of hr3⟩, ho.dp, pairD_shaped p, pairD_shaped _, _, rfl, ?_⟩
        rw [pairD_eqv]
        have lz := PairsT.len pz
        have le : zs.length ≤ i := Nat.le_trans (Nat.le_of_eq lz) (Nat.le_trans (List.length_filter_le _ _) (by rw [List.length_take]; omega))
        refine iteB (fun c => ?_) (fun c => ?_)
        · refine ⟨_, rfl, zs, hD3, small1000 (by omega), same_put (s2.trans so) nD, _, upd_same, ?_⟩
          rw [take_succ hp, List.filter_append, List.filter_cons_of_pos (p := fun p => !decide (p = (a, b))) c]
          exact (pz3.put hD3).append (.cons ⟨r, rfl, by rw [upd_ne (fun z => by rw [z, hD3] at hr3; cases hr3)]; exact hr3⟩ .nil)
        · refine ⟨s2.trans so, zs, hD3, ?_⟩
          rw [take_succ hp, List.filter_append, List.filter_cons_of_neg (p := fun p => !decide (p = (a, b))) (by rw [c]; decide)]
          rw [show ([] : List E2).filter (fun p => !decide (p = (a, b))) = [] from rfl, List.append_nil]
          exact pz3
      rintro H2 ⟨s2, zs, hD, pz⟩
      rw [lx, List.take_length] at pz
      refine ⟨D, zs, rfl, .inl ⟨SqL.of hD, fun w nw => ⟨two, fun y ny => ?_⟩⟩⟩
      have sw' := same_new nw (.tup zs)
      have sy := same_new ny (.tup [.int (n : Int), .ref w])
      exact q (.ref y) n _ _ (sL.trans (s2.trans (sw'.trans sy))) ⟨y, w, zs, rfl, upd_same, sy _ _ upd_same, pz.same (sw'.trans sy)⟩ (done_cut g)
    | false =>
      refine iteF ⟨_, rfl, rfl, _, rfl, ?_⟩
      rw [w3]
      refine iteT ?_
      refine ⟨_, rfl, _, rfl, _, rfl, L, _, rfl, .inl ⟨SqL.of hL, fun o no => ?_⟩⟩
      have so := same_new no (.tup [.int (a : Int), .int (b : Int)])
      have ho := upd_same (H := H1) (a := o) (o := .tup [.int (a : Int), .int (b : Int)])
      generalize upd H1 o (.tup [.int (a : Int), .int (b : Int)]) = H2 at so ho ⊢
      refine ⟨line 1 (by decide), fun N nN => ?_⟩
      have sN := same_new nN (.tup [.ref o])
      have hN := upd_same (H := H2) (a := N) (o := .tup [.ref o])
      generalize upd H2 N (.tup [.ref o]) = H3 at sN hN ⊢
      have s13 := so.trans sN
      refine ⟨e, N, xs, [.ref o], rfl, rfl, Same.tup s13 he1, SqT.of hN, line _ (by rw [List.length_singleton]; omega), fun d H4 s4 hd => ?_⟩
      have pb := (hes1.same (s13.trans s4)).append (.cons ⟨o, rfl, s4 _ _ (sN _ _ ho)⟩ .nil : PairsT H4 [.ref o] [(a, b)])
      refine ⟨d, _, kOf H4, rfl, hd, pb.ks, fun ys S so' st nS => ?_⟩
      obtain ⟨g1, g2, g3⟩ := sorted_pairsD pb so' st
      have sS := same_new nS (.lst ys)
      have hS := upd_same (H := H4) (a := S) (o := .lst ys)
      generalize upd H4 S (.lst ys) = H5 at sS hS ⊢
      refine ⟨S, ys, rfl, .inl ⟨SqL.of hS, fun w nw => ⟨two, fun y ny => ?_⟩⟩⟩
      have sw' := same_new nw (.tup ys)
      have sy := same_new ny (.tup [.int (n : Int), .ref w])
      have no' : (a, b) ∉ es := by
        intro h
        rw [decide_eq_true h] at ft'
        cases ft'
      exact q (.ref y) n _ _ (sL.trans (s13.trans (s4.trans (sS.trans (sw'.trans sy))))) ⟨y, w, ys, rfl, upd_same, sy _ _ upd_same, g1.same (sS.trans (sw'.trans sy))⟩ (done_edge g ab bn no' g2 g3)
end
end My

set_option maxHeartbeats 8000000
namespace My
open PySem PySem.Spec PyProof.Rows L2
abbrev sLFit : Stmt := top 38
abbrev sLDone : Stmt := top 39
theorem scLFit : FnScope ["graph", "change"] ["graph", "change"] (defScope sLFit) := ⟨rfl, rfl, rfl, by decide +kernel, rfl, by decide +kernel, by decide +kernel⟩
theorem scLDone : FnScope ["graph", "change", "each", "edge"] ["graph", "change"] (defScope sLDone) := ⟨rfl, rfl, rfl, by decide +kernel, rfl, by decide +kernel, by decide +kernel⟩
def spLFit (K : PySem.W.Frag) : Sp := fun vs H Q _ => ∃ (x v : V) (n : Nat) (es : List E2) (c : Chg), vs = [x, v] ∧ GraphAt K H x n es ∧ Good n es ∧ ChgAt K H v c ∧ ChgOk c ∧ ∀ H', Same H H' → Q (.bl (fits n es c)) H'
def spLDone (K : PySem.W.Frag) : Sp := fun vs H Q _ => ∃ (x v : V) (n : Nat) (es : List E2) (c : Chg), vs = [x, v] ∧ GraphM K H x n es ∧ Good n es ∧ ChgAt K H v c ∧ ChgOk c ∧ fits n es c = true ∧ ∀ y m fs H', Same H H' → GraphT H' y m fs → Done n es c m fs → Q y H'
theorem lotB_nat {n : Nat} {l : List Nat} (up : l.Pairwise (· < ·)) : lotB (n : Int) (.tup (l.map fun k => Sh.int ((k : Nat) : Int))) = l.all fun k => decide (k < n) := by
  show ((l.map fun k => Sh.int ((k : Nat) : Int)).all (wholeR 0 ((n : Int) - 1)) && ascB (l.map fun k => Sh.int ((k : Nat) : Int))) = _
  rw [asc_natS up, Bool.and_true, List.all_map]
  refine List.all_congr rfl fun k => ?_
  show (decide (((k : Nat) : Int) ≥ 0) && decide (((k : Nat) : Int) ≤ (n : Int) - 1)) = decide (k < n)
  rw [decide_eq_true (show ((k : Nat) : Int) ≥ 0 by omega), Bool.true_and]
  exact decide_eq_decide.mpr (by omega)
section
variable {P : Program} {w : World} {K : PySem.W.Frag} {mg : Str → Option Value} {base : Heap} {f fL fW : Addr} {fd dL dW : FuncData}
theorem ok_lfit (F : L2.Fun K "_law_fits" "_law_fits" sLFit f fd) (GL : FnOk P w K mg base CX0 2 fL dL ["value", "many"] (spLLot K)) (bL : L2.Binds K dL ["value", "many"] []) (kL : PySem.W.keepIn K (.ref fL) = true) (mL : mg "_law_is_lot" = some (.ref fL)) : FnOk P w K mg base CX0 3 f fd ["graph", "change"] (spLFit K) := by
  refine F.ok scLFit (fun vs H Q E h => ?_) (fun cdv A outer s0 H vs Q E hr h => ?_)
  · obtain ⟨x, v, n, es, c, rfl, _⟩ := h
    rfl
  obtain ⟨x, v, n, es, c, rfl, hx, g, hv, ok, q⟩ := h
  refine ⟨_, pss_cons (ps_if (pt_cmpR op_eq (pe_ix (r := rIxT K) ix_tup (pv 1) pe_int (fun _ _ => rfl)) pe_str (nomark _)) (pss_one (ps_ret (pe_and (pe_cmpR op_lt (pe_ix (r := rIxT K) ix_tup (pv 0) pe_int (fun _ _ => rfl)) pe_int (nomark _)) (pe_one (pe_call GL hr (by rfl) mL kL bL .nil pass0 (pa_cons (pe_ix (r := rIxT K) ix_tup (pv 1) pe_int (fun _ _ => rfl)) (pa_cons (pe_ix (r := rIxT K) ix_tup (pv 0) pe_int (fun _ _ => rfl)) pa_nil))))))) pss_nil)
    (pss_cons (ps_if (pt_cmpR op_eq (pe_ix (r := rIxT K) ix_tup (pv 1) pe_int (fun _ _ => rfl)) pe_str (nomark _)) (pss_one (ps_ret (pe_cmpR op_lt (pe_ix (r := rIxT K) ix_tup (pv 1) pe_int (fun _ _ => rfl)) (pe_ix (r := rIxT K) ix_tup (pv 0) pe_int (fun _ _ => rfl)) (nomark _)))) pss_nil)
    (pss_one (ps_ret (pe_and (pe_cmpR op_lt (pe_ix (r := rIxT K) ix_tup (pv 1) pe_int (fun _ _ => rfl)) (pe_ix (r := rIxT K) ix_tup (pv 0) pe_int (fun _ _ => rfl)) (nomark _)) (pe_one (pe_cmpR op_eq (pe_cmpR (op_inP hr.units) (pe_slice sl_tupW (pv 1) (po_some pe_int) po_none) (pe_ix (r := rIxT K) ix_tup (pv 0) pe_int (fun _ _ => rfl)) (by rfl)) (pe_cmpR op_eq (pe_ix (r := rIxT K) ix_tup (pv 1) pe_int (fun _ _ => rfl)) pe_str (nomark _)) (nomark _))))))), ?_⟩
  obtain ⟨t, e, xs, rfl, ht, he, hes⟩ := id hx
  cases c with
  | vertex l =>
    obtain ⟨ct, u, rfl, hct, hu⟩ := hv
    obtain ⟨ok1, ok2⟩ := ok
    have l9 := LotOk.few (n := 9) ⟨ok1, ok2⟩
    refine ⟨_, rfl, ct, _, 0, _, rfl, rfl, hct, rfl, rfl, _, rfl, iteT ?_⟩
    have q' : ∀ H', Same H H' → Q (.bl (decide (n < 9) && l.all fun k => decide (k < n))) H' := q
    refine ⟨_, rfl, t, _, 0, _, rfl, rfl, ht, rfl, _, _, rfl, rfl, _, rfl, iteB (fun c1 => ?_) (fun c1 => ?_)⟩
    · have e9 : n < 9 := by
        have := of_decide_eq_true c1
        omega
      refine ⟨_, rfl, ct, _, 1, _, rfl, rfl, hct, rfl, _, rfl, t, _, 0, _, rfl, rfl, ht, rfl, .ref u, _, (n : Int), rfl, .tup hu (numsN_sh l), .tup (by rw [List.length_map]; omega) (fun z hz => by
        obtain ⟨k, _, rfl⟩ := List.mem_map.mp hz
        exact .int _), fun H1 s1 => ?_⟩
      rw [lotB_nat ok2]
      have z := q' H1 s1
      rw [decide_eq_true e9, Bool.true_and] at z
      exact z
    · have e9 : ¬ n < 9 := by
        have := of_decide_eq_false c1
        omega
      have z := q' H (Same.refl H)
      rw [decide_eq_false e9, Bool.false_and] at z
      exact z
  | out a =>
    obtain ⟨ct, rfl, hct⟩ := hv
    refine ⟨_, rfl, ct, _, 0, _, rfl, rfl, hct, rfl, rfl, _, rfl, iteF ?_⟩
    refine ⟨_, rfl, ct, _, 0, _, rfl, rfl, hct, rfl, rfl, _, rfl, iteT ?_⟩
    refine ⟨_, rfl, ct, _, 1, _, rfl, rfl, hct, rfl, _, rfl, t, _, 0, _, rfl, rfl, ht, rfl, _, _, rfl, rfl, ?_⟩
    have z := q H (Same.refl H)
    rw [show fits n es (.out a) = decide (a < n) from rfl, show decide (a < n) = decide (((a : Nat) : Int) < ((n : Nat) : Int)) from decide_eq_decide.mpr (by omega)] at z
    exact z
  | two c a b =>
    obtain ⟨ct, rfl, hct⟩ := hv
    obtain ⟨ab, b8⟩ : a < b ∧ b ≤ 8 := ok
    have w1 : decide (V.str (wordOf c) = V.str ("vertex" : Str)) = false := by cases c <;> decide
    have w2 : decide (V.str (wordOf c) = V.str ("out" : Str)) = false := by cases c <;> decide
    have w3 : decide (V.str (wordOf c) = V.str ("cut" : Str)) = c := by cases c <;> decide
    have q' : ∀ H', Same H H' → Q (.bl (decide (b < n) && (decide ((a, b) ∈ es) == c))) H' := q
    refine ⟨_, rfl, ct, _, 0, _, rfl, rfl, hct, rfl, rfl, _, rfl, ?_⟩
    rw [w1]
    refine iteF ⟨_, rfl, ct, _, 0, _, rfl, rfl, hct, rfl, rfl, _, rfl, ?_⟩
    rw [w2]
    refine iteF ⟨_, rfl, ct, _, 2, _, rfl, rfl, hct, rfl, _, rfl, t, _, 0, _, rfl, rfl, ht, rfl, _, _, rfl, rfl, _, rfl, iteB (fun c1 => ?_) (fun c1 => ?_)⟩
    · have bn : b < n := by
        have := of_decide_eq_true c1
        omega
      refine ⟨_, rfl, _, rfl, ct, _, rfl, hct, fun p H1 s1 hp => ?_⟩
      have cf := cut_from (xs := [V.str (wordOf c), V.int (a : Int), V.int (b : Int)]) (k := 1) (by simp)
      rw [show ((1 : Nat) : Int) = 1 from rfl] at cf
      rw [cf] at hp
      have ht1 := Same.tup s1 ht
      refine ⟨_, rfl, t, _, 1, _, rfl, rfl, ht1, rfl, (a, b), e, xs, es, ⟨p, rfl, hp⟩, rfl, Same.tup s1 he, hes.same s1, ?_⟩
      refine ⟨_, rfl, ct, _, 0, _, rfl, rfl, Same.tup s1 hct, rfl, rfl, rfl, ?_⟩
      have z := q' H1 s1
      rw [decide_eq_true bn, Bool.true_and] at z
      have eb : decide (V.bl (decide ((a, b) ∈ es)) = V.bl c) = (decide ((a, b) ∈ es) == c) := by
        cases decide ((a, b) ∈ es) <;> cases c <;> rfl
      show Q (.bl (decide (V.bl (decide ((a, b) ∈ es)) = V.bl (decide (V.str (wordOf c) = V.str ("cut" : Str)))))) H1
      rw [w3, eb]
      exact z
    · have bn : ¬ b < n := by
        have := of_decide_eq_false c1
        omega
      have z := q' H (Same.refl H)
      rw [decide_eq_false bn, Bool.false_and] at z
      exact z
theorem slice_two (c : Bool) (a b : Nat) : cutV [V.str (wordOf c), V.int (a : Int), V.int (b : Int)] (some 1) none = [.int (a : Int), .int (b : Int)] := by
  have cf := cut_from (xs := [V.str (wordOf c), V.int (a : Int), V.int (b : Int)]) (k := 1) (by simp)
  rw [show ((1 : Nat) : Int) = 1 from rfl] at cf
  exact cf
theorem slice_not (c : Bool) (a b : Nat) : ¬ (HT.sIx [V.str (wordOf c), V.int (a : Int), V.int (b : Int)].length 0 (some 1) = 0 ∧ HT.sIx [V.str (wordOf c), V.int (a : Int), V.int (b : Int)].length [V.str (wordOf c), V.int (a : Int), V.int (b : Int)].length none = [V.str (wordOf c), V.int (a : Int), V.int (b : Int)].length) := by
  intro h
  have := h.1
  rw [show (1 : Int) = ((1 : Nat) : Int) from rfl, HT.sIx_nat] at this
  simp at this
theorem ok_ldone (F : L2.Fun K "_law_done" "_law_done" sLDone f fd) (GW : FnOk P w K mg base CX0 2 fW dW ["graph", "some"] (spWithin K)) (bW : L2.Binds K dW ["graph", "some"] []) (kW : PySem.W.keepIn K (.ref fW) = true) (mW : mg "_law_within" = some (.ref fW))
    (mt : mg "tuple" = none) (mr : mg "range" = none) (mso : mg "sorted" = none) (mli : mg "list" = none) : FnOk P w K mg base CX0 3 f fd ["graph", "change"] (spLDone K) := by
  refine F.ok scLDone (fun vs H Q E h => ?_) (fun cdv A outer s0 H vs Q E hr h => ?_)
  · obtain ⟨x, v, n, es, c, rfl, _⟩ := h
    rfl
  obtain ⟨x, v, n, es, c, rfl, hx, g, hv, ok, ft, q⟩ := h
  refine ⟨_, pss_cons (ps_if (pt_cmpR op_eq (pe_ix (r := rIxT K) ix_tup (pv 1) pe_int (fun _ _ => rfl)) pe_str (nomark _)) (pss_one (ps_ret (pe_tup (pa_cons (pe_op op_add (pe_ix (r := rIxT K) ix_tup (pv 0) pe_int (fun _ _ => rfl)) pe_int) (pa_cons (pe_callTy call_tuple_of (by rfl) mt (by decide +kernel) (pa_cons (pe_callB cr_sortedPO (by rfl) mso (by decide +kernel) (pa_cons (pe_op op_cat (pe_callTy call_list_of (by rfl) mli (by decide +kernel) (pa_cons (pe_ix (r := rIxT K) ix_tup (pv 0) pe_int (fun _ _ => rfl)) pa_nil))
        (pe_lc (own := [("each", 2)]) (g := gName 2) (tt := tYes) rfl scLDone.nd (pi_tup (pe_ix (r := rIxT K) ix_tup (pv 1) pe_int (fun _ _ => rfl)))
          (blkOk_by (N := ["graph", "change", "each", "edge"]) (sc := defScope sLDone) (by decide +kernel)) (fun _ _ _ _ _ => pg_name (i := 2) scLDone.nd rfl (Or.inl rfl)) (fun _ _ _ _ _ => pts_nil)
          (fun _ _ _ _ _ => pe_tup (pa_cons (pv 2) (pa_cons (pe_ix (r := rIxT K) ix_tup (pv 0) pe_int (fun _ _ => rfl)) pa_nil))))) pa_nil)) pa_nil)) pa_nil))))) pss_nil)
    (pss_cons (ps_if (pt_cmpR op_eq (pe_ix (r := rIxT K) ix_tup (pv 1) pe_int (fun _ _ => rfl)) pe_str (nomark _)) (pss_one (ps_ret (pe_call GW hr (by rfl) mW kW bW .nil pass0 (pa_cons (pv 0) (pa_cons (pe_lc (own := [("each", 2)]) (g := gName 2) (tt := tTest (tOp rNe (tVar 2) (tOp (rIxT K) (tVar 1) (tC (.int 1))))) rfl scLDone.nd (pi_range1 rfl mr (pa_cons (pe_ix (r := rIxT K) ix_tup (pv 0) pe_int (fun _ _ => rfl)) pa_nil))
          (blkOk_by (N := ["graph", "change", "each", "edge"]) (sc := defScope sLDone) (by decide +kernel)) (fun _ _ _ _ _ => pg_name (i := 2) scLDone.nd rfl (Or.inl rfl))
          (fun _ _ _ _ _ => pts_one (pt_cmpR op_ne (pv 2) (pe_ix (r := rIxT K) ix_tup (pv 1) pe_int (fun _ _ => rfl)) (nomark _))) (fun _ _ _ _ _ => pv 2)) pa_nil))))) pss_nil)
    (pss_cons (ps_if (pt_cmpR op_eq (pe_ix (r := rIxT K) ix_tup (pv 1) pe_int (fun _ _ => rfl)) pe_str (nomark _)) (pss_one (ps_ret (pe_tup (pa_cons (pe_ix (r := rIxT K) ix_tup (pv 0) pe_int (fun _ _ => rfl)) (pa_cons (pe_callTy call_tuple_of (by rfl) mt (by decide +kernel) (pa_cons (pe_callB cr_sortedPO (by rfl) mso (by decide +kernel) (pa_cons (pe_op op_cat (pe_callTy call_list_of (by rfl) mli (by decide +kernel) (pa_cons (pe_ix (r := rIxT K) ix_tup (pv 0) pe_int (fun _ _ => rfl)) pa_nil))
        (pe_lst (pa_cons (pe_slice sl_tup (pv 1) (po_some pe_int) po_none) pa_nil))) pa_nil)) pa_nil)) pa_nil))))) pss_nil)
    (pss_one (ps_ret (pe_tup (pa_cons (pe_ix (r := rIxT K) ix_tup (pv 0) pe_int (fun _ _ => rfl)) (pa_cons (pe_callTy call_tuple_of (by rfl) mt (by decide +kernel) (pa_cons (pe_lc (own := [("edge", 3)]) (g := gName 3) (tt := tTest (tOp (rNeD K) (tVar 3) (tSl (rSlT K) (tVar 1) (tPart (tC (.int 1))) tNoPart))) rfl scLDone.nd (pi_tup (pe_ix (r := rIxT K) ix_tup (pv 0) pe_int (fun _ _ => rfl)))
          (blkOk_by (N := ["graph", "change", "each", "edge"]) (sc := defScope sLDone) (by decide +kernel)) (fun _ _ _ _ _ => pg_name (i := 3) scLDone.nd rfl (Or.inl rfl))
          (fun _ _ _ _ _ => pts_one (pt_cmpR (op_neD hr.units) (pv 3) (pe_slice (r := rSlT K) sl_tup (pv 1) (po_some pe_int) po_none) (nomark _))) (fun _ _ _ _ _ => pv 3)) pa_nil)) pa_nil))))))), ?_⟩
  have two : (2 : Nat) ≤ sizeLine := small (by decide)
  have line : ∀ k, k ≤ 1000 → k ≤ sizeLine := fun k hk => small hk
  have few := g.few
  have n9 := g.n9
  obtain ⟨t, e, xs, rfl, ht, he, hes⟩ := id hx
  have lx := PairsT.len hes
  cases c with
  | vertex l =>
    obtain ⟨ct, u, rfl, hct, hu⟩ := hv
    obtain ⟨ok1, ok2⟩ := ok
    have l9 := LotOk.few (n := 9) ⟨ok1, ok2⟩
    obtain ⟨f1, f2⟩ : n < 9 ∧ ∀ k ∈ l, k < n := by
      have z : (decide (n < 9) && l.all fun k => decide (k < n)) = true := ft
      rw [Bool.and_eq_true, decide_eq_true_eq, List.all_eq_true] at z
      exact ⟨z.1, fun k hk => of_decide_eq_true (z.2 k hk)⟩
    refine ⟨_, rfl, ct, _, 0, _, rfl, rfl, hct, rfl, rfl, _, rfl, iteT ?_⟩
    refine ⟨_, rfl, t, _, 0, _, rfl, rfl, ht, rfl, _, _, rfl, rfl, _, rfl, t, _, 1, _, rfl, rfl, ht, rfl, e, xs, rfl, .inr he, fun L nL => ?_⟩
    have sL := same_new nL (.lst xs)
    have hL := upd_same (H := H) (a := L) (o := .lst xs)
    generalize upd H L (.lst xs) = H1 at sL hL ⊢
    have hu1 := Same.tup sL hu
    refine ⟨_, rfl, ct, _, 1, _, rfl, rfl, Same.tup sL hct, rfl, u, rfl, ⟨_, hu1⟩, fun D nD => lo_it (walk_tup (xs := numsN l)) (fun i H2 => Same H1 H2 ∧ ∃ zs, H2 D = some (.lst zs) ∧ PairsT H2 zs ((l.take i).map fun k => (k, n))) ⟨same_new nD _, [], upd_same, .nil⟩ (fun i H2 _ ⟨s2, _⟩ => Same.tup s2 hu1) ?_ ?_⟩
    · rintro i y _ H2 li ⟨s2, zs, hD, pz⟩ ⟨rfl, hy⟩
      obtain ⟨k, hk, rfl⟩ : ∃ k, l[i]? = some k ∧ y = .int (k : Int) := by
        unfold numsN at hy
        rw [List.getElem?_map] at hy
        cases h : l[i]? with
        | none => rw [h] at hy; cases hy
        | some k =>
          rw [h] at hy
          exact ⟨k, rfl, (Option.some.inj hy).symm⟩
      refine ⟨rfl, ?_⟩
      refine ⟨_, rfl, _, rfl, t, _, 0, _, rfl, rfl, Same.tup (sL.trans s2) ht, rfl, two, fun o no => ?_⟩
      have pp := push_pairT (k, n) hD no pz
      have lz := PairsT.len pz
      refine ⟨zs, (same_new no _) _ _ hD, small1000 (by rw [lz, List.length_map, List.length_take]; omega), same_put (s2.trans (same_new no _)) nD, _, upd_same, ?_⟩
      rw [take_succ hk, List.map_append]
      exact pp
    rintro H2 ⟨s2, zs, hD, pz⟩
    rw [numsN_len, List.take_length] at pz
    have s12 := sL.trans s2
    have lz := PairsT.len pz
    rw [List.length_map] at lz
    refine ⟨L, D, xs, zs, rfl, rfl, s2 _ _ hL, hD, line _ (by omega), fun C nC => ?_⟩
    have sC := same_new nC (.lst (xs ++ zs))
    have hC := upd_same (H := H2) (a := C) (o := .lst (xs ++ zs))
    generalize upd H2 C (.lst (xs ++ zs)) = H3 at sC hC ⊢
    have s13 := s12.trans sC
    have pb := (hes.same s13).append (pz.same sC)
    refine ⟨C, _, kOf H3, rfl, SqL.of hC, pb.ks, fun ys S so st nS => ?_⟩
    obtain ⟨g1, g2, g3⟩ := sorted_pairsD pb so st
    have sS := same_new nS (.lst ys)
    have hS := upd_same (H := H3) (a := S) (o := .lst ys)
    generalize upd H3 S (.lst ys) = H5 at sS hS ⊢
    refine ⟨S, ys, rfl, .inl ⟨SqL.of hS, fun w nw => ⟨two, fun y ny => ?_⟩⟩⟩
    have sw' := same_new nw (.tup ys)
    have sy := same_new ny (.tup [.int ((n : Int) + 1), .ref w])
    refine q (.ref y) (n + 1) _ _ (s13.trans (sS.trans (sw'.trans sy))) ⟨y, w, ys, rfl, ?_, sy _ _ upd_same, g1.same (sS.trans (sw'.trans sy))⟩ (done_vertex g f1 ok2 f2 g2 g3)
    rw [upd_same, Int.natCast_add, Int.natCast_one]
  | out a =>
    obtain ⟨ct, rfl, hct⟩ := hv
    have an : a < n := of_decide_eq_true ft
    refine ⟨_, rfl, ct, _, 0, _, rfl, rfl, hct, rfl, rfl, _, rfl, iteF ?_⟩
    refine ⟨_, rfl, ct, _, 0, _, rfl, rfl, hct, rfl, rfl, _, rfl, iteT ?_⟩
    refine ⟨_, rfl, _, rfl, t, _, 0, _, rfl, rfl, ht, rfl, (n : Int), rfl, by omega, by omega, fun D nD => lc_range (lo := 0) (n := ((n : Nat) : Int).toNat) (fun j H2 => Same H H2 ∧ H2 D = some (.lst (numsN (lotO j a)))) ⟨same_new nD _, upd_same⟩ ?_ ?_⟩
    · rintro j H2 lj ⟨s2, hD⟩
      rw [Int.zero_add]
      have step : lotO (j + 1) a = lotO j a ++ (if j = a then [] else [j]) := by
        unfold lotO
        rw [List.range_succ, List.filter_append]
        by_cases h : j = a
        · rw [if_pos h, List.filter_cons_of_neg (by simp [h])]
          rfl
        · rw [if_neg h, List.filter_cons_of_pos (by simp [h])]
          rfl
      have lD : (numsN (lotO j a)).length < sizeLine := small1000 (by
        have := List.length_filter_le (fun k => decide (k ≠ a)) (List.range j)
        rw [List.length_range] at this
        rw [numsN_len]
        show ((List.range j).filter fun k => decide (k ≠ a)).length ≤ 1000
        omega)
      refine ⟨rfl, ?_⟩
      refine ⟨_, rfl, _, rfl, ct, _, 1, _, rfl, rfl, Same.tup s2 hct, rfl, rfl, _, rfl, iteB (fun c => ?_) (fun c => ?_)⟩
      · have ne : j ≠ a := fun h => by
          subst h
          simp at c
        refine ⟨_, rfl, _, hD, lD, same_put s2 nD, ?_⟩
        rw [upd_same, step, if_neg ne]
        unfold numsN
        rw [List.map_append]
        rfl
      · have e : j = a := by
          by_cases h : j = a
          · exact h
          · exfalso
            have : decide (V.int (j : Int) = V.int (a : Int)) = false := decide_eq_false fun q => by
              injection q with q
              omega
            rw [this] at c
            cases c
        refine ⟨s2, ?_⟩
        rw [step, if_pos e, List.append_nil]
        exact hD
    rintro H2 ⟨s2, hD⟩
    rw [Int.toNat_natCast] at hD
    have d := done_out g a
    refine ⟨.ref t, n, es, D, lotO n a, rfl, (hx.same s2).at, g, hD, (lotO_ok n a).2, d.good.n9, fun y H4 s4 hy => q y _ _ H4 (s2.trans s4) hy d⟩
  | two c a b =>
    obtain ⟨ct, rfl, hct⟩ := hv
    obtain ⟨ab, b8⟩ : a < b ∧ b ≤ 8 := ok
    have w1 : decide (V.str (wordOf c) = V.str ("vertex" : Str)) = false := by cases c <;> decide
    have w2 : decide (V.str (wordOf c) = V.str ("out" : Str)) = false := by cases c <;> decide
    have w3 : decide (V.str (wordOf c) = V.str ("edge" : Str)) = !c := by cases c <;> decide
    have ft' : (decide (b < n) && (decide ((a, b) ∈ es) == c)) = true := ft
    rw [Bool.and_eq_true, decide_eq_true_eq] at ft'
    obtain ⟨bn, ft'⟩ := ft'
    have sn := slice_not c a b
    have s2' := slice_two c a b
    refine ⟨_, rfl, ct, _, 0, _, rfl, rfl, hct, rfl, rfl, _, rfl, ?_⟩
    rw [w1]
    refine iteF ⟨_, rfl, ct, _, 0, _, rfl, rfl, hct, rfl, rfl, _, rfl, ?_⟩
    rw [w2]
    refine iteF ⟨_, rfl, ct, _, 0, _, rfl, rfl, hct, rfl, rfl, _, rfl, ?_⟩
    rw [w3]
    cases c with
    | true =>
      refine iteF ?_
      refine ⟨_, rfl, t, _, 0, _, rfl, rfl, ht, rfl, _, rfl, t, _, 1, _, rfl, rfl, ht, rfl, e, rfl, ⟨_, he⟩, fun D nD => lo_it (walk_tup (xs := xs)) (fun i H2 => Same H H2 ∧ ∃ zs, H2 D = some (.lst zs) ∧ PairsT H2 zs ((es.take i).filter fun p => !decide (p = (a, b)))) ⟨same_new nD _, [], upd_same, .nil⟩ (fun i H2 _ ⟨s2, _⟩ => Same.tup s2 he) ?_ ?_⟩
      · rintro i y _ H2 li ⟨s2, zs, hD, pz⟩ ⟨rfl, hy⟩
        obtain ⟨p, hp, r, rfl, hr2⟩ := PairsT.getC (hes.same s2) hy
        refine ⟨rfl, ?_⟩
        refine ⟨_, rfl, _, rfl, _, rfl, ct, _, rfl, Same.tup s2 hct, sn, fun o no => ?_⟩
        rw [s2']
        have so := same_new no (.tup [.int (a : Int), .int (b : Int)])
        have ho : PairAt K (upd H2 o (.tup [.int (a : Int), .int (b : Int)])) (.ref o) (a, b) := ⟨o, rfl, SqT.of upd_same⟩
        have hD3 := so _ _ hD
        have pz3 := pz.same so
        have hr3 := so _ _ hr2
        generalize upd H2 o (.tup [.int (a : Int), .int (b : Int)]) = H3 at so ho hD3 pz3 hr3 ⊢
        refine ⟨pairD p, pairD (a, b), PairAt.dp ⟨r, rfl, SqT.of hr3⟩, ho.dp, pairD_shaped p, pairD_shaped _, _, rfl, ?_⟩
        rw [pairD_eqv]
        have lz := PairsT.len pz
        have le : zs.length ≤ i := Nat.le_trans (Nat.le_of_eq lz) (Nat.le_trans (List.length_filter_le _ _) (by rw [List.length_take]; omega))
        refine iteB (fun c => ?_) (fun c => ?_)
        · refine ⟨_, rfl, zs, hD3, small1000 (by omega), same_put (s2.trans so) nD, _, upd_same, ?_⟩
          rw [take_succ hp, List.filter_append, List.filter_cons_of_pos (p := fun p => !decide (p = (a, b))) c]
          exact (pz3.put hD3).append (.cons ⟨r, rfl, by rw [upd_ne (fun z => by rw [z, hD3] at hr3; cases hr3)]; exact hr3⟩ .nil)
        · refine ⟨s2.trans so, zs, hD3, ?_⟩
          rw [take_succ hp, List.filter_append, List.filter_cons_of_neg (p := fun p => !decide (p = (a, b))) (by rw [c]; decide)]
          rw [show ([] : List E2).filter (fun p => !decide (p = (a, b))) = [] from rfl, List.append_nil]
          exact pz3
      rintro H2 ⟨s2, zs, hD, pz⟩
      rw [lx, List.take_length] at pz
      refine ⟨D, zs, rfl, .inl ⟨SqL.of hD, fun w nw => ⟨two, fun y ny => ?_⟩⟩⟩
      have sw' := same_new nw (.tup zs)
      have sy := same_new ny (.tup [.int (n : Int), .ref w])
      exact q (.ref y) n _ _ (s2.trans (sw'.trans sy)) ⟨y, w, zs, rfl, upd_same, sy _ _ upd_same, pz.same (sw'.trans sy)⟩ (done_cut g)
    | false =>
      refine iteT ?_
      refine ⟨_, rfl, t, _, 0, _, rfl, rfl, ht, rfl, _, rfl, t, _, 1, _, rfl, rfl, ht, rfl, e, xs, rfl, .inr he, fun L nL => ?_⟩
      have sL := same_new nL (.lst xs)
      have hL := upd_same (H := H) (a := L) (o := .lst xs)
      generalize upd H L (.lst xs) = H1 at sL hL ⊢
      refine ⟨_, rfl, _, rfl, ct, _, rfl, Same.tup sL hct, sn, fun o no => ?_⟩
      rw [s2']
      have so := same_new no (.tup [.int (a : Int), .int (b : Int)])
      have ho := upd_same (H := H1) (a := o) (o := .tup [.int (a : Int), .int (b : Int)])
      generalize upd H1 o (.tup [.int (a : Int), .int (b : Int)]) = H2 at so ho ⊢
      refine ⟨line 1 (by decide), fun N nN => ?_⟩
      have sN := same_new nN (.lst [.ref o])
      have hN := upd_same (H := H2) (a := N) (o := .lst [.ref o])
      generalize upd H2 N (.lst [.ref o]) = H3 at sN hN ⊢
      have s13 := so.trans sN
      refine ⟨L, N, xs, [.ref o], rfl, rfl, s13 _ _ hL, hN, line _ (by rw [List.length_singleton]; omega), fun d nd => ?_⟩
      have s4 := same_new nd (.lst (xs ++ [.ref o]))
      have hd := upd_same (H := H3) (a := d) (o := .lst (xs ++ [.ref o]))
      generalize upd H3 d (.lst (xs ++ [.ref o])) = H4 at s4 hd ⊢
      have s04 := sL.trans (s13.trans s4)
      have pb := (hes.same s04).append (.cons ⟨o, rfl, s4 _ _ (sN _ _ ho)⟩ .nil : PairsT H4 [.ref o] [(a, b)])
      refine ⟨d, _, kOf H4, rfl, SqL.of hd, pb.ks, fun ys S so' st nS => ?_⟩
      obtain ⟨g1, g2, g3⟩ := sorted_pairsD pb so' st
      have sS := same_new nS (.lst ys)
      have hS := upd_same (H := H4) (a := S) (o := .lst ys)
      generalize upd H4 S (.lst ys) = H5 at sS hS ⊢
      refine ⟨S, ys, rfl, .inl ⟨SqL.of hS, fun w nw => ⟨two, fun y ny => ?_⟩⟩⟩
      have sw' := same_new nw (.tup ys)
      have sy := same_new ny (.tup [.int (n : Int), .ref w])
      have no' : (a, b) ∉ es := by
        intro h
        rw [decide_eq_true h] at ft'
        cases ft'
      exact q (.ref y) n _ _ (s04.trans (sS.trans (sw'.trans sy))) ⟨y, w, ys, rfl, upd_same, sy _ _ upd_same, g1.same (sS.trans (sw'.trans sy))⟩ (done_edge g ab bn no' g2 g3)
end
end My

set_option maxHeartbeats 8000000
namespace My
open PySem PySem.Spec PyProof.Rows L2
abbrev sLChange : Stmt := top 40
theorem scLChange : FnScope ["pot", "graph", "many", "way", "lot", "one", "two", "word"] ["pot", "graph"] (defScope sLChange) := ⟨rfl, rfl, rfl, by decide +kernel, rfl, by decide +kernel, by decide +kernel⟩
def spLChange (K : PySem.W.Frag) : Sp := fun vs H Q _ => ∃ (p : Addr) (x : V) (n : Nat) (es : List E2), vs = [.ref p, x] ∧ Wl H p ∧ GraphT H x n es ∧ Good n es ∧ ∀ v c H', But p H H' → Wl H' p → ChgAt K H' v c → ChgOk c → Q v H'
theorem perm_numsC {ys : List V} {l : List Nat} (h : ys.Perm (numsN l)) : ∃ zs, ys = numsN zs ∧ zs.Perm l := by
  let g : V → Nat := fun v => match v with | .int i => i.toNat | _ => 0
  have e : ∀ m : List Nat, (numsN m).map g = m := fun m => by
    unfold numsN
    rw [List.map_map]
    exact List.map_id'' (fun k => by show ((k : Nat) : Int).toNat = k; omega) m
  refine ⟨ys.map g, ?_, ?_⟩
  · unfold numsN
    rw [List.map_map]
    refine Eq.symm (Eq.trans (List.map_congr_left fun v hv => ?_) (List.map_id ys))
    obtain ⟨k, _, rfl⟩ := List.mem_map.mp (h.mem_iff.mp hv)
    show V.int (((k : Nat) : Int).toNat : Int) = V.int (k : Int)
    rw [Int.toNat_natCast]
  · have := h.map g
    rw [e] at this
    exact this
theorem sorted_nats {ns : List Int} {os : List Nat} (pn : ns.Perm (os.map fun k => ((k : Nat) : Int))) (so : ns.Pairwise (· ≤ ·)) (nd : os.Nodup) : ∃ l : List Nat, ns.map V.int = numsN l ∧ l.Perm os ∧ l.Pairwise (· < ·) := by
  have nn : ∀ k ∈ ns, ∃ a ∈ os, k = ((a : Nat) : Int) := fun k hk => by
    obtain ⟨a, ha, e⟩ := List.mem_map.mp (pn.mem_iff.mp hk)
    exact ⟨a, ha, e.symm⟩
  have ndi : ns.Nodup := pn.nodup_iff.mpr (List.Pairwise.map _ (fun a b h e => h (Int.ofNat.inj e)) nd)
  refine ⟨ns.map Int.toNat, ?_, ?_, ?_⟩
  · unfold numsN
    rw [List.map_map]
    refine List.map_congr_left fun k hk => ?_
    obtain ⟨a, _, rfl⟩ := nn k hk
    show V.int ((a : Nat) : Int) = V.int (((((a : Nat) : Int).toNat : Nat)) : Int)
    rw [Int.toNat_natCast]
  · have := pn.map Int.toNat
    rw [List.map_map] at this
    have e : (os.map (Int.toNat ∘ fun k => ((k : Nat) : Int))) = os := List.map_id'' (fun k => by show ((k : Nat) : Int).toNat = k; omega) os
    rw [e] at this
    exact this
  · rw [List.pairwise_map]
    refine (so.and ndi).imp_of_mem ?_
    intro a b ha hb ⟨le', ne⟩
    obtain ⟨a', _, rfl⟩ := nn a ha
    obtain ⟨b', _, rfl⟩ := nn b hb
    rw [Int.toNat_natCast, Int.toNat_natCast]
    omega
section
variable {P : Program} {w : World} {K : PySem.W.Frag} {mg : Str → Option Value} {base : Heap} {f fD fX fK : Addr} {fd dD dX dK : FuncData}
theorem ok_lchange (F : L2.Fun K "_law_change" "_law_change" sLChange f fd)
    (GD : FnOk P w K mg base CX0 1 fD dD ["pot", "few"] spDraw) (bD : L2.Binds K dD ["pot", "few"] []) (kD : PySem.W.keepIn K (.ref fD) = true) (mD : mg "_law_draw" = some (.ref fD))
    (GX : FnOk P w K mg base CX0 2 fX dX ["pot", "some"] (spMixed K)) (bX : L2.Binds K dX ["pot", "some"] []) (kX : PySem.W.keepIn K (.ref fX) = true) (mX : mg "_law_mixed" = some (.ref fX))
    (GK : FnOk P w K mg base CX0 2 fK dK ["pot", "some"] (spPickL K)) (bK : L2.Binds K dK ["pot", "some"] []) (kK : PySem.W.keepIn K (.ref fK) = true) (mK : mg "_law_pick" = some (.ref fK))
    (mt : mg "tuple" = none) (mr : mg "range" = none) (mso : mg "sorted" = none) (mli : mg "list" = none) (mn : mg "min" = none) : FnOk P w K mg base CX0 3 f fd ["pot", "graph"] (spLChange K) := by
  refine F.ok scLChange (fun vs H Q E h => ?_) (fun cdv A outer s0 H vs Q E hr h => ?_)
  · obtain ⟨p, x, n, es, rfl, _⟩ := h
    rfl
  obtain ⟨p, x, n, es, rfl, hW, hx, g, q⟩ := h
  have h1 := hr.mono (show 1 ≤ 2 by decide)
  refine ⟨_, pss_cons (ps_par (by rfl) scLChange.nd (i := 2) (j := 3) rfl rfl (by decide) rfl rfl (pa_cons (pe_ix (r := rIxT K) ix_tup (pv 1) pe_int (fun _ _ => rfl)) (pa_cons (pe_call GD h1 (by rfl) mD kD bD .nil pass0 (pa_cons (pv 0) (pa_cons pe_int pa_nil))) pa_nil)) (by rfl))
    (pss_cons (ps_if (PW.pt (pw_or (pt_cmpR op_lt (pv 3) pe_int (nomark _)) (pw_or1 (pt_cmpR op_lt (pv 2) pe_int (nomark _)))))
      (pss_cons (ps_set (i := 4) scLChange.nd rfl (.inl rfl) (pe_callB cr_sorted (by rfl) mso (by decide +kernel) (pa_cons (pe_slice sl_list (pe_call GX hr (by rfl) mX kX bX .nil pass0 (pa_cons (pv 0) (pa_cons (pe_callTy (call_listRng rfl) (by rfl) mli (by decide +kernel) (pa_cons (pe_callTy cr_range1 (by rfl) mr (by decide +kernel) (pa_cons (pv 2) pa_nil)) pa_nil)) pa_nil))) po_none (po_some (pe_call GD h1 (by rfl) mD kD bD .nil pass0 (pa_cons (pv 0) (pa_cons (pe_op op_add (pv 2) pe_int) pa_nil))))) pa_nil)))
      (pss_one (ps_ret (pe_tup (pa_cons pe_str (pa_cons (pe_callTy call_tuple_of (by rfl) mt (by decide +kernel) (pa_cons (pv 4) pa_nil)) pa_nil)))))) pss_nil)
    (pss_cons (ps_if (pt_cmpR op_eq (pv 3) pe_int (nomark _)) (pss_one (ps_ret (pe_tup (pa_cons pe_str (pa_cons (pe_call GD h1 (by rfl) mD kD bD .nil pass0 (pa_cons (pv 0) (pa_cons (pe_op op_add (pv 2) (pe_ifExp (PW.pt (pw_and (pt_cmpR op_eq (pe_call GD h1 (by rfl) mD kD bD .nil pass0 (pa_cons (pv 0) (pa_cons pe_int pa_nil))) pe_int (nomark _)) (pw_and1 (pt_cmpR op_lt (pv 2) pe_int (nomark _))))) pe_int pe_int)) pa_nil))) pa_nil))))) pss_nil)
    (pss_cons (ps_asg (pe_callB cr_sorted (by rfl) mso (by decide +kernel) (pa_cons (pe_slice sl_list (pe_call GX hr (by rfl) mX kX bX .nil pass0 (pa_cons (pv 0) (pa_cons (pe_callTy (call_listRng rfl) (by rfl) mli (by decide +kernel) (pa_cons (pe_callTy cr_range1 (by rfl) mr (by decide +kernel) (pa_cons (pv 2) pa_nil)) pa_nil)) pa_nil))) po_none (po_some pe_int)) pa_nil)) (pg_lst (by rfl) (pgs_cons (pg_name (i := 5) scLChange.nd rfl (.inl rfl)) (pgs_cons (pg_name (i := 6) scLChange.nd rfl (.inl rfl)) pgs_nil))))
    (pss_cons (ps_set (i := 7) scLChange.nd rfl (.inl rfl) (pe_ifExp (pt_cmpR (op_inP hr.units) (pe_tup (pa_cons (pv 5) (pa_cons (pv 6) pa_nil))) (pe_ix (r := rIxT K) ix_tup (pv 1) pe_int (fun _ _ => rfl)) (by rfl)) pe_str pe_str))
    (pss_cons (ps_if (pt_cmpR op_eq (pv 3) pe_int (nomark _))
      (pss_cons (ps_set (i := 7) scLChange.nd rfl (.inl rfl) (pe_call GK hr (by rfl) mK kK bK .nil pass0 (pa_cons (pv 0) (pa_cons (pe_lst (pa_cons pe_str (pa_cons pe_str pa_nil))) pa_nil))))
      (pss_one (ps_set (i := 6) scLChange.nd rfl (.inl rfl) (pe_call GK hr (by rfl) mK kK bK .nil pass0 (pa_cons (pv 0) (pa_cons (pe_lst (pa_cons (pv 6) (pa_cons (pe_callB (call_min2 rfl) (by rfl) mn (by decide +kernel) (pa_cons pe_int (pa_cons (pe_op op_add (pv 6) pe_int) pa_nil))) (pa_cons pe_int pa_nil)))) pa_nil)))))) pss_nil)
    (pss_one (ps_ret (pe_tup (pa_cons (pv 7) (pa_cons (pv 5) (pa_cons (pv 6) pa_nil))))))))))), ?_⟩
  have line : ∀ k, k ≤ 1000 → k ≤ sizeLine := fun k hk => small hk
  have n9 := g.n9
  obtain ⟨t, e, xs, rfl, ht, he, hes⟩ := id hx
  have M : ∀ H', But p H H' → H' t = some (.tup [.int (n : Int), .ref e]) ∧ H' e = some (.tup xs) ∧ PairsT H' xs es := fun H' b => ⟨b _ _ (wl_tup hW ht) ht, b _ _ (wl_tup hW he) he, hes.but b hW⟩
  -- a list of the first of all vertices, in some order
  refine ⟨_, rfl, t, _, 0, _, rfl, rfl, SqT.of ht, rfl, ?_⟩
  refine ⟨_, rfl, p, 8, rfl, hW, by decide, by decide, fun d H1 d0 d8 b1 w1 => ⟨_, _, rfl, ?_⟩⟩
  have two : (2 : Nat) ≤ sizeLine := small (by decide)
  obtain ⟨dn, rfl⟩ : ∃ dn : Nat, d = (dn : Int) := ⟨d.toNat, by omega⟩
  refine' joinT (R := fun σ H' => σ = [some (.ref p), some (.ref t), some (.int (n : Int)), some (.int (dn : Int)), none, none, none, none] ∧ H' = H1) (fun go => ?_) ?_
  rotate_left 1
  · refine ⟨_, rfl, _, _, rfl, rfl, _, rfl, iteB (fun c1 => iteT (go _ _ ⟨rfl, rfl⟩)) (fun c1 => ?_)⟩
    refine ⟨_, rfl, _, _, rfl, rfl, _, rfl, iteB (fun c2 => go _ _ ⟨rfl, rfl⟩) (fun c2 => ?_)⟩
    have n2 : 2 ≤ n := by
      have := of_decide_eq_false c2
      omega
    refine ⟨_, rfl, rfl, _, rfl, iteB (fun c3 => ?_) (fun c3 => ?_)⟩
    · have outQ : ∀ (y : Addr) (a : Int) H3, But p H H3 → Wl H3 p → H3 y = none → 0 ≤ a → a ≤ 8 → Q (.ref y) (upd H3 y (.tup [.str "out", .int a])) := fun y a H3 b3 w3 ny a0 a8 => by
        obtain ⟨k, rfl⟩ : ∃ k : Nat, a = (k : Int) := ⟨a.toNat, by omega⟩
        have sy := same_new ny (.tup [.str "out", .int (k : Int)])
        exact q (.ref y) (.out k) _ (b3.trans (But.of sy)) (w3.same sy) ⟨y, rfl, SqT.of upd_same⟩ (show k ≤ 8 by omega)
      refine ⟨_, rfl, _, rfl, _, rfl, p, 5, rfl, w1, by decide, by decide, fun d2 H2 _ _ b2 w2 => ⟨rfl, _, rfl, iteB (fun c4 => ?_) (fun c4 => ?_)⟩⟩
      · refine ⟨_, rfl, _, _, rfl, rfl, _, rfl, iteB (fun c5 => ?_) (fun c5 => ?_)⟩
        · have := of_decide_eq_true c5
          refine ⟨_, _, rfl, rfl, p, _, rfl, w2, by omega, by omega, fun a H3 a0 a1 b3 w3 => ⟨two, fun y ny => ?_⟩⟩
          exact outQ y a H3 (b1.trans (b2.trans b3)) w3 ny a0 (by omega)
        · refine ⟨_, _, rfl, rfl, p, _, rfl, w2, by omega, by omega, fun a H3 a0 a1 b3 w3 => ⟨two, fun y ny => ?_⟩⟩
          exact outQ y a H3 (b1.trans (b2.trans b3)) w3 ny a0 (by omega)
      · refine ⟨_, _, rfl, rfl, p, _, rfl, w2, by omega, by omega, fun a H3 a0 a1 b3 w3 => ⟨two, fun y ny => ?_⟩⟩
        exact outQ y a H3 (b1.trans (b2.trans b3)) w3 ny a0 (by omega)
    · refine ⟨_, rfl, _, rfl, _, rfl, fun rg nrg => ?_⟩
      have srg := same_new nrg (.rng 0 (n : Int))
      refine ⟨rg, n, rfl, upd_same, by omega, fun lr nlr => ?_⟩
      have slr := same_new nlr (.lst (numsN (List.range n)))
      have w2 := w1.same (srg.trans slr)
      have b2 := b1.trans (But.of (srg.trans slr))
      refine ⟨p, lr, _, rfl, w2, .inl (SqL.of upd_same), by rw [numsN_len, List.length_range]; omega, fun L ys H3 pm hL Lp b3 w3 => ?_⟩
      obtain ⟨os, rfl, po⟩ := perm_numsC pm
      have b03 := b2.trans b3
      have nd : os.Nodup := po.nodup_iff.mpr List.nodup_range
      have los : os.length = n := by rw [po.length_eq, List.length_range]
      refine ⟨_, rfl, L, _, rfl, SqL.of hL, ?_⟩
      have ct := cut_to (xs := numsN os) (k := 2) (by rw [numsN_len]; omega)
      rw [show ((2 : Nat) : Int) = 2 from rfl] at ct
      rw [ct]
      intro c nc
      have sc := same_new nc (.lst ((numsN os).take 2))
      have hc := upd_same (H := H3) (a := c) (o := .lst ((numsN os).take 2))
      have e1 : (numsN os).take 2 = ((os.take 2).map fun k => ((k : Nat) : Int)).map V.int := by
        unfold numsN
        rw [← List.map_take, List.map_map]
        rfl
      generalize upd H3 c (.lst ((numsN os).take 2)) = H4 at sc hc ⊢
      rw [e1] at hc
      refine ⟨c, _, rfl, SqL.of hc, by rw [List.length_map, List.length_take]; omega, fun ns S pn so nS => ?_⟩
      obtain ⟨l, el, pl, up⟩ := sorted_nats pn so (nd.sublist (List.take_sublist 2 os))
      have ll : l.length = 2 := by rw [pl.length_eq, List.length_take]; omega
      obtain ⟨a, b, rfl⟩ : ∃ a b, l = [a, b] := by
        match l, ll with
        | [a, b], _ => exact ⟨a, b, rfl⟩
      have ab : a < b := by
        have := (List.pairwise_cons.mp up).1 b (by simp)
        exact this
      have bn : b < n := by
        have : b ∈ os.take 2 := pl.mem_iff.mp (by simp)
        exact List.mem_range.mp (po.mem_iff.mp (List.mem_of_mem_take this))
      rw [el]
      have sS := same_new nS (.lst (numsN [a, b]))
      have hS := upd_same (H := H4) (a := S) (o := .lst (numsN [a, b]))
      generalize upd H4 S (.lst (numsN [a, b])) = H5 at sS hS ⊢
      have b05 := b03.trans (But.of (sc.trans sS))
      have w5 := w3.same (sc.trans sS)
      obtain ⟨ht5, he5, hes5⟩ := M H5 b05
      refine ⟨S, _, rfl, SqL.of hS, rfl, _, _, rfl, _, _, rfl, rfl, ?_⟩
      refine' joinS (i := 7) (R := fun v H' => ∃ cc : Bool, v = .str (wordOf cc) ∧ But p H H' ∧ Wl H' p) (fun go2 => ?_) ?_
      rotate_left 2
      · refine ⟨_, rfl, _, rfl, two, fun o no => ?_⟩
        have so' := same_new no (.tup [.int (a : Int), .int (b : Int)])
        have ho := upd_same (H := H5) (a := o) (o := .tup [.int (a : Int), .int (b : Int)])
        generalize upd H5 o (.tup [.int (a : Int), .int (b : Int)]) = H6 at so' ho ⊢
        have b06 := b05.trans (But.of so')
        refine ⟨_, rfl, t, _, 1, _, rfl, rfl, SqT.of (so' _ _ ht5), rfl, (a, b), e, xs, es, ⟨o, rfl, SqT.of ho⟩, rfl, SqT.of (so' _ _ he5), (hes5.same so').at, _, rfl, iteB (fun c4 => ?_) (fun c4 => ?_)⟩
        · exact go2 _ _ ⟨true, rfl, b06, w5.same so'⟩
        · exact go2 _ _ ⟨false, rfl, b06, w5.same so'⟩
      rintro _ H6 ⟨cc, rfl, b06, w6⟩
      have fin : ∀ (cc : Bool) (b2 : Nat) H7, But p H H7 → Wl H7 p → a < b2 → b2 ≤ 8 → ∀ y, H7 y = none → Q (.ref y) (upd H7 y (.tup [.str (wordOf cc), .int (a : Int), .int (b2 : Int)])) := fun cc b2 H7 b7 w7 ab b8 y ny => by
        have sy := same_new ny (.tup [.str (wordOf cc), .int (a : Int), .int (b2 : Int)])
        exact q (.ref y) (.two cc a b2) _ (b7.trans (But.of sy)) (w7.same sy) ⟨y, rfl, SqT.of upd_same⟩ ⟨ab, b8⟩
      refine ⟨_, rfl, rfl, _, rfl, iteB (fun c4 => ?_) (fun c4 => ?_)⟩
      rotate_left 1
      · exact ⟨_, rfl, _, rfl, _, rfl, line 3 (by decide), fun y ny => fin cc b H6 b06 w6 ab (by omega) y ny⟩
      refine ⟨_, rfl, two, fun W nW => ?_⟩
      have sW := same_new nW (.lst [.str "edge", .str "cut"])
      refine ⟨p, W, _, rfl, w6.same sW, upd_same, w6.ne nW, by simp, by simp, fun i v H7 hi b7 w7 => ?_⟩
      obtain ⟨c2', rfl⟩ : ∃ c2 : Bool, v = .str (wordOf c2) := by
        have m := List.mem_of_getElem? hi
        simp only [List.mem_cons, List.mem_nil_iff, or_false] at m
        rcases m with rfl | rfl
        · exact ⟨false, rfl⟩
        · exact ⟨true, rfl⟩
      have b07 := b06.trans ((But.of sW).trans b7)
      refine ⟨_, rfl, _, rfl, _, rfl, _, _, rfl, rfl, _, _, rfl, line 3 (by decide), fun Z nZ => ?_⟩
      have mn' : (if ((b : Nat) : Int) + 1 < 8 then ((b : Nat) : Int) + 1 else 8) = ((min 8 (b + 1) : Nat) : Int) := by
        split <;> omega
      rw [mn'] at *
      have sZ := same_new nZ (.lst [.int (b : Int), .int ((min 8 (b + 1) : Nat) : Int), .int 8])
      refine ⟨p, Z, _, rfl, w7.same sZ, upd_same, w7.ne nZ, by simp, by simp, fun i v H8 hi b8 w8 => ?_⟩
      obtain ⟨b2, rfl, hb1, hb2⟩ : ∃ b2 : Nat, v = .int (b2 : Int) ∧ a < b2 ∧ b2 ≤ 8 := by
        have m := List.mem_of_getElem? hi
        simp only [List.mem_cons, List.mem_nil_iff, or_false] at m
        rcases m with rfl | rfl | rfl
        · exact ⟨b, rfl, ab, by omega⟩
        · exact ⟨min 8 (b + 1), rfl, by omega, by omega⟩
        · exact ⟨8, rfl, by omega, by omega⟩
      exact ⟨_, rfl, _, rfl, _, rfl, line 3 (by decide), fun y ny => fin c2' b2 H8 (b07.trans ((But.of sZ).trans b8)) w8 hb1 hb2 y ny⟩
  rintro _ _ ⟨rfl, rfl⟩
  -- vertex
  refine ⟨_, rfl, _, rfl, _, rfl, fun rg nrg => ?_⟩
  have srg := same_new nrg (.rng 0 (n : Int))
  refine ⟨rg, n, rfl, upd_same, by omega, fun lr nlr => ?_⟩
  have slr := same_new nlr (.lst (numsN (List.range n)))
  have w2 := w1.same (srg.trans slr)
  have b2 := b1.trans (But.of (srg.trans slr))
  refine ⟨p, lr, _, rfl, w2, .inl (SqL.of upd_same), by rw [numsN_len, List.length_range]; omega, fun L ys H3 pm hL Lp b3 w3 => ?_⟩
  obtain ⟨os, rfl, po⟩ := perm_numsC pm
  have b03 := b2.trans b3
  have nd : os.Nodup := po.nodup_iff.mpr List.nodup_range
  have los : os.length = n := by rw [po.length_eq, List.length_range]
  refine ⟨_, rfl, _, rfl, _, _, rfl, rfl, p, _, rfl, w3, by omega, by omega, fun dd H4 dd0 dd1 b4 w4 => ?_⟩
  obtain ⟨k, rfl⟩ : ∃ k : Nat, dd = (k : Int) := ⟨dd.toNat, by omega⟩
  have hL4 := b4 _ _ Lp hL
  refine ⟨_, rfl, L, _, rfl, SqL.of hL4, ?_⟩
  rw [cut_to (xs := numsN os) (k := k) (by rw [numsN_len]; omega)]
  intro c nc
  have sc := same_new nc (.lst ((numsN os).take k))
  have hc := upd_same (H := H4) (a := c) (o := .lst ((numsN os).take k))
  have e1 : (numsN os).take k = ((os.take k).map fun k => ((k : Nat) : Int)).map V.int := by
    unfold numsN
    rw [← List.map_take, List.map_map]
    rfl
  generalize upd H4 c (.lst ((numsN os).take k)) = H5 at sc hc ⊢
  rw [e1] at hc
  refine ⟨c, _, rfl, SqL.of hc, by rw [List.length_map, List.length_take]; omega, fun ns S pn so nS => ?_⟩
  obtain ⟨l, el, pl, up⟩ := sorted_nats pn so (nd.sublist (List.take_sublist k os))
  have ln : ∀ k' ∈ l, k' < 9 := fun k' hk => by
    have := List.mem_range.mp (po.mem_iff.mp (List.mem_of_mem_take (pl.mem_iff.mp hk)))
    omega
  rw [el]
  have sS := same_new nS (.lst (numsN l))
  have hS := upd_same (H := H5) (a := S) (o := .lst (numsN l))
  generalize upd H5 S (.lst (numsN l)) = H6 at sS hS ⊢
  refine ⟨_, rfl, S, _, rfl, .inl ⟨SqL.of hS, fun z nz => ⟨two, fun y ny => ?_⟩⟩⟩
  have sz := same_new nz (.tup (numsN l))
  have sy := same_new ny (.tup [.str "vertex", .ref z])
  have s46 := sc.trans (sS.trans (sz.trans sy))
  exact q (.ref y) (.vertex l) _ (b03.trans (b4.trans (But.of s46))) (w4.same s46) ⟨y, z, rfl, SqT.of upd_same, SqT.of (sy _ _ upd_same)⟩ ⟨ln, up⟩
end
end My

set_option maxHeartbeats 4000000
/-! for i, x in enumerate(t), t a tuple. -/
namespace My
open PySem PySem.Spec PyProof.Rows L2
def itO (t : Addr) : Obj := { cls := .type "tuple_iterator", data := .fields #[.ref t, .int 0 0] }
def enO (i : Addr) : Obj := { cls := .type "enumerate", data := .fields #[.none, .bool false, .ref i, rawInt 0, .none, .none] }
theorem mk_en (t : Addr) (its : Array Value) :
    Meets (Builtin.«enumerate.__new__» ⟨[.type "enumerate", .ref t], []⟩) (fun _ R s => s.heap.IsTuple t its ∧ R (.ok (.ret (.ref (s.heap.push (itO t)).objs.size))) { s with heap := (s.heap.push (itO t)).push (enO s.heap.objs.size) }) :=
  .of_wp fun prog w A R s h => by
    obtain ⟨hp, gs, dr, tk, os⟩ := s; obtain ⟨ht, h⟩ := h
    have hsub := sub_enumerate
    have go : ∀ {A' : Around} {E : Value → Shared → Prop} {Q : Value → Shared → Prop}, Q (.ref hp.objs.size) ⟨hp.push (itO t), gs, dr, tk, os⟩ → wpAny (model prog w) A' (pyIter (.ref t)) Q E ⟨hp, gs, dr, tk, os⟩ :=
      fun q => wpAny_pyIter_tuple (s := ⟨hp, gs, dr, tk, os⟩) ht q
    wp_walk using go
    refine wpAny_stack_any fun st => wpAny_pure ?_
    split
    · rename_i c _ _ _ _ _
      cases (c == Value.type "enumerate") <;> (wp_walk using go; exact ⟨_, rfl, h⟩)
    · wp_walk using go; exact ⟨_, rfl, h⟩
section
variable {prog : Program} {w : World} {A : Around} {E : Value → Shared → Prop} {s : Shared}
theorem call_en {t : Addr} {its : Array Value} {Q : Value → Shared → Prop} (ht : s.heap.IsTuple t its)
    (h : ∀ g, IsEnum g (s.heap.objs.size + 1) s.heap.objs.size 0 .none → g.IsTupleIter s.heap.objs.size t 0 → (∀ b o, s.heap.get? b = some o → g.get? b = some o) → Q (.ref (s.heap.objs.size + 1)) { s with heap := g }) :
    wpAny (model prog w) A (call (.type "enumerate") [.ref t]) Q E s := by
  refine callType_new F.called_enumerate (by decide) (F.typeCall_enumerate_1 _) (F.newCall_enumerate_1 _) (fun obj => F.args_object_init_2 obj _) F.entry_enumerate_new (mk_en t its) ⟨ht, ?_⟩
  have z1 : (s.heap.push (itO t)).objs.size = s.heap.objs.size + 1 := Heap.size_push ..
  have e1 : IsEnum ((s.heap.push (itO t)).push (enO s.heap.objs.size)) (s.heap.objs.size + 1) s.heap.objs.size 0 .none := by
    have q := Heap.get?_push_size (s.heap.push (itO t)) (o := enO s.heap.objs.size) rfl
    rw [z1] at q
    exact q
  show _ ∧ _
  rw [z1]
  exact ⟨⟨_, e1, rfl⟩, h _ e1 ⟨_, Heap.get?_push_of_some _ (Heap.get?_push_size _ rfl), rfl, rfl⟩ fun b o x => Heap.get?_push_of_some _ (Heap.get?_push_of_some _ x)⟩
end
/-- a tuple's items, each in a new pair -/
def IteT (K : PySem.W.Frag) (a : Addr) : It :=
  ⟨fun i H => ∃ (xs : List V) (x : V), SqT K H a xs ∧ xs[i]? = some x, fun i H v H' => ∃ T x, v = .ref T ∧ H T = none ∧ H' = upd H T (.tup [.int (i : Nat), x]) ∧ ∀ xs, SqT K H a xs → xs[i]? = some x, fun i H => ∃ xs : List V, SqT K H a xs ∧ xs.length ≤ i⟩
theorem turn_en {P : Program} {w : World} {K : PySem.W.Frag} {elts : List Expr} {kk : Nat} {tpos : Pos} (a e it : Addr) :
    Turn P w K (.Tuple elts kk tpos) (IteT K a) [e, it] e (fun i h => (∃ old, IsEnum h e it ((i : Nat) : Int) old) ∧ h.IsTupleIter it a i ∧ e ≠ it) where
  mem := List.mem_cons_self
  obj := fun i h ⟨⟨old, he⟩, ⟨o, ho, hc, hd⟩, _⟩ b hb => by
    rcases List.mem_cons.mp hb with rfl | hb
    · exact ⟨_, he, fun v q => nomatch q⟩
    · rw [List.mem_singleton.mp hb]
      exact ⟨o, ho, fun v q => by rw [hd] at q; cases q⟩
  keep := fun i h h' ⟨⟨old, he⟩, ⟨o, ho, r⟩, ne⟩ k => ⟨⟨old, k e List.mem_cons_self _ he⟩, ⟨o, k it (by simp) _ ho, r⟩, ne⟩
  item := by
    rintro X rfl rfl rfl hc i pins s σ H E I hf ⟨⟨old, he⟩, hit, ne⟩ ⟨xs, x, hq, hx⟩
    obtain ⟨its, rv, pt, hz⟩ := I.tuple hq
    obtain ⟨u, hu, ru⟩ := rv.get hx
    have le : e < s.heap.objs.size := Heap.lt_size he
    have li : it < s.heap.objs.size := by obtain ⟨_, q, _⟩ := hit; exact Heap.lt_size q
    have na : a ≠ it := fun z => by
      obtain ⟨o1, h1, c1, _⟩ := hit
      obtain ⟨o2, h2, c2, _⟩ := pt
      rw [z, h1] at h2
      cases h2
      rw [c1] at c2
      exact absurd (Value.type.inj c2) (by decide)
    have nea : e ∉ [it, a] := fun z => by
      rcases List.mem_cons.mp z with z | z
      · exact ne z
      · obtain ⟨o2, h2, c2, _⟩ := pt
        rw [← List.mem_singleton.mp z] at h2
        rw [show s.heap.get? e = _ from he] at h2
        cases h2
        exact absurd (Value.type.inj c2) (by decide)
    have il : i < its.toArray.size := by
      have := (List.getElem?_eq_some_iff.mp hu).1
      simpa using this
    refine wpAny_pyNext_enum_itemC (Draws.tuple (prog := X.prog) (w := X.w) (A := X.A.in1) (by simp [I.ok.hd hc]) it a na its.toArray) he ⟨hit, pt⟩ il ne nea fun y g tk hy ho st hT hsz hk => ?_
    obtain rfl : y = u := by
      have hy2 : its[i]? = some y := by simpa using hy
      rw [hu] at hy2
      exact (Option.some.inj hy2).symm
    refine ⟨_, rfl, wpAny_letOwnedTupleGo_enum (s := { s with heap := g, toks := tk + 1 }) ho fun g2 he2 sb => ?_⟩
    have hT2 : g2.get? s.heap.objs.size = some { cls := .type "tuple", data := .seq #[.int i tk, y] } := (sb.2 _ (Nat.ne_of_gt le)).trans hT
    have okT : ObjOk X.prog X.w (upd H s.heap.objs.size (.tup [.int (i : Nat), x])) g2 s.heap.objs.size (.tup [.int (i : Nat), x]) :=
      ⟨(by decide : 2 ≤ sizeLine), [.int i tk, y], .cons ⟨_, rfl⟩ (.cons ru .nil), ⟨_, hT2, rfl, _, rfl⟩⟩
    have nmem : ∀ b, b ∉ [e, it] → b ≠ e ∧ b ≠ it := fun b hb => ⟨fun z => hb (by simp [z]), fun z => hb (by simp [z])⟩
    have I1 : Inv X pins σ (upd H s.heap.objs.size (.tup [.int (i : Nat), x])) { s with heap := g2, toks := tk + 1 } :=
      I.turnedNew (ch := [e, it]) (fun b ob hb q => (sb.2 b (nmem b hb).1).trans (hk b ob (nmem b hb).1 (nmem b hb).2 q)) hf (Nat.le_refl _) okT
    have nx : ((i + 1 : Nat) : Int) = (i : Int) + 1 := by omega
    refine ⟨.ref s.heap.objs.size, _, I1, rfl, ⟨_, x, rfl, I.hok.fresh (Nat.le_refl _), rfl, fun ys hy => by rw [I.tuple_inj hy hq]; exact hx⟩, ⟨⟨y, by rw [nx]; exact he2⟩, ?_, ne⟩, fun b hb => ?_⟩
    · obtain ⟨o, q, r⟩ := st.1
      exact ⟨o, (sb.2 it (Ne.symm ne)).trans q, r⟩
    · have hb' : b < s.heap.objs.size := by
        rcases List.mem_cons.mp hb with rfl | hb
        · exact le
        · rw [List.mem_singleton.mp hb]; exact li
      rw [upd_ne (Nat.ne_of_lt hb')]
      exact (hf b hb).1
  done := by
    rintro X rfl rfl rfl hc i pins s σ H E I hf ⟨⟨old, he⟩, hit, ne⟩ ⟨xs, hq, hx⟩
    obtain ⟨its, rv, pt, hz⟩ := I.tuple hq
    have na : a ≠ it := fun z => by
      obtain ⟨o1, h1, c1, _⟩ := hit
      obtain ⟨o2, h2, c2, _⟩ := pt
      rw [z, h1] at h2
      cases h2
      rw [c1] at c2
      exact absurd (Value.type.inj c2) (by decide)
    obtain ⟨f0, f1, f2, f3, f4, f5⟩ := hf it (by simp)
    have none' : its.toArray[i]? = none := by
      rw [List.getElem?_toArray, List.getElem?_eq_none (by rw [← rv.length]; exact hx)]
    have D : Draws X.prog X.w X.A.in1 it [it, a] 0 (fun _ _ => True) (fun k h => h.IsTupleIter it a (i + k) ∧ h.IsTuple a its.toArray) :=
      { live := fun _ _ st => let ⟨o, ho, _⟩ := st.1; ⟨o, ho⟩
        frame := fun _ _ _ st hk => ⟨let ⟨o, ho, r⟩ := st.1; ⟨o, hk it (by simp) _ ho, r⟩, let ⟨o, ho, r⟩ := st.2; ⟨o, hk a (by simp) _ ho, r⟩⟩
        item := fun _ _ _ _ z => absurd z (Nat.not_lt_zero _)
        done := fun s Q E st hE => wpAny_nextOf_tuple_end (by simp [I.ok.hd hc]) st.1 st.2 none' hE }
    exact wpAny_pyNext_enum_endD D he ⟨hit, pt⟩ fun g eb => ⟨rfl, I.turned (t' := s.toks) (fun b o hb q => eb b o hb q) f0 f1 f3 f4 f5⟩
  self := fun A i s Q E ⟨⟨_, he⟩, _⟩ h => wpAny_pyIter_enum he h
def iEnT (K : PySem.W.Frag) (ta : TA) : TI := fun σ H R => ta σ H fun vs H1 => ∃ a xs, vs = [.ref a] ∧ SqT K H1 a xs ∧ R (IteT K a) H1
theorem pi_enT {X : Cx} {e : Expr} {ta : TA} {p pos tpos : Pos} {elts : List Expr} {kk : Nat} (hg : Gl X "enumerate") (hm : X.mg "enumerate" = none) (ha : PA X [e] ta) (hs : starEach [e] X.env = [(false, eval e X.env)] := by rfl) :
    PI X (.Tuple elts kk tpos) (.Call (.Name "enumerate" p) [e] [] pos) (iEnT X.K ta) := by
  refine ⟨fun pins s σ H R I h => Call_ (ld_blt I hg hm boot_enumerate (PyProof.Rows.callWith_type1 (thn (ha.run pos pins s σ H _ I h) ?_) hs rfl))⟩
  rintro us s1 ⟨vs, H1, I1, r1, a, xs, rfl, hq, q⟩
  rw [Vals.ref1 r1]
  obtain ⟨its, rv, pt, hz⟩ := I1.tuple hq
  refine call_en (its := its.toArray) pt fun g he hit hk => wpAny_pyIter_enum he ?_
  have I2 : L2.Inv X pins σ H1 { s1 with heap := g } := I1.kept (t' := s1.toks) hk
  refine ⟨s1.heap.objs.size + 1, [s1.heap.objs.size + 1, s1.heap.objs.size], _, _, H1, rfl, I2, turn_en a (s1.heap.objs.size + 1) s1.heap.objs.size, ⟨⟨.none, he⟩, hit, Nat.succ_ne_self _⟩, fun b hb => ?_, q⟩
  have above : s1.heap.objs.size ≤ b := by
    rcases List.mem_cons.mp hb with rfl | hb
    · exact Nat.le_succ _
    · rw [List.mem_singleton.mp hb]; exact Nat.le_refl _
  exact I1.fpOk above (I1.hok.fresh above)
theorem walk_enT {K : PySem.W.Frag} {a : Addr} {xs : List V} : Walk (IteT K a) xs.length (fun H => SqT K H a xs) (YPair (fun i => some (.int (i : Nat))) (fun i => xs[i]?)) :=
  ⟨fun i _ hi q => ⟨xs, xs[i], q, by simp [hi]⟩, fun _ q => ⟨xs, q, Nat.le_refl _⟩, fun i H v H' _ q ⟨T, x, h1, h2, h3, h4⟩ => ⟨T, .int (i : Nat), x, h1, h2, h3, rfl, h4 xs q⟩⟩
end My

set_option maxHeartbeats 4000000
/-! Own exceptions with one field: what a class must be, raising one. -/
namespace My
open PySem PySem.Spec PyProof.Rows L2
def oexB (K : PySem.W.Frag) (C : Addr) : Bool := match K.lookup C with
  | some ⟨.type "type", _, .cls cd, sl⟩ => (match cd.mro, sl.toList with
    | .ref D :: bm, [_, _, _, _, some (.builtin n), _] => decide (D = C) && (decide (n = "ValueError.__new__") && (!cd.hasDel && (cd.hasDict && PySem.HandSPX.refsVE bm)))
    | _, _ => false)
  | _ => false
theorem oexB_ok {K : PySem.W.Frag} {C : Addr} (h : oexB K C = true) : ∃ nm q N bs bm sn sub ab col dd k0 k1 k2 k3 k5, K.lookup C = some (excClassObj nm q C N bs bm true sn sub ab col dd k0 k1 k2 k3 k5 "ValueError.__new__") ∧ PySem.HandSPX.refsVE bm = true := by
  unfold oexB at h
  split at h
  · rename_i dd cd sl ho
    split at h
    · rename_i D bm k0 k1 k2 k3 n k5 hm hs
      simp only [Bool.and_eq_true, decide_eq_true_eq, Bool.not_eq_true'] at h
      obtain ⟨rfl, rfl, hdel, hdict, hv⟩ := h
      obtain ⟨nm, bs, mro, ns, qn, hd, sn, sub, ab, col, del⟩ := cd
      dsimp only at hm hdel hdict
      subst hm hdel hdict
      obtain ⟨ls⟩ := sl
      simp only at hs
      subst hs
      exact ⟨nm, qn, ns, bs, bm, sn, sub, ab, col, dd, k0, k1, k2, k3, k5, ho, hv⟩
    · cases h
  · cases h
def iniB (K : PySem.W.Frag) (C fI : Addr) (fld : Str) : Bool := oexB K C && (decide (PySem.W.findIn K (.ref C) "__setattr__" = some (some (.builtin "object.__setattr__"))) && (decide (PySem.W.subIn K (.ref C) (.type "BaseException") = some true) &&
  (decide (PySem.W.typeIn K (.ref C) = some (.type "type")) && (PySem.W.keepIn K (.ref C) && (decide (PySem.W.typeIn K (.ref fI) = some (.type "function")) && (xfB K C && decide (PySem.W.findIn K (.ref C) fld = some none)))))))
theorem iniB_ok {K : PySem.W.Frag} {C fI : Addr} {fld : Str} (i : PySem.W.findIn K (.ref C) "__init__" = some (some (.ref fI))) (h : iniB K C fI fld = true) : XCls K C fI fld := by
  unfold iniB at h
  simp only [Bool.and_eq_true, decide_eq_true_eq] at h
  obtain ⟨h1, h2, h3, h4, h5, h6, h7, h8⟩ := h
  exact ⟨⟨oexB_ok h1, h2, h3, h4, h5⟩, i, h6, xfB_ok h7, h8⟩

/-- raising C(v): what its making asks -/
theorem raised {H : Hp} {C : Addr} {E : XK} {v : V} (h : ∀ d H', H d = none → Same H H' → H' d = some (.xd [("index", v)]) → E (.ref C) (some d) H') :
    ([v] : List V).length ≤ 1000 ∧ ∀ a, H a = none → spInit C "index" (.ref a :: ([v] ++ [])) (upd H a (exo a C none)) (fun r H2 => r = .non ∧ ∃ (d : Addr) (fs : List (Str × V)), H2 a = some (exo a C (some d)) ∧ H2 d = some (exd d fs) ∧ H d = none ∧ E (.ref C) (some d) (upd (del H2 a) d (.xd fs))) (fun _ _ _ => False) := by
  refine ⟨by show 1 ≤ 1000; decide, fun a na => ⟨a, v, rfl, upd_same, fun d nd ne => ⟨rfl, d, [("index", v)], upd_same, ?_, ?_, ?_⟩⟩⟩
  · rw [upd_ne ne]
    exact upd_same
  · rw [upd_ne ne] at nd
    exact nd
  · rw [upd_ne ne] at nd
    refine h d _ nd (fun q o e => ?_) upd_same
    rw [upd_ne (ne_of_none e nd), del_ne (ne_of_none e na), upd_ne (ne_of_none e na), upd_ne (ne_of_none e nd), upd_ne (ne_of_none e na)]
    exact e
end My

set_option maxHeartbeats 4000000
/-! Logs of changes. -/
namespace My
open PySem PySem.Spec PyProof.Rows L2
/-! ### a shape that is a change -/
theorem eqs_eq {z : Str} {x : String} (h : eqs z x = true) : z = (x : Str) := by
  have := of_decide_eq_true h
  injection this
theorem nats_of : ∀ {ss : List Sh}, ss.all (wholeR 0 8) = true → ∃ l : List Nat, ss = l.map (fun k => Sh.int ((k : Nat) : Int)) ∧ ∀ k ∈ l, k < 9
  | [], _ => ⟨[], rfl, fun _ z => nomatch z⟩
  | s :: ss, h => by
    rw [List.all_cons, Bool.and_eq_true] at h
    obtain ⟨l, e, lt⟩ := nats_of h.2
    cases s with
    | int i =>
      have w : (decide (i ≥ 0) && decide (i ≤ 8)) = true := h.1
      rw [Bool.and_eq_true, decide_eq_true_eq, decide_eq_true_eq] at w
      refine ⟨i.toNat :: l, ?_, fun k hk => ?_⟩
      · rw [e, List.map_cons]
        congr 1
        show Sh.int i = Sh.int ((i.toNat : Nat) : Int)
        rw [Int.toNat_of_nonneg w.1]
      · rcases List.mem_cons.mp hk with rfl | hk
        · omega
        · exact lt k hk
    | _ => exact absurd h.1 (by simp [wholeR])
theorem chg_of {s : Sh} (h : isChg s = true) : ∃ c, s = chgS c ∧ ChgOk c := by
  match s, h with
  | .tup (.str z :: rest), h =>
    have h' : (decide (lenV z = .int ((rest.length : Int) + 1)) && (match numsOf z rest with | some ss => ss.all (wholeR 0 8) && ascB ss | none => false)) = true := h
    rw [Bool.and_eq_true, decide_eq_true_eq] at h'
    obtain ⟨hl, hn⟩ := h'
    by_cases v : eqs z "vertex" = true
    · unfold numsOf at hn
      rw [if_pos v] at hn
      match rest, hl, hn with
      | [.tup ss], _, hn =>
        have hn' : (ss.all (wholeR 0 8) && ascB ss) = true := hn
        rw [Bool.and_eq_true] at hn'
        obtain ⟨l, rfl, lt⟩ := nats_of hn'.1
        rw [eqs_eq v]
        exact ⟨.vertex l, rfl, lt, asc_natI hn'.2⟩
    · have v' : eqs z "vertex" = false := by simpa using v
      unfold numsOf at hn
      rw [v'] at hn
      have hn' : (rest.all (wholeR 0 8) && ascB rest) = true := hn
      rw [Bool.and_eq_true] at hn'
      obtain ⟨l, rfl, lt⟩ := nats_of hn'.1
      have up := asc_natI hn'.2
      unfold lenV at hl
      rw [v', Bool.false_or] at hl
      by_cases o : eqs z "out" = true
      · rw [if_pos o] at hl
        injection hl with hl
        rw [List.length_map] at hl
        match l, hl with
        | [a], _ =>
          rw [eqs_eq o]
          exact ⟨.out a, rfl, by have := lt a (by simp); show a ≤ 8; omega⟩
        | [], hl => simp at hl
        | a :: b :: c, hl =>
          simp only [List.length_cons] at hl
          omega
      · have o' : eqs z "out" = false := by simpa using o
        rw [o'] at hl
        by_cases e : (eqs z "edge" || eqs z "cut") = true
        · rw [if_neg (by decide), if_pos e] at hl
          injection hl with hl
          rw [List.length_map] at hl
          match l, hl, lt, up with
          | [a, b], _, lt, up =>
            have ab : a < b := (List.pairwise_cons.mp up).1 b (by simp)
            have b9 := lt b (by simp)
            rcases (Bool.or_eq_true _ _).mp e with e | e
            · rw [eqs_eq e]
              exact ⟨.two false a b, rfl, ab, by omega⟩
            · rw [eqs_eq e]
              exact ⟨.two true a b, rfl, ab, by omega⟩
          | [], hl, _, _ => simp at hl
          | [a], hl, _, _ => simp at hl
          | a :: b :: c :: d, hl, _, _ =>
            simp only [List.length_cons] at hl
            omega
        · rw [if_neg (by decide), if_neg e] at hl
          cases hl
theorem natS_inj : ∀ {l m : List Nat}, l.map (fun k => Sh.int ((k : Nat) : Int)) = m.map (fun k => Sh.int ((k : Nat) : Int)) → l = m
  | [], [], _ => rfl
  | [], _ :: _, h => by simp at h
  | _ :: _, [], h => by simp at h
  | a :: l, b :: m, h => by
    rw [List.map_cons, List.map_cons] at h
    injection h with h1 h2
    injection h1 with h1
    rw [natS_inj h2, Int.ofNat.inj h1]
theorem chgS_inj {c d : Chg} (h : chgS c = chgS d) : c = d := by
  cases c with
  | vertex l =>
    cases d with
    | vertex m =>
      injection h with h
      injection h with _ h
      injection h with h
      injection h with h
      rw [natS_inj h]
    | out a =>
      injection h with h
      injection h with h
      injection h with h
      exact absurd h (by decide)
    | two c a b =>
      injection h with h
      injection h with h
      injection h with h
      cases c <;> exact absurd h (by decide)
  | out a =>
    cases d with
    | vertex m =>
      injection h with h
      injection h with h
      injection h with h
      exact absurd h (by decide)
    | out b =>
      injection h with h
      injection h with _ h
      injection h with h
      injection h with h
      rw [Int.ofNat.inj h]
    | two c a b =>
      injection h with h
      injection h with h
      injection h with h
      cases c <;> exact absurd h (by decide)
  | two c a b =>
    cases d with
    | vertex m =>
      injection h with h
      injection h with h
      injection h with h
      cases c <;> exact absurd h (by decide)
    | out b =>
      injection h with h
      injection h with h
      injection h with h
      cases c <;> exact absurd h (by decide)
    | two d a' b' =>
      injection h with h
      injection h with h1 h
      injection h with h2 h
      injection h with h3 h
      injection h1 with h1
      injection h2 with h2
      injection h3 with h3
      have e : c = d := by cases c <;> cases d <;> first | rfl | exact absurd h1 (by decide)
      rw [e, Int.ofNat.inj h2, Int.ofNat.inj h3]
theorem numsN_of {K : PySem.W.Frag} {H : Hp} : ∀ {l : List Nat} {xs : List V}, ShsAt K H xs (l.map fun k => Sh.int ((k : Nat) : Int)) → xs = numsN l
  | [], _, h => by cases h; rfl
  | k :: l, _, h => by
    cases h with
    | cons a r =>
      cases a
      rw [numsN_of r]
      rfl
theorem chgAt_of {K : PySem.W.Frag} {H : Hp} {v : V} {c : Chg} (h : ShAt K H v (chgS c)) : ChgAt K H v c := by
  cases c with
  | vertex l =>
    cases h with
    | tup ht r =>
      cases r with
      | cons a r =>
        cases a
        cases r with
        | cons a r =>
          cases r
          cases a with
          | tup hu ru =>
            rw [numsN_of ru] at hu
            exact ⟨_, _, rfl, ht, hu⟩
  | out a =>
    cases h with
    | tup ht r =>
      cases r with
      | cons a r =>
        cases a
        cases r with
        | cons a r =>
          cases r
          cases a
          exact ⟨_, rfl, ht⟩
  | two c a b =>
    cases h with
    | tup ht r =>
      cases r with
      | cons a r =>
        cases a
        cases r with
        | cons a r =>
          cases a
          cases r with
          | cons a r =>
            cases r
            cases a
            exact ⟨_, rfl, ht⟩
/-! ### walks -/
inductive LogR where
  | none
  | bad (k : Nat)
  | led (n : Nat) (es : List E2)
inductive Walkd : Nat → Nat → List E2 → List Sh → LogR → Prop
  | nil {k n : Nat} {es : List E2} : Walkd k n es [] (.led n es)
  | bad {k n : Nat} {es : List E2} {s : Sh} {ss : List Sh} (h : ∀ c, s = chgS c → ChgOk c → fits n es c = false) : Walkd k n es (s :: ss) (.bad k)
  | step {k n m : Nat} {es fs : List E2} {s : Sh} {ss : List Sh} {r : LogR} (c : Chg) (e : s = chgS c) (ok : ChgOk c) (ft : fits n es c = true) (d : Done n es c m fs) (w : Walkd (k + 1) m fs ss r) : Walkd k n es (s :: ss) r
theorem Walkd.uniq : ∀ {ss : List Sh} {k n : Nat} {es : List E2} {r r' : LogR}, Walkd k n es ss r → Walkd k n es ss r' → r = r'
  | [], _, _, _, _, _, .nil, .nil => rfl
  | s :: ss, _, _, _, _, _, .bad h, .bad h' => rfl
  | s :: ss, _, _, _, _, _, .bad h, .step c e ok ft d w => by rw [h c e ok] at ft; cases ft
  | s :: ss, _, _, _, _, _, .step c e ok ft d w, .bad h => by rw [h c e ok] at ft; cases ft
  | s :: ss, _, _, _, _, _, .step c e ok ft d w, .step c' e' ok' ft' d' w' => by
    obtain rfl := chgS_inj (e.symm.trans e')
    obtain ⟨rfl, rfl⟩ := d.uniq d'
    exact w.uniq w'
def LogRes (s : Sh) (r : LogR) : Prop := match s with
  | .tup ss => if ss.length ≤ 200 then Walkd 0 0 [] ss r else r = .none
  | _ => r = .none
theorem LogRes.uniq {s : Sh} {r r' : LogR} (h : LogRes s r) (h' : LogRes s r') : r = r' := by
  cases s with
  | tup ss =>
    unfold LogRes at h h'
    dsimp only at h h'
    by_cases l : ss.length ≤ 200
    · rw [if_pos l] at h h'
      exact h.uniq h'
    · rw [if_neg l] at h h'
      rw [h, h']
  | _ => exact Eq.trans h (Eq.symm h')
theorem good0 : Good 0 [] := ⟨by decide, (fun _ z => nomatch z), List.Pairwise.nil⟩
end My

set_option maxHeartbeats 8000000
namespace My
open PySem PySem.Spec PyProof.Rows L2
abbrev sGof : Stmt := top 24
theorem scGof : FnScope ["log", "graph", "index", "change"] ["log"] (defScope sGof) := ⟨rfl, rfl, rfl, by decide +kernel, rfl, by decide +kernel, by decide +kernel⟩
def spGof (K : PySem.W.Frag) (C : Addr) : Sp := fun vs H Q E => ∃ (v : V) (s : Sh), vs = [v] ∧ ShAt K H v s ∧ Lb s ∧ ∀ r, LogRes s r → match r with
  | .none => ∀ d H', H d = none → Same H H' → H' d = some (.xd [("index", .non)]) → E (.ref C) (some d) H'
  | .bad k => ∀ d H', H d = none → Same H H' → H' d = some (.xd [("index", .int ((k : Nat) : Int))]) → E (.ref C) (some d) H'
  | .led n es => ∀ y H', Same H H' → GraphM K H' y n es → Good n es → Q y H'
section
variable {P : Program} {w : World} {K : PySem.W.Frag} {mg : Str → Option Value} {base : Heap} {f fI fC fF fL C aE : Addr} {fd dI dC dF dL : FuncData} {tk : Tok}
theorem ok_initL (F : L2.Fun K "__init__" "InvalidLog.__init__" (inClass (top 4) 0) f fd) (T : OexC K C) (no : PySem.W.findIn K (.ref C) "index" = some none) : FnOk P w K mg base CX0 1 f fd ["self", "index"] (spInit C "index") := by
  refine F.ok (show FnScope ["self", "index"] ["self", "index"] (defScope (inClass (top 4) 0)) from ⟨rfl, rfl, rfl, by decide +kernel, rfl, by decide +kernel, by decide +kernel⟩) (fun vs H Q E h => ?_) (fun cdv A outer s H vs Q E hr h => ?_)
  · obtain ⟨a, v, rfl, _⟩ := h
    rfl
  obtain ⟨a, v, rfl, ha, q⟩ := h
  refine ⟨_, pss_one (ps_ost (pv 0) (pv 1)), ?_⟩
  exact ⟨_, rfl, _, rfl, a, C, rfl, T, no, .inl ⟨ha, q⟩⟩
theorem ok_gof (F : L2.Fun K "graph_of" "graph_of" sGof f fd) (T : XCls K C fI "index") (mC : mg "InvalidLog" = some (.ref C)) (GX : FnOk P w K mg base CX0 1 fI dI ["self", "index"] (spInit C "index")) (bX : L2.Binds K dI ["self", "index"] [])
    (GC : FnOk P w K mg base CX0 3 fC dC ["value"] (spPIsChg K)) (bC : L2.Binds K dC ["value"] []) (kC : PySem.W.keepIn K (.ref fC) = true) (mCh : mg "is_change" = some (.ref fC))
    (GF : FnOk P w K mg base CX0 7 fF dF ["graph", "change"] (spPFit K)) (bF : L2.Binds K dF ["graph", "change"] []) (kF : PySem.W.keepIn K (.ref fF) = true) (mF : mg "does_fit" = some (.ref fF))
    (GL : FnOk P w K mg base CX0 9 fL dL ["graph", "change"] (spPLed K)) (bL : L2.Binds K dL ["graph", "change"] []) (kL : PySem.W.keepIn K (.ref fL) = true) (mL : mg "_led_on" = some (.ref fL))
    (mMost : mg "MOST_CHANGES" = some (.int 200 tk)) (mE : mg "EMPTY" = some (.ref aE)) (hE : ∀ H, GraphM K H (.ref aE) 0 []) (mty : mg "type" = none) (mt : mg "tuple" = none) (me : mg "enumerate" = none) (ml : mg "len" = none) :
    FnOk P w K mg base (L2.CX P w) 10 f fd ["log"] (spGof K C) := by
  refine F.okX scGof (fun vs H Q E h => ?_) (fun cdv A outer s0 H vs Q E hr h => ?_)
  · obtain ⟨v, s, rfl, _⟩ := h
    rfl
  obtain ⟨v, s, rfl, hv, lb, q⟩ := h
  have h2 := hr.mono (show 2 ≤ 9 by decide)
  have h3 := hr.mono (show 3 ≤ 9 by decide)
  have h7 := hr.mono (show 7 ≤ 9 by decide)
  refine ⟨_, pss_cons (ps_if (PW.pt (pw_or (pt_cmpR op_isNotTy (pe_callTy call_type1 (by rfl) mty (by decide +kernel) (pa_cons (pv 0) pa_nil)) (pe_bltn (v := .ty "tuple") (by rfl) mt (by decide +kernel) rfl) (nomark _)) (pw_or1 (pt_cmpR op_gt (pe_callB call_len_seq (by rfl) ml PySem.boot_len (pa_cons (pv 0) pa_nil)) (pe_glob (v := .int 200) (by rfl) mMost ⟨_, rfl⟩) (nomark _)))))
      (pss_one (ps_raise rfl (takes_of rfl rfl rfl rfl) (pmk_oex T.ox T.iC T.tI GX h2 bX .nil pass0 (by rfl) mC (pa_cons pe_non pa_nil)))) pss_nil)
    (pss_cons (ps_set (i := 1) scGof.nd rfl (.inl rfl) (pe_glob (v := .ref aE) (by rfl) mE rfl))
    (pss_cons (ps_for (passes_of rfl) rfl (pi_enT (by rfl) me (pa_cons (pv 0) pa_nil)) (pg_tup (by rfl) (pgs_cons (pg_name (i := 2) scGof.nd rfl (.inl rfl)) (pgs_cons (pg_name (i := 3) scGof.nd rfl (.inl rfl)) pgs_nil)))
      (pss_cons (ps_if (PW.pt (pw_or (pt_not (pt_val (pe_call GC h3 (by rfl) mCh kC bC .nil pass0 (pa_cons (pv 3) pa_nil)))) (pw_or1 (pt_not (pt_val (pe_call GF h7 (by rfl) mF kF bF .nil pass0 (pa_cons (pv 1) (pa_cons (pv 3) pa_nil))))))))
        (pss_one (ps_raise rfl (takes_of rfl rfl rfl rfl) (pmk_oex T.ox T.iC T.tI GX h2 bX .nil pass0 (by rfl) mC (pa_cons (pv 2) pa_nil)))) pss_nil)
      (pss_one (ps_set (i := 1) scGof.nd rfl (.inl rfl) (pe_call GL hr (by rfl) mL kL bL .nil pass0 (pa_cons (pv 1) (pa_cons (pv 3) pa_nil)))))))
    (pss_one (ps_ret (pv 1))))), ?_⟩
  have bad0 : LogRes s .none → ∀ H1, Same H H1 → ∀ d H', H1 d = none → Same H1 H' → H' d = some (.xd [("index", .non)]) → E (.ref C) (some d) H' := fun h H1 s1 d H' nd s' hd => q .none h d H' (s1.free nd) (s1.trans s') hd
  obtain ⟨Ty, ty, ok⟩ := hv.ty
  refine ⟨_, rfl, v, Ty, rfl, ty, Ty, "tuple", rfl, rfl, _, rfl, iteB (fun c0 => iteT ?_) (fun c0 => ?_)⟩
  · have nt : Ty ≠ "tuple" := by simpa using c0
    refine raised (bad0 ?_ H (Same.refl H))
    cases s with
    | tup ss => exact absurd ok nt
    | _ => rfl
  have et : Ty = "tuple" := by simpa using c0
  obtain ⟨ss, rfl⟩ : ∃ ss, s = .tup ss := by
    cases s with
    | tup ss => exact ⟨ss, rfl⟩
    | int i => rw [show Ty = "int" from ok] at et; exact absurd et (by decide)
    | bool b => rw [show Ty = "bool" from ok] at et; exact absurd et (by decide)
    | str x => rw [show Ty = "str" from ok] at et; exact absurd et (by decide)
    | oth => exact absurd et ok.2.2.1
  clear c0 et ok ty
  have lbs : ∀ t ∈ ss, Lb t := by cases lb; assumption
  cases hv with
  | @tup u xs _ hu r =>
  have lx := r.len
  refine ⟨_, rfl, u, xs, rfl, .inr hu, _, _, rfl, rfl, _, rfl, iteB (fun c1 => ?_) (fun c1 => ?_)⟩
  · refine raised (bad0 ?_ H (Same.refl H))
    have := of_decide_eq_true c1
    show (if ss.length ≤ 200 then Walkd 0 0 [] ss .none else LogR.none = .none)
    rw [if_neg (by omega)]
  have l2 : ss.length ≤ 200 := by
    have := of_decide_eq_false c1
    omega
  have wk : ∀ r, Walkd 0 0 [] ss r → LogRes (.tup ss) r := fun r h => by
    show (if ss.length ≤ 200 then Walkd 0 0 [] ss r else r = .none)
    rw [if_pos l2]
    exact h
  refine ⟨_, rfl, u, xs, rfl, hu, for_it walk_enT (fun i σ H' => ∃ (y : V) (n : Nat) (es : List E2) (s2 s3 : Option V), σ = [some (.ref u), some y, s2, s3] ∧ Same H H' ∧ GraphM K H' y n es ∧ Good n es ∧ ∀ r, Walkd i n es (ss.drop i) r → Walkd 0 0 [] ss r)
    ⟨.ref aE, 0, [], none, none, rfl, Same.refl _, hE _, good0, fun r h => by rw [List.drop_zero] at h; exact h⟩ (fun i σ H' _ ⟨_, _, _, _, _, _, s', _⟩ => Same.tup s' hu) ?_ ?_⟩
  · rintro i x σ H1 H2 li ⟨y, n, es, s2, s3, rfl, s1, hy, g, wl⟩ ⟨T1, a, b, rfl, nT, rfl, e1, e2⟩
    obtain rfl : V.int ((i : Nat) : Int) = a := Option.some.inj e1
    have e2' : xs[i]? = some b := e2
    obtain ⟨t, ht, at'⟩ := (r.same s1).get e2'
    have sT := same_new nT (.tup [.int ((i : Nat) : Int), b])
    have hT := upd_same (H := H1) (a := T1) (o := .tup [.int ((i : Nat) : Int), b])
    generalize upd H1 T1 (.tup [.int ((i : Nat) : Int), b]) = H3 at sT hT ⊢
    have s3' := s1.trans sT
    have dr : ss.drop i = t :: ss.drop (i + 1) := by
      obtain ⟨hlt, e⟩ := List.getElem?_eq_some_iff.mp ht
      rw [List.drop_eq_getElem_cons hlt, e]
    have lbt := lbs t (List.mem_of_getElem? ht)
    refine ⟨T1, _, rfl, SqT.of hT, rfl, _, _, rfl, _, _, rfl, rfl, ?_⟩
    have out : LogRes (.tup ss) (.bad i) → ∀ d H', H3 d = none → Same H3 H' → H' d = some (.xd [("index", .int ((i : Nat) : Int))]) → E (.ref C) (some d) H' := fun h d H' nd s' hd => q (.bad i) h d H' (s3'.free nd) (s3'.trans s') hd
    refine ⟨_, rfl, b, t, rfl, at'.same sT, lbt, fun H4 s4 => ⟨_, rfl, iteB (fun c2 => iteT ?_) (fun c2 => ?_)⟩⟩
    · refine ⟨_, rfl, ?_⟩
      refine raised fun d H' nd s' hd => out (wk _ (wl _ ?_)) d H' (s4.free nd) (s4.trans s') hd
      rw [dr]
      exact .bad fun c e ok => by
        rw [e, isChg_ok ok] at c2
        cases c2
    have c2' : isChg t = true := by simpa using c2
    obtain ⟨c, rfl, okc⟩ := chg_of c2'
    have hc := chgAt_of ((at'.same sT).same s4)
    have s34 := sT.trans s4
    refine ⟨_, rfl, _, rfl, y, b, n, es, c, rfl, (hy.same s34).at, g, hc, okc, fun H5 s5 => ⟨_, rfl, iteB (fun c3 => ?_) (fun c3 => ?_)⟩⟩
    · refine ⟨_, rfl, ?_⟩
      refine raised fun d H' nd s' hd => out (wk _ (wl _ ?_)) d H' ((s4.trans s5).free nd) ((s4.trans s5).trans s') hd
      rw [dr]
      refine .bad fun c' e ok => ?_
      obtain rfl := chgS_inj e
      simpa using c3
    have ft : fits n es c = true := by simpa using c3
    refine ⟨_, rfl, _, rfl, y, b, n, es, c, rfl, hy.same (s34.trans s5), g, hc.same s5, okc, ft, fun y2 m fs H6 s6 hy2 d => ?_⟩
    refine ⟨y2, m, fs, _, _, rfl, s1.trans (s34.trans (s5.trans s6)), hy2.gm, d.good, fun r h => wl r ?_⟩
    rw [dr]
    exact .step c rfl okc ft d h
  · rintro σ H1 ⟨y, n, es, s2, s3, rfl, s1, hy, g, wl⟩
    refine ⟨_, rfl, ?_⟩
    have z := q (.led n es) (wk _ (wl _ (by rw [lx, List.drop_length]; exact .nil)))
    exact z y H1 s1 hy g
end
end My

set_option maxHeartbeats 8000000
namespace My
open PySem PySem.Spec PyProof.Rows L2
abbrev sDue : Stmt := top 43
abbrev sTold : Stmt := top 42
theorem scDue : FnScope ["log", "graph", "at"] ["log"] (defScope sDue) := ⟨rfl, rfl, rfl, by decide +kernel, rfl, by decide +kernel, by decide +kernel⟩
theorem scTold : FnScope ["log", "e"] ["log"] (defScope sTold) := ⟨rfl, rfl, rfl, by decide +kernel, rfl, by decide +kernel, by decide +kernel⟩
def ResAt (K : PySem.W.Frag) (H : Hp) (l : Addr) : LogR → Prop
  | .none => H l = some (.lst [.str "log", .non])
  | .bad k => H l = some (.lst [.str "log", .int ((k : Nat) : Int)])
  | .led n es => ∃ y, H l = some (.lst [.str "graph", y]) ∧ GraphM K H y n es ∧ Good n es
def spDue (K : PySem.W.Frag) : Sp := fun vs H Q _ => ∃ (v : V) (s : Sh), vs = [v] ∧ ShAt K H v s ∧ Lb s ∧ ∀ r l H', LogRes s r → Same H H' → ResAt K H' l r → Q (.ref l) H'
theorem graph0 {K : PySem.W.Frag} {H : Hp} {t e : Addr} (ht : H t = some (.tup [.int 0, .ref e])) (he : H e = some (.tup [])) : GraphM K H (.ref t) 0 [] := ⟨t, e, [], rfl, SqT.of ht, SqT.of he, .nil⟩
section
variable {P : Program} {w : World} {K : PySem.W.Frag} {mg : Str → Option Value} {base : Heap} {f fC fF fD fG fI C : Addr} {fd dC dF dD dG : FuncData}
theorem ok_due (F : L2.Fun K "_law_due" "_law_due" sDue f fd)
    (GC : FnOk P w K mg base CX0 3 fC dC ["value"] (spLIsChg K)) (bC : L2.Binds K dC ["value"] []) (kC : PySem.W.keepIn K (.ref fC) = true) (mC : mg "_law_is_change" = some (.ref fC))
    (GF : FnOk P w K mg base CX0 3 fF dF ["graph", "change"] (spLFit K)) (bF : L2.Binds K dF ["graph", "change"] []) (kF : PySem.W.keepIn K (.ref fF) = true) (mF : mg "_law_fits" = some (.ref fF))
    (GD : FnOk P w K mg base CX0 3 fD dD ["graph", "change"] (spLDone K)) (bD : L2.Binds K dD ["graph", "change"] []) (kD : PySem.W.keepIn K (.ref fD) = true) (mD : mg "_law_done" = some (.ref fD))
    (mi : mg "isinstance" = none) (mt : mg "tuple" = none) (mr : mg "range" = none) (ml : mg "len" = none) :
    FnOk P w K mg base CX0 4 f fd ["log"] (spDue K) := by
  refine F.ok scDue (fun vs H Q E h => ?_) (fun cdv A outer s0 H vs Q E hr h => ?_)
  · obtain ⟨v, s, rfl, _⟩ := h
    rfl
  obtain ⟨v, s, rfl, hv, lb, q⟩ := h
  refine ⟨_, pss_cons (ps_if (PW.pt (pw_or (pt_not (pt_val (pe_callB call_isi (by rfl) mi (by decide +kernel) (pa_cons (pv 0) (pa_cons (pe_bltn (v := .ty "tuple") (by rfl) mt (by decide +kernel) rfl) pa_nil))))) (pw_or1 (pt_cmpR op_gt (pe_callB call_len_seq (by rfl) ml PySem.boot_len (pa_cons (pv 0) pa_nil)) pe_int (nomark _))))) (pss_one (ps_ret (pe_lst (pa_cons pe_str (pa_cons pe_non pa_nil))))) pss_nil)
    (pss_cons (ps_set (i := 1) scDue.nd rfl (.inl rfl) (pe_tup (pa_cons pe_int (pa_cons (pe_tup pa_nil) pa_nil))))
    (pss_cons (ps_for PassesOwn.never rfl (pi_range1 rfl mr (pa_cons (pe_callB call_len_seq (by rfl) ml PySem.boot_len (pa_cons (pv 0) pa_nil)) pa_nil)) (pg_name (i := 2) scDue.nd rfl (.inl rfl))
      (pss_cons (ps_if (PW.pt (pw_or (pt_not (pt_val (pe_call GC hr (by rfl) mC kC bC .nil pass0 (pa_cons (pe_ix (r := rIxT K) ix_tup (pv 0) (pv 2) (fun _ _ => rfl)) pa_nil)))) (pw_or1 (pt_not (pt_val (pe_call GF hr (by rfl) mF kF bF .nil pass0 (pa_cons (pv 1) (pa_cons (pe_ix (r := rIxT K) ix_tup (pv 0) (pv 2) (fun _ _ => rfl)) pa_nil))))))))
        (pss_one (ps_ret (pe_lst (pa_cons pe_str (pa_cons (pv 2) pa_nil))))) pss_nil)
      (pss_one (ps_set (i := 1) scDue.nd rfl (.inl rfl) (pe_call GD hr (by rfl) mD kD bD .nil pass0 (pa_cons (pv 1) (pa_cons (pe_ix (r := rIxT K) ix_tup (pv 0) (pv 2) (fun _ _ => rfl)) pa_nil)))))))
    (pss_one (ps_ret (pe_lst (pa_cons pe_str (pa_cons (pv 1) pa_nil))))))), ?_⟩
  have two : (2 : Nat) ≤ sizeLine := small (by decide)
  have non : LogRes s .none → ∀ l, H l = none → Q (.ref l) (upd H l (.lst [.str "log", .non])) := fun h l nl => q .none l _ h (same_new nl _) upd_same
  obtain ⟨tt, tx, k1, _, _⟩ := isi_of hv
  refine ⟨_, rfl, v, .ty "tuple", tt, .type "tuple", isTup s, rfl, .ty _, tx, k1, _, rfl, ?_⟩
  refine iteB (fun c0 => iteT ⟨two, non ?_⟩) (fun c0 => ?_)
  · cases s with
    | tup ss => cases c0
    | _ => rfl
  obtain ⟨ss, rfl⟩ : ∃ ss, s = .tup ss := by
    cases s with
    | tup ss => exact ⟨ss, rfl⟩
    | _ => cases c0
  clear c0 k1 tx
  have lbs : ∀ t ∈ ss, Lb t := by cases lb; assumption
  cases hv with
  | @tup u xs _ hu r =>
  have lx := r.len
  refine ⟨_, rfl, u, xs, rfl, .inr hu, _, _, rfl, rfl, _, rfl, iteB (fun c1 => ⟨two, non ?_⟩) (fun c1 => ?_)⟩
  · have := of_decide_eq_true c1
    show (if ss.length ≤ 200 then Walkd 0 0 [] ss .none else LogR.none = .none)
    rw [if_neg (by omega)]
  have l2 : ss.length ≤ 200 := by
    have := of_decide_eq_false c1
    omega
  have wk : ∀ r, Walkd 0 0 [] ss r → LogRes (.tup ss) r := fun r h => by
    show (if ss.length ≤ 200 then Walkd 0 0 [] ss r else r = .none)
    rw [if_pos l2]
    exact h
  clear non
  refine ⟨small (by decide), fun e ne => ⟨two, fun g0 ng => ?_⟩⟩
  have se := same_new ne (.tup [])
  have he := upd_same (H := H) (a := e) (o := .tup [])
  generalize upd H e (.tup []) = H0 at se he ng ⊢
  have sg := same_new ng (.tup [.int 0, .ref e])
  have hg0 := graph0 (K := K) (upd_same (H := H0) (a := g0) (o := .tup [.int 0, .ref e])) (sg _ _ he)
  have s0' := se.trans sg
  generalize upd H0 g0 (.tup [.int 0, .ref e]) = H1 at sg hg0 s0' ⊢
  refine ⟨_, rfl, u, xs, rfl, .inr (Same.tup s0' hu), _, rfl, by omega, by omega, for_range (lo := 0) (n := ((xs.length : Nat) : Int).toNat) (fun i σ H' => ∃ (y : V) (n : Nat) (es : List E2) (s2 : Option V), σ = [some (.ref u), some y, s2] ∧ Same H H' ∧ GraphM K H' y n es ∧ Good n es ∧ ∀ r, Walkd i n es (ss.drop i) r → Walkd 0 0 [] ss r)
    ⟨.ref g0, 0, [], none, rfl, s0', hg0, good0, fun r h => by rw [List.drop_zero] at h; exact h⟩ ?_ ?_⟩
  · rintro i σ H2 li ⟨y, n, es, s2, rfl, s2', hy, g, wl⟩
    rw [Int.zero_add]
    rw [Int.toNat_natCast] at li
    obtain ⟨b, hb⟩ : ∃ b, xs[i]? = some b := ⟨xs[i], List.getElem?_eq_getElem li⟩
    obtain ⟨t, ht, at'⟩ := (r.same s2').get hb
    have ab := atI_nat hb
    have dr : ss.drop i = t :: ss.drop (i + 1) := by
      obtain ⟨hlt, e⟩ := List.getElem?_eq_some_iff.mp ht
      rw [List.drop_eq_getElem_cons hlt, e]
    have lbt := lbs t (List.mem_of_getElem? ht)
    have out : Walkd i n es (ss.drop i) (.bad i) → ∀ H3, Same H2 H3 → ∀ l, H3 l = none → Q (.ref l) (upd H3 l (.lst [.str "log", .int ((i : Nat) : Int)])) := fun h H3 s3 l nl => q (.bad i) l _ (wk _ (wl _ h)) (s2'.trans (s3.trans (same_new nl _))) upd_same
    refine ⟨_, rfl, _, rfl, u, xs, _, b, rfl, rfl, Same.tup s2' hu, ab, b, t, rfl, at', lbt, fun H3 s3 => ⟨_, rfl, iteB (fun c2 => iteT ?_) (fun c2 => ?_)⟩⟩
    · refine ⟨_, rfl, two, fun l nl => out ?_ H3 s3 l nl⟩
      rw [dr]
      exact .bad fun c e ok => by
        rw [e, isChg_ok ok] at c2
        cases c2
    have c2' : isChg t = true := by simpa using c2
    obtain ⟨c, rfl, okc⟩ := chg_of c2'
    have hc := chgAt_of (at'.same s3)
    refine ⟨_, rfl, _, rfl, _, rfl, u, xs, _, b, rfl, rfl, Same.tup (s2'.trans s3) hu, ab, y, b, n, es, c, rfl, (hy.same s3).at, g, hc, okc, fun H5 s5 => ⟨_, rfl, iteB (fun c3 => ?_) (fun c3 => ?_)⟩⟩
    · refine ⟨_, rfl, two, fun l nl => out ?_ H5 (s3.trans s5) l nl⟩
      rw [dr]
      refine .bad fun c' e ok => ?_
      obtain rfl := chgS_inj e
      simpa using c3
    have ft : fits n es c = true := by simpa using c3
    refine ⟨_, rfl, _, rfl, _, rfl, u, xs, _, b, rfl, rfl, Same.tup (s2'.trans (s3.trans s5)) hu, ab, y, b, n, es, c, rfl, hy.same (s3.trans s5), g, hc.same s5, okc, ft, fun y2 m fs H6 s6 hy2 d => ?_⟩
    refine ⟨y2, m, fs, _, rfl, s2'.trans (s3.trans (s5.trans s6)), hy2.gm, d.good, fun r h => wl r ?_⟩
    rw [dr]
    exact .step c rfl okc ft d h
  · rintro σ H2 ⟨y, n, es, s2, rfl, s2', hy, g, wl⟩
    refine ⟨_, rfl, two, fun l nl => ?_⟩
    have sl := same_new nl (.lst [.str "graph", y])
    exact q (.led n es) l _ (wk _ (wl _ (by rw [Int.toNat_natCast, lx, List.drop_length]; exact .nil))) (s2'.trans sl) ⟨y, upd_same, hy.same sl, g⟩
theorem ok_told (F : L2.Fun K "_law_told" "_law_told" sTold f fd) (T : XCls K C fI "index") (mC : mg "InvalidLog" = some (.ref C)) (ex : PySem.W.exmOne K (.ref C) (.ref C) = some true) (hex : ∀ s, ∃ r, LogRes s r)
    (GG : FnOk P w K mg base (L2.CX P w) 10 fG dG ["log"] (spGof K C)) (bG : L2.Binds K dG ["log"] []) (kG : PySem.W.keepIn K (.ref fG) = true) (mG : mg "graph_of" = some (.ref fG)) :
    FnOk P w K mg base CX0 11 f fd ["log"] (spDue K) := by
  refine F.ok scTold (fun vs H Q E h => ?_) (fun cdv A outer s H vs Q E hr h => ?_)
  · obtain ⟨v, s, rfl, _⟩ := h
    rfl
  obtain ⟨v, s, rfl, hv, lb, q⟩ := h
  refine ⟨_, pss_one (ps_try_as (i := 1) rfl rfl scTold.nd rfl rfl ⟨rfl, by decide, .inl mC⟩ takes0
    (fun W pn xe tk _ => pss_one (ps_ret (pe_lst (pa_cons pe_str (pa_cons (pe_callS GG hr (by rfl) mG kG bG (fun σ => passAt tk σ) (pa_cons (pv 0) pa_nil)) pa_nil)))))
    (fun a oe cls d pn hz hf => pss_one (ps_ret (pe_lst (pa_cons pe_str (pa_cons (pe_xf T.xf T.no hz hf (pv 1)) pa_nil)))))), ?_⟩
  have two : (2 : Nat) ≤ sizeLine := small (by decide)
  have caught : ∀ (D : Ends) (d : Addr) (H1 : Hp) (z : V), H1 d = some (.xd [("index", z)]) → (∀ l H', Same H1 H' → H' l = some (.lst [.str "log", z]) → Q (.ref l) H') →
      ∀ a, H1 a = none → (tRet (tLst (tCons (tC (.str "log")) (tCons (tXf a (.ref C) (some d) C "index" (tVar 1)) tNil)))) { D with rt := Q } [some v, some (.ref a)] H1 := by
    intro D d H1 z hd q a na
    refine ⟨_, rfl, rfl, rfl, d, _, z, rfl, hd, rfl, two, fun l nl => ?_⟩
    exact q l _ (same_new nl _) upd_same
  obtain ⟨r, hres⟩ := hex s
  refine ⟨_, rfl, v, s, rfl, hv, lb, fun r' hr' => ?_⟩
  obtain rfl := hr'.uniq hres
  cases r' with
  | none => exact fun d H' nd s' hd => ⟨true, ex, fun _ a na => caught { nx := fun _ _ => True, rt := Q } d H' _ hd (fun l H2 s2 hl => q .none l _ hres (s'.trans s2) hl) a na, fun w => nomatch w⟩
  | bad k => exact fun d H' nd s' hd => ⟨true, ex, fun _ a na => caught { nx := fun _ _ => True, rt := Q } d H' _ hd (fun l H2 s2 hl => q (.bad k) l _ hres (s'.trans s2) hl) a na, fun w => nomatch w⟩
  | led n es => exact fun y H' s' hy g => ⟨two, fun l nl => q (.led n es) l _ hres (s'.trans (same_new nl _)) ⟨y, upd_same, hy.same (same_new nl _), g⟩⟩
end
end My

set_option maxHeartbeats 4000000
/-! Logs of changes: what there is, what leads to a graph. -/
namespace My
open PySem PySem.Spec PyProof.Rows L2
theorem done_ex {n : Nat} {es : List E2} (g : Good n es) {c : Chg} (ok : ChgOk c) (ft : fits n es c = true) : ∃ m fs, Done n es c m fs := by
  have n9 := g.n9
  cases c with
  | vertex l =>
    obtain ⟨f1, f2⟩ : n < 9 ∧ ∀ k ∈ l, k < n := by
      have z : (decide (n < 9) && l.all fun k => decide (k < n)) = true := ft
      rw [Bool.and_eq_true, decide_eq_true_eq, List.all_eq_true] at z
      exact ⟨z.1, fun k hk => of_decide_eq_true (z.2 k hk)⟩
    refine ⟨n + 1, (allP (n + 1)).filter fun p => decide (p ∈ es ∨ (p.2 = n ∧ p.1 ∈ l)), ⟨by omega, fun p hp => mem_allP.mp (List.mem_filter.mp hp).1, (allP_up _ (by omega)).filter _⟩, rfl, fun p => ?_⟩
    show _ ↔ (p ∈ es ∨ (p.2 = n ∧ p.1 ∈ l))
    rw [List.mem_filter, decide_eq_true_eq, mem_allP]
    constructor
    · exact fun h => h.2
    · intro h
      refine ⟨?_, h⟩
      rcases h with h | ⟨h1, h2⟩
      · have := g.lt p h
        omega
      · have := f2 _ h2
        omega
  | out a => exact ⟨_, _, done_out g a⟩
  | two c a b =>
    cases c with
    | true => exact ⟨_, _, done_cut g⟩
    | false =>
      obtain ⟨ab, b8⟩ : a < b ∧ b ≤ 8 := ok
      have z : (decide (b < n) && (decide ((a, b) ∈ es) == false)) = true := ft
      rw [Bool.and_eq_true, decide_eq_true_eq] at z
      refine ⟨n, (allP n).filter fun p => decide (p ∈ es ∨ p = (a, b)), ⟨n9, fun p hp => mem_allP.mp (List.mem_filter.mp hp).1, (allP_up _ n9).filter _⟩, rfl, fun p => ?_⟩
      show _ ↔ (p ∈ es ∨ p = (a, b))
      rw [List.mem_filter, decide_eq_true_eq, mem_allP]
      constructor
      · exact fun h => h.2
      · intro h
        refine ⟨?_, h⟩
        rcases h with h | rfl
        · exact g.lt p h
        · exact ⟨ab, z.1⟩
theorem walk_ex : ∀ (ss : List Sh) (k : Nat) {n : Nat} {es : List E2}, Good n es → ∃ r, Walkd k n es ss r
  | [], k, n, es, _ => ⟨_, .nil⟩
  | s :: ss, k, n, es, g => by
    by_cases h : ∃ c, s = chgS c ∧ ChgOk c ∧ fits n es c = true
    · obtain ⟨c, e, ok, ft⟩ := h
      obtain ⟨m, fs, d⟩ := done_ex g ok ft
      obtain ⟨r, w⟩ := walk_ex ss (k + 1) d.good
      exact ⟨r, .step c e ok ft d w⟩
    · refine ⟨_, .bad fun c e ok => ?_⟩
      cases f : fits n es c with
      | false => rfl
      | true => exact absurd ⟨c, e, ok, f⟩ h
theorem log_ex (s : Sh) : ∃ r, LogRes s r := by
  cases s with
  | tup ss =>
    by_cases l : ss.length ≤ 200
    · obtain ⟨r, w⟩ := walk_ex ss 0 good0
      refine ⟨r, ?_⟩
      show (if ss.length ≤ 200 then Walkd 0 0 [] ss r else r = .none)
      rw [if_pos l]
      exact w
    · refine ⟨.none, ?_⟩
      show (if ss.length ≤ 200 then Walkd 0 0 [] ss .none else LogR.none = .none)
      rw [if_neg l]
  | _ => exact ⟨.none, rfl⟩
theorem walk_bad : ∀ {ss : List Sh} {k n : Nat} {es : List E2} {j : Nat}, Walkd k n es ss (.bad j) → j < k + ss.length
  | s :: ss, k, _, _, _, .bad h => by rw [List.length_cons]; omega
  | s :: ss, k, _, _, j, .step c e ok ft d w => by
    have := walk_bad w
    rw [List.length_cons]
    omega
theorem log_bad {s : Sh} {j : Nat} (h : LogRes s (.bad j)) : j < 200 := by
  cases s with
  | tup ss =>
    have h' : (if ss.length ≤ 200 then Walkd 0 0 [] ss (.bad j) else LogR.bad j = .none) := h
    by_cases l : ss.length ≤ 200
    · rw [if_pos l] at h'
      have := walk_bad h'
      omega
    · rw [if_neg l] at h'
      cases h'
  | _ => cases h
/-- changes that lead from a graph to another -/
inductive Ledd : Nat → List E2 → List Chg → Nat → List E2 → Prop
  | nil {n : Nat} {es : List E2} : Ledd n es [] n es
  | step {n m l : Nat} {es fs gs : List E2} {c : Chg} {cs : List Chg} (ok : ChgOk c) (ft : fits n es c = true) (d : Done n es c m fs) (w : Ledd m fs cs l gs) : Ledd n es (c :: cs) l gs
theorem Ledd.walk : ∀ {cs : List Chg} {n m k : Nat} {es fs : List E2}, Ledd n es cs m fs → Walkd k n es (cs.map chgS) (.led m fs)
  | [], _, _, _, _, _, .nil => .nil
  | c :: cs, _, _, _, _, _, .step ok ft d w => .step c rfl ok ft d w.walk
theorem Ledd.snoc : ∀ {cs : List Chg} {n m l : Nat} {es fs gs : List E2} {c : Chg}, Ledd n es cs m fs → ChgOk c → fits m fs c = true → Done m fs c l gs → Ledd n es (cs ++ [c]) l gs
  | [], _, _, _, _, _, _, _, .nil, ok, ft, d => .step ok ft d .nil
  | c' :: cs, _, _, _, _, _, _, _, .step ok' ft' d' w, ok, ft, d => .step ok' ft' d' (w.snoc ok ft d)
theorem led_res {cs : List Chg} {n : Nat} {es : List E2} (h : Ledd 0 [] cs n es) (l : cs.length ≤ 200) : LogRes (.tup (cs.map chgS)) (.led n es) := by
  show (if (cs.map chgS).length ≤ 200 then Walkd 0 0 [] (cs.map chgS) (.led n es) else LogR.led n es = .none)
  rw [List.length_map, if_pos l]
  exact h.walk
/-! ### a graph's own log -/
def preds (es : List E2) (v : Nat) : List Nat := (es.filter fun p => decide (p.2 = v)).map (·.1)
theorem asc_ext : ∀ {l m : List Nat}, l.Pairwise (· < ·) → m.Pairwise (· < ·) → (∀ k, k ∈ l ↔ k ∈ m) → l = m
  | [], [], _, _, _ => rfl
  | [], b :: m, _, _, h => absurd ((h b).mpr List.mem_cons_self) (by simp)
  | a :: l, [], _, _, h => absurd ((h a).mp List.mem_cons_self) (by simp)
  | a :: l, b :: m, hl, hm, h => by
    obtain ⟨l1, l2⟩ := List.pairwise_cons.mp hl
    obtain ⟨m1, m2⟩ := List.pairwise_cons.mp hm
    have e : a = b := by
      rcases List.mem_cons.mp ((h a).mp List.mem_cons_self) with e | x
      · exact e
      · rcases List.mem_cons.mp ((h b).mpr List.mem_cons_self) with e | y
        · exact e.symm
        · have := m1 a x
          have := l1 b y
          omega
    subst e
    rw [asc_ext l2 m2 fun k => ⟨fun x => ?_, fun x => ?_⟩]
    · rcases List.mem_cons.mp ((h k).mp (List.mem_cons_of_mem _ x)) with e | y
      · have := l1 k x
        omega
      · exact y
    · rcases List.mem_cons.mp ((h k).mpr (List.mem_cons_of_mem _ x)) with e | y
      · have := m1 k x
        omega
      · exact y
theorem preds_up {n : Nat} {es : List E2} (g : Good n es) (v : Nat) : (preds es v).Pairwise (· < ·) := by
  unfold preds
  rw [List.pairwise_map]
  refine (g.up.filter _).imp_of_mem fun {a b} ha hb h => ?_
  have e1 := of_decide_eq_true (List.mem_filter.mp ha).2
  have e2 := of_decide_eq_true (List.mem_filter.mp hb).2
  rcases h with h | ⟨_, h⟩
  · exact h
  · omega
theorem mem_preds {es : List E2} {v u : Nat} : u ∈ preds es v ↔ (u, v) ∈ es := by
  unfold preds
  rw [List.mem_map]
  constructor
  · rintro ⟨p, hp, rfl⟩
    obtain ⟨h1, h2⟩ := List.mem_filter.mp hp
    have := of_decide_eq_true h2
    rw [← this]
    exact h1
  · intro h
    exact ⟨(u, v), List.mem_filter.mpr ⟨h, decide_eq_true rfl⟩, rfl⟩
theorem preds_eq {n : Nat} {es : List E2} (g : Good n es) (v : Nat) : preds es v = (List.range v).filter fun u => adjB es v u := by
  refine asc_ext (preds_up g v) (List.pairwise_lt_range.filter _) fun u => ?_
  rw [mem_preds, List.mem_filter, List.mem_range]
  unfold adjB
  constructor
  · intro h
    have := (g.lt _ h).1
    refine ⟨this, ?_⟩
    rw [Nat.min_eq_right (by omega), Nat.max_eq_left (by omega)]
    exact decide_eq_true h
  · rintro ⟨h1, h2⟩
    rw [Nat.min_eq_right (by omega), Nat.max_eq_left (by omega)] at h2
    exact of_decide_eq_true h2
def upto (es : List E2) (v : Nat) : List E2 := es.filter fun p => decide (p.2 < v)
theorem own_log {n : Nat} {es : List E2} (g : Good n es) : ∀ v, v ≤ n → Ledd 0 [] ((List.range v).map fun k => Chg.vertex (preds es k)) v (upto es v)
  | 0, _ => by
    have e : upto es 0 = [] := List.filter_eq_nil_iff.mpr fun p _ => by simp
    rw [e]
    exact .nil
  | v + 1, h => by
    have ih := own_log g v (by omega)
    have n9 := g.n9
    rw [List.range_succ, List.map_append]
    have gv : Good v (upto es v) := ⟨by omega, fun p hp => by
      obtain ⟨h1, h2⟩ := List.mem_filter.mp hp
      have := of_decide_eq_true h2
      exact ⟨(g.lt p h1).1, this⟩, g.up.filter _⟩
    refine ih.snoc ⟨fun k hk => ?_, preds_up g v⟩ ?_ ⟨⟨by omega, fun p hp => ?_, g.up.filter _⟩, rfl, fun p => ?_⟩
    · have := (g.lt _ (mem_preds.mp hk)).1
      dsimp only at this
      omega
    · show (decide (v < 9) && (preds es v).all fun k => decide (k < v)) = true
      rw [decide_eq_true (by omega), Bool.true_and, List.all_eq_true]
      exact fun k hk => decide_eq_true (g.lt _ (mem_preds.mp hk)).1
    · obtain ⟨h1, h2⟩ := List.mem_filter.mp hp
      have := of_decide_eq_true h2
      exact ⟨(g.lt p h1).1, this⟩
    · show p ∈ upto es (v + 1) ↔ (p ∈ upto es v ∨ (p.2 = v ∧ p.1 ∈ preds es v))
      unfold upto
      rw [List.mem_filter, List.mem_filter, decide_eq_true_eq, decide_eq_true_eq, mem_preds]
      constructor
      · rintro ⟨h1, h2⟩
        by_cases e : p.2 = v
        · exact .inr ⟨e, by rw [← e]; exact h1⟩
        · exact .inl ⟨h1, by omega⟩
      · rintro (⟨h1, h2⟩ | ⟨h1, h2⟩)
        · exact ⟨h1, by omega⟩
        · exact ⟨by rw [← h1] at h2; exact h2, by omega⟩
theorem upto_all {n : Nat} {es : List E2} (g : Good n es) : upto es n = es := List.filter_eq_self.mpr fun p hp => decide_eq_true (g.lt p hp).2
/-- an own log stands -/
def VertT (H : Hp) (x : V) (l : List Nat) : Prop := ∃ t u, x = .ref t ∧ H t = some (.tup [.str "vertex", .ref u]) ∧ H u = some (.tup (numsN l))
theorem VertT.same {H H' : Hp} (s : Same H H') {x : V} {l : List Nat} (h : VertT H x l) : VertT H' x l := by
  obtain ⟨t, u, rfl, ht, hu⟩ := h
  exact ⟨t, u, rfl, s _ _ ht, s _ _ hu⟩
abbrev VertsT (H : Hp) : List V → List (List Nat) → Prop := Paired (VertT H)
theorem VertsT.same {H H' : Hp} (s : Same H H') : ∀ {xs : List V} {L : List (List Nat)}, VertsT H xs L → VertsT H' xs L
  | _, _, .nil => .nil
  | _, _, .cons a r => .cons (a.same s) (VertsT.same s r)
theorem VertsT.put {H : Hp} {D : Addr} {o : HO} {zs : List V} (hD : H D = some (.lst zs)) : ∀ {xs : List V} {L : List (List Nat)}, VertsT H xs L → VertsT (upd H D o) xs L
  | _, _, .nil => .nil
  | _, _, .cons ⟨t, u, e, h1, h2⟩ b => .cons ⟨t, u, e, by rw [upd_ne (fun z => by rw [z, hD] at h1; cases h1)]; exact h1, by rw [upd_ne (fun z => by rw [z, hD] at h2; cases h2)]; exact h2⟩ (VertsT.put hD b)
theorem VertsT.app {H : Hp} : ∀ {xs ys : List V} {ps qs : List (List Nat)}, VertsT H xs ps → VertsT H ys qs → VertsT H (xs ++ ys) (ps ++ qs)
  | _, _, _, _, .nil, h => h
  | _, _, _, _, .cons a b, h => .cons a (VertsT.app b h)
theorem VertsT.len {H : Hp} : ∀ {xs : List V} {L : List (List Nat)}, VertsT H xs L → xs.length = L.length
  | _, _, .nil => rfl
  | _, _, .cons _ b => congrArg (· + 1) (VertsT.len b)
theorem VertsT.sh {K : PySem.W.Frag} {H : Hp} : ∀ {xs : List V} {L : List (List Nat)}, VertsT H xs L → ShsAt K H xs ((L.map Chg.vertex).map chgS)
  | _, _, .nil => .nil
  | _, _, .cons ⟨t, u, e, h1, h2⟩ b => .cons (ChgAt.sh (c := .vertex _) ⟨t, u, e, SqT.of h1, SqT.of h2⟩) (VertsT.sh b)
end My

set_option maxHeartbeats 8000000
namespace My
open PySem PySem.Spec PyProof.Rows L2
abbrev sLof : Stmt := top 25
theorem scLof : FnScope ["graph", "many", "edges", "lots", "vertex", "lesser", "greater", "lot"] ["graph"] (defScope sLof) := ⟨rfl, rfl, rfl, by decide +kernel, rfl, by decide +kernel, by decide +kernel⟩
def spLof (K : PySem.W.Frag) : Sp := fun vs H Q _ => ∃ (x : V) (n : Nat) (es : List E2), vs = [x] ∧ GraphAt K H x n es ∧ Good n es ∧ ∀ t xs H', Same H H' → H' t = some (.tup xs) → VertsT H' xs ((List.range n).map (preds es)) → Q (.ref t) H'
def LotU (H : Hp) (x : V) (l : List Nat) : Prop := ∃ u, x = .ref u ∧ H u = some (.tup (numsN l))
abbrev LotsU (H : Hp) : List V → List (List Nat) → Prop := Paired (LotU H)
theorem LotsU.same {H H' : Hp} (s : Same H H') : ∀ {xs : List V} {L : List (List Nat)}, LotsU H xs L → LotsU H' xs L
  | _, _, .nil => .nil
  | _, _, .cons ⟨u, e, h⟩ r => .cons ⟨u, e, s _ _ h⟩ (LotsU.same s r)
theorem LotsU.put {H : Hp} {D : Addr} {o : HO} {zs : List V} (hD : H D = some (.lst zs)) : ∀ {xs : List V} {L : List (List Nat)}, LotsU H xs L → LotsU (upd H D o) xs L
  | _, _, .nil => .nil
  | _, _, .cons ⟨u, e, h⟩ b => .cons ⟨u, e, by rw [upd_ne (fun z => by rw [z, hD] at h; cases h)]; exact h⟩ (LotsU.put hD b)
theorem LotsU.app {H : Hp} : ∀ {xs ys : List V} {ps qs : List (List Nat)}, LotsU H xs ps → LotsU H ys qs → LotsU H (xs ++ ys) (ps ++ qs)
  | _, _, _, _, .nil, h => h
  | _, _, _, _, .cons a b, h => .cons a (LotsU.app b h)
theorem LotsU.len {H : Hp} : ∀ {xs : List V} {L : List (List Nat)}, LotsU H xs L → xs.length = L.length
  | _, _, .nil => rfl
  | _, _, .cons _ b => congrArg (· + 1) (LotsU.len b)
theorem LotsU.get {H : Hp} : ∀ {xs : List V} {L : List (List Nat)}, LotsU H xs L → ∀ {i : Nat} {x : V}, xs[i]? = some x → ∃ l, L[i]? = some l ∧ LotU H x l
  | _, _, .nil, i, x, e => by simp at e
  | _, _, .cons a r, 0, x, e => by simp at e; subst e; exact ⟨_, rfl, a⟩
  | _, _, .cons a r, i + 1, x, e => by
    obtain ⟨l, h1, h2⟩ := LotsU.get r (i := i) (x := x) (by simpa using e)
    exact ⟨l, by simpa using h1, h2⟩
theorem ne_of_none' {H : Hp} {a b : Addr} {o : HO} (n : H a = none) (h : H b = some o) : a ≠ b := fun z => by rw [z, h] at n; cases n
theorem dec_natU (a b : Nat) : decide (V.int (a : Int) = V.int (b : Int)) = decide (a = b) := decide_eq_decide.mpr ⟨fun h => by injection h with h; exact Int.ofNat.inj h, fun h => by rw [h]⟩
section
variable {P : Program} {w : World} {K : PySem.W.Frag} {mg : Str → Option Value} {base : Heap} {f fC : Addr} {fd dC : FuncData}
def teLof (K : PySem.W.Frag) : TE := tCB (rTupOf K) (tCons (tLc (iTup K (tVar 2)) (gTup K 2 (gCons (gName 5) (gCons (gName 6) gNil))) (tTest (tOp rEq (tVar 6) (tVar 4))) (tVar 5) [5, 6]) tNil)
theorem ok_lof (F : L2.Fun K "log_of" "log_of" sLof f fd) (GC : FnOk P w K mg base CX0 5 fC dC ["graph"] (spCheckGraph K)) (bC : L2.Binds K dC ["graph"] []) (kC : PySem.W.keepIn K (.ref fC) = true) (mC : mg "check_graph" = some (.ref fC)) (mr : mg "range" = none) (mt : mg "tuple" = none) : FnOk P w K mg base CX0 6 f fd ["graph"] (spLof K) := by
  refine F.ok scLof (fun vs H Q E h => ?_) (fun cdv A outer s0 H vs Q E hr h => ?_)
  · obtain ⟨x, n, es, rfl, _⟩ := h
    rfl
  obtain ⟨x, n, es, rfl, hx, g, q⟩ := h
  refine ⟨_, pss_cons (ps_expr (pe_call GC hr (by rfl) mC kC bC .nil pass0 (pa_cons (pv 0) pa_nil)))
    (pss_cons (ps_asg (pv 0) (pg_tup (by rfl) (pgs_cons (pg_name (i := 1) scLof.nd rfl (.inl rfl)) (pgs_cons (pg_name (i := 2) scLof.nd rfl (.inr rfl)) pgs_nil))))
    (pss_cons (ps_setLc (i := 3) (own := [("vertex", 4)]) (g := gName 4) (tt := tYes) (te := teLof K) rfl scLof.nd rfl rfl (sw_true rfl rfl rfl (by decide +kernel)) (pi_range1 rfl mr (pa_cons (pv 1) pa_nil))
        (blkOk_by (N := ["graph", "many", "edges", "lots", "vertex", "lesser", "greater", "lot"]) (sc := defScope sLof) (by decide +kernel)) (fun _ _ _ _ _ => pg_name (i := 4) scLof.nd rfl (Or.inr rfl)) (fun _ _ _ _ _ => pts_nil)
        (fun _ _ _ _ _ => pe_callTy (r := rTupOf K) call_tuple_of (by rfl) mt (by decide +kernel) (pa_cons (pe_lc (own := [("lesser", 5), ("greater", 6)]) (g := gTup K 2 (gCons (gName 5) (gCons (gName 6) gNil))) (tt := tTest (tOp rEq (tVar 6) (tVar 4))) rfl scLof.nd (pi_tup (pv 2))
          (blkOk_by (N := ["graph", "many", "edges", "lots", "vertex", "lesser", "greater", "lot"]) rfl) (fun _ _ _ _ _ => pg_tup (by rfl) (pgs_cons (pg_name (i := 5) scLof.nd rfl (Or.inl rfl)) (pgs_cons (pg_name (i := 6) scLof.nd rfl (Or.inl rfl)) pgs_nil)))
          (fun _ _ _ _ _ => pts_one (pt_cmpR (r := rEq) op_eq (pv 6) (pv 4) (nomark _))) (fun _ _ _ _ _ => pv 5)) pa_nil)))
    (pss_one (ps_ret (pe_callTy call_tuple_of (by rfl) mt (by decide +kernel) (pa_cons (pe_lc (own := [("lot", 7)]) (g := gName 7) (tt := tYes) rfl scLof.nd (pi_list (pv 3))
        (blkOk_by (N := ["graph", "many", "edges", "lots", "vertex", "lesser", "greater", "lot"]) (sc := defScope sLof) (by decide +kernel)) (fun _ _ _ _ _ => pg_name (i := 7) scLof.nd rfl (Or.inl rfl)) (fun _ _ _ _ _ => pts_nil)
        (fun _ _ _ _ _ => pe_tup (pa_cons pe_str (pa_cons (pv 7) pa_nil)))) pa_nil)))))), ?_⟩
  have two : (2 : Nat) ≤ sizeLine := small (by decide)
  have few := g.few
  have n9 := g.n9
  refine ⟨_, rfl, x, n, es, rfl, hx, g, fun H1 s1 => ?_⟩
  obtain ⟨t, e, xs, rfl, ht, he, hes⟩ := hx.same s1
  have lx := PairsAt.len hes
  refine ⟨_, rfl, t, _, rfl, ht, rfl, _, _, rfl, _, _, rfl, rfl, ?_⟩
  refine ⟨_, rfl, (n : Int), rfl, by omega, by omega, fun R nR => lc_range (lo := 0) (n := ((n : Nat) : Int).toNat) (fun v H3 => Same H1 H3 ∧ ∃ rs, H3 R = some (.lst rs) ∧ LotsU H3 rs ((List.range v).map (preds es))) ⟨same_new nR _, [], upd_same, .nil⟩ ?_ ?_⟩
  · rintro v H3 lv ⟨s3, rs, hR, hrs⟩
    rw [Int.zero_add]
    have lr := hrs.len
    rw [List.length_map, List.length_range] at lr
    refine ⟨rfl, ?_⟩
    refine ⟨_, rfl, e, rfl, ⟨_, Same.tup s3 he⟩, fun B nB => lo_it (walk_tup (xs := xs)) (fun j H4 => Same H3 H4 ∧ H4 B = some (.lst (numsN (((es.take j).filter fun p => decide (p.2 = v)).map (·.1))))) ⟨same_new nB _, upd_same⟩ (fun j H4 _ ⟨s4, _⟩ => Same.tup (s3.trans s4) he) ?_ ?_⟩
    · rintro j y _ H4 lj ⟨s4, hB⟩ ⟨rfl, hy⟩
      obtain ⟨p, hp, r, rfl, hr4⟩ := PairsAt.get (hes.same (s3.trans s4)) hy
      refine ⟨r, _, rfl, hr4, rfl, _, _, rfl, _, _, rfl, rfl, rfl, ?_⟩
      refine ⟨_, rfl, _, rfl, rfl, _, rfl, ?_⟩
      rw [dec_natU]
      refine iteB (fun c => ?_) (fun c => ?_)
      · refine ⟨_, rfl, _, hB, small1000 (by
          rw [numsN_len, List.length_map]
          refine Nat.le_trans (List.length_filter_le _ _) ?_
          rw [List.length_take]
          omega), same_put s4 nB, ?_⟩
        rw [upd_same, take_succ hp, List.filter_append, List.filter_cons_of_pos (p := fun p : E2 => decide (p.2 = v)) c, List.map_append]
        unfold numsN
        rw [List.map_append]
        rfl
      · refine ⟨s4, ?_⟩
        rw [hB, take_succ hp, List.filter_append, List.filter_cons_of_neg (p := fun p : E2 => decide (p.2 = v)) (by rw [c]; decide), List.filter_nil, List.append_nil]
    rintro H4 ⟨s4, hB⟩
    rw [lx, List.take_length] at hB
    refine ⟨B, _, rfl, .inl ⟨SqL.of hB, fun u nu => ?_⟩⟩
    have su := same_new nu (.tup (numsN (preds es v)))
    have hu : upd H4 u (.tup (numsN (preds es v))) u = some (.tup (numsN (preds es v))) := upd_same
    have hR5 := su _ _ (s4 _ _ hR)
    have hrs5 := hrs.same (s4.trans su)
    have uR : u ≠ R := ne_of_none' nu (s4 _ _ hR)
    refine ⟨rs, hR5, small1000 (by omega), same_put (s3.trans (s4.trans su)) nR, _, upd_same, ?_⟩
    rw [List.range_succ, List.map_append]
    exact (hrs5.put hR5).app (.cons ⟨u, rfl, by rw [upd_ne uR]; exact hu⟩ .nil)
  rintro H3 ⟨s3, rs, hR, hrs⟩
  rw [Int.toNat_natCast] at hrs
  have lr := hrs.len
  rw [List.length_map, List.length_range] at lr
  refine ⟨_, rfl, R, rfl, ⟨_, SqL.of hR⟩, fun B nB => lo_it (walk_list (xs := rs)) (fun j H4 => Same H3 H4 ∧ ∃ zs, H4 B = some (.lst zs) ∧ VertsT H4 zs (((List.range n).map (preds es)).take j)) ⟨same_new nB _, [], upd_same, .nil⟩ (fun j H4 _ ⟨s4, _⟩ => SqL.of (s4 _ _ hR)) ?_ ?_⟩
  · rintro j y _ H4 lj ⟨s4, zs, hB, hz⟩ ⟨rfl, hy⟩
    obtain ⟨l, hl, u, rfl, hu⟩ := (hrs.same s4).get hy
    have lz := hz.len
    refine ⟨rfl, ?_⟩
    refine ⟨_, rfl, two, fun o no => ?_⟩
    have so := same_new no (.tup [.str "vertex", .ref u])
    have ho := upd_same (H := H4) (a := o) (o := .tup [.str "vertex", .ref u])
    have hB5 := so _ _ hB
    have hu5 := so _ _ hu
    generalize upd H4 o (.tup [.str "vertex", .ref u]) = H5 at so ho hB5 hu5 ⊢
    refine ⟨zs, hB5, small1000 (by rw [lz, List.length_take, List.length_map, List.length_range]; omega), same_put (s4.trans so) nB, _, upd_same, ?_⟩
    rw [take_succ hl]
    refine ((hz.same so).put hB5).app (.cons ⟨o, u, rfl, ?_, ?_⟩ .nil)
    · rw [upd_ne (fun z => by rw [z, hB5] at ho; cases ho)]
      exact ho
    · rw [upd_ne (fun z => by rw [z, hB5] at hu5; cases hu5)]
      exact hu5
  rintro H4 ⟨s4, zs, hB, hz⟩
  rw [List.take_of_length_le (by rw [List.length_map, List.length_range]; omega)] at hz
  refine ⟨B, zs, rfl, .inl ⟨SqL.of hB, fun o no => ?_⟩⟩
  have so := same_new no (.tup zs)
  have z := q o zs _ (s1.trans (s3.trans (s4.trans so))) upd_same
  exact z (hz.same so)
end
end My

set_option maxHeartbeats 8000000
namespace My
open PySem PySem.Spec PyProof.Rows L2
abbrev sDrw : Stmt := top 41
theorem scDrw : FnScope ["pot", "many", "graph", "log", "turn", "change"] ["pot", "many"] (defScope sDrw) := ⟨rfl, rfl, rfl, by decide +kernel, rfl, by decide +kernel, by decide +kernel⟩
abbrev ChgsAt (K : PySem.W.Frag) (H : Hp) : List V → List Chg → Prop := Paired (ChgAt K H)
theorem ChgsAt.kp {K : PySem.W.Frag} {H H' : Hp} (e : Kp K H H') : ∀ {xs : List V} {cs : List Chg}, ChgsAt K H xs cs → ChgsAt K H' xs cs
  | _, _, .nil => .nil
  | _, _, .cons a r => .cons (a.kp e) (ChgsAt.kp e r)
theorem ChgsAt.app {K : PySem.W.Frag} {H : Hp} : ∀ {xs ys : List V} {ps qs : List Chg}, ChgsAt K H xs ps → ChgsAt K H ys qs → ChgsAt K H (xs ++ ys) (ps ++ qs)
  | _, _, _, _, .nil, h => h
  | _, _, _, _, .cons a b, h => .cons a (ChgsAt.app b h)
theorem ChgsAt.len {K : PySem.W.Frag} {H : Hp} : ∀ {xs : List V} {cs : List Chg}, ChgsAt K H xs cs → xs.length = cs.length
  | _, _, .nil => rfl
  | _, _, .cons _ b => congrArg (· + 1) (ChgsAt.len b)
theorem ChgsAt.sh {K : PySem.W.Frag} {H : Hp} : ∀ {xs : List V} {cs : List Chg}, ChgsAt K H xs cs → ShsAt K H xs (cs.map chgS)
  | _, _, .nil => .nil
  | _, _, .cons a b => .cons a.sh (ChgsAt.sh b)
theorem Kp.putD {K : PySem.W.Frag} {H : Hp} {T : Addr} {zs ws : List V} (h : H T = some (.lst zs)) : Kp K H (upd H T (.lst ws)) := by
  refine ⟨fun t xs hx => (TS.put h).tup hx, fun a xs hx => ?_, fun a kvs hx => ?_⟩
  · rcases hx with (hx | ⟨o, hx⟩) | hx
    · by_cases e : a = T
      · subst e
        exact ⟨ws, SqL.of upd_same⟩
      · exact ⟨xs, SqL.of (by rw [upd_ne e]; exact hx)⟩
    · by_cases e : a = T
      · subst e
        rw [h] at hx
        cases hx
      · exact ⟨xs, .inl (.inr ⟨o, by rw [upd_ne e]; exact hx⟩)⟩
    · exact ⟨xs, .inr hx⟩
  · by_cases e : a = T
    · subst e
      rw [h] at hx
      cases hx
    · rw [upd_ne e]
      exact hx
theorem GraphT.putD {H : Hp} {D : Addr} {o : HO} {zs : List V} (hD : H D = some (.lst zs)) {x : V} {n : Nat} {es : List E2} (h : GraphT H x n es) : GraphT (upd H D o) x n es := by
  obtain ⟨t, e, xs, rfl, ht, he, hp⟩ := h
  exact ⟨t, e, xs, rfl, by rw [upd_ne (fun z => by rw [z, hD] at ht; cases ht)]; exact ht, by rw [upd_ne (fun z => by rw [z, hD] at he; cases he)]; exact he, hp.put hD⟩
def spDrw (K : PySem.W.Frag) : Sp := fun vs H Q _ => ∃ (p : Addr) (many : Nat), vs = [.ref p, .int (many : Int)] ∧ Wl H p ∧ many ≤ 201 ∧ ∀ (t T : Addr) xs cs y n es H', But p H H' → Wl H' p → H' t = some (.tup [.ref T, y]) → H' T = some (.tup xs) → ChgsAt K H' xs cs → Ledd 0 [] cs n es → cs.length = many → GraphT H' y n es → Good n es → Q (.ref t) H'
section
variable {P : Program} {w : World} {K : PySem.W.Frag} {mg : Str → Option Value} {base : Heap} {f fC fF fD : Addr} {fd dC dF dD : FuncData}
theorem ok_drw (F : L2.Fun K "_law_drawn" "_law_drawn" sDrw f fd)
    (GC : FnOk P w K mg base CX0 3 fC dC ["pot", "graph"] (spLChange K)) (bC : L2.Binds K dC ["pot", "graph"] []) (kC : PySem.W.keepIn K (.ref fC) = true) (mC : mg "_law_change" = some (.ref fC))
    (GF : FnOk P w K mg base CX0 3 fF dF ["graph", "change"] (spLFit K)) (bF : L2.Binds K dF ["graph", "change"] []) (kF : PySem.W.keepIn K (.ref fF) = true) (mF : mg "_law_fits" = some (.ref fF))
    (GD : FnOk P w K mg base CX0 3 fD dD ["graph", "change"] (spLDone K)) (bD : L2.Binds K dD ["graph", "change"] []) (kD : PySem.W.keepIn K (.ref fD) = true) (mD : mg "_law_done" = some (.ref fD))
    (mt : mg "tuple" = none) (mr : mg "range" = none) : FnOk P w K mg base CX0 4 f fd ["pot", "many"] (spDrw K) := by
  refine F.ok scDrw (fun vs H Q E h => ?_) (fun cdv A outer s0 H vs Q E hr h => ?_)
  · obtain ⟨p, many, rfl, _⟩ := h
    rfl
  obtain ⟨p, many, rfl, hW, m201, q⟩ := h
  refine ⟨_, pss_cons (ps_par (by rfl) scDrw.nd (i := 2) (j := 3) rfl rfl (by decide) rfl rfl (pa_cons (pe_tup (pa_cons pe_int (pa_cons (pe_tup pa_nil) pa_nil))) (pa_cons (pe_lst pa_nil) pa_nil)) (by rfl))
    (pss_cons (ps_for PassesOwn.never rfl (pi_range1 rfl mr (pa_cons (pv 1) pa_nil)) (pg_name (i := 4) scDrw.nd rfl (.inl rfl))
      (pss_cons (ps_set (i := 5) scDrw.nd rfl (.inl rfl) (pe_call GC hr (by rfl) mC kC bC .nil pass0 (pa_cons (pv 0) (pa_cons (pv 2) pa_nil))))
      (pss_cons (ps_if (pt_not (pt_val (pe_call GF hr (by rfl) mF kF bF .nil pass0 (pa_cons (pv 2) (pa_cons (pv 5) pa_nil)))))
        (pss_one (ps_set (i := 5) scDrw.nd rfl (.inl rfl) (pe_ifExp (pt_cmpR op_gt (pe_ix (r := rIxT K) ix_tup (pv 2) pe_int (fun _ _ => rfl)) pe_int (nomark _)) (pe_tup (pa_cons pe_str (pa_cons pe_int pa_nil))) (pe_tup (pa_cons pe_str (pa_cons (pe_tup pa_nil) pa_nil)))))) pss_nil)
      (pss_cons (ps_expr (pe_bm PySem.F.plainAttrs_list PySem.F.slot_list_append PySem.F.type_list_append mt_append (pv 3) (pa_cons (pv 5) pa_nil)))
      (pss_one (ps_set (i := 2) scDrw.nd rfl (.inl rfl) (pe_call GD hr (by rfl) mD kD bD .nil pass0 (pa_cons (pv 2) (pa_cons (pv 5) pa_nil)))))))))
    (pss_one (ps_ret (pe_tup (pa_cons (pe_callTy call_tuple_of (by rfl) mt (by decide +kernel) (pa_cons (pv 3) pa_nil)) (pa_cons (pv 2) pa_nil)))))), ?_⟩
  have two : (2 : Nat) ≤ sizeLine := small (by decide)
  refine ⟨small (by decide), fun e ne => ⟨two, fun g0 ng => ⟨small (by decide), fun L nL => ⟨_, _, rfl, ?_⟩⟩⟩⟩
  have se := same_new ne (.tup [])
  have he := upd_same (H := H) (a := e) (o := .tup [])
  generalize upd H e (.tup []) = H0 at se he ng nL ⊢
  have sg := same_new ng (.tup [.int 0, .ref e])
  have hg := upd_same (H := H0) (a := g0) (o := .tup [.int 0, .ref e])
  have he1 := sg _ _ he
  generalize upd H0 g0 (.tup [.int 0, .ref e]) = H1 at sg hg he1 nL ⊢
  have s01 := se.trans sg
  have w1 := hW.same s01
  have sL := same_new nL (.lst [])
  have hL := upd_same (H := H1) (a := L) (o := .lst [])
  have Lp := w1.ne nL
  have w2 := w1.same sL
  have nLH : H L = none := s01.free nL
  have hy0 : GraphT (upd H1 L (.lst [])) (.ref g0) 0 [] := ⟨g0, e, [], rfl, sL _ _ hg, sL _ _ he1, .nil⟩
  have B2 : But p H (upd H1 L (.lst [])) := But.of (s01.trans sL)
  generalize upd H1 L (.lst []) = H2 at sL hL w2 hy0 B2 ⊢
  refine ⟨_, rfl, (many : Int), rfl, by omega, by omega, for_range (lo := 0) (n := ((many : Nat) : Int).toNat) (fun i σ H' => ∃ (y : V) (n : Nat) (es : List E2) (xs : List V) (cs : List Chg) (s4 s5 : Option V), σ = [some (.ref p), some (.int (many : Int)), some y, some (.ref L), s4, s5] ∧ But p H H' ∧ Wl H' p ∧ GraphT H' y n es ∧ Good n es ∧ Ledd 0 [] cs n es ∧ cs.length = i ∧ H' L = some (.lst xs) ∧ ChgsAt K H' xs cs)
    ⟨.ref g0, 0, [], [], [], none, none, rfl, B2, w2, hy0, good0, .nil, rfl, hL, .nil⟩ ?_ ?_⟩
  rotate_left 1
  · rintro σ H3 ⟨y, n, es, xs, cs, s4, s5, rfl, b3, w3, hy, g, le, lc, hL3, hc⟩
    rw [Int.toNat_natCast] at lc
    refine ⟨_, rfl, L, xs, rfl, .inl ⟨SqL.of hL3, fun T nT => ⟨_, rfl, two, fun t nt => ?_⟩⟩⟩
    have sT := same_new nT (.tup xs)
    have st := same_new nt (.tup [.ref T, y])
    have s35 := sT.trans st
    exact q t T xs cs y n es _ (b3.trans (But.of s35)) (w3.same s35) upd_same (st _ _ upd_same) (hc.kp (Kp.of s35)) le lc (hy.same s35) g
  rintro i σ H3 li ⟨y, n, es, xs, cs, s4, s5, rfl, b3, w3, hy, g, le, lc, hL3, hc⟩
  rw [Int.toNat_natCast] at li
  have lx := hc.len
  refine ⟨_, rfl, _, rfl, p, y, n, es, rfl, w3, hy, g, fun c ch H4 b4 w4 hch ok => ?_⟩
  have hy4 := hy.but b4 w3
  have hL4 := b4 _ _ Lp hL3
  have hc4 := hc.kp (Kp.but b4 w3 w4)
  have b04 := b3.trans b4
  refine ⟨_, rfl, _, rfl, y, c, n, es, ch, rfl, hy4.at, g, hch, ok, fun H5 s5' => ⟨_, rfl, ?_⟩⟩
  have hy5 := hy4.same s5'
  have hL5 := s5' _ _ hL4
  have hc5 := hc4.kp (Kp.of s5')
  have w5 := w4.same s5'
  have b05 := b04.trans (But.of s5')
  -- the change that is put in
  refine' joinT (R := fun σ H' => ∃ (c : V) (ch : Chg) (s4 : Option V), σ = [some (.ref p), some (.int (many : Int)), some y, some (.ref L), s4, some c] ∧ Same H5 H' ∧ ChgAt K H' c ch ∧ ChgOk ch ∧ fits n es ch = true) (fun go => ?_) ?_
  rotate_left 1
  · refine iteB (fun c1 => ?_) (fun c1 => ?_)
    · obtain ⟨t, e, ws, rfl, ht, he, hp⟩ := id hy5
      refine ⟨_, rfl, t, _, 0, _, rfl, rfl, SqT.of ht, rfl, _, _, rfl, rfl, _, rfl, iteB (fun c2 => ?_) (fun c2 => ?_)⟩
      · refine ⟨two, fun o no => go _ _ ⟨.ref o, .out 0, _, rfl, same_new no _, ⟨o, rfl, SqT.of upd_same⟩, Nat.zero_le _, ?_⟩⟩
        have := of_decide_eq_true c2
        exact decide_eq_true (by omega)
      · refine ⟨small (by decide), fun u nu => ⟨two, fun o no => go _ _ ⟨.ref o, .vertex [], _, rfl, (same_new nu _).trans (same_new no _), ⟨o, u, rfl, SqT.of upd_same, SqT.of ((same_new no _) _ _ upd_same)⟩, ⟨(fun _ z => nomatch z), List.Pairwise.nil⟩, ?_⟩⟩⟩
        have := of_decide_eq_false c2
        show (decide (n < 9) && ([] : List Nat).all fun k => decide (k < n)) = true
        rw [decide_eq_true (by omega)]
        rfl
    · exact go _ _ ⟨c, ch, _, rfl, Same.refl _, hch.same s5', ok, by simpa using c1⟩
  rintro σ H6 ⟨c, ch, s4, rfl, s6, hch, ok, ft⟩
  have hL6 := s6 _ _ hL5
  have hy6 := hy5.same s6
  have hc6 := hc5.kp (Kp.of s6)
  have w6 := w5.same s6
  have b06 := b05.trans (But.of s6)
  refine ⟨_, rfl, .inl ⟨rfl, _, SqL.of hL6⟩, _, rfl, L, xs, _, rfl, rfl, hL6, small1000 (by omega), ?_⟩
  have kp := Kp.putD (K := K) (ws := xs ++ [c]) hL6
  have hy7 := hy6.putD (o := .lst (xs ++ [c])) hL6
  have hch7 := hch.kp kp
  have hc7 := (hc6.kp kp).app (.cons hch7 .nil : ChgsAt K _ [c] [ch])
  have w7 := w6.put (o := .lst (xs ++ [c])) Lp
  have b07 := but_put (o := .lst (xs ++ [c])) b06 nLH
  have hL7 := upd_same (H := H6) (a := L) (o := .lst (xs ++ [c]))
  generalize upd H6 L (.lst (xs ++ [c])) = H7 at hy7 hch7 hc7 w7 b07 hL7 ⊢
  refine ⟨_, rfl, _, rfl, y, c, n, es, ch, rfl, hy7.gm, g, hch7, ok, ft, fun z m fs H8 s8 hz d => ?_⟩
  exact ⟨z, m, fs, xs ++ [c], cs ++ [ch], _, _, rfl, b07.trans (But.of s8), w7.same s8, hz, d.good, le.snoc ok ft d, by rw [List.length_append, List.length_singleton, lc], s8 _ _ hL7, hc7.kp (Kp.of s8)⟩
end
end My

set_option maxHeartbeats 4000000
/-! f(name=e) of a def that may raise; isinstance(e, C) in an except suite, e with an own dict. -/
namespace My
open PySem PySem.Spec PyProof.Rows L2
section
variable {X : Cx} {CX : CXT} {k : Nat} {f : Addr} {fd : FuncData} {sp : Sp} {E : L2.St → XK} {x fld : Str} {p pos : Pos} {tk : TA}
theorem pe_kw1 (F : FnOk X.prog X.w X.K X.mg X.base CX k f fd [fld] sp) (hr : Room k X.A) (hg : Gl X x) (hm : X.mg x = some (.ref f)) (hk : PySem.W.keepIn X.K (.ref f) = true) (hb : ∀ (s : Shared) (u : Value), BindsTo s fd ⟨[], [(fld, u)]⟩ ([fld].zip [u])) (hx : ∀ σ, PassesAt CX X σ (E σ))
    {kws : List Keyword} (hkw : PK X kws tk) (hall : (backToKw pos (keywordEach kws X.env)).all (·.1.isSome) = true := by rfl) (hks : (backToKw pos (keywordEach kws X.env)).filterMap (·.1) = [fld] := by rfl)
    (hdb : (x == ("__debug__" : Str)) = false := by decide) (hpl : ((backTo pos (starEach [] X.env)).any (·.1) || (backToKw pos (keywordEach kws X.env)).any (·.1.isNone)) = false := by rfl) :
    PE X (.Call (.Name x p) [] kws pos) (tCallS sp E tk) := by
  refine ⟨?_⟩
  intro pins s σ H Q I h
  refine wpAny_Call_Name_kw (ld_glob I hg hm ?_ hdb)
  refine PySem.W.callWith_KW0 (h₀ := X.base) I.ok.mod.kin hk hall (thn (hkw.run pos pins s σ H _ I h) ?_) hpl
  rintro us s1 ⟨vs, H1, I1, r, q1⟩
  refine ⟨I1.kIn, ?_⟩
  rw [hks]
  have hl : us.length = 1 := by rw [← r.length]; exact F.len _ _ _ _ q1
  obtain ⟨u, rfl⟩ : ∃ u, us = [u] := by
    match us, hl with
    | [u], _ => exact ⟨u, rfl⟩
  refine wpAny_call (codeAny_mono (F.run X.A X.stack s1 H1 ⟨[], [(fld, u)]⟩ [u] vs Q (E σ) hr I1.env0 (hb _ _) r q1) fun r s' hq => ?_)
  cases r with
  | error e => exact hx σ pins H1 s1 e s' I1 hq
  | ok fl =>
    cases fl with
    | ret u => exact I1.after hq
    | next => exact False.elim hq
    | brk => exact False.elim hq
    | cont => exact False.elim hq
theorem passAt0 {X : Cx} {σ : L2.St} {E : XK} : PassesAt CX0 X σ E := fun _ _ _ _ _ _ h => h.elim
end
def rIsF (K : PySem.W.Frag) (a : Addr) (cls : Value) (d : Option Addr) : List V → Hp → VK → Prop := fun xs H Q => ∃ (C dd : Addr) (c : V) (u : Value) (b : Bool) (fs : List (Str × V)), xs = [.ref a, c] ∧ ClsV c u ∧ cls = .ref C ∧ d = some dd ∧ H dd = some (.xd fs) ∧ XIs K C ∧ PySem.W.kitOne K (.ref C) u = some b ∧ Q (.bl b) H
theorem call_isF {X : Cx} {a : Addr} {oe : Obj} {cls : Value} {d : Option Addr} {pn : List (Addr × Obj)} (hz : Zc cls d oe) (hf : ∃ vs, oe.data = .fields vs) : CallR (X.suite a ((a, oe) :: pn)) (.builtin "isinstance") (rIsF X.K a cls d) := by
  rintro pins s σ H xs us Q I r ⟨C, dd, c, u, b, fs, rfl, cv, rfl, rfl, ea, T, kit, q⟩
  obtain ⟨u1, u2, rfl, r1, r2⟩ := vals2 r
  obtain rfl : u2 = u := cv.eq r2
  obtain rfl : u1 = Value.ref a := r1
  obtain ⟨ha, _⟩ := I.pin (a, oe) (List.mem_append_left _ List.mem_cons_self)
  obtain ⟨vs, hd⟩ := hf
  have hx : ObjOk X.prog X.w H s.heap dd (.xd fs) := I.hok dd _ ea
  obtain ⟨mA, hns, hr⟩ := hx
  obtain ⟨od, ho, hl⟩ := lookIn_ns hns
  have J : PySem.W.InstAt s.heap a oe C (some od) := by
    refine ⟨ha, hz.1, ?_, ?_⟩
    · unfold PySem.W.notCls
      rw [hd]
    · rw [hz.2]
      exact ho
  exact PySem.W.kia_one (PySem.W.kitx_exc T.cl T.xf.ga T.xf.gg T.xf.exC T.ha T.hn T.ht T.hm) I.kIn J kit (fun z => nomatch z) fun tk => ⟨.bl b, H, I.tok tk, rfl, q⟩
end My

set_option maxHeartbeats 4000000
namespace My
open PySem PySem.Spec PyProof.Rows L2
/-- f(a=.., b=..), the other way round than f's parameters -/
def tKw2 (sp : Sp) (E : L2.St → XK) (t : TA) : TE := fun σ H Q => t σ H fun vs H1 => ∃ a b, vs = [a, b] ∧ sp [b, a] H1 Q (E σ)
section
variable {X : Cx} {CX : CXT} {k : Nat} {f : Addr} {fd : FuncData} {sp : Sp} {E : L2.St → XK} {x f1 f2 : Str} {p pos : Pos} {tk : TA}
theorem pe_kw2 (F : FnOk X.prog X.w X.K X.mg X.base CX k f fd [f1, f2] sp) (hr : Room k X.A) (hg : Gl X x) (hm : X.mg x = some (.ref f)) (hk : PySem.W.keepIn X.K (.ref f) = true) (hb : ∀ (s : Shared) (u v : Value), BindsTo s fd ⟨[], [(f2, u), (f1, v)]⟩ ([f1, f2].zip [v, u])) (hx : ∀ σ, PassesAt CX X σ (E σ))
    {kws : List Keyword} (hkw : PK X kws tk) (hall : (backToKw pos (keywordEach kws X.env)).all (·.1.isSome) = true := by rfl) (hks : (backToKw pos (keywordEach kws X.env)).filterMap (·.1) = [f2, f1] := by rfl)
    (hdb : (x == ("__debug__" : Str)) = false := by decide) (hpl : ((backTo pos (starEach [] X.env)).any (·.1) || (backToKw pos (keywordEach kws X.env)).any (·.1.isNone)) = false := by rfl) :
    PE X (.Call (.Name x p) [] kws pos) (tKw2 sp E tk) := by
  refine ⟨?_⟩
  intro pins s σ H Q I h
  refine wpAny_Call_Name_kw (ld_glob I hg hm ?_ hdb)
  refine PySem.W.callWith_KW0 (h₀ := X.base) I.ok.mod.kin hk hall (thn (hkw.run pos pins s σ H _ I h) ?_) hpl
  rintro us s1 ⟨vs, H1, I1, r, a, b, rfl, q1⟩
  refine ⟨I1.kIn, ?_⟩
  rw [hks]
  obtain ⟨u, v, rfl, ru, rv⟩ := vals2 r
  refine wpAny_call (codeAny_mono (F.run X.A X.stack s1 H1 ⟨[], [(f2, u), (f1, v)]⟩ [v, u] [b, a] Q (E σ) hr I1.env0 (hb _ _ _) (.cons rv (.cons ru .nil)) q1) fun r s' hq => ?_)
  cases r with
  | error e => exact hx σ pins H1 s1 e s' I1 hq
  | ok fl =>
    cases fl with
    | ret u => exact I1.after hq
    | next => exact False.elim hq
    | brk => exact False.elim hq
    | cont => exact False.elim hq
end
end My

set_option maxHeartbeats 4000000
/-! Logs and what comes of them, as data. -/
namespace My
open PySem PySem.Spec PyProof.Rows L2
def vertD (l : List Nat) : PyData := .tuple [.str "vertex", .tuple (numsD l)]
def logD (L : List (List Nat)) : PyData := .tuple (L.map vertD)
theorem VertT.dp {K : PySem.W.Frag} {H : Hp} {x : V} {l : List Nat} (h : VertT H x l) : Dp K H x (vertD l) := by
  obtain ⟨t, u, rfl, ht, hu⟩ := h
  exact .tup (SqT.of ht) (.cons (.str _) (.cons (.tup (SqT.of hu) (numsD_dp l)) .nil))
theorem VertsT.dp {K : PySem.W.Frag} {H : Hp} : ∀ {xs : List V} {L : List (List Nat)}, VertsT H xs L → DpAll K H xs (L.map vertD)
  | _, _, .nil => .nil
  | _, _, .cons a r => .cons a.dp (VertsT.dp r)
theorem nums_fine : ∀ {l : List Nat}, (∀ k ∈ l, k ≤ 9) → ((PyData.shownAll (numsD l)).map (·.length)).sum ≤ l.length ∧ (PyData.shownAll (numsD l)).length = l.length ∧ PyData.showableAll (numsD l) = true ∧ PyData.hasDictAll (numsD l) = false ∧ PyData.depthAll (numsD l) ≤ 1
  | [], _ => ⟨by simp [numsD, PyData.shownAll], by simp [numsD, PyData.shownAll], by simp [numsD, PyData.showableAll], by simp [numsD, PyData.hasDictAll], by simp [numsD, PyData.depthAll]⟩
  | k :: l, h => by
    obtain ⟨h1, h2, h3, h4, h5⟩ := nums_fine (l := l) fun j hj => h j (List.mem_cons_of_mem _ hj)
    obtain ⟨f1, f2⟩ := num_fine k (h k List.mem_cons_self)
    have e : numsD (k :: l) = .int ((k : Nat) : Int) :: numsD l := rfl
    rw [e]
    simp only [PyData.shownAll, PyData.showableAll, PyData.hasDictAll, PyData.depthAll, PyData.hasDict, PyData.depth, List.map_cons, List.sum_cons, List.length_cons]
    refine ⟨by omega, by omega, ?_, ?_, by omega⟩
    · rw [f2, h3]
      rfl
    · rw [h4]
      rfl
theorem vert_fine {l : List Nat} (h : ∀ k ∈ l, k ≤ 9) (l9 : l.length ≤ 9) : (vertD l).shown.length ≤ 45 ∧ (vertD l).showable = true ∧ (vertD l).hasDict = false ∧ (vertD l).depth ≤ 3 := by
  obtain ⟨h1, h2, h3, h4, h5⟩ := nums_fine h
  have c : (reprText "vertex").length = 8 := by decide +kernel
  have t1 := tup_len (PyData.shownAll (numsD l))
  have t2 := tup_len [reprText "vertex", tupleText (PyData.shownAll (numsD l))]
  unfold vertD
  refine ⟨?_, ?_, ?_, ?_⟩
  · have e : (PyData.tuple [.str "vertex", .tuple (numsD l)]).shown = tupleText [reprText "vertex", tupleText (PyData.shownAll (numsD l))] := by simp [PyData.shown, PyData.shownAll]
    rw [e]
    simp only [List.map_cons, List.map_nil, List.sum_cons, List.sum_nil, List.length_cons, List.length_nil] at t2
    omega
  · simp [PyData.showable, PyData.showableAll, h3]
  · simp [PyData.hasDict, PyData.hasDictAll, h4]
  · simp only [PyData.depth, PyData.depthAll]
    omega
theorem verts_fine : ∀ {L : List (List Nat)}, (∀ l ∈ L, (∀ k ∈ l, k ≤ 9) ∧ l.length ≤ 9) → ((PyData.shownAll (L.map vertD)).map (·.length)).sum ≤ 45 * L.length ∧ (PyData.shownAll (L.map vertD)).length = L.length ∧ PyData.showableAll (L.map vertD) = true ∧ PyData.hasDictAll (L.map vertD) = false ∧ PyData.depthAll (L.map vertD) ≤ 3
  | [], _ => ⟨by simp [PyData.shownAll], by simp [PyData.shownAll], by simp [PyData.showableAll], by simp [PyData.hasDictAll], by simp [PyData.depthAll]⟩
  | l :: L, h => by
    obtain ⟨h1, h2, h3, h4, h5⟩ := verts_fine (L := L) fun j hj => h j (List.mem_cons_of_mem _ hj)
    obtain ⟨a1, a2⟩ := h l List.mem_cons_self
    obtain ⟨f1, f2, f3, f4⟩ := vert_fine a1 a2
    rw [List.map_cons]
    simp only [PyData.shownAll, PyData.showableAll, PyData.hasDictAll, PyData.depthAll, List.map_cons, List.sum_cons, List.length_cons]
    refine ⟨by omega, by omega, ?_, ?_, by omega⟩
    · rw [f2, h3]
      rfl
    · rw [f3, h4]
      rfl
def logsD (L : List (List Nat)) : PyData := .list [logD L, logD L]
theorem logs_fine {L : List (List Nat)} (h : ∀ l ∈ L, (∀ k ∈ l, k ≤ 9) ∧ l.length ≤ 9) (l9 : L.length ≤ 9) : Fine (logsD L) ∧ (logsD L).hasDict = false := by
  obtain ⟨h1, h2, h3, h4, h5⟩ := verts_fine h
  have t1 := tup_len (PyData.shownAll (L.map vertD))
  have t2 := lst_len [tupleText (PyData.shownAll (L.map vertD)), tupleText (PyData.shownAll (L.map vertD))]
  refine ⟨⟨?_, ?_, ?_⟩, ?_⟩
  · simp [logsD, logD, PyData.showable, PyData.showableAll, h3]
  · simp only [logsD, logD, PyData.depth, PyData.depthAll]
    omega
  · have e : (logsD L).shown = listText [tupleText (PyData.shownAll (L.map vertD)), tupleText (PyData.shownAll (L.map vertD))] := by simp [logsD, logD, PyData.shown, PyData.shownAll]
    rw [e]
    simp only [List.map_cons, List.map_nil, List.sum_cons, List.sum_nil, List.length_cons, List.length_nil] at t2
    exact Nat.le_trans t2 (small (by omega))
  · simp [logsD, logD, PyData.hasDict, PyData.hasDictAll, h4]
theorem logs_dd {K : PySem.W.Frag} {H : Hp} {F a b : Addr} {xs ys : List V} {L : List (List Nat)} (hF : H F = some (.lst [.ref a, .ref b])) (ha : H a = some (.tup xs)) (hb : H b = some (.tup ys)) (hx : VertsT H xs L) (hy : VertsT H ys L) (nd : (logsD L).hasDict = false) : Dd K H (.ref F) (logsD L) :=
  .dat (.lst (SqL.of hF) (.cons (.tup (SqT.of ha) hx.dp) (.cons (.tup (SqT.of hb) hy.dp) .nil))) nd
/-! ### what comes of a log -/
def resD : LogR → PyData
  | .none => .list [.str "log", .none]
  | .bad k => .list [.str "log", .int ((k : Nat) : Int)]
  | .led n es => .list [.str "graph", graphD n es]
theorem res_bad_fine : ∀ k, k ≤ 200 → Fine (resD (.bad k)) ∧ (resD (.bad k)).hasDict = false := by decide +kernel
theorem res_none_fine : Fine (resD .none) ∧ (resD .none).hasDict = false := by decide +kernel
theorem pairs_nodicts : ∀ es : List E2, PyData.hasDictAll (es.map pairD) = false
  | [] => by rw [List.map_nil]; simp [PyData.hasDictAll]
  | p :: r => by rw [List.map_cons]; simp [PyData.hasDictAll, pairD, PyData.hasDict, pairs_nodicts r]
theorem res_led_fine {n : Nat} {es : List E2} (g : Good n es) : Fine (resD (.led n es)) ∧ (resD (.led n es)).hasDict = false := by
  obtain ⟨h1, h2, h3⟩ := graph_fine g
  have c : (reprText "graph").length = 7 := by decide +kernel
  have t := lst_len [reprText "graph", (graphD n es).shown]
  refine ⟨⟨?_, ?_, ?_⟩, ?_⟩
  · simp [resD, PyData.showable, PyData.showableAll, h2]
  · simp only [resD, PyData.depth, PyData.depthAll]
    omega
  · have e : (resD (.led n es)).shown = listText [reprText "graph", (graphD n es).shown] := by simp [resD, PyData.shown, PyData.shownAll]
    rw [e]
    simp only [List.map_cons, List.map_nil, List.sum_cons, List.sum_nil, List.length_cons, List.length_nil] at t
    exact Nat.le_trans t (small (by omega))
  · simp [resD, graphD, PyData.hasDict, PyData.hasDictAll, pairs_nodicts es]
theorem one_graph_fine {n : Nat} {es : List E2} (g : Good n es) : Fine (graphD n es) ∧ (graphD n es).hasDict = false := by
  obtain ⟨h1, h2, h3⟩ := graph_fine g
  exact ⟨⟨h2, by omega, Nat.le_trans h1 (small (by decide))⟩, by simp [graphD, PyData.hasDict, PyData.hasDictAll, pairs_nodicts es]⟩
end My

set_option maxHeartbeats 16000000
namespace My
open PySem PySem.Spec PyProof.Rows L2
abbrev sRight : Stmt := top 44
theorem scRight : FnScope ["pot", "many", "log", "graph", "at", "odd", "thing", "rows", "due", "one", "two"] ["pot"] (defScope sRight) := ⟨rfl, rfl, rfl, by decide +kernel, rfl, by decide +kernel, by decide +kernel⟩
def spRight : Sp := fun vs H Q _ => ∃ p : Addr, vs = [.ref p] ∧ Wl H p ∧ ∀ H', But p H H' → Q (.bl true) H'
theorem passE {X : Cx} {σ : L2.St} : PassesAt (L2.CX X.prog X.w) X σ E0 := fun pins H s e s' I c => by
  obtain ⟨_, _, _, _, _, _, _, _, _, _, _, _, h⟩ := c
  exact False.elim h
theorem res_dd {K : PySem.W.Frag} {H : Hp} {l : Addr} : ∀ {r : LogR}, ResAt K H l r → (resD r).hasDict = false → Dd K H (.ref l) (resD r)
  | .none, h, nd => .dat (.lst (SqL.of h) (.cons (.str _) (.cons .non .nil))) nd
  | .bad k, h, nd => .dat (.lst (SqL.of h) (.cons (.str _) (.cons (.int _) .nil))) nd
  | .led n es, ⟨y, h, hy, _⟩, nd => .dat (.lst (SqL.of h) (.cons (.str _) (.cons hy.at.dp .nil))) nd
theorem res_fine {K : PySem.W.Frag} {H : Hp} {l : Addr} {s : Sh} : ∀ {r : LogR}, LogRes s r → ResAt K H l r → Fine (resD r) ∧ (resD r).hasDict = false
  | .none, _, _ => res_none_fine
  | .bad k, h, _ => res_bad_fine k (by have := log_bad h; omega)
  | .led n es, _, ⟨y, _, _, g⟩ => res_led_fine g
theorem lb_chg {c : Chg} (ok : ChgOk c) : Lb (chgS c) := by
  cases c with
  | vertex l =>
    have := LotOk.few (n := 9) ⟨ok.1, ok.2⟩
    refine .tup (by simp) fun z hz => ?_
    simp only [List.mem_cons, List.mem_nil_iff, or_false] at hz
    rcases hz with rfl | rfl
    · exact .str _
    · refine .tup (by rw [List.length_map]; omega) fun z hz => ?_
      obtain ⟨k, _, rfl⟩ := List.mem_map.mp hz
      exact .int _
  | out a =>
    refine .tup (by simp) fun z hz => ?_
    simp only [List.mem_cons, List.mem_nil_iff, or_false] at hz
    rcases hz with rfl | rfl
    · exact .str _
    · exact .int _
  | two c a b =>
    refine .tup (by simp) fun z hz => ?_
    simp only [List.mem_cons, List.mem_nil_iff, or_false] at hz
    rcases hz with rfl | rfl | rfl
    · exact .str _
    · exact .int _
    · exact .int _
theorem Ledd.oks : ∀ {cs : List Chg} {n m : Nat} {es fs : List E2}, Ledd n es cs m fs → ∀ c ∈ cs, ChgOk c
  | [], _, _, _, _, .nil => fun _ z => nomatch z
  | c :: cs, _, _, _, _, .step ok ft d w => fun x hx => by
    rcases List.mem_cons.mp hx with rfl | hx
    · exact ok
    · exact w.oks x hx
section
variable {P : Program} {w : World} {K : PySem.W.Frag} {mg : Str → Option Value} {base : Heap} {f fD fK fW fO fT fU fG fL fB C : Addr} {fd dD dK dW dO dT dU dG dL dB : FuncData}
def tVp (K : PySem.W.Frag) : TE := tTup (tCons (tC (.str "vertex")) (tCons (tCB (rTupOf K) (tCons (tLc (iRng1 (tCons (tVar 9) tNil)) (gName 10) (tB (tOp (rIxL K) (tOp (rIxL K) (tVar 7) (tVar 9)) (tVar 10))) (tVar 10) [10]) tNil)) tNil))
theorem ok_right (F : L2.Fun K "_law_right" "_law_right" sRight f fd)
    (GD : FnOk P w K mg base CX0 1 fD dD ["pot", "few"] spDraw) (bD : L2.Binds K dD ["pot", "few"] []) (kD : PySem.W.keepIn K (.ref fD) = true) (mD : mg "_law_draw" = some (.ref fD))
    (GK : FnOk P w K mg base CX0 2 fK dK ["pot", "some"] (spPickL K)) (bK : L2.Binds K dK ["pot", "some"] []) (kK : PySem.W.keepIn K (.ref fK) = true) (mK : mg "_law_pick" = some (.ref fK))
    (GW : FnOk P w K mg base CX0 4 fW dW ["pot", "many"] (spDrw K)) (bW : L2.Binds K dW ["pot", "many"] []) (kW : PySem.W.keepIn K (.ref fW) = true) (mW : mg "_law_drawn" = some (.ref fW))
    (GO : FnOk P w K mg base CX0 3 fO dO ["pot"] (spOdd K)) (bO : L2.Binds K dO ["pot"] []) (kO : PySem.W.keepIn K (.ref fO) = true) (mO : mg "_law_odd" = some (.ref fO))
    (GT : FnOk P w K mg base CX0 11 fT dT ["log"] (spDue K)) (bT : L2.Binds K dT ["log"] []) (kT : PySem.W.keepIn K (.ref fT) = true) (mT : mg "_law_told" = some (.ref fT))
    (GU : FnOk P w K mg base CX0 4 fU dU ["log"] (spDue K)) (bU : L2.Binds K dU ["log"] []) (kU : PySem.W.keepIn K (.ref fU) = true) (mU : mg "_law_due" = some (.ref fU))
    (GG : FnOk P w K mg base (L2.CX P w) 10 fG dG ["log"] (spGof K C)) (bG : L2.Binds K dG ["log"] []) (bGk : ∀ (s : Shared) (u : Value), BindsTo s dG ⟨[], [(("log" : Str), u)]⟩ ([("log" : Str)].zip [u])) (kG : PySem.W.keepIn K (.ref fG) = true) (mG : mg "graph_of" = some (.ref fG))
    (GL : FnOk P w K mg base CX0 6 fL dL ["graph"] (spLof K)) (bL : L2.Binds K dL ["graph"] []) (bLk : ∀ (s : Shared) (u : Value), BindsTo s dL ⟨[], [(("graph" : Str), u)]⟩ ([("graph" : Str)].zip [u])) (kL : PySem.W.keepIn K (.ref fL) = true) (mL : mg "log_of" = some (.ref fL))
    (GB : FnOk P w K mg base CX0 1 fB dB ["graph"] (spTable K)) (bB : L2.Binds K dB ["graph"] []) (kB : PySem.W.keepIn K (.ref fB) = true) (mB : mg "_law_table" = some (.ref fB))
    (mt : mg "tuple" = none) (mr : mg "range" = none) (mli : mg "list" = none) (ml : mg "len" = none) (mre : mg "repr" = none) :
    FnG P w K mg base CX0 12 f fd ["pot"] spRight := by
  refine okG F scRight (fun vs H Q E h => ?_) (fun cdv A outer s0 H vs Q E gd hr h => ?_)
  · obtain ⟨p, rfl, _⟩ := h
    rfl
  obtain ⟨p, rfl, hW, q⟩ := h
  have gd' : (A.deeper (envOfC "_law_right" (defScope sRight) s0.heap.objs.size f cdv)).guards = some [] := gd
  have h1 := hr.mono (show 1 ≤ 11 by decide)
  have h2 := hr.mono (show 2 ≤ 11 by decide)
  have h3 := hr.mono (show 3 ≤ 11 by decide)
  have h4 := hr.mono (show 4 ≤ 11 by decide)
  have h6 := hr.mono (show 6 ≤ 11 by decide)
  have h10 := hr.mono (show 10 ≤ 11 by decide)
  refine ⟨_, pss_cons (ps_set (i := 1) scRight.nd rfl (.inl rfl) (pe_ifExp (pt_cmpR op_eq (pe_call GD h1 (by rfl) mD kD bD .nil pass0 (pa_cons (pv 0) (pa_cons pe_int pa_nil))) pe_int (nomark _)) (pe_call GK h2 (by rfl) mK kK bK .nil pass0 (pa_cons (pv 0) (pa_cons (pe_lst (pa_cons pe_int (pa_cons pe_int (pa_cons pe_int pa_nil)))) pa_nil))) (pe_call GD h1 (by rfl) mD kD bD .nil pass0 (pa_cons (pv 0) (pa_cons pe_int pa_nil)))))
    (pss_cons (ps_asg (pe_call GW h4 (by rfl) mW kW bW .nil pass0 (pa_cons (pv 0) (pa_cons (pv 1) pa_nil))) (pg_tup (by rfl) (pgs_cons (pg_name (i := 2) scRight.nd rfl (.inl rfl)) (pgs_cons (pg_name (i := 3) scRight.nd rfl (.inl rfl)) pgs_nil))))
    (pss_cons (ps_set (i := 4) scRight.nd rfl (.inl rfl) (pe_call GD h1 (by rfl) mD kD bD .nil pass0 (pa_cons (pv 0) (pa_cons (pe_op op_add (pe_callB call_len_seq (by rfl) ml PySem.boot_len (pa_cons (pv 2) pa_nil)) pe_int) pa_nil))))
    (pss_cons (ps_set (i := 5) scRight.nd rfl (.inl rfl) (pe_call GK h2 (by rfl) mK kK bK .nil pass0 (pa_cons (pv 0) (pa_cons (pe_lst (pa_cons (pe_call GO h3 (by rfl) mO kO bO .nil pass0 (pa_cons (pv 0) pa_nil)) (pa_cons (pe_tup (pa_cons pe_str (pa_cons pe_int (pa_cons pe_int pa_nil)))) (pa_cons (pe_tup (pa_cons pe_str (pa_cons pe_int pa_nil))) (pa_cons (pe_tup (pa_cons pe_str (pa_cons (pe_tup (pa_cons pe_int pa_nil)) pa_nil))) (pa_cons (pe_tup (pa_cons pe_str (pa_cons pe_int (pa_cons pe_int pa_nil)))) (pa_cons (pe_tup (pa_cons pe_str (pa_cons (pe_tup pa_nil) pa_nil))) pa_nil))))))) pa_nil))))
    (pss_cons (ps_for PassesOwn.never rfl (pi_list (pe_lst (pa_cons (pv 2) (pa_cons (pe_op op_catW (pe_op op_catW (pe_slice sl_tupW (pv 2) po_none (po_some (pv 4))) (pe_tup (pa_cons (pv 5) pa_nil))) (pe_slice sl_tupW (pv 2) (po_some (pv 4)) po_none)) (pa_cons (pe_op op_catW (pe_slice sl_tupW (pv 2) po_none (po_some (pv 4))) (pe_slice sl_tupW (pv 2) (po_some (pe_op op_add (pv 4) pe_int)) po_none)) (pa_cons (pe_callTy call_list_of (by rfl) mli (by decide +kernel) (pa_cons (pv 2) pa_nil)) (pa_cons (pe_call GO h3 (by rfl) mO kO bO .nil pass0 (pa_cons (pv 0) pa_nil)) pa_nil))))))) (pg_name (i := 6) scRight.nd rfl (.inl rfl))
      (pss_one (ps_if (pt_cmpR op_ne (pe_callB (call_repr gd' hr.units) (by rfl) mre (by decide +kernel) (pa_cons (pe_call GT hr (by rfl) mT kT bT .nil pass0 (pa_cons (pv 6) pa_nil)) pa_nil)) (pe_callB (call_repr gd' hr.units) (by rfl) mre (by decide +kernel) (pa_cons (pe_call GU h4 (by rfl) mU kU bU .nil pass0 (pa_cons (pv 6) pa_nil)) pa_nil)) (nomark _)) (pss_one (ps_ret pe_bl)) pss_nil)))
    (pss_cons (ps_if (PW.pt (pw_and (pt_cmpR op_le (pv 1) pe_int (nomark _)) (pw_and1 (pt_cmpR op_ne (pe_callB (call_repr gd' hr.units) (by rfl) mre (by decide +kernel) (pa_cons (pe_kw1 (E := fun _ => E0) GG h10 (by rfl) mG kG bGk (fun _ => passE) (pk_cons (pv 2) pk_nil)) pa_nil)) (pe_callB (call_repr gd' hr.units) (by rfl) mre (by decide +kernel) (pa_cons (pv 3) pa_nil)) (nomark _))))) (pss_one (ps_ret pe_bl)) pss_nil)
    (pss_cons (ps_set (i := 7) scRight.nd rfl (.inr rfl) (pe_call GB h1 (by rfl) mB kB bB .nil pass0 (pa_cons (pv 3) pa_nil)))
    (pss_cons (ps_set (i := 8) scRight.nd rfl (.inl rfl) (pe_callTy call_tuple_of (by rfl) mt (by decide +kernel) (pa_cons (pe_lc (own := [("one", 9)]) (g := gName 9) (tt := tYes) (te := tVp K) rfl scRight.nd (pi_range1 rfl mr (pa_cons (pe_ix (r := rIxT K) ix_tup (pv 3) pe_int (fun _ _ => rfl)) pa_nil))
        (blkOk_by (N := ["pot", "many", "log", "graph", "at", "odd", "thing", "rows", "due", "one", "two"]) (sc := defScope sRight) (by decide +kernel)) (fun _ _ _ _ _ => pg_name (i := 9) scRight.nd rfl (Or.inr rfl)) (fun _ _ _ _ _ => pts_nil)
        (fun _ _ _ _ _ => pe_tup (pa_cons pe_str (pa_cons (pe_callTy (r := rTupOf K) call_tuple_of (by rfl) mt (by decide +kernel) (pa_cons (pe_lc (own := [("two", 10)]) (g := gName 10) (tt := tB (tOp (rIxL K) (tOp (rIxL K) (tVar 7) (tVar 9)) (tVar 10))) rfl scRight.nd (pi_range1 rfl mr (pa_cons (pv 9) pa_nil))
          (blkOk_by (N := ["pot", "many", "log", "graph", "at", "odd", "thing", "rows", "due", "one", "two"]) rfl) (fun _ _ _ _ _ => pg_name (i := 10) scRight.nd rfl (Or.inl rfl))
          (fun _ _ _ _ _ => pts_one (pt_val (pe_ix (r := rIxL K) ix_list (pe_ix (r := rIxL K) ix_list (pv 7) (pv 9) (fun _ _ => rfl)) (pv 10) (fun _ _ => rfl)))) (fun _ _ _ _ _ => pv 10)) pa_nil)) pa_nil)))) pa_nil)))
    (pss_cons (ps_if (pt_cmpR op_ne (pe_callB (call_repr gd' hr.units) (by rfl) mre (by decide +kernel) (pa_cons (pe_lst (pa_cons (pe_call GL h6 (by rfl) mL kL bL .nil pass0 (pa_cons (pv 3) pa_nil)) (pa_cons (pe_kw1 (E := fun _ => E0) GL h6 (by rfl) mL kL bLk (fun _ => passAt0) (pk_cons (pv 3) pk_nil)) pa_nil))) pa_nil)) (pe_callB (call_repr gd' hr.units) (by rfl) mre (by decide +kernel) (pa_cons (pe_lst (pa_cons (pv 8) (pa_cons (pv 8) pa_nil))) pa_nil)) (nomark _)) (pss_one (ps_ret pe_bl)) pss_nil)
    (pss_one (ps_ret (pe_cmpR op_eq (pe_callB (call_repr gd' hr.units) (by rfl) mre (by decide +kernel) (pa_cons (pe_callS GG h10 (by rfl) mG kG bG (E := fun _ => E0) (fun _ => passE) (pa_cons (pv 8) pa_nil)) pa_nil)) (pe_callB (call_repr gd' hr.units) (by rfl) mre (by decide +kernel) (pa_cons (pv 3) pa_nil)) (nomark _)))))))))))), ?_⟩
  have line : ∀ k, k ≤ 1000 → k ≤ sizeLine := fun k hk => small hk
  have two : (2 : Nat) ≤ sizeLine := line 2 (by decide)
  have yes : ∀ d : PyData, (!decide (V.str d.shown = V.str d.shown)) = false := fun d => by rw [decide_eq_true rfl]; rfl
  have mkt := (mk_cons (K := K) (mk_tup (by decide) (mk_cons (mk_str "cut") (mk_cons (mk_int 7) (mk_cons (mk_int 8) mk_nil)))) (mk_cons (mk_tup (by decide) (mk_cons (mk_str "out") (mk_cons (mk_int 8) mk_nil))) (mk_cons (mk_tup (by decide) (mk_cons (mk_str "vertex") (mk_cons (mk_tup (by decide) (mk_cons (mk_int 8) mk_nil)) mk_nil))) (mk_cons (mk_tup (by decide) (mk_cons (mk_str "edge") (mk_cons (mk_int 0) (mk_cons (mk_int 1) mk_nil)))) (mk_cons (mk_tup (by decide) (mk_cons (mk_str "vertex") (mk_cons (mk_tup (by decide) mk_nil) mk_nil))) mk_nil)))))
  refine' joinS (i := 1) (R := fun v H' => ∃ m : Nat, v = .int (m : Int) ∧ m ≤ 201 ∧ But p H H' ∧ Wl H' p) (fun go => ?_) ?_
  rotate_left 2
  · refine ⟨_, rfl, p, 12, rfl, hW, by decide, by decide, fun d H1 _ _ b1 w1 => ?_⟩
    refine ⟨rfl, _, rfl, iteB (fun _ => ?_) (fun _ => ?_)⟩
    · refine ⟨_, rfl, line 3 (by decide), fun F nF => ?_⟩
      have sF := same_new nF (.lst [V.int 199, V.int 200, V.int 201])
      refine ⟨p, F, _, rfl, w1.same sF, upd_same, w1.ne nF, by simp, by simp, fun j v H2 hj b2 w2 => ?_⟩
      have m := List.mem_of_getElem? hj
      simp only [List.mem_cons, List.mem_nil_iff, or_false] at m
      have b02 := b1.trans ((But.of sF).trans b2)
      rcases m with rfl | rfl | rfl
      · exact go _ _ ⟨199, rfl, by decide, b02, w2⟩
      · exact go _ _ ⟨200, rfl, by decide, b02, w2⟩
      · exact go _ _ ⟨201, rfl, by decide, b02, w2⟩
    · refine ⟨_, rfl, p, 31, rfl, w1, by decide, by decide, fun d H2 d0 d1 b2 w2 => ?_⟩
      obtain ⟨k, rfl⟩ : ∃ k : Nat, d = (k : Int) := ⟨d.toNat, by omega⟩
      exact go _ _ ⟨k, rfl, by omega, b1.trans b2, w2⟩
  rintro _ H1 ⟨m, rfl, m201, b1, w1⟩
  refine ⟨_, rfl, _, rfl, p, m, rfl, w1, m201, fun t T xs cs y n es H2 b12 w2 ht hT hcs led lcs hy g => ?_⟩
  have b2 := b1.trans b12
  refine ⟨t, _, rfl, SqT.of ht, rfl, _, _, rfl, _, _, rfl, rfl, ?_⟩
  have lx := hcs.len
  have oks := led.oks
  have M : ∀ H', But p H2 H' → Wl H' p → H' T = some (.tup xs) ∧ ChgsAt K H' xs cs ∧ GraphT H' y n es := fun H' b w => ⟨b _ _ (wl_tup w2 hT) hT, hcs.kp (Kp.but b w2 w), hy.but b w2⟩
  have vax : ∀ H', But p H2 H' → Wl H' p → ∀ v ∈ xs, Va K H' v := fun H' b w v hv => by
    obtain ⟨s, hs, a⟩ := (M H' b w).2.1.sh.mem hv
    obtain ⟨c, hc, rfl⟩ := List.mem_map.mp hs
    exact ⟨_, a, lb_chg (oks c hc)⟩
  clear b1 w1 b12
  -- a place
  refine ⟨_, rfl, _, rfl, T, xs, rfl, .inr (SqT.of hT), _, _, rfl, rfl, p, _, rfl, w2, by omega, by omega, fun a H3 a0 a1 b3 w3 => ?_⟩
  obtain ⟨at', rfl⟩ : ∃ k : Nat, a = (k : Int) := ⟨a.toNat, by omega⟩
  -- another change
  refine ⟨_, rfl, _, rfl, p, rfl, w3, fun v0 H4 b4 w4 hv0 => ?_⟩
  refine mkt _ _ _ fun vs H5 s5 lvs hvs => ?_
  have w5 := w4.same s5
  refine ⟨line _ (by rw [List.length_cons, lvs]; decide), fun F nF => ?_⟩
  have sF := same_new nF (.lst (v0 :: vs))
  refine ⟨p, F, _, rfl, w5.same sF, upd_same, w5.ne nF, by rw [List.length_cons]; omega, by rw [List.length_cons, lvs]; decide, fun j od H6 hj b6 w6 => ?_⟩
  have hod : Va K H6 od := by
    have z : Va K H5 od := by
      rcases List.mem_cons.mp (List.mem_of_getElem? hj) with rfl | h
      · exact hv0.same s5
      · exact hvs od h
    exact z.but ((But.of sF).trans b6) w5 w6
  have b26 : But p H2 H6 := b3.trans (b4.trans ((But.of (s5.trans sF)).trans b6))
  clear hvs hv0 hj b6 sF w5 s5 b4 w4 b3 w3 lvs
  -- the five
  obtain ⟨hT6, hc6, hy6⟩ := M H6 b26 w6
  have cl1 := cutV_length xs none (some ((at' : Nat) : Int))
  have cl2 := cutV_length xs (some ((at' : Nat) : Int)) none
  have cl3 := cutV_length xs (some (((at' : Nat) : Int) + 1)) none
  refine ⟨_, rfl, _, rfl, _, rfl, _, rfl, T, xs, rfl, SqT.of hT6, fun c1 H7 s7 hc1 => ?_⟩
  refine ⟨_, rfl, line 1 (by decide), fun N nN => ?_⟩
  have sN := same_new nN (.tup [od])
  have hN := upd_same (H := H7) (a := N) (o := .tup [od])
  generalize upd H7 N (.tup [od]) = H8 at sN hN ⊢
  refine ⟨c1, N, _, _, rfl, rfl, Same.tup sN hc1, SqT.of hN, line _ (by rw [List.length_singleton]; omega), fun d1 H9 s9 hd1 => ?_⟩
  have s69 := s7.trans (sN.trans s9)
  refine ⟨_, rfl, _, rfl, _, rfl, T, xs, rfl, SqT.of (s69 _ _ hT6), fun c2 H10 s10 hc2 => ?_⟩
  refine ⟨d1, c2, _, _, rfl, rfl, Same.tup s10 hd1, hc2, line _ (by rw [List.length_append, List.length_singleton]; omega), fun e1 H11 s11 he1 => ?_⟩
  have s611 := s69.trans (s10.trans s11)
  refine ⟨_, rfl, _, rfl, _, rfl, T, xs, rfl, SqT.of (s611 _ _ hT6), fun c3 H12 s12 hc3 => ?_⟩
  refine ⟨_, rfl, _, rfl, _, _, rfl, rfl, _, rfl, T, xs, rfl, SqT.of ((s611.trans s12) _ _ hT6), fun c4 H13 s13 hc4 => ?_⟩
  refine ⟨c3, c4, _, _, rfl, rfl, Same.tup s13 hc3, hc4, line _ (by omega), fun e2 H14 s14 he2 => ?_⟩
  have s614 := s611.trans (s12.trans (s13.trans s14))
  refine ⟨_, rfl, T, xs, rfl, .inr (SqT.of (s614 _ _ hT6)), fun L nL => ?_⟩
  have sL := same_new nL (.lst xs)
  have hL := upd_same (H := H14) (a := L) (o := .lst xs)
  generalize upd H14 L (.lst xs) = H15 at sL hL ⊢
  have s615 := s614.trans sL
  have w15 := w6.same s615
  have b215 := b26.trans (But.of s615)
  have vx6 := vax H6 b26 w6
  have va2 : Va K H15 (.ref e1) := Va.same ((s12.trans (s13.trans s14)).trans sL) (.tup he1 (by rw [List.length_append, List.length_append, List.length_singleton]; omega) (va_app (va_app (va_cut _ _ fun v hv => (vx6 v hv).same s611) (va_cons (hod.same s611) va_nil)) (va_cut _ _ fun v hv => (vx6 v hv).same s611)))
  have va3 : Va K H15 (.ref e2) := Va.same sL (.tup he2 (by rw [List.length_append]; omega) (va_app (va_cut _ _ fun v hv => (vx6 v hv).same s614) (va_cut _ _ fun v hv => (vx6 v hv).same s614)))
  have va4 : Va K H15 (.ref L) := .lst (SqL.of hL)
  clear hc1 hN nN hd1 hc2 he1 hc3 hc4 he2 nL hL s7 sN s9 s69 s10 s11 s611 s12 s13 s14 s614 sL hod vx6
  refine ⟨_, rfl, p, rfl, w15, fun v5 H16 b16 w16 hv5 => ?_⟩
  have b216 := b215.trans b16
  obtain ⟨hT16, hc16, hy16⟩ := M H16 b216 w16
  refine ⟨line 5 (by decide), fun Z nZ => ?_⟩
  have sZ := same_new nZ (.lst [.ref T, .ref e1, .ref e2, .ref L, v5])
  have hZ := upd_same (H := H16) (a := Z) (o := .lst [.ref T, .ref e1, .ref e2, .ref L, v5])
  have w17 := w16.same sZ
  have vaT : Va K H16 (.ref T) := .tup (SqT.of hT16) (by omega) (vax H16 b216 w16)
  have VZ : ∀ v ∈ [V.ref T, .ref e1, .ref e2, .ref L, v5], Va K (upd H16 Z (.lst [.ref T, .ref e1, .ref e2, .ref L, v5])) v :=
    have c := b16.trans (But.of sZ)
    va_cons (vaT.same sZ) (va_cons (va2.but c w15 w17) (va_cons (va3.but c w15 w17) (va_cons (va4.but c w15 w17) (va_cons (hv5.same sZ) va_nil))))
  have b217 := b216.trans (But.of sZ)
  clear va2 va3 va4 hv5 vaT hT16 hc16 hy16 b216 b16 w16 sZ w15 b215 s615
  generalize [V.ref T, .ref e1, .ref e2, .ref L, v5] = zs at hZ w17 b217 VZ ⊢
  generalize upd H16 Z (.lst zs) = H17 at hZ w17 b217 VZ ⊢
  refine ⟨Z, rfl, ⟨_, SqL.of hZ⟩, for_it (walk_list (xs := zs)) (fun i σ H' => ∃ (s6 : Option V), σ = [some (.ref p), some (.int (m : Int)), some (.ref T), some y, some (.int (at' : Int)), some od, s6, none, none, none, none] ∧ Same H17 H') ⟨_, rfl, Same.refl _⟩ (fun i σ H' _ ⟨_, _, s⟩ => SqL.of (s _ _ hZ)) ?_ ?_⟩
  · rintro i v σ _ H18 li ⟨s6, rfl, s18⟩ ⟨rfl, hi⟩
    obtain ⟨s, hs, lb⟩ := (VZ v (List.mem_of_getElem? hi)).same s18
    refine ⟨_, rfl, v, s, rfl, hs, lb, fun r l H19 hr1 s19 r1 => ?_⟩
    obtain ⟨⟨f1, f2, f3⟩, nd⟩ := res_fine hr1 r1
    refine ⟨.ref l, _, rfl, res_dd r1 nd, f1, f2, f3, ?_⟩
    refine ⟨_, rfl, v, s, rfl, hs.same s19, lb, fun r' l' H20 hr2 s20 r2 => ?_⟩
    obtain rfl := hr2.uniq hr1
    refine ⟨.ref l', _, rfl, res_dd r2 nd, f1, f2, f3, rfl, _, rfl, ?_⟩
    rw [yes]
    exact iteF ⟨_, rfl, s18.trans (s19.trans s20)⟩
  rintro σ H18 ⟨s6, rfl, s18⟩
  have w18 := w17.same s18
  have b218 := b217.trans (But.of s18)
  obtain ⟨hT18, hc18, hy18⟩ := M H18 b218 w18
  clear VZ hZ hT6 hc6 hy6
  obtain ⟨⟨k1, k2, k3⟩, knd⟩ := one_graph_fine g
  -- its graph
  refine' joinT (R := fun σ H' => σ = [some (.ref p), some (.int (m : Int)), some (.ref T), some y, some (.int (at' : Int)), some od, s6, none, none, none, none] ∧ Same H18 H') (fun go => ?_) ?_
  rotate_left 1
  · refine ⟨_, rfl, _, _, rfl, rfl, _, rfl, iteB (fun c1 => ?_) (fun c1 => iteF (go _ _ ⟨rfl, Same.refl _⟩))⟩
    have m200 : cs.length ≤ 200 := by
      have := of_decide_eq_true c1
      omega
    have res := led_res led m200
    refine ⟨_, rfl, .ref T, .tup (cs.map chgS), rfl, .tup (SqT.of hT18) hc18.sh, .tup (by rw [List.length_map]; omega) (fun z hz => by
      obtain ⟨c, hc, rfl⟩ := List.mem_map.mp hz
      exact lb_chg (oks c hc)), fun r hr => ?_⟩
    obtain rfl := hr.uniq res
    refine fun z H19 s19 hz gz => ?_
    refine ⟨z, graphD n es, rfl, .dat hz.at.dp knd, k1, k2, k3, ?_⟩
    refine ⟨_, rfl, y, graphD n es, rfl, .dat (hy18.same s19).at.dp knd, k1, k2, k3, rfl, _, rfl, ?_⟩
    rw [yes]
    exact iteF (go _ _ ⟨rfl, s19⟩)
  rintro _ H19 ⟨rfl, s19⟩
  have hy19 := hy18.same s19
  have b219 := b218.trans (But.of s19)
  -- the graph's own log
  refine ⟨_, rfl, y, n, es, rfl, hy19.at, g, fun D rs H20 s20 nD TR => ?_⟩
  have n9 := g.n9
  have hy20 := hy19.same s20
  obtain ⟨gt, ge, gx, rfl, hgt, hge, hgp⟩ := id hy20
  refine ⟨_, rfl, gt, _, 0, _, rfl, rfl, SqT.of hgt, rfl, (n : Int), rfl, by omega, by omega, fun B nB => lc_range (lo := 0) (n := ((n : Nat) : Int).toNat) (fun v H' => Same H20 H' ∧ ∃ zs, H' B = some (.lst zs) ∧ VertsT H' zs ((List.range v).map (preds es))) ⟨same_new nB _, [], upd_same, .nil⟩ ?_ ?_⟩
  · rintro v H21 lv ⟨s21, zs, hB, hz⟩
    rw [Int.zero_add]
    have vn : v < n := by omega
    have lz := hz.len
    rw [List.length_map, List.length_range] at lz
    refine ⟨rfl, ?_⟩
    refine ⟨_, rfl, (v : Int), rfl, by omega, by omega, fun B2 nB2 => lc_range (lo := 0) (n := ((v : Nat) : Int).toNat) (fun k H' => Same H21 H' ∧ H' B2 = some (.lst (numsN ((List.range k).filter fun u => adjB es v u)))) ⟨same_new nB2 _, upd_same⟩ ?_ ?_⟩
    · rintro k H22 lk ⟨s22, hB2⟩
      rw [Int.zero_add]
      have T2 := TR.same (s21.trans s22)
      obtain ⟨r, hr, hv, row⟩ := T2.get vn
      refine ⟨rfl, ?_⟩
      refine ⟨_, rfl, _, rfl, D, _, _, _, rfl, rfl, SqL.of T2.hd, atI_nat hv, _, rfl, r, _, _, _, rfl, rfl, SqL.of row, atI_nat (rowV_get _ (by omega)), _, rfl, ?_⟩
      refine iteB (fun c => ?_) (fun c => ?_)
      · refine ⟨_, rfl, _, hB2, small1000 (by
          rw [numsN_len]
          refine Nat.le_trans (List.length_filter_le _ _) ?_
          rw [List.length_range]
          omega), same_put s22 nB2, ?_⟩
        rw [upd_same, List.range_succ, List.filter_append, List.filter_cons_of_pos (p := fun u => adjB es v u) c]
        unfold numsN
        rw [List.map_append]
        rfl
      · refine ⟨s22, ?_⟩
        rw [hB2, List.range_succ, List.filter_append, List.filter_cons_of_neg (p := fun u => adjB es v u) (by rw [c]; decide), List.filter_nil, List.append_nil]
    rintro H22 ⟨s22, hB2⟩
    rw [Int.toNat_natCast, ← preds_eq g] at hB2
    refine ⟨B2, _, rfl, .inl ⟨SqL.of hB2, fun u nu => ⟨two, fun o no => ?_⟩⟩⟩
    have su := same_new nu (.tup (numsN (preds es v)))
    have hu := upd_same (H := H22) (a := u) (o := .tup (numsN (preds es v)))
    generalize upd H22 u (.tup (numsN (preds es v))) = H23 at su hu no ⊢
    have so := same_new no (.tup [.str "vertex", .ref u])
    have ho := upd_same (H := H23) (a := o) (o := .tup [.str "vertex", .ref u])
    have hu4 := so _ _ hu
    generalize upd H23 o (.tup [.str "vertex", .ref u]) = H24 at so ho hu4 ⊢
    have s2124 := s22.trans (su.trans so)
    have hB4 := s2124 _ _ hB
    refine ⟨zs, hB4, small1000 (by omega), same_put (s21.trans s2124) nB, _, upd_same, ?_⟩
    rw [List.range_succ, List.map_append]
    refine ((hz.same s2124).put hB4).app (.cons ⟨o, u, rfl, ?_, ?_⟩ .nil)
    · rw [upd_ne (fun z => by rw [z, hB4] at ho; cases ho)]
      exact ho
    · rw [upd_ne (fun z => by rw [z, hB4] at hu4; cases hu4)]
      exact hu4
  rintro H21 ⟨s21, zs, hB, hz⟩
  rw [Int.toNat_natCast] at hz
  refine ⟨B, zs, rfl, .inl ⟨SqL.of hB, fun du ndu => ?_⟩⟩
  have sdu := same_new ndu (.tup zs)
  have hdu := upd_same (H := H21) (a := du) (o := .tup zs)
  have hz22 := hz.same sdu
  generalize upd H21 du (.tup zs) = H22 at sdu hdu hz22 ⊢
  have s2022 := s21.trans sdu
  have hy22 := hy20.same s2022
  have lz := hz.len
  rw [List.length_map, List.length_range] at lz
  have small9 : ∀ l ∈ (List.range n).map (preds es), (∀ k ∈ l, k ≤ 9) ∧ l.length ≤ 9 := fun l hl => by
    obtain ⟨v, hv, rfl⟩ := List.mem_map.mp hl
    have vn := List.mem_range.mp hv
    refine ⟨fun k hk => ?_, ?_⟩
    · have := g.lt _ (mem_preds.mp hk)
      dsimp only at this
      omega
    · have := LotOk.few (n := v) ⟨fun k hk => (g.lt _ (mem_preds.mp hk)).1, preds_up g v⟩
      omega
  obtain ⟨⟨f1, f2, f3⟩, fnd⟩ := logs_fine small9 (by rw [List.length_map, List.length_range]; exact n9)
  refine ⟨_, rfl, .ref gt, n, es, rfl, hy22.at, g, fun t1 x1 H23 s23 ht1 hx1 => ?_⟩
  refine ⟨_, rfl, .ref gt, n, es, rfl, (hy22.same s23).at, g, fun t2 x2 H24 s24 ht2 hx2 => ⟨two, fun J1 nJ1 => ?_⟩⟩
  have sJ1 := same_new nJ1 (.lst [.ref t1, .ref t2])
  have hJ1 := upd_same (H := H24) (a := J1) (o := .lst [.ref t1, .ref t2])
  have d1 := logs_dd (K := K) hJ1 ((s24.trans sJ1) _ _ ht1) (sJ1 _ _ ht2) (hx1.same (s24.trans sJ1)) (hx2.same sJ1) fnd
  generalize upd H24 J1 (.lst [.ref t1, .ref t2]) = H25 at sJ1 hJ1 d1 ⊢
  have s2225 := s23.trans (s24.trans sJ1)
  refine ⟨.ref J1, _, rfl, d1, f1, f2, f3, ?_⟩
  refine ⟨_, rfl, _, rfl, two, fun J2 nJ2 => ?_⟩
  have sJ2 := same_new nJ2 (.lst [.ref du, .ref du])
  have hJ2 := upd_same (H := H25) (a := J2) (o := .lst [.ref du, .ref du])
  have s2226 := s2225.trans sJ2
  have hz26 := hz22.same s2226
  have hdu26 := s2226 _ _ hdu
  have d2 := logs_dd (K := K) hJ2 hdu26 hdu26 hz26 hz26 fnd
  generalize upd H25 J2 (.lst [.ref du, .ref du]) = H26 at sJ2 hJ2 d2 hz26 hdu26 s2226 ⊢
  refine ⟨.ref J2, _, rfl, d2, f1, f2, f3, rfl, _, rfl, ?_⟩
  rw [yes]
  refine iteF ?_
  -- back to the graph
  have own := own_log g n (Nat.le_refl n)
  rw [upto_all g] at own
  have res := led_res own (by rw [List.length_map, List.length_range]; omega)
  have em : ((List.range n).map fun k => Chg.vertex (preds es k)) = ((List.range n).map (preds es)).map Chg.vertex := by rw [List.map_map]; rfl
  rw [em] at res own
  refine ⟨_, rfl, .ref du, _, rfl, .tup (SqT.of hdu26) hz26.sh, .tup (by rw [List.length_map, List.length_map, List.length_map, List.length_range]; omega) (fun z hz => by
    obtain ⟨c, hc, rfl⟩ := List.mem_map.mp hz
    exact lb_chg (own.oks c hc)), fun r hr => ?_⟩
  obtain rfl := hr.uniq res
  refine fun z H27 s27 hz27 gz => ?_
  refine ⟨z, graphD n es, rfl, .dat hz27.at.dp knd, k1, k2, k3, ?_⟩
  refine ⟨_, rfl, .ref gt, graphD n es, rfl, .dat (hy22.same (s2226.trans s27)).at.dp knd, k1, k2, k3, rfl, ?_⟩
  rw [decide_eq_true rfl]
  exact q H27 (b2.trans (b219.trans (But.of (s20.trans (s2022.trans (s2226.trans s27))))))
end
end My

set_option maxHeartbeats 4000000
/-! law, of the second family: up to five turns, each right. -/
namespace My
open PySem PySem.Spec PyProof.Rows L2
abbrev sLaw : Stmt := top 45
theorem scLaw : FnScope ["script", "turn"] ["script"] (defScope sLaw) := ⟨rfl, rfl, rfl, by decide +kernel, rfl, by decide +kernel, by decide +kernel⟩
def spLaw (K : PySem.W.Frag) : Sp := fun vs H Q _ => ∃ (a : Addr) (ns : List Int), vs = [.ref a] ∧ SqL K H a (ns.map V.int) ∧ ns.length ≤ 63 ∧ ∀ H', Q (.bl true) H'
section
variable {P : Program} {w : World} {K : PySem.W.Frag} {mg : Str → Option Value} {base : Heap} {f fW fR : Addr} {fd dW dR : FuncData} {n : Nat}
theorem ok_law (F : L2.Fun K "law" "law" sLaw f fd) (GW : FnOk P w K mg base CX0 1 fW dW ["script", "turn"] (spPot K)) (bW : L2.Binds K dW ["script", "turn"] []) (kW : PySem.W.keepIn K (.ref fW) = true) (mW : mg "_law_pot" = some (.ref fW))
    (GR : FnG P w K mg base CX0 (n + 1) fR dR ["pot"] spRight) (bR : L2.Binds K dR ["pot"] []) (kR : PySem.W.keepIn K (.ref fR) = true) (mR : mg "_law_right" = some (.ref fR))
    (mr : mg "range" = none) (ml : mg "len" = none) (ma : mg "all" = none) (mx : mg "max" = none) (mn : mg "min" = none) : FnG P w K mg base CX0 (n + 2) f fd ["script"] (spLaw K) := by
  refine okG F scLaw (fun vs H Q E h => ?_) (fun cdv A outer s H vs Q E gd hr h => ?_)
  · obtain ⟨a, ns, rfl, _⟩ := h
    rfl
  obtain ⟨a, ns, rfl, hS, h63, q⟩ := h
  have gd' : (A.deeper (envOfC "law" (defScope sLaw) s.heap.objs.size f cdv)).guards = some [] := gd
  refine ⟨_, pss_one (ps_ret (pe_callB (cr_all rfl) (by rfl) ma (by decide +kernel) (pa_cons (pe_lc (own := [("turn", 1)]) (g := gName 1) (tt := tYes) rfl scLaw.nd
      (pi_range1 rfl mr (pa_cons (pe_callB (call_max2 rfl) (by rfl) mx (by decide +kernel) (pa_cons pe_int (pa_cons (pe_callB (call_min2 rfl) (by rfl) mn (by decide +kernel) (pa_cons (pe_callB call_len_seq (by rfl) ml PySem.boot_len (pa_cons (pv 0) pa_nil)) (pa_cons pe_int pa_nil))) pa_nil))) pa_nil))
      (blkOk_by (N := ["script", "turn"]) (sc := defScope sLaw) (by decide +kernel)) (fun _ _ _ _ _ => pg_name (i := 1) scLaw.nd rfl (Or.inl rfl)) (fun _ _ _ _ _ => pts_nil)
      (fun _ _ _ _ _ => pe_callG GR gd' hr (by rfl) mR kR bR pass0 (pa_cons (pe_call GW (hr.mono (Nat.le_add_left 1 n)) (by rfl) mW kW bW .nil pass0 (pa_cons (pv 0) (pa_cons (pv 1) pa_nil))) pa_nil))) pa_nil))), ?_⟩
  have hl : (ns.map V.int).length = ns.length := List.length_map _
  refine ⟨_, rfl, a, _, rfl, .inl hS, _, _, rfl, _, _, rfl, ?_⟩
  rw [hl]
  obtain ⟨j, hj, j0, j3⟩ : ∃ j : Int, (if (if (5 : Int) < ((ns.length : Nat) : Int) then (5 : Int) else ((ns.length : Nat) : Int)) > 2 then (if (5 : Int) < ((ns.length : Nat) : Int) then (5 : Int) else ((ns.length : Nat) : Int)) else 2) = j ∧ 0 ≤ j ∧ j ≤ 5 := by
    refine ⟨_, rfl, ?_, ?_⟩
    · split <;> (try split) <;> omega
    · split <;> (try split) <;> omega
  rw [hj]
  refine ⟨j, rfl, by omega, by omega, fun D nD => lc_range (lo := 0) (n := j.toNat) (fun k H' => Same H H' ∧ H' D = some (.lst ((List.replicate k true).map V.bl))) ⟨same_new nD _, upd_same⟩ ?_ ?_⟩
  · rintro k H1 lk ⟨s1, hD⟩
    rw [Int.zero_add]
    refine ⟨rfl, ?_⟩
    refine ⟨_, rfl, _, rfl, a, ns, k, rfl, L2.Same.seq s1 hS, h63, by omega, fun H2 p s2 np wl => ⟨p, rfl, wl, fun H3 bt => ?_⟩⟩
    have s3 : Same H1 H3 := fun b o e => bt b o (ne_of_none e np) (s2 b o e)
    refine ⟨_, s3 _ _ hD, ?_, same_put (s1.trans s3) nD, ?_⟩
    · rw [List.length_map, List.length_replicate]
      exact small1000 (by omega)
    · rw [upd_same, List.replicate_succ', List.map_append]
      rfl
  · rintro H1 ⟨s1, hD⟩
    refine ⟨D, List.replicate j.toNat true, rfl, SqL.of hD, ?_⟩
    have e : (List.replicate j.toNat true).all id = true := by simp
    rw [e]
    exact q H1
end
end My

set_option maxHeartbeats 16000000
namespace My
open PySem PySem.Spec PyProof.Rows L2
theorem all_mk {l : PySem.W.OpenLaw} {w : World} {K : PySem.W.Frag} {h : Heap} {mg : Str → Option Value} {fa f_is_whole f_is_whole_from f_is_tuple_of_two f_is_ascending f_is_graph f_is_vertex_pair f_check_graph f_is_lot f_check_lot f_induced f_is_change f_does_fit f__led_on f_graph_of f_log_of f__law_pot f__law_draw f__law_pick f__law_mixed f__law_odd f__law_is_whole f__law_is_lot f__law_table f__law_of_table f__law_within f__law_is_change f__law_fits f__law_done f__law_change f__law_drawn f__law_told f__law_due f__law_right f_law : Addr} {tkV tkMC : Tok} {d_L : Addr} {d_es : Array DictEntry} {d_n : Nat} {d_t1 d_t2 d_t3 d_t4 : Tok} {x_C x_I : Addr} {x_o x_k x_e x_m x_d x_t : Value} {x_D x_N : Option Addr} {x_S : Array (Option Value)} {e_A e_B : Addr} {e_t : Tok} {e_d1 e_d2 : Option Addr} {e_n1 e_n2 : Nat} {e_s1 e_s2 : Array (Option Value)} (X : K.In h) (GN : h.Ns mainGlobals mg) (hfa : mg "law" = some (.ref fa))
    {fo_is_whole fk_is_whole fe_is_whole fm_is_whole fc_is_whole ft_is_whole : Value} {fD_is_whole fN_is_whole : Option Addr} {fS_is_whole : Array (Option Value)}
    (fa_is_whole : PySem.W.nsIn K mainGlobals "is_whole" = some (some (.ref f_is_whole)))
    (fl_is_whole : K.lookup f_is_whole = some ⟨fo_is_whole, fD_is_whole, .func (PySem.W.fnOf "is_whole" "is_whole" (defArgs (top 7)) (defBody (top 7)) (defScope (top 7)) .none fk_is_whole fe_is_whole fm_is_whole fN_is_whole fc_is_whole ft_is_whole), fS_is_whole⟩)
    (fcc_is_whole : PySem.W.codeIn K fc_is_whole "is_whole" = true)
    (fq_is_whole : PySem.W.keepIn K (.ref f_is_whole) = true)
    {fo_is_whole_from fk_is_whole_from fe_is_whole_from fm_is_whole_from fc_is_whole_from ft_is_whole_from : Value} {fD_is_whole_from fN_is_whole_from : Option Addr} {fS_is_whole_from : Array (Option Value)}
    (fa_is_whole_from : PySem.W.nsIn K mainGlobals "is_whole_from" = some (some (.ref f_is_whole_from)))
    (fl_is_whole_from : K.lookup f_is_whole_from = some ⟨fo_is_whole_from, fD_is_whole_from, .func (PySem.W.fnOf "is_whole_from" "is_whole_from" (defArgs (top 8)) (defBody (top 8)) (defScope (top 8)) .none fk_is_whole_from fe_is_whole_from fm_is_whole_from fN_is_whole_from fc_is_whole_from ft_is_whole_from), fS_is_whole_from⟩)
    (fcc_is_whole_from : PySem.W.codeIn K fc_is_whole_from "is_whole_from" = true)
    (fq_is_whole_from : PySem.W.keepIn K (.ref f_is_whole_from) = true)
    {fo_is_tuple_of_two fk_is_tuple_of_two fe_is_tuple_of_two fm_is_tuple_of_two fc_is_tuple_of_two ft_is_tuple_of_two : Value} {fD_is_tuple_of_two fN_is_tuple_of_two : Option Addr} {fS_is_tuple_of_two : Array (Option Value)}
    (fa_is_tuple_of_two : PySem.W.nsIn K mainGlobals "is_tuple_of_two" = some (some (.ref f_is_tuple_of_two)))
    (fl_is_tuple_of_two : K.lookup f_is_tuple_of_two = some ⟨fo_is_tuple_of_two, fD_is_tuple_of_two, .func (PySem.W.fnOf "is_tuple_of_two" "is_tuple_of_two" (defArgs (top 9)) (defBody (top 9)) (defScope (top 9)) .none fk_is_tuple_of_two fe_is_tuple_of_two fm_is_tuple_of_two fN_is_tuple_of_two fc_is_tuple_of_two ft_is_tuple_of_two), fS_is_tuple_of_two⟩)
    (fcc_is_tuple_of_two : PySem.W.codeIn K fc_is_tuple_of_two "is_tuple_of_two" = true)
    (fq_is_tuple_of_two : PySem.W.keepIn K (.ref f_is_tuple_of_two) = true)
    {fo_is_ascending fk_is_ascending fe_is_ascending fm_is_ascending fc_is_ascending ft_is_ascending : Value} {fD_is_ascending fN_is_ascending : Option Addr} {fS_is_ascending : Array (Option Value)}
    (fa_is_ascending : PySem.W.nsIn K mainGlobals "is_ascending" = some (some (.ref f_is_ascending)))
    (fl_is_ascending : K.lookup f_is_ascending = some ⟨fo_is_ascending, fD_is_ascending, .func (PySem.W.fnOf "is_ascending" "is_ascending" (defArgs (top 10)) (defBody (top 10)) (defScope (top 10)) .none fk_is_ascending fe_is_ascending fm_is_ascending fN_is_ascending fc_is_ascending ft_is_ascending), fS_is_ascending⟩)
    (fcc_is_ascending : PySem.W.codeIn K fc_is_ascending "is_ascending" = true)
    (fq_is_ascending : PySem.W.keepIn K (.ref f_is_ascending) = true)
    {fo_is_graph fk_is_graph fe_is_graph fm_is_graph fc_is_graph ft_is_graph : Value} {fD_is_graph fN_is_graph : Option Addr} {fS_is_graph : Array (Option Value)}
    (fa_is_graph : PySem.W.nsIn K mainGlobals "is_graph" = some (some (.ref f_is_graph)))
    (fl_is_graph : K.lookup f_is_graph = some ⟨fo_is_graph, fD_is_graph, .func (PySem.W.fnOf "is_graph" "is_graph" (defArgs (top 11)) (defBody (top 11)) (defScope (top 11)) .none fk_is_graph fe_is_graph fm_is_graph fN_is_graph fc_is_graph ft_is_graph), fS_is_graph⟩)
    (fcc_is_graph : PySem.W.codeIn K fc_is_graph "is_graph" = true)
    (fq_is_graph : PySem.W.keepIn K (.ref f_is_graph) = true)
    {fo_is_vertex_pair fk_is_vertex_pair fe_is_vertex_pair fm_is_vertex_pair fc_is_vertex_pair ft_is_vertex_pair : Value} {fD_is_vertex_pair fN_is_vertex_pair : Option Addr} {fS_is_vertex_pair : Array (Option Value)}
    (fa_is_vertex_pair : PySem.W.nsIn K mainGlobals "is_vertex_pair" = some (some (.ref f_is_vertex_pair)))
    (fl_is_vertex_pair : K.lookup f_is_vertex_pair = some ⟨fo_is_vertex_pair, fD_is_vertex_pair, .func (PySem.W.fnOf "is_vertex_pair" "is_vertex_pair" (defArgs (top 12)) (defBody (top 12)) (defScope (top 12)) .none fk_is_vertex_pair fe_is_vertex_pair fm_is_vertex_pair fN_is_vertex_pair fc_is_vertex_pair ft_is_vertex_pair), fS_is_vertex_pair⟩)
    (fcc_is_vertex_pair : PySem.W.codeIn K fc_is_vertex_pair "is_vertex_pair" = true)
    (fq_is_vertex_pair : PySem.W.keepIn K (.ref f_is_vertex_pair) = true)
    {fo_check_graph fk_check_graph fe_check_graph fm_check_graph fc_check_graph ft_check_graph : Value} {fD_check_graph fN_check_graph : Option Addr} {fS_check_graph : Array (Option Value)}
    (fa_check_graph : PySem.W.nsIn K mainGlobals "check_graph" = some (some (.ref f_check_graph)))
    (fl_check_graph : K.lookup f_check_graph = some ⟨fo_check_graph, fD_check_graph, .func (PySem.W.fnOf "check_graph" "check_graph" (defArgs (top 13)) (defBody (top 13)) (defScope (top 13)) .none fk_check_graph fe_check_graph fm_check_graph fN_check_graph fc_check_graph ft_check_graph), fS_check_graph⟩)
    (fcc_check_graph : PySem.W.codeIn K fc_check_graph "check_graph" = true)
    (fq_check_graph : PySem.W.keepIn K (.ref f_check_graph) = true)
    {fo_is_lot fk_is_lot fe_is_lot fm_is_lot fc_is_lot ft_is_lot : Value} {fD_is_lot fN_is_lot : Option Addr} {fS_is_lot : Array (Option Value)}
    (fa_is_lot : PySem.W.nsIn K mainGlobals "is_lot" = some (some (.ref f_is_lot)))
    (fl_is_lot : K.lookup f_is_lot = some ⟨fo_is_lot, fD_is_lot, .func (PySem.W.fnOf "is_lot" "is_lot" (defArgs (top 14)) (defBody (top 14)) (defScope (top 14)) .none fk_is_lot fe_is_lot fm_is_lot fN_is_lot fc_is_lot ft_is_lot), fS_is_lot⟩)
    (fcc_is_lot : PySem.W.codeIn K fc_is_lot "is_lot" = true)
    (fq_is_lot : PySem.W.keepIn K (.ref f_is_lot) = true)
    {fo_check_lot fk_check_lot fe_check_lot fm_check_lot fc_check_lot ft_check_lot : Value} {fD_check_lot fN_check_lot : Option Addr} {fS_check_lot : Array (Option Value)}
    (fa_check_lot : PySem.W.nsIn K mainGlobals "check_lot" = some (some (.ref f_check_lot)))
    (fl_check_lot : K.lookup f_check_lot = some ⟨fo_check_lot, fD_check_lot, .func (PySem.W.fnOf "check_lot" "check_lot" (defArgs (top 15)) (defBody (top 15)) (defScope (top 15)) .none fk_check_lot fe_check_lot fm_check_lot fN_check_lot fc_check_lot ft_check_lot), fS_check_lot⟩)
    (fcc_check_lot : PySem.W.codeIn K fc_check_lot "check_lot" = true)
    (fq_check_lot : PySem.W.keepIn K (.ref f_check_lot) = true)
    {fo_induced fk_induced fe_induced fm_induced fc_induced ft_induced : Value} {fD_induced fN_induced : Option Addr} {fS_induced : Array (Option Value)}
    (fa_induced : PySem.W.nsIn K mainGlobals "induced" = some (some (.ref f_induced)))
    (fl_induced : K.lookup f_induced = some ⟨fo_induced, fD_induced, .func (PySem.W.fnOf "induced" "induced" (defArgs (top 16)) (defBody (top 16)) (defScope (top 16)) .none fk_induced fe_induced fm_induced fN_induced fc_induced ft_induced), fS_induced⟩)
    (fcc_induced : PySem.W.codeIn K fc_induced "induced" = true)
    (fq_induced : PySem.W.keepIn K (.ref f_induced) = true)
    {fo_is_change fk_is_change fe_is_change fm_is_change fc_is_change ft_is_change : Value} {fD_is_change fN_is_change : Option Addr} {fS_is_change : Array (Option Value)}
    (fa_is_change : PySem.W.nsIn K mainGlobals "is_change" = some (some (.ref f_is_change)))
    (fl_is_change : K.lookup f_is_change = some ⟨fo_is_change, fD_is_change, .func (PySem.W.fnOf "is_change" "is_change" (defArgs (top 21)) (defBody (top 21)) (defScope (top 21)) .none fk_is_change fe_is_change fm_is_change fN_is_change fc_is_change ft_is_change), fS_is_change⟩)
    (fcc_is_change : PySem.W.codeIn K fc_is_change "is_change" = true)
    (fq_is_change : PySem.W.keepIn K (.ref f_is_change) = true)
    {fo_does_fit fk_does_fit fe_does_fit fm_does_fit fc_does_fit ft_does_fit : Value} {fD_does_fit fN_does_fit : Option Addr} {fS_does_fit : Array (Option Value)}
    (fa_does_fit : PySem.W.nsIn K mainGlobals "does_fit" = some (some (.ref f_does_fit)))
    (fl_does_fit : K.lookup f_does_fit = some ⟨fo_does_fit, fD_does_fit, .func (PySem.W.fnOf "does_fit" "does_fit" (defArgs (top 22)) (defBody (top 22)) (defScope (top 22)) .none fk_does_fit fe_does_fit fm_does_fit fN_does_fit fc_does_fit ft_does_fit), fS_does_fit⟩)
    (fcc_does_fit : PySem.W.codeIn K fc_does_fit "does_fit" = true)
    (fq_does_fit : PySem.W.keepIn K (.ref f_does_fit) = true)
    {fo__led_on fk__led_on fe__led_on fm__led_on fc__led_on ft__led_on : Value} {fD__led_on fN__led_on : Option Addr} {fS__led_on : Array (Option Value)}
    (fa__led_on : PySem.W.nsIn K mainGlobals "_led_on" = some (some (.ref f__led_on)))
    (fl__led_on : K.lookup f__led_on = some ⟨fo__led_on, fD__led_on, .func (PySem.W.fnOf "_led_on" "_led_on" (defArgs (top 23)) (defBody (top 23)) (defScope (top 23)) .none fk__led_on fe__led_on fm__led_on fN__led_on fc__led_on ft__led_on), fS__led_on⟩)
    (fcc__led_on : PySem.W.codeIn K fc__led_on "_led_on" = true)
    (fq__led_on : PySem.W.keepIn K (.ref f__led_on) = true)
    {fo_graph_of fk_graph_of fe_graph_of fm_graph_of fc_graph_of ft_graph_of : Value} {fD_graph_of fN_graph_of : Option Addr} {fS_graph_of : Array (Option Value)}
    (fa_graph_of : PySem.W.nsIn K mainGlobals "graph_of" = some (some (.ref f_graph_of)))
    (fl_graph_of : K.lookup f_graph_of = some ⟨fo_graph_of, fD_graph_of, .func (PySem.W.fnOf "graph_of" "graph_of" (defArgs (top 24)) (defBody (top 24)) (defScope (top 24)) .none fk_graph_of fe_graph_of fm_graph_of fN_graph_of fc_graph_of ft_graph_of), fS_graph_of⟩)
    (fcc_graph_of : PySem.W.codeIn K fc_graph_of "graph_of" = true)
    (fq_graph_of : PySem.W.keepIn K (.ref f_graph_of) = true)
    {fo_log_of fk_log_of fe_log_of fm_log_of fc_log_of ft_log_of : Value} {fD_log_of fN_log_of : Option Addr} {fS_log_of : Array (Option Value)}
    (fa_log_of : PySem.W.nsIn K mainGlobals "log_of" = some (some (.ref f_log_of)))
    (fl_log_of : K.lookup f_log_of = some ⟨fo_log_of, fD_log_of, .func (PySem.W.fnOf "log_of" "log_of" (defArgs (top 25)) (defBody (top 25)) (defScope (top 25)) .none fk_log_of fe_log_of fm_log_of fN_log_of fc_log_of ft_log_of), fS_log_of⟩)
    (fcc_log_of : PySem.W.codeIn K fc_log_of "log_of" = true)
    (fq_log_of : PySem.W.keepIn K (.ref f_log_of) = true)
    {fo__law_pot fk__law_pot fe__law_pot fm__law_pot fc__law_pot ft__law_pot : Value} {fD__law_pot fN__law_pot : Option Addr} {fS__law_pot : Array (Option Value)}
    (fa__law_pot : PySem.W.nsIn K mainGlobals "_law_pot" = some (some (.ref f__law_pot)))
    (fl__law_pot : K.lookup f__law_pot = some ⟨fo__law_pot, fD__law_pot, .func (PySem.W.fnOf "_law_pot" "_law_pot" (defArgs (top 27)) (defBody (top 27)) (defScope (top 27)) .none fk__law_pot fe__law_pot fm__law_pot fN__law_pot fc__law_pot ft__law_pot), fS__law_pot⟩)
    (fcc__law_pot : PySem.W.codeIn K fc__law_pot "_law_pot" = true)
    (fq__law_pot : PySem.W.keepIn K (.ref f__law_pot) = true)
    {fo__law_draw fk__law_draw fe__law_draw fm__law_draw fc__law_draw ft__law_draw : Value} {fD__law_draw fN__law_draw : Option Addr} {fS__law_draw : Array (Option Value)}
    (fa__law_draw : PySem.W.nsIn K mainGlobals "_law_draw" = some (some (.ref f__law_draw)))
    (fl__law_draw : K.lookup f__law_draw = some ⟨fo__law_draw, fD__law_draw, .func (PySem.W.fnOf "_law_draw" "_law_draw" (defArgs (top 28)) (defBody (top 28)) (defScope (top 28)) .none fk__law_draw fe__law_draw fm__law_draw fN__law_draw fc__law_draw ft__law_draw), fS__law_draw⟩)
    (fcc__law_draw : PySem.W.codeIn K fc__law_draw "_law_draw" = true)
    (fq__law_draw : PySem.W.keepIn K (.ref f__law_draw) = true)
    {fo__law_pick fk__law_pick fe__law_pick fm__law_pick fc__law_pick ft__law_pick : Value} {fD__law_pick fN__law_pick : Option Addr} {fS__law_pick : Array (Option Value)}
    (fa__law_pick : PySem.W.nsIn K mainGlobals "_law_pick" = some (some (.ref f__law_pick)))
    (fl__law_pick : K.lookup f__law_pick = some ⟨fo__law_pick, fD__law_pick, .func (PySem.W.fnOf "_law_pick" "_law_pick" (defArgs (top 29)) (defBody (top 29)) (defScope (top 29)) .none fk__law_pick fe__law_pick fm__law_pick fN__law_pick fc__law_pick ft__law_pick), fS__law_pick⟩)
    (fcc__law_pick : PySem.W.codeIn K fc__law_pick "_law_pick" = true)
    (fq__law_pick : PySem.W.keepIn K (.ref f__law_pick) = true)
    {fo__law_mixed fk__law_mixed fe__law_mixed fm__law_mixed fc__law_mixed ft__law_mixed : Value} {fD__law_mixed fN__law_mixed : Option Addr} {fS__law_mixed : Array (Option Value)}
    (fa__law_mixed : PySem.W.nsIn K mainGlobals "_law_mixed" = some (some (.ref f__law_mixed)))
    (fl__law_mixed : K.lookup f__law_mixed = some ⟨fo__law_mixed, fD__law_mixed, .func (PySem.W.fnOf "_law_mixed" "_law_mixed" (defArgs (top 30)) (defBody (top 30)) (defScope (top 30)) .none fk__law_mixed fe__law_mixed fm__law_mixed fN__law_mixed fc__law_mixed ft__law_mixed), fS__law_mixed⟩)
    (fcc__law_mixed : PySem.W.codeIn K fc__law_mixed "_law_mixed" = true)
    (fq__law_mixed : PySem.W.keepIn K (.ref f__law_mixed) = true)
    {fo__law_odd fk__law_odd fe__law_odd fm__law_odd fc__law_odd ft__law_odd : Value} {fD__law_odd fN__law_odd : Option Addr} {fS__law_odd : Array (Option Value)}
    (fa__law_odd : PySem.W.nsIn K mainGlobals "_law_odd" = some (some (.ref f__law_odd)))
    (fl__law_odd : K.lookup f__law_odd = some ⟨fo__law_odd, fD__law_odd, .func (PySem.W.fnOf "_law_odd" "_law_odd" (defArgs (top 31)) (defBody (top 31)) (defScope (top 31)) .none fk__law_odd fe__law_odd fm__law_odd fN__law_odd fc__law_odd ft__law_odd), fS__law_odd⟩)
    (fcc__law_odd : PySem.W.codeIn K fc__law_odd "_law_odd" = true)
    (fq__law_odd : PySem.W.keepIn K (.ref f__law_odd) = true)
    {fo__law_is_whole fk__law_is_whole fe__law_is_whole fm__law_is_whole fc__law_is_whole ft__law_is_whole : Value} {fD__law_is_whole fN__law_is_whole : Option Addr} {fS__law_is_whole : Array (Option Value)}
    (fa__law_is_whole : PySem.W.nsIn K mainGlobals "_law_is_whole" = some (some (.ref f__law_is_whole)))
    (fl__law_is_whole : K.lookup f__law_is_whole = some ⟨fo__law_is_whole, fD__law_is_whole, .func (PySem.W.fnOf "_law_is_whole" "_law_is_whole" (defArgs (top 32)) (defBody (top 32)) (defScope (top 32)) .none fk__law_is_whole fe__law_is_whole fm__law_is_whole fN__law_is_whole fc__law_is_whole ft__law_is_whole), fS__law_is_whole⟩)
    (fcc__law_is_whole : PySem.W.codeIn K fc__law_is_whole "_law_is_whole" = true)
    (fq__law_is_whole : PySem.W.keepIn K (.ref f__law_is_whole) = true)
    {fo__law_is_lot fk__law_is_lot fe__law_is_lot fm__law_is_lot fc__law_is_lot ft__law_is_lot : Value} {fD__law_is_lot fN__law_is_lot : Option Addr} {fS__law_is_lot : Array (Option Value)}
    (fa__law_is_lot : PySem.W.nsIn K mainGlobals "_law_is_lot" = some (some (.ref f__law_is_lot)))
    (fl__law_is_lot : K.lookup f__law_is_lot = some ⟨fo__law_is_lot, fD__law_is_lot, .func (PySem.W.fnOf "_law_is_lot" "_law_is_lot" (defArgs (top 33)) (defBody (top 33)) (defScope (top 33)) .none fk__law_is_lot fe__law_is_lot fm__law_is_lot fN__law_is_lot fc__law_is_lot ft__law_is_lot), fS__law_is_lot⟩)
    (fcc__law_is_lot : PySem.W.codeIn K fc__law_is_lot "_law_is_lot" = true)
    (fq__law_is_lot : PySem.W.keepIn K (.ref f__law_is_lot) = true)
    {fo__law_table fk__law_table fe__law_table fm__law_table fc__law_table ft__law_table : Value} {fD__law_table fN__law_table : Option Addr} {fS__law_table : Array (Option Value)}
    (fa__law_table : PySem.W.nsIn K mainGlobals "_law_table" = some (some (.ref f__law_table)))
    (fl__law_table : K.lookup f__law_table = some ⟨fo__law_table, fD__law_table, .func (PySem.W.fnOf "_law_table" "_law_table" (defArgs (top 34)) (defBody (top 34)) (defScope (top 34)) .none fk__law_table fe__law_table fm__law_table fN__law_table fc__law_table ft__law_table), fS__law_table⟩)
    (fcc__law_table : PySem.W.codeIn K fc__law_table "_law_table" = true)
    (fq__law_table : PySem.W.keepIn K (.ref f__law_table) = true)
    {fo__law_of_table fk__law_of_table fe__law_of_table fm__law_of_table fc__law_of_table ft__law_of_table : Value} {fD__law_of_table fN__law_of_table : Option Addr} {fS__law_of_table : Array (Option Value)}
    (fa__law_of_table : PySem.W.nsIn K mainGlobals "_law_of_table" = some (some (.ref f__law_of_table)))
    (fl__law_of_table : K.lookup f__law_of_table = some ⟨fo__law_of_table, fD__law_of_table, .func (PySem.W.fnOf "_law_of_table" "_law_of_table" (defArgs (top 35)) (defBody (top 35)) (defScope (top 35)) .none fk__law_of_table fe__law_of_table fm__law_of_table fN__law_of_table fc__law_of_table ft__law_of_table), fS__law_of_table⟩)
    (fcc__law_of_table : PySem.W.codeIn K fc__law_of_table "_law_of_table" = true)
    (fq__law_of_table : PySem.W.keepIn K (.ref f__law_of_table) = true)
    {fo__law_within fk__law_within fe__law_within fm__law_within fc__law_within ft__law_within : Value} {fD__law_within fN__law_within : Option Addr} {fS__law_within : Array (Option Value)}
    (fa__law_within : PySem.W.nsIn K mainGlobals "_law_within" = some (some (.ref f__law_within)))
    (fl__law_within : K.lookup f__law_within = some ⟨fo__law_within, fD__law_within, .func (PySem.W.fnOf "_law_within" "_law_within" (defArgs (top 36)) (defBody (top 36)) (defScope (top 36)) .none fk__law_within fe__law_within fm__law_within fN__law_within fc__law_within ft__law_within), fS__law_within⟩)
    (fcc__law_within : PySem.W.codeIn K fc__law_within "_law_within" = true)
    (fq__law_within : PySem.W.keepIn K (.ref f__law_within) = true)
    {fo__law_is_change fk__law_is_change fe__law_is_change fm__law_is_change fc__law_is_change ft__law_is_change : Value} {fD__law_is_change fN__law_is_change : Option Addr} {fS__law_is_change : Array (Option Value)}
    (fa__law_is_change : PySem.W.nsIn K mainGlobals "_law_is_change" = some (some (.ref f__law_is_change)))
    (fl__law_is_change : K.lookup f__law_is_change = some ⟨fo__law_is_change, fD__law_is_change, .func (PySem.W.fnOf "_law_is_change" "_law_is_change" (defArgs (top 37)) (defBody (top 37)) (defScope (top 37)) .none fk__law_is_change fe__law_is_change fm__law_is_change fN__law_is_change fc__law_is_change ft__law_is_change), fS__law_is_change⟩)
    (fcc__law_is_change : PySem.W.codeIn K fc__law_is_change "_law_is_change" = true)
    (fq__law_is_change : PySem.W.keepIn K (.ref f__law_is_change) = true)
    {fo__law_fits fk__law_fits fe__law_fits fm__law_fits fc__law_fits ft__law_fits : Value} {fD__law_fits fN__law_fits : Option Addr} {fS__law_fits : Array (Option Value)}
    (fa__law_fits : PySem.W.nsIn K mainGlobals "_law_fits" = some (some (.ref f__law_fits)))
    (fl__law_fits : K.lookup f__law_fits = some ⟨fo__law_fits, fD__law_fits, .func (PySem.W.fnOf "_law_fits" "_law_fits" (defArgs (top 38)) (defBody (top 38)) (defScope (top 38)) .none fk__law_fits fe__law_fits fm__law_fits fN__law_fits fc__law_fits ft__law_fits), fS__law_fits⟩)
    (fcc__law_fits : PySem.W.codeIn K fc__law_fits "_law_fits" = true)
    (fq__law_fits : PySem.W.keepIn K (.ref f__law_fits) = true)
    {fo__law_done fk__law_done fe__law_done fm__law_done fc__law_done ft__law_done : Value} {fD__law_done fN__law_done : Option Addr} {fS__law_done : Array (Option Value)}
    (fa__law_done : PySem.W.nsIn K mainGlobals "_law_done" = some (some (.ref f__law_done)))
    (fl__law_done : K.lookup f__law_done = some ⟨fo__law_done, fD__law_done, .func (PySem.W.fnOf "_law_done" "_law_done" (defArgs (top 39)) (defBody (top 39)) (defScope (top 39)) .none fk__law_done fe__law_done fm__law_done fN__law_done fc__law_done ft__law_done), fS__law_done⟩)
    (fcc__law_done : PySem.W.codeIn K fc__law_done "_law_done" = true)
    (fq__law_done : PySem.W.keepIn K (.ref f__law_done) = true)
    {fo__law_change fk__law_change fe__law_change fm__law_change fc__law_change ft__law_change : Value} {fD__law_change fN__law_change : Option Addr} {fS__law_change : Array (Option Value)}
    (fa__law_change : PySem.W.nsIn K mainGlobals "_law_change" = some (some (.ref f__law_change)))
    (fl__law_change : K.lookup f__law_change = some ⟨fo__law_change, fD__law_change, .func (PySem.W.fnOf "_law_change" "_law_change" (defArgs (top 40)) (defBody (top 40)) (defScope (top 40)) .none fk__law_change fe__law_change fm__law_change fN__law_change fc__law_change ft__law_change), fS__law_change⟩)
    (fcc__law_change : PySem.W.codeIn K fc__law_change "_law_change" = true)
    (fq__law_change : PySem.W.keepIn K (.ref f__law_change) = true)
    {fo__law_drawn fk__law_drawn fe__law_drawn fm__law_drawn fc__law_drawn ft__law_drawn : Value} {fD__law_drawn fN__law_drawn : Option Addr} {fS__law_drawn : Array (Option Value)}
    (fa__law_drawn : PySem.W.nsIn K mainGlobals "_law_drawn" = some (some (.ref f__law_drawn)))
    (fl__law_drawn : K.lookup f__law_drawn = some ⟨fo__law_drawn, fD__law_drawn, .func (PySem.W.fnOf "_law_drawn" "_law_drawn" (defArgs (top 41)) (defBody (top 41)) (defScope (top 41)) .none fk__law_drawn fe__law_drawn fm__law_drawn fN__law_drawn fc__law_drawn ft__law_drawn), fS__law_drawn⟩)
    (fcc__law_drawn : PySem.W.codeIn K fc__law_drawn "_law_drawn" = true)
    (fq__law_drawn : PySem.W.keepIn K (.ref f__law_drawn) = true)
    {fo__law_told fk__law_told fe__law_told fm__law_told fc__law_told ft__law_told : Value} {fD__law_told fN__law_told : Option Addr} {fS__law_told : Array (Option Value)}
    (fa__law_told : PySem.W.nsIn K mainGlobals "_law_told" = some (some (.ref f__law_told)))
    (fl__law_told : K.lookup f__law_told = some ⟨fo__law_told, fD__law_told, .func (PySem.W.fnOf "_law_told" "_law_told" (defArgs (top 42)) (defBody (top 42)) (defScope (top 42)) .none fk__law_told fe__law_told fm__law_told fN__law_told fc__law_told ft__law_told), fS__law_told⟩)
    (fcc__law_told : PySem.W.codeIn K fc__law_told "_law_told" = true)
    (fq__law_told : PySem.W.keepIn K (.ref f__law_told) = true)
    {fo__law_due fk__law_due fe__law_due fm__law_due fc__law_due ft__law_due : Value} {fD__law_due fN__law_due : Option Addr} {fS__law_due : Array (Option Value)}
    (fa__law_due : PySem.W.nsIn K mainGlobals "_law_due" = some (some (.ref f__law_due)))
    (fl__law_due : K.lookup f__law_due = some ⟨fo__law_due, fD__law_due, .func (PySem.W.fnOf "_law_due" "_law_due" (defArgs (top 43)) (defBody (top 43)) (defScope (top 43)) .none fk__law_due fe__law_due fm__law_due fN__law_due fc__law_due ft__law_due), fS__law_due⟩)
    (fcc__law_due : PySem.W.codeIn K fc__law_due "_law_due" = true)
    (fq__law_due : PySem.W.keepIn K (.ref f__law_due) = true)
    {fo__law_right fk__law_right fe__law_right fm__law_right fc__law_right ft__law_right : Value} {fD__law_right fN__law_right : Option Addr} {fS__law_right : Array (Option Value)}
    (fa__law_right : PySem.W.nsIn K mainGlobals "_law_right" = some (some (.ref f__law_right)))
    (fl__law_right : K.lookup f__law_right = some ⟨fo__law_right, fD__law_right, .func (PySem.W.fnOf "_law_right" "_law_right" (defArgs (top 44)) (defBody (top 44)) (defScope (top 44)) .none fk__law_right fe__law_right fm__law_right fN__law_right fc__law_right ft__law_right), fS__law_right⟩)
    (fcc__law_right : PySem.W.codeIn K fc__law_right "_law_right" = true)
    (fq__law_right : PySem.W.keepIn K (.ref f__law_right) = true)
    {fo_law fk_law fe_law fm_law fc_law ft_law : Value} {fD_law fN_law : Option Addr} {fS_law : Array (Option Value)}
    (fa_law : PySem.W.nsIn K mainGlobals "law" = some (some (.ref f_law)))
    (fl_law : K.lookup f_law = some ⟨fo_law, fD_law, .func (PySem.W.fnOf "law" "law" (defArgs (top 45)) (defBody (top 45)) (defScope (top 45)) .none fk_law fe_law fm_law fN_law fc_law ft_law), fS_law⟩)
    (fcc_law : PySem.W.codeIn K fc_law "law" = true)
    (fq_law : PySem.W.keepIn K (.ref f_law) = true)
    (gV : PySem.W.nsIn K mainGlobals "MOST_VERTICES" = some (some (.int 9 tkV)))
    (gMC : PySem.W.nsIn K mainGlobals "MOST_CHANGES" = some (some (.int 200 tkMC)))
    (dLa : PySem.W.nsIn K mainGlobals "LENGTHS" = some (some (.ref d_L)))
    (dLb : K.lookup d_L = some ⟨.type "dict", none, .dict d_es d_n, #[]⟩)
    (dLc : PySem.W.KeysLit w.params d_es.toList)
    (dLo : (d_L == sysModules) = false)
    (dLv1 : PySem.W.nsIn K d_L "vertex" = some (some (.int 2 d_t1)))
    (dLv2 : PySem.W.nsIn K d_L "out" = some (some (.int 2 d_t2)))
    (dLv3 : PySem.W.nsIn K d_L "edge" = some (some (.int 3 d_t3)))
    (dLv4 : PySem.W.nsIn K d_L "cut" = some (some (.int 3 d_t4)))
    (dLk : d_es.toList.map (fun e => e.key.isStr "vertex" || e.key.isStr "out" || e.key.isStr "edge" || e.key.isStr "cut") = [true, true, true, true])
    (xC : PySem.W.nsIn K mainGlobals "InvalidLog" = some (some (.ref x_C)))
    (xi : PySem.W.findIn K (.ref x_C) "__init__" = some (some (.ref x_I)))
    (xl : K.lookup x_I = some ⟨x_o, x_D, .func (PySem.W.fnOf "__init__" "InvalidLog.__init__" (defArgs (inClass (top 4) 0)) (defBody (inClass (top 4) 0)) (defScope (inClass (top 4) 0)) .none x_k x_e x_m x_N x_d x_t), x_S⟩)
    (xc : PySem.W.codeIn K x_d "InvalidLog.__init__" = true)
    (xq : PySem.W.keepIn K (.ref x_I) = true)
    (xb : iniB K x_C x_I "index" = true)
    (xe : PySem.W.exmOne K (.ref x_C) (.ref x_C) = some true)
    (eA : PySem.W.nsIn K mainGlobals "EMPTY" = some (some (.ref e_A)))
    (eB : K.lookup e_A = some ⟨.type "tuple", e_d1, .seq #[.int 0 e_t, .ref e_B] e_n1, e_s1⟩)
    (eC : K.lookup e_B = some ⟨.type "tuple", e_d2, .seq #[] e_n2, e_s2⟩)
    (z_len : PySem.W.nsIn K mainGlobals "len" = some none)
    (z_int : PySem.W.nsIn K mainGlobals "int" = some none)
    (z_abs : PySem.W.nsIn K mainGlobals "abs" = some none)
    (z_divmod : PySem.W.nsIn K mainGlobals "divmod" = some none)
    (z_repr : PySem.W.nsIn K mainGlobals "repr" = some none)
    (z_isinstance : PySem.W.nsIn K mainGlobals "isinstance" = some none)
    (z_bool : PySem.W.nsIn K mainGlobals "bool" = some none)
    (z_str : PySem.W.nsIn K mainGlobals "str" = some none)
    (z_range : PySem.W.nsIn K mainGlobals "range" = some none)
    (z_all : PySem.W.nsIn K mainGlobals "all" = some none)
    (z_max : PySem.W.nsIn K mainGlobals "max" = some none)
    (z_min : PySem.W.nsIn K mainGlobals "min" = some none)
    (z_list : PySem.W.nsIn K mainGlobals "list" = some none)
    (z_tuple : PySem.W.nsIn K mainGlobals "tuple" = some none)
    (z_sorted : PySem.W.nsIn K mainGlobals "sorted" = some none)
    (z_type : PySem.W.nsIn K mainGlobals "type" = some none)
    (z_set : PySem.W.nsIn K mainGlobals "set" = some none)
    (z_zip : PySem.W.nsIn K mainGlobals "zip" = some none)
    (z_enumerate : PySem.W.nsIn K mainGlobals "enumerate" = some none)
    : ∃ fd : FuncData, (∀ (s : Shared) (v : Value), BindsTo s fd ⟨[v], []⟩ [("script", v)]) ∧ ∀ base : Heap, K.In base → base.Ns mainGlobals mg → FnG l.prog w K mg base CX0 13 fa fd ["script"] (spLaw K) := by
  have e := hfa.symm.trans (PySem.W.mg_of X GN fa_law)
  cases e
  have F_is_whole := fun_mk (st := top 7) fl_is_whole fcc_is_whole fq_is_whole
  have B_is_whole := F_is_whole.binds (ps := ["value", "low", "high"]) fun _ _ _ _ _ _ us hl => match us, hl with | [_, _, _], _ => rfl
  have F_is_whole_from := fun_mk (st := top 8) fl_is_whole_from fcc_is_whole_from fq_is_whole_from
  have B_is_whole_from := F_is_whole_from.binds (ps := ["value", "low"]) fun _ _ _ _ _ _ us hl => match us, hl with | [_, _], _ => rfl
  have F_is_tuple_of_two := fun_mk (st := top 9) fl_is_tuple_of_two fcc_is_tuple_of_two fq_is_tuple_of_two
  have B_is_tuple_of_two := F_is_tuple_of_two.binds (ps := ["value"]) fun _ _ _ _ _ _ us hl => match us, hl with | [_], _ => rfl
  have F_is_ascending := fun_mk (st := top 10) fl_is_ascending fcc_is_ascending fq_is_ascending
  have B_is_ascending := F_is_ascending.binds (ps := ["row"]) fun _ _ _ _ _ _ us hl => match us, hl with | [_], _ => rfl
  have F_is_graph := fun_mk (st := top 11) fl_is_graph fcc_is_graph fq_is_graph
  have B_is_graph := F_is_graph.binds (ps := ["value"]) fun _ _ _ _ _ _ us hl => match us, hl with | [_], _ => rfl
  have F_is_vertex_pair := fun_mk (st := top 12) fl_is_vertex_pair fcc_is_vertex_pair fq_is_vertex_pair
  have B_is_vertex_pair := F_is_vertex_pair.binds (ps := ["value", "many"]) fun _ _ _ _ _ _ us hl => match us, hl with | [_, _], _ => rfl
  have F_check_graph := fun_mk (st := top 13) fl_check_graph fcc_check_graph fq_check_graph
  have B_check_graph := F_check_graph.binds (ps := ["graph"]) fun _ _ _ _ _ _ us hl => match us, hl with | [_], _ => rfl
  have F_is_lot := fun_mk (st := top 14) fl_is_lot fcc_is_lot fq_is_lot
  have B_is_lot := F_is_lot.binds (ps := ["graph", "value"]) fun _ _ _ _ _ _ us hl => match us, hl with | [_, _], _ => rfl
  have F_check_lot := fun_mk (st := top 15) fl_check_lot fcc_check_lot fq_check_lot
  have B_check_lot := F_check_lot.binds (ps := ["graph", "lot"]) fun _ _ _ _ _ _ us hl => match us, hl with | [_, _], _ => rfl
  have F_induced := fun_mk (st := top 16) fl_induced fcc_induced fq_induced
  have B_induced := F_induced.binds (ps := ["graph", "lot"]) fun _ _ _ _ _ _ us hl => match us, hl with | [_, _], _ => rfl
  have F_is_change := fun_mk (st := top 21) fl_is_change fcc_is_change fq_is_change
  have B_is_change := F_is_change.binds (ps := ["value"]) fun _ _ _ _ _ _ us hl => match us, hl with | [_], _ => rfl
  have F_does_fit := fun_mk (st := top 22) fl_does_fit fcc_does_fit fq_does_fit
  have B_does_fit := F_does_fit.binds (ps := ["graph", "change"]) fun _ _ _ _ _ _ us hl => match us, hl with | [_, _], _ => rfl
  have F__led_on := fun_mk (st := top 23) fl__led_on fcc__led_on fq__led_on
  have B__led_on := F__led_on.binds (ps := ["graph", "change"]) fun _ _ _ _ _ _ us hl => match us, hl with | [_, _], _ => rfl
  have F_graph_of := fun_mk (st := top 24) fl_graph_of fcc_graph_of fq_graph_of
  have B_graph_of := F_graph_of.binds (ps := ["log"]) fun _ _ _ _ _ _ us hl => match us, hl with | [_], _ => rfl
  have F_log_of := fun_mk (st := top 25) fl_log_of fcc_log_of fq_log_of
  have B_log_of := F_log_of.binds (ps := ["graph"]) fun _ _ _ _ _ _ us hl => match us, hl with | [_], _ => rfl
  have F__law_pot := fun_mk (st := top 27) fl__law_pot fcc__law_pot fq__law_pot
  have B__law_pot := F__law_pot.binds (ps := ["script", "turn"]) fun _ _ _ _ _ _ us hl => match us, hl with | [_, _], _ => rfl
  have F__law_draw := fun_mk (st := top 28) fl__law_draw fcc__law_draw fq__law_draw
  have B__law_draw := F__law_draw.binds (ps := ["pot", "few"]) fun _ _ _ _ _ _ us hl => match us, hl with | [_, _], _ => rfl
  have F__law_pick := fun_mk (st := top 29) fl__law_pick fcc__law_pick fq__law_pick
  have B__law_pick := F__law_pick.binds (ps := ["pot", "some"]) fun _ _ _ _ _ _ us hl => match us, hl with | [_, _], _ => rfl
  have F__law_mixed := fun_mk (st := top 30) fl__law_mixed fcc__law_mixed fq__law_mixed
  have B__law_mixed := F__law_mixed.binds (ps := ["pot", "some"]) fun _ _ _ _ _ _ us hl => match us, hl with | [_, _], _ => rfl
  have F__law_odd := fun_mk (st := top 31) fl__law_odd fcc__law_odd fq__law_odd
  have B__law_odd := F__law_odd.binds (ps := ["pot"]) fun _ _ _ _ _ _ us hl => match us, hl with | [_], _ => rfl
  have F__law_is_whole := fun_mk (st := top 32) fl__law_is_whole fcc__law_is_whole fq__law_is_whole
  have B__law_is_whole := F__law_is_whole.binds (ps := ["value"]) fun _ _ _ _ _ _ us hl => match us, hl with | [_], _ => rfl
  have F__law_is_lot := fun_mk (st := top 33) fl__law_is_lot fcc__law_is_lot fq__law_is_lot
  have B__law_is_lot := F__law_is_lot.binds (ps := ["value", "many"]) fun _ _ _ _ _ _ us hl => match us, hl with | [_, _], _ => rfl
  have F__law_table := fun_mk (st := top 34) fl__law_table fcc__law_table fq__law_table
  have B__law_table := F__law_table.binds (ps := ["graph"]) fun _ _ _ _ _ _ us hl => match us, hl with | [_], _ => rfl
  have F__law_of_table := fun_mk (st := top 35) fl__law_of_table fcc__law_of_table fq__law_of_table
  have B__law_of_table := F__law_of_table.binds (ps := ["rows"]) fun _ _ _ _ _ _ us hl => match us, hl with | [_], _ => rfl
  have F__law_within := fun_mk (st := top 36) fl__law_within fcc__law_within fq__law_within
  have B__law_within := F__law_within.binds (ps := ["graph", "some"]) fun _ _ _ _ _ _ us hl => match us, hl with | [_, _], _ => rfl
  have F__law_is_change := fun_mk (st := top 37) fl__law_is_change fcc__law_is_change fq__law_is_change
  have B__law_is_change := F__law_is_change.binds (ps := ["value"]) fun _ _ _ _ _ _ us hl => match us, hl with | [_], _ => rfl
  have F__law_fits := fun_mk (st := top 38) fl__law_fits fcc__law_fits fq__law_fits
  have B__law_fits := F__law_fits.binds (ps := ["graph", "change"]) fun _ _ _ _ _ _ us hl => match us, hl with | [_, _], _ => rfl
  have F__law_done := fun_mk (st := top 39) fl__law_done fcc__law_done fq__law_done
  have B__law_done := F__law_done.binds (ps := ["graph", "change"]) fun _ _ _ _ _ _ us hl => match us, hl with | [_, _], _ => rfl
  have F__law_change := fun_mk (st := top 40) fl__law_change fcc__law_change fq__law_change
  have B__law_change := F__law_change.binds (ps := ["pot", "graph"]) fun _ _ _ _ _ _ us hl => match us, hl with | [_, _], _ => rfl
  have F__law_drawn := fun_mk (st := top 41) fl__law_drawn fcc__law_drawn fq__law_drawn
  have B__law_drawn := F__law_drawn.binds (ps := ["pot", "many"]) fun _ _ _ _ _ _ us hl => match us, hl with | [_, _], _ => rfl
  have F__law_told := fun_mk (st := top 42) fl__law_told fcc__law_told fq__law_told
  have B__law_told := F__law_told.binds (ps := ["log"]) fun _ _ _ _ _ _ us hl => match us, hl with | [_], _ => rfl
  have F__law_due := fun_mk (st := top 43) fl__law_due fcc__law_due fq__law_due
  have B__law_due := F__law_due.binds (ps := ["log"]) fun _ _ _ _ _ _ us hl => match us, hl with | [_], _ => rfl
  have F__law_right := fun_mk (st := top 44) fl__law_right fcc__law_right fq__law_right
  have B__law_right := F__law_right.binds (ps := ["pot"]) fun _ _ _ _ _ _ us hl => match us, hl with | [_], _ => rfl
  have F_law := fun_mk (st := top 45) fl_law fcc_law fq_law
  have B_law := F_law.binds (ps := ["script"]) fun _ _ _ _ _ _ us hl => match us, hl with | [_], _ => rfl
  have m_len := PySem.W.mg_none_of X GN z_len
  have m_int := PySem.W.mg_none_of X GN z_int
  have m_abs := PySem.W.mg_none_of X GN z_abs
  have m_divmod := PySem.W.mg_none_of X GN z_divmod
  have m_repr := PySem.W.mg_none_of X GN z_repr
  have m_isinstance := PySem.W.mg_none_of X GN z_isinstance
  have m_bool := PySem.W.mg_none_of X GN z_bool
  have m_str := PySem.W.mg_none_of X GN z_str
  have m_range := PySem.W.mg_none_of X GN z_range
  have m_all := PySem.W.mg_none_of X GN z_all
  have m_max := PySem.W.mg_none_of X GN z_max
  have m_min := PySem.W.mg_none_of X GN z_min
  have m_list := PySem.W.mg_none_of X GN z_list
  have m_tuple := PySem.W.mg_none_of X GN z_tuple
  have m_sorted := PySem.W.mg_none_of X GN z_sorted
  have m_type := PySem.W.mg_none_of X GN z_type
  have m_set := PySem.W.mg_none_of X GN z_set
  have m_zip := PySem.W.mg_none_of X GN z_zip
  have m_enumerate := PySem.W.mg_none_of X GN z_enumerate
  have mV := PySem.W.mg_of X GN gV
  have mMC := PySem.W.mg_of X GN gMC
  have mLens := PySem.W.mg_of X GN dLa
  have hLens := lens_mk (w := w) dLb dLc dLo dLv1 dLv2 dLv3 dLv4 dLk
  have F_X := fun_mk (st := inClass (top 4) 0) xl xc xq
  have B_X := F_X.binds (ps := ["self", "index"]) fun _ _ _ _ _ _ us hl => match us, hl with | [_, _], _ => rfl
  have T_X : XCls K x_C x_I "index" := iniB_ok xi xb
  have m_X := PySem.W.mg_of X GN xC
  have mEmpty := PySem.W.mg_of X GN eA
  have hEmpty := empty_mk (K := K) eB eC
  refine ⟨PySem.W.fnOf "law" "law" (defArgs (top 45)) (defBody (top 45)) (defScope (top 45)) .none fk_law fe_law fm_law fN_law fc_law ft_law, fun s v => .of_eq rfl, fun base _ _ => ?_⟩
  have O__law_pot := ok_pot (P := l.prog) (w := w) (K := K) (mg := mg) (base := base) F__law_pot m_len m_int m_abs
  have O__law_draw := ok_draw (P := l.prog) (w := w) (K := K) (mg := mg) (base := base) F__law_draw m_divmod m_int
  have O__law_pick := ok_pickL (P := l.prog) (w := w) (K := K) (mg := mg) (base := base) F__law_pick O__law_draw B__law_draw fq__law_draw (PySem.W.mg_of X GN fa__law_draw) m_len
  have O__law_mixed := ok_mixed (P := l.prog) (w := w) (K := K) (mg := mg) (base := base) F__law_mixed O__law_draw B__law_draw fq__law_draw (PySem.W.mg_of X GN fa__law_draw) m_len m_range m_list
  have O__law_odd := ok_odd (P := l.prog) (w := w) (K := K) (mg := mg) (base := base) F__law_odd O__law_pick B__law_pick fq__law_pick (PySem.W.mg_of X GN fa__law_pick)
  have O_is_whole_from := ok_whole_from (P := l.prog) (w := w) (K := K) (mg := mg) (base := base) F_is_whole_from m_type m_int
  have O_is_whole := ok_is_whole (P := l.prog) (w := w) (K := K) (mg := mg) (base := base) F_is_whole O_is_whole_from B_is_whole_from fq_is_whole_from (PySem.W.mg_of X GN fa_is_whole_from)
  have O_is_tuple_of_two := ok_is_two (P := l.prog) (w := w) (K := K) (mg := mg) (base := base) F_is_tuple_of_two m_type m_tuple m_len
  have O_is_ascending := ok_asc (P := l.prog) (w := w) (K := K) (mg := mg) (base := base) F_is_ascending m_all m_zip
  have O_is_vertex_pair := ok_vp (P := l.prog) (w := w) (K := K) (mg := mg) (base := base) F_is_vertex_pair O_is_tuple_of_two B_is_tuple_of_two fq_is_tuple_of_two (PySem.W.mg_of X GN fa_is_tuple_of_two) O_is_whole B_is_whole fq_is_whole (PySem.W.mg_of X GN fa_is_whole) m_all
  have O_is_graph := ok_is_graph (P := l.prog) (w := w) (K := K) (mg := mg) (base := base) F_is_graph O_is_tuple_of_two B_is_tuple_of_two fq_is_tuple_of_two (PySem.W.mg_of X GN fa_is_tuple_of_two) O_is_whole B_is_whole fq_is_whole (PySem.W.mg_of X GN fa_is_whole) O_is_vertex_pair B_is_vertex_pair fq_is_vertex_pair (PySem.W.mg_of X GN fa_is_vertex_pair) O_is_ascending B_is_ascending fq_is_ascending (PySem.W.mg_of X GN fa_is_ascending) tkV mV m_type m_tuple m_all
  have O_check_graph := ok_check_graph (P := l.prog) (w := w) (K := K) (mg := mg) (base := base) F_check_graph O_is_graph B_is_graph fq_is_graph (PySem.W.mg_of X GN fa_is_graph)
  have O_is_lot := ok_is_lot (P := l.prog) (w := w) (K := K) (mg := mg) (base := base) F_is_lot O_check_graph B_check_graph fq_check_graph (PySem.W.mg_of X GN fa_check_graph) O_is_whole B_is_whole fq_is_whole (PySem.W.mg_of X GN fa_is_whole) O_is_ascending B_is_ascending fq_is_ascending (PySem.W.mg_of X GN fa_is_ascending) m_type m_tuple m_all
  have O_check_lot := ok_check_lot (P := l.prog) (w := w) (K := K) (mg := mg) (base := base) F_check_lot O_is_lot B_is_lot fq_is_lot (PySem.W.mg_of X GN fa_is_lot)
  have O__law_table := ok_table (P := l.prog) (w := w) (K := K) (mg := mg) (base := base) F__law_table m_range
  have O__law_of_table := ok_oft (P := l.prog) (w := w) (K := K) (mg := mg) (base := base) F__law_of_table m_range m_len m_tuple
  have O__law_within := ok_within (P := l.prog) (w := w) (K := K) (mg := mg) (base := base) F__law_within O__law_table B__law_table fq__law_table (PySem.W.mg_of X GN fa__law_table) O__law_of_table B__law_of_table fq__law_of_table (PySem.W.mg_of X GN fa__law_of_table)
  have O__law_is_whole := ok_lwh (P := l.prog) (w := w) (K := K) (mg := mg) (base := base) F__law_is_whole m_isinstance m_int m_bool
  have O_is_change := ok_pischg (P := l.prog) (w := w) (K := K) (mg := mg) (base := base) F_is_change O_is_whole B_is_whole fq_is_whole (PySem.W.mg_of X GN fa_is_whole) O_is_ascending B_is_ascending fq_is_ascending (PySem.W.mg_of X GN fa_is_ascending) mLens hLens tkV mV m_type m_tuple m_str m_all m_len
  have O_does_fit := ok_pfit (P := l.prog) (w := w) (K := K) (mg := mg) (base := base) F_does_fit O_is_lot B_is_lot fq_is_lot (PySem.W.mg_of X GN fa_is_lot) tkV mV m_tuple
  have O_induced := ok_induced (P := l.prog) (w := w) (K := K) (mg := mg) (base := base) F_induced O_check_lot B_check_lot fq_check_lot (PySem.W.mg_of X GN fa_check_lot) m_len m_tuple
  have O__led_on := ok_pled (P := l.prog) (w := w) (K := K) (mg := mg) (base := base) F__led_on O_induced B_induced fq_induced (PySem.W.mg_of X GN fa_induced) m_tuple m_range m_sorted
  have O__law_is_lot := ok_llot (P := l.prog) (w := w) (K := K) (mg := mg) (base := base) F__law_is_lot O__law_is_whole B__law_is_whole fq__law_is_whole (PySem.W.mg_of X GN fa__law_is_whole) m_isinstance m_tuple m_len m_range m_all
  have O__law_is_change := ok_lischg (P := l.prog) (w := w) (K := K) (mg := mg) (base := base) F__law_is_change O__law_is_whole B__law_is_whole fq__law_is_whole (PySem.W.mg_of X GN fa__law_is_whole) O__law_is_lot B__law_is_lot fq__law_is_lot (PySem.W.mg_of X GN fa__law_is_lot) m_isinstance m_tuple m_str m_len m_all
  have O__law_fits := ok_lfit (P := l.prog) (w := w) (K := K) (mg := mg) (base := base) F__law_fits O__law_is_lot B__law_is_lot fq__law_is_lot (PySem.W.mg_of X GN fa__law_is_lot)
  have O__law_done := ok_ldone (P := l.prog) (w := w) (K := K) (mg := mg) (base := base) F__law_done O__law_within B__law_within fq__law_within (PySem.W.mg_of X GN fa__law_within) m_tuple m_range m_sorted m_list
  have O__law_change := ok_lchange (P := l.prog) (w := w) (K := K) (mg := mg) (base := base) F__law_change O__law_draw B__law_draw fq__law_draw (PySem.W.mg_of X GN fa__law_draw) O__law_mixed B__law_mixed fq__law_mixed (PySem.W.mg_of X GN fa__law_mixed) O__law_pick B__law_pick fq__law_pick (PySem.W.mg_of X GN fa__law_pick) m_tuple m_range m_sorted m_list m_min
  have O_X := ok_initL (P := l.prog) (w := w) (mg := mg) (base := base) F_X T_X.ox T_X.no
  have O_graph_of := ok_gof (P := l.prog) (w := w) (K := K) (mg := mg) (base := base) F_graph_of T_X m_X O_X B_X O_is_change B_is_change fq_is_change (PySem.W.mg_of X GN fa_is_change) O_does_fit B_does_fit fq_does_fit (PySem.W.mg_of X GN fa_does_fit) O__led_on B__led_on fq__led_on (PySem.W.mg_of X GN fa__led_on) mMC mEmpty hEmpty m_type m_tuple m_enumerate m_len
  have O_log_of := ok_lof (P := l.prog) (w := w) (K := K) (mg := mg) (base := base) F_log_of O_check_graph B_check_graph fq_check_graph (PySem.W.mg_of X GN fa_check_graph) m_range m_tuple
  have O__law_drawn := ok_drw (P := l.prog) (w := w) (K := K) (mg := mg) (base := base) F__law_drawn O__law_change B__law_change fq__law_change (PySem.W.mg_of X GN fa__law_change) O__law_fits B__law_fits fq__law_fits (PySem.W.mg_of X GN fa__law_fits) O__law_done B__law_done fq__law_done (PySem.W.mg_of X GN fa__law_done) m_tuple m_range
  have O__law_told := ok_told (P := l.prog) (w := w) (K := K) (mg := mg) (base := base) F__law_told T_X m_X xe log_ex O_graph_of B_graph_of fq_graph_of (PySem.W.mg_of X GN fa_graph_of)
  have O__law_due := ok_due (P := l.prog) (w := w) (K := K) (mg := mg) (base := base) F__law_due O__law_is_change B__law_is_change fq__law_is_change (PySem.W.mg_of X GN fa__law_is_change) O__law_fits B__law_fits fq__law_fits (PySem.W.mg_of X GN fa__law_fits) O__law_done B__law_done fq__law_done (PySem.W.mg_of X GN fa__law_done) m_isinstance m_tuple m_range m_len
  have O__law_right := ok_right (P := l.prog) (w := w) (K := K) (mg := mg) (base := base) F__law_right O__law_draw B__law_draw fq__law_draw (PySem.W.mg_of X GN fa__law_draw) O__law_pick B__law_pick fq__law_pick (PySem.W.mg_of X GN fa__law_pick) O__law_drawn B__law_drawn fq__law_drawn (PySem.W.mg_of X GN fa__law_drawn) O__law_odd B__law_odd fq__law_odd (PySem.W.mg_of X GN fa__law_odd) O__law_told B__law_told fq__law_told (PySem.W.mg_of X GN fa__law_told) O__law_due B__law_due fq__law_due (PySem.W.mg_of X GN fa__law_due) O_graph_of B_graph_of (fun s u0 => .of_eq rfl) fq_graph_of (PySem.W.mg_of X GN fa_graph_of) O_log_of B_log_of (fun s u0 => .of_eq rfl) fq_log_of (PySem.W.mg_of X GN fa_log_of) O__law_table B__law_table fq__law_table (PySem.W.mg_of X GN fa__law_table) m_tuple m_range m_list m_len m_repr
  exact ok_law (n := 11) F_law O__law_pot B__law_pot fq__law_pot (PySem.W.mg_of X GN fa__law_pot) O__law_right B__law_right fq__law_right (PySem.W.mg_of X GN fa__law_right) m_range m_len m_all m_max m_min
end My

open PySem PySem.W PyProof.Rows
set_option maxRecDepth 100000 in
set_option maxHeartbeats 0 in
theorem PySem.Challenge.cw_perfectgraphs_k61_whole_logs_and_the_gra_holds : PySem.Challenge.rw_perfectgraphs_k61_whole_logs_and_the_gra.Holds := by
  w_on; o_law; k_head; (case hw => w_witness2)
  k_fill
  refine My.walkG (l := PySem.Challenge.rw_perfectgraphs_k61_whole_logs_and_the_gra) (m := 63) (n := 13) (x := "script") (sp := fun K => My.spLaw K) rfl (by decide) rfl ⟨rfl, by decide, by decide⟩ (fun w h Y => PySem.W.kIn_of Y) ?F (fun K H a ns hl _ hS => ⟨a, ns, rfl, hS, hl, fun _ => rfl⟩)
  case F =>
    intro w mg fa h KX G hmg
    refine' My.all_mk KX G hmg ?fa_is_whole ?fl_is_whole ?fcc_is_whole ?fq_is_whole ?fa_is_whole_from ?fl_is_whole_from ?fcc_is_whole_from ?fq_is_whole_from ?fa_is_tuple_of_two ?fl_is_tuple_of_two ?fcc_is_tuple_of_two ?fq_is_tuple_of_two ?fa_is_ascending ?fl_is_ascending ?fcc_is_ascending ?fq_is_ascending ?fa_is_graph ?fl_is_graph ?fcc_is_graph ?fq_is_graph ?fa_is_vertex_pair ?fl_is_vertex_pair ?fcc_is_vertex_pair ?fq_is_vertex_pair ?fa_check_graph ?fl_check_graph ?fcc_check_graph ?fq_check_graph ?fa_is_lot ?fl_is_lot ?fcc_is_lot ?fq_is_lot ?fa_check_lot ?fl_check_lot ?fcc_check_lot ?fq_check_lot ?fa_induced ?fl_induced ?fcc_induced ?fq_induced ?fa_is_change ?fl_is_change ?fcc_is_change ?fq_is_change ?fa_does_fit ?fl_does_fit ?fcc_does_fit ?fq_does_fit ?fa__led_on ?fl__led_on ?fcc__led_on ?fq__led_on ?fa_graph_of ?fl_graph_of ?fcc_graph_of ?fq_graph_of ?fa_log_of ?fl_log_of ?fcc_log_of ?fq_log_of ?fa__law_pot ?fl__law_pot ?fcc__law_pot ?fq__law_pot ?fa__law_draw ?fl__law_draw ?fcc__law_draw ?fq__law_draw ?fa__law_pick ?fl__law_pick ?fcc__law_pick ?fq__law_pick ?fa__law_mixed ?fl__law_mixed ?fcc__law_mixed ?fq__law_mixed ?fa__law_odd ?fl__law_odd ?fcc__law_odd ?fq__law_odd ?fa__law_is_whole ?fl__law_is_whole ?fcc__law_is_whole ?fq__law_is_whole ?fa__law_is_lot ?fl__law_is_lot ?fcc__law_is_lot ?fq__law_is_lot ?fa__law_table ?fl__law_table ?fcc__law_table ?fq__law_table ?fa__law_of_table ?fl__law_of_table ?fcc__law_of_table ?fq__law_of_table ?fa__law_within ?fl__law_within ?fcc__law_within ?fq__law_within ?fa__law_is_change ?fl__law_is_change ?fcc__law_is_change ?fq__law_is_change ?fa__law_fits ?fl__law_fits ?fcc__law_fits ?fq__law_fits ?fa__law_done ?fl__law_done ?fcc__law_done ?fq__law_done ?fa__law_change ?fl__law_change ?fcc__law_change ?fq__law_change ?fa__law_drawn ?fl__law_drawn ?fcc__law_drawn ?fq__law_drawn ?fa__law_told ?fl__law_told ?fcc__law_told ?fq__law_told ?fa__law_due ?fl__law_due ?fcc__law_due ?fq__law_due ?fa__law_right ?fl__law_right ?fcc__law_right ?fq__law_right ?fa_law ?fl_law ?fcc_law ?fq_law ?gV ?gMC ?dLa ?dLb ?dLc ?dLo ?dLv1 ?dLv2 ?dLv3 ?dLv4 ?dLk ?xC ?xi ?xl ?xc ?xq ?xb ?xe ?eA ?eB ?eC ?z_len ?z_int ?z_abs ?z_divmod ?z_repr ?z_isinstance ?z_bool ?z_str ?z_range ?z_all ?z_max ?z_min ?z_list ?z_tuple ?z_sorted ?z_type ?z_set ?z_zip ?z_enumerate
    (case fa_is_whole => k_is)
    (case fl_is_whole => k_is)
    (case fcc_is_whole => k_is)
    (case fq_is_whole => k_is)
    (case fa_is_whole_from => k_is)
    (case fl_is_whole_from => k_is)
    (case fcc_is_whole_from => k_is)
    (case fq_is_whole_from => k_is)
    (case fa_is_tuple_of_two => k_is)
    (case fl_is_tuple_of_two => k_is)
    (case fcc_is_tuple_of_two => k_is)
    (case fq_is_tuple_of_two => k_is)
    (case fa_is_ascending => k_is)
    (case fl_is_ascending => k_is)
    (case fcc_is_ascending => k_is)
    (case fq_is_ascending => k_is)
    (case fa_is_graph => k_is)
    (case fl_is_graph => k_is)
    (case fcc_is_graph => k_is)
    (case fq_is_graph => k_is)
    (case fa_is_vertex_pair => k_is)
    (case fl_is_vertex_pair => k_is)
    (case fcc_is_vertex_pair => k_is)
    (case fq_is_vertex_pair => k_is)
    (case fa_check_graph => k_is)
    (case fl_check_graph => k_is)
    (case fcc_check_graph => k_is)
    (case fq_check_graph => k_is)
    (case fa_is_lot => k_is)
    (case fl_is_lot => k_is)
    (case fcc_is_lot => k_is)
    (case fq_is_lot => k_is)
    (case fa_check_lot => k_is)
    (case fl_check_lot => k_is)
    (case fcc_check_lot => k_is)
    (case fq_check_lot => k_is)
    (case fa_induced => k_is)
    (case fl_induced => k_is)
    (case fcc_induced => k_is)
    (case fq_induced => k_is)
    (case fa_is_change => k_is)
    (case fl_is_change => k_is)
    (case fcc_is_change => k_is)
    (case fq_is_change => k_is)
    (case fa_does_fit => k_is)
    (case fl_does_fit => k_is)
    (case fcc_does_fit => k_is)
    (case fq_does_fit => k_is)
    (case fa__led_on => k_is)
    (case fl__led_on => k_is)
    (case fcc__led_on => k_is)
    (case fq__led_on => k_is)
    (case fa_graph_of => k_is)
    (case fl_graph_of => k_is)
    (case fcc_graph_of => k_is)
    (case fq_graph_of => k_is)
    (case fa_log_of => k_is)
    (case fl_log_of => k_is)
    (case fcc_log_of => k_is)
    (case fq_log_of => k_is)
    (case fa__law_pot => k_is)
    (case fl__law_pot => k_is)
    (case fcc__law_pot => k_is)
    (case fq__law_pot => k_is)
    (case fa__law_draw => k_is)
    (case fl__law_draw => k_is)
    (case fcc__law_draw => k_is)
    (case fq__law_draw => k_is)
    (case fa__law_pick => k_is)
    (case fl__law_pick => k_is)
    (case fcc__law_pick => k_is)
    (case fq__law_pick => k_is)
    (case fa__law_mixed => k_is)
    (case fl__law_mixed => k_is)
    (case fcc__law_mixed => k_is)
    (case fq__law_mixed => k_is)
    (case fa__law_odd => k_is)
    (case fl__law_odd => k_is)
    (case fcc__law_odd => k_is)
    (case fq__law_odd => k_is)
    (case fa__law_is_whole => k_is)
    (case fl__law_is_whole => k_is)
    (case fcc__law_is_whole => k_is)
    (case fq__law_is_whole => k_is)
    (case fa__law_is_lot => k_is)
    (case fl__law_is_lot => k_is)
    (case fcc__law_is_lot => k_is)
    (case fq__law_is_lot => k_is)
    (case fa__law_table => k_is)
    (case fl__law_table => k_is)
    (case fcc__law_table => k_is)
    (case fq__law_table => k_is)
    (case fa__law_of_table => k_is)
    (case fl__law_of_table => k_is)
    (case fcc__law_of_table => k_is)
    (case fq__law_of_table => k_is)
    (case fa__law_within => k_is)
    (case fl__law_within => k_is)
    (case fcc__law_within => k_is)
    (case fq__law_within => k_is)
    (case fa__law_is_change => k_is)
    (case fl__law_is_change => k_is)
    (case fcc__law_is_change => k_is)
    (case fq__law_is_change => k_is)
    (case fa__law_fits => k_is)
    (case fl__law_fits => k_is)
    (case fcc__law_fits => k_is)
    (case fq__law_fits => k_is)
    (case fa__law_done => k_is)
    (case fl__law_done => k_is)
    (case fcc__law_done => k_is)
    (case fq__law_done => k_is)
    (case fa__law_change => k_is)
    (case fl__law_change => k_is)
    (case fcc__law_change => k_is)
    (case fq__law_change => k_is)
    (case fa__law_drawn => k_is)
    (case fl__law_drawn => k_is)
    (case fcc__law_drawn => k_is)
    (case fq__law_drawn => k_is)
    (case fa__law_told => k_is)
    (case fl__law_told => k_is)
    (case fcc__law_told => k_is)
    (case fq__law_told => k_is)
    (case fa__law_due => k_is)
    (case fl__law_due => k_is)
    (case fcc__law_due => k_is)
    (case fq__law_due => k_is)
    (case fa__law_right => k_is)
    (case fl__law_right => k_is)
    (case fcc__law_right => k_is)
    (case fq__law_right => k_is)
    (case fa_law => k_is)
    (case fl_law => k_is)
    (case fcc_law => k_is)
    (case fq_law => k_is)
    (case gV => k_is)
    (case gMC => k_is)
    (case dLa => k_is)
    (case dLb => k_is)
    (case dLc => exact ⟨⟨_, _, rfl, rfl⟩, ⟨_, _, rfl, rfl⟩, ⟨_, _, rfl, rfl⟩, ⟨_, _, rfl, rfl⟩, trivial⟩)
    (case dLo => decide)
    (case dLv1 => k_is)
    (case dLv2 => k_is)
    (case dLv3 => k_is)
    (case dLv4 => k_is)
    (case dLk => first | decide | rfl)
    (case xC => k_is)
    (case xi => k_is)
    (case xl => k_is)
    (case xc => k_is)
    (case xq => k_is)
    (case xb => kernel_rfl)
    (case xe => kernel_rfl)
    (case eA => k_is)
    (case eB => k_is)
    (case eC => k_is)
    (case z_len => k_is)
    (case z_int => k_is)
    (case z_abs => k_is)
    (case z_divmod => k_is)
    (case z_repr => k_is)
    (case z_isinstance => k_is)
    (case z_bool => k_is)
    (case z_str => k_is)
    (case z_range => k_is)
    (case z_all => k_is)
    (case z_max => k_is)
    (case z_min => k_is)
    (case z_list => k_is)
    (case z_tuple => k_is)
    (case z_sorted => k_is)
    (case z_type => k_is)
    (case z_set => k_is)
    (case z_zip => k_is)
    (case z_enumerate => k_is)
#print axioms PySem.Challenge.cw_perfectgraphs_k61_whole_logs_and_the_gra_holds

